/-
  FramePuts' walk.
-/
import Derived.Test.YtdfdlkpljgpckaaTn
import Derived.Test.YtdfdlkpljgpckaaSa
namespace Go.Proofs.Ytdfdlkpljgpckaa
open Go.RowKit Disk

attribute [local go_sem ↓] run_min60
set_option maxRecDepth 100000 in
set_option maxHeartbeats 8000000 in
theorem puts3 (kind : Int) (v vl : Value) (L : List UInt8) (l : Frs) (w : World) (h : Seg w v L) (hL : L.length ≤ 1048576) (hf : FSeg w vl l) (hsm : Small l) : Calls Try.prog 3 #[.int .i64 kind, v, vl] w fun e w' => e = .returned (.bool true) ∧ w.grownBy w' none := by
  obtain ⟨ao, cap, hv⟩ := h.shape
  subst hv
  obtain ⟨n, hn⟩ : ∃ n, L.length = n := ⟨_, rfl⟩
  have HS : Hid (Seg w (.slice ao n cap) L) := by rw [← hn]; exact h
  have HN : Hid (L.length = n) := hn
  rw [hn] at hL ⊢
  clear hn h
  have HF : Hid (FSeg w vl l) := hf
  obtain ⟨al, cl, hv⟩ := hf.shape
  subst hv
  have HSM : Hid (Small l) := hsm
  have hln := hsm.len
  clear hf hsm
  have HCELL : Hid (∀ (x : World), w.grownBy x none → ∀ k (hk : k < l.length), ∃ b off u, al = some ⟨b, off, none⟩ ∧ x.cell? ⟨b, off + k * 2, none⟩ = some (.int .i64 l[k].1) ∧ x.cell? ⟨b, off + k * 2 + 1, none⟩ = some u ∧ Seg x u l[k].2 ∧ b < w.heap.size) := by
    intro x hx k hk
    obtain ⟨ao', cap', hv, _, hcells⟩ := HF.out
    simp at hv
    obtain ⟨rfl, rfl⟩ := hv
    obtain ⟨b, off, u, e, c0, c1, hs⟩ := hcells k hk
    refine ⟨b, off, u, e, hx.cell c0 (by simp), hx.cell c1 (by simp), hs.grown hx, ?_⟩
    exact cell_lt c0
  obtain ⟨nl, hnl⟩ : ∃ nl, l.length = nl := ⟨_, rfl⟩
  have HNL : Hid (l.length = nl) := hnl
  have HF2 : Hid (FSeg w (.slice al nl cl) l) := by rw [← hnl]; exact HF.out
  rw [hnl] at hln ⊢
  clear hnl HF
  go_enter Try.func3, Try.ntmps3
  go_wp2_with fail
  go_loopw [7, 8] (fun s i wr => ∃ k m : Nat, k ≤ nl ∧ m ≤ n + k * 60000 ∧ s = .int .i64 m ∧ i = .int .i64 k ∧ w = wr) (fun _ i _ => nl - (intOf i).toNat)
  case atStart => exact ⟨0, n, Nat.zero_le _, by omega, rfl, rfl, rfl⟩
  case round =>
    obtain ⟨k, s, hk, hs, rfl, rfl, rfl⟩ := hrel
    by_cases hlt : k < nl
    · have hkl : k < l.length := by rw [HNL.out]; exact hlt
      obtain ⟨b, off, u, rfl, d0, d1, hs2, _⟩ := HCELL.out w (grown_refl _ _) k hkl
      obtain ⟨au, cu, hu⟩ := hs2.shape
      subst hu
      clear hs2
      obtain ⟨m, hm⟩ : ∃ m, l[k].2.length = m := ⟨_, rfl⟩
      rw [hm] at d1
      clear hm d0
      have i1 : (0 : Int) ≤ (k : Int) := by omega
      have i2 : (k : Int) < (nl : Int) := by omega
      have hmn : min m 60000 ≤ 60000 := Nat.min_le_right _ _
      obtain ⟨mm, hmm⟩ : ∃ mm, min m 60000 = mm := ⟨_, rfl⟩
      rw [hmm] at hmn
      have HMM : Hid _ := hmm
      go_wp2_with fail
      go_roundw
      case rel => exact ⟨k + 1, s + mm, by omega, by omega, by go_num, by go_num, trivial⟩
      case measure => simp [intOf]; omega
    · obtain rfl : k = nl := by omega
      by_cases hbig : 60000 < s
      · have hbi : (60000 : Int) < (s : Int) := by omega
        go_wp2_with fail
        refine (known7 _).mono ?_
        rintro e w1 ⟨rfl, g1⟩
        have G1 : Hid (w.grownBy w1 none) := g1
        clear g1
        go_wp2_with fail
        go_ret
        exact ⟨rfl, G1.out⟩
      have hbi : ¬ (60000 : Int) < (s : Int) := by omega
      go_wp2_with (at_builtin; refine app22 _ rfl _ _ rfl w.heap.size _ [] _ L rfl rfl (Disk.Own.nil _ _) HS.out ?c0 (Nat.le_refl _) ?_)
      case c0 => have := HN.out; simp; omega
      intro v1 w1 o1 g1 l1
      have H1 : Hid (Disk.Own w1 w.heap.size v1 L ∧ w.grownBy w1 none) := ⟨o1, g1⟩
      clear o1 g1 l1
      obtain ⟨a1, c1, hv1⟩ := H1.out.1.seg.shape
      rw [HN.out] at hv1
      subst hv1
      go_wp2_with (at_builtin; refine app22 _ rfl _ _ rfl w.heap.size _ L _ [119] rfl rfl (H1.out.1.grown (World.grownBy_alloc _ _ _)) (seg_lit w1 #[.int .u8 119] (0, 0) [119] rfl (by simp)) ?d0 ?d1 ?_)
      case d0 => rw [HN.out]; simp; omega
      case d1 => have := H1.out.2.size; simp; omega
      intro v2 w2 o2 g2 l2
      have H2 : Hid (Disk.Own w2 w.heap.size v2 (L ++ [119]) ∧ w.grownBy w2 none) := ⟨o2, grown_new (grown_trans H1.out.2 (World.grownBy_alloc _ _ _)) g2 (fun x hx => (H1.out.1.lt x hx).1)⟩
      clear o2 g2 l2 H1
      obtain ⟨a2, c2, hv2⟩ := H2.out.1.seg.shape
      have hl2 : (L ++ [119]).length = n + 1 := by rw [List.length_append, HN.out]; rfl
      have HL2 : Hid _ := hl2
      rw [hl2] at hv2
      subst hv2
      obtain ⟨go, hgo⟩ := own_ao H2.out.1 hl2 (by omega)
      subst hgo
      have hc2 : n + 1 ≤ c2 := by
        obtain ⟨a', c', hv, h1, _⟩ := H2.out.1.seg
        simp at hv
        rw [hl2] at h1
        omega
      have HT : Hid (Seg w2 (.slice (some ⟨go, 0, none⟩) n c2) L) := by
        have h1 : Seg w2 (.slice (some ⟨go, 0, none⟩) (L ++ [119]).length c2) (L ++ [119]) := by rw [hl2]; exact H2.out.1.seg
        have h2 := seg_take n (by rw [hl2]; omega) h1
        have e3 : (L ++ [119]).take n = L := by
          have := HN.out
          subst this
          exact List.take_left
        rw [e3] at h2
        exact h2
      clear hl2 hbig hbi hs
      have hc3 : (n : Int) ≤ (c2 : Int) := by omega
      have hc4 : (0 : Int) ≤ (n : Int) := by omega
      have hc5 : n ≤ c2 := by omega
      by_cases hk0 : kind < 0
      · have HNK : Hid (¬ Kinds [(kind, L)]) := fun h => absurd (h (kind, L) (by simp)) (by simp; omega)
        go_wp2_with fail
        try go_simp
        try go_wp2_with fail
        refine (put8 kind _ L _ HT.out (by rw [HN.out]; omega)).mono ?_
        rintro e w3 ⟨g3, hbad, _⟩
        have he := hbad HNK.out
        subst he
        have G3 : Hid (w2.grownBy w3 none) := g3
        clear g3 hbad
        go_wp2_with fail
        try go_simp
        try go_wp2_with fail
        refine (put8 kind _ L _ (HT.out.grown G3.out) (by rw [HN.out]; omega)).mono ?_
        rintro e w4 ⟨g4, hbad, _⟩
        have he := hbad HNK.out
        subst he
        have G4 : Hid (w2.grownBy w4 none) := grown_trans G3.out g4
        clear g4 hbad
        have GW : Hid (w.grownBy w4 none) := grown_trans H2.out.2 G4.out
        have cv1 : (convert 22 9 (.slice (some ⟨go, 0, none⟩) (n + 1) c2)).run Try.prog w4 = .ok (.string ⟨(L ++ [119]).toArray⟩) w4 := seg_str (H2.out.1.grown G4.out).seg
        have cv2 : (convert 22 9 (.slice ao n cap)).run Try.prog w4 = .ok (.string ⟨L.toArray⟩) w4 := seg_str (HS.out.grown (GW.out))
        have ad : (Op.stringOp .add ⟨L.toArray⟩ ⟨#[119]⟩).run Try.prog w4 = .ok (.string ⟨(L ++ [119]).toArray⟩) w4 := str_add L [119] w4 (by rw [HN.out]; simp; omega)
        go_upto_region 24 with (first | (go_at_call 10; refine (num10 _ _).mono ?_; rintro e wx ⟨rfl, hx⟩; rw [hx]; clear hx) | (go_at_call 9; refine (size9s _ n _ _ (by omega)).mono ?_; rintro e wx ⟨rfl, hx⟩; rw [hx]; clear hx))
        clear cv1 cv2 ad
        go_wp2_with fail
        go_loopw [16, 17] (fun m i wr => ∃ (q : Nat) (b : Bool), q ≤ k ∧ m = .bool b ∧ i = .int .i64 q ∧ w4 = wr ∧ (b = true ↔ ∀ j (hj : j < l.length), j < q → 0 ≤ l[j].1 ∧ l[j].1 ≤ 255)) (fun _ i _ => k - (intOf i).toNat)
        case atStart => exact ⟨0, true, Nat.zero_le _, rfl, rfl, rfl, fun _ j _ h => absurd h (by omega), fun _ => rfl⟩
        case round =>
          obtain ⟨q, b, hq, rfl, rfl, rfl, hb⟩ := hrel
          have HB : Hid (b = true ↔ ∀ j (hj : j < l.length), j < q → 0 ≤ l[j].1 ∧ l[j].1 ≤ 255) := hb
          clear hb
          by_cases hqk : q < k
          · have hql : q < l.length := by rw [HNL.out]; exact hqk
            have i1 : (0 : Int) ≤ (q : Int) := by omega
            have i2 : (q : Int) < (k : Int) := by omega
            obtain ⟨g, off, u, rfl, d0, d1, _, _⟩ := HCELL.out w4 (GW.out) q hql
            clear d1
            obtain ⟨kd, hkd⟩ : ∃ kd, l[q].1 = kd := ⟨_, rfl⟩
            have HKD : Hid _ := hkd
            rw [hkd] at d0
            clear hkd
            cases b
            · go_wp2_with fail
              go_roundw
              case rel =>
                refine ⟨q + 1, false, by omega, by go_num, by go_num, trivial, fun h => absurd h (by simp), fun h => HB.out.2 fun j hj hjq => h j hj (by omega)⟩
              case measure => simp [intOf]; omega
            · by_cases k0 : kd < 0
              · have k1 : ¬ 0 ≤ kd := by omega
                go_wp2_with fail
                go_roundw
                case rel => exact ⟨q + 1, false, by omega, by go_num, by go_num, trivial, fun h => absurd h (by simp), fun h => absurd (h q hql (by omega)).1 (by rw [HKD.out]; exact k1)⟩
                case measure => simp [intOf]; omega
              · have k1 : 0 ≤ kd := by omega
                by_cases k2 : kd ≤ 255
                · go_wp2_with fail
                  go_roundw
                  case rel =>
                    refine ⟨q + 1, true, by omega, by go_num, by go_num, trivial, fun _ j hj hjq => ?_, fun _ => rfl⟩
                    by_cases hjq2 : j < q
                    · exact HB.out.1 rfl j hj hjq2
                    · obtain rfl : j = q := by omega
                      rw [HKD.out]
                      exact ⟨k1, k2⟩
                  case measure => simp [intOf]; omega
                · go_wp2_with fail
                  go_roundw
                  case rel => exact ⟨q + 1, false, by omega, by go_num, by go_num, trivial, fun h => absurd h (by simp), fun h => absurd (h q hql (by omega)).2 (by rw [HKD.out]; exact k2)⟩
                  case measure => simp [intOf]; omega
          · obtain rfl : k = q := by omega
            have HKL : Hid (b = true ↔ Kinds l) := by
              refine ⟨fun h f hf => ?_, fun h => HB.out.2 fun j hj _ => h _ (List.getElem_mem hj)⟩
              obtain ⟨j, hj, rfl⟩ := List.getElem_of_mem hf
              exact HB.out.1 h j hj (by have := HNL.out; omega)
            clear HB
            cases b
            · have HNK : Hid (¬ Kinds l) := fun h => absurd (HKL.out.2 h) (by simp)
              clear HKL
              go_wp2_with fail
              go_loopw [15, 18] (fun x i wr => x = .slice none 0 0 ∧ i = .int .i64 0 ∧ w4 = wr) (fun _ _ _ => 0)
              case atStart => exact ⟨rfl, rfl, rfl⟩
              case round =>
                obtain ⟨rfl, rfl, rfl⟩ := hrel
                have hz : (0 : Int) < (k : Int) ∨ ¬ (0 : Int) < (k : Int) := by omega
                rcases hz with hz | hz
                all_goals
                  go_wp2_with fail
                  refine (putall12 _ l _ (HF2.out.grown (GW.out)) HSM.out.bodies (by have := HSM.out.len; omega) (by have := HSM.out.flat; omega)).mono ?_
                  rintro e w6 ⟨g6, hbad, _⟩
                  have he := hbad HNK.out
                  subst he
                  have G6 : Hid (w.grownBy w6 none) := grown_trans (GW.out) g6
                  have cv3 : (convert 22 9 (.slice none 0 0)).run Try.prog w6 = .ok (.string ⟨([] : List UInt8).toArray⟩) w6 := seg_str (seg_nil w6)
                  clear g6 hbad
                  go_wp2_with (first | (go_at_call 10; refine (num10 _ _).mono ?_; rintro e wx ⟨rfl, hx⟩; rw [hx]; clear hx) | (go_at_call 9; refine (size9s _ n _ _ (by omega)).mono ?_; rintro e wx ⟨rfl, hx⟩; rw [hx]; clear hx))
                  try go_simp
                  try go_wp2_with (first | (go_at_call 10; refine (num10 _ _).mono ?_; rintro e wx ⟨rfl, hx⟩; rw [hx]; clear hx) | (go_at_call 9; refine (size9s _ n _ _ (by omega)).mono ?_; rintro e wx ⟨rfl, hx⟩; rw [hx]; clear hx))
                  refine (known7 _).mono ?_
                  rintro e wy ⟨rfl, gy⟩
                  have GY : Hid (w.grownBy wy none) := grown_trans G6.out gy
                  clear gy
                  go_wp2_with fail
                  go_ret
                  exact ⟨rfl, GY.out⟩
            · have HK : Hid (Kinds l) := HKL.out.1 rfl
              clear HKL
              go_wp2_with fail
              go_loopw [15, 18] (fun x i wr => ∃ (q : Nat) (ax : Option Addr) (cx : Nat), q ≤ k ∧ x = .slice ax (flat (l.take q)).length cx ∧ i = .int .i64 q ∧ Disk.Own wr w4.heap.size (.slice ax (flat (l.take q)).length cx) (flat (l.take q)) ∧ w4.grownBy wr none) (fun _ i _ => k - (intOf i).toNat)
              case atStart => exact ⟨0, none, 0, Nat.zero_le _, rfl, rfl, Disk.Own.nil _ _, grown_refl _ _⟩
              case round =>
                obtain ⟨q, ax, cx, hq, rfl, rfl, hown, hgw⟩ := hrel
                have HO : Hid (Disk.Own wr w4.heap.size (.slice ax (flat (l.take q)).length cx) (flat (l.take q)) ∧ w4.grownBy wr none) := ⟨hown, hgw⟩
                obtain ⟨pl, hpl⟩ : ∃ pl, (flat (l.take q)).length = pl := ⟨_, rfl⟩
                have HPL : Hid _ := hpl
                have hpn : pl ≤ 16777216 := by rw [← hpl]; exact Nat.le_trans (flat_take_le l q) HSM.out.flat
                rw [hpl] at HO ⊢
                clear hown hgw hpl
                by_cases hqk : q < k
                · have hql : q < l.length := by rw [HNL.out]; exact hqk
                  have i1 : (0 : Int) ≤ (q : Int) := by omega
                  have i2 : (q : Int) < (k : Int) := by omega
                  have hGW : w.grownBy wr none := grown_trans (GW.out) HO.out.2
                  obtain ⟨g, off, u, rfl, d0, d1, hs, hgl⟩ := HCELL.out wr hGW q hql
                  have hkq := HK.out l[q] (List.getElem_mem hql)
                  have hbq := HSM.out.bod l[q] (List.getElem_mem hql)
                  obtain ⟨kd, hkd⟩ : ∃ kd : Nat, l[q].1 = (kd : Int) := ⟨l[q].1.toNat, by omega⟩
                  have HKD : Hid (l[q].1.toNat = kd ∧ kd < 256) := ⟨by omega, by omega⟩
                  rw [hkd] at d0
                  obtain ⟨au, cu, hu⟩ := hs.shape
                  subst hu
                  obtain ⟨M, hM⟩ : ∃ M, l[q].2 = M := ⟨_, rfl⟩
                  have HM : Hid _ := hM
                  rw [hM] at d1 hs hbq
                  obtain ⟨m, hm⟩ : ∃ m, M.length = m := ⟨_, rfl⟩
                  rw [hm] at d1 hs hbq
                  have HMM : Hid (M.length = m) := hm
                  have HSU : Hid (Seg wr (.slice au m cu) M) := hs
                  have HQ : Hid (∀ x : World, wr.grownBy x (ax.map (·.block)) → x.cell? ⟨g, off + q * 2, none⟩ = some (.int .i64 (kd : Int)) ∧ x.cell? ⟨g, off + q * 2 + 1, none⟩ = some (.slice au m cu)) := by
                    intro x hx
                    have hne : ax.map (·.block) ≠ some g := by
                      intro e
                      have h1 := (HO.out.1.lt g (by rw [ovr_blk]; exact e)).1
                      have h2 : w.grownBy w4 none := GW.out
                      have := h2.size
                      omega
                    exact ⟨hx.cell d0 hne.symm, hx.cell d1 hne.symm⟩
                  clear hkq hkd d0 d1 hs hM hm hGW hgl
                  go_wp2_with fail
                  refine wp_region_noPanic ?_
                  refine wp_region_hold 1000 (fun x => wr.grownBy x (ax.map (·.block))) (by kernel_rfl) ?_
                  refine wpHold_take (i := 0) (v := _) (grown_drew _ _) rfl rfl (by kernel_rfl) (by kernel_rfl) (by kernel_rfl) (by kernel_rfl) (by kernel_rfl) (fun _ _ _ h => h) (by rfl) (fun wk hk => by obtain ⟨k0, k1⟩ := HQ.out wk hk; go_simp; try rfl) ?_
                  try simp only [Act.put, List.setIfInBounds_toArray, List.set_cons_zero, List.set_cons_succ]
                  refine wpHold_take (i := 1) (v := _) (grown_drew _ _) rfl rfl (by kernel_rfl) (by kernel_rfl) (by kernel_rfl) (by kernel_rfl) (by kernel_rfl) (fun _ _ _ h => h) (by rfl) (fun wk hk => by obtain ⟨k0, k1⟩ := HQ.out wk hk; go_simp; try rfl) ?_
                  try simp only [Act.put, List.setIfInBounds_toArray, List.set_cons_zero, List.set_cons_succ]
                  refine wpHold_take (i := 2) (v := _) (grown_drew _ _) rfl rfl (by kernel_rfl) (by kernel_rfl) (by kernel_rfl) (by kernel_rfl) (by kernel_rfl) (fun _ _ _ h => h) (by rfl) (fun wk hk => by obtain ⟨k0, k1⟩ := HQ.out wk hk; go_simp; try rfl) ?_
                  try simp only [Act.put, List.setIfInBounds_toArray, List.set_cons_zero, List.set_cons_succ]
                  refine wpHold_take (i := 3) (v := _) (grown_drew _ _) rfl rfl (by kernel_rfl) (by kernel_rfl) (by kernel_rfl) (by kernel_rfl) (by kernel_rfl) (fun _ _ _ h => h) (by rfl) (fun wk hk => by obtain ⟨k0, k1⟩ := HQ.out wk hk; go_simp; try rfl) ?_
                  try simp only [Act.put, List.setIfInBounds_toArray, List.set_cons_zero, List.set_cons_succ]
                  refine wpHold_take (i := 4) (v := _) (grown_drew _ _) rfl rfl (by kernel_rfl) (by kernel_rfl) (by kernel_rfl) (by kernel_rfl) (by kernel_rfl) (fun _ _ _ h => h) (by rfl) (fun wk hk => by obtain ⟨k0, k1⟩ := HQ.out wk hk; go_simp; try rfl) ?_
                  try simp only [Act.put, List.setIfInBounds_toArray, List.set_cons_zero, List.set_cons_succ]
                  refine wpHold_take (i := 5) (v := _) (grown_drew _ _) rfl rfl (by kernel_rfl) (by kernel_rfl) (by kernel_rfl) (by kernel_rfl) (by kernel_rfl) (fun _ _ _ h => h) (by rfl) (fun wk hk => by obtain ⟨k0, k1⟩ := HQ.out wk hk; go_simp; try rfl) ?_
                  try simp only [Act.put, List.setIfInBounds_toArray, List.set_cons_zero, List.set_cons_succ]
                  refine wpHold_take (i := 6) (v := _) (grown_drew _ _) rfl rfl (by kernel_rfl) (by kernel_rfl) (by kernel_rfl) (by kernel_rfl) (by kernel_rfl) (fun _ _ _ h => h) (by rfl) (fun wk hk => by obtain ⟨k0, k1⟩ := HQ.out wk hk; go_simp; try rfl) ?_
                  try simp only [Act.put, List.setIfInBounds_toArray, List.set_cons_zero, List.set_cons_succ]
                  refine wpHold_take (i := 7) (v := _) (grown_drew _ _) rfl rfl (by kernel_rfl) (by kernel_rfl) (by kernel_rfl) (by kernel_rfl) (by kernel_rfl) (fun _ _ _ h => h) (by rfl) (fun wk hk => by obtain ⟨k0, k1⟩ := HQ.out wk hk; go_simp; try rfl) ?_
                  try simp only [Act.put, List.setIfInBounds_toArray, List.set_cons_zero, List.set_cons_succ]
                  refine wpHold_take (i := 8) (v := _) (grown_drew _ _) rfl rfl (by kernel_rfl) (by kernel_rfl) (by kernel_rfl) (by kernel_rfl) (by kernel_rfl) (fun _ _ _ h => h) (by rfl) (fun wk hk => by obtain ⟨k0, k1⟩ := HQ.out wk hk; go_simp; try rfl) ?_
                  try simp only [Act.put, List.setIfInBounds_toArray, List.set_cons_zero, List.set_cons_succ]
                  refine wpHold_take (i := 9) (v := _) (grown_drew _ _) rfl rfl (by kernel_rfl) (by kernel_rfl) (by kernel_rfl) (by kernel_rfl) (by kernel_rfl) (fun _ _ _ h => h) (by rfl) (fun wk hk => by obtain ⟨k0, k1⟩ := HQ.out wk hk; go_simp; try rfl) ?_
                  try simp only [Act.put, List.setIfInBounds_toArray, List.set_cons_zero, List.set_cons_succ]
                  refine wpHold_take (i := 10) (v := _) (grown_drew _ _) rfl rfl (by kernel_rfl) (by kernel_rfl) (by kernel_rfl) (by kernel_rfl) (by kernel_rfl) (fun _ _ _ h => h) (by rfl) (fun wk hk => by obtain ⟨k0, k1⟩ := HQ.out wk hk; go_simp; try rfl) ?_
                  try simp only [Act.put, List.setIfInBounds_toArray, List.set_cons_zero, List.set_cons_succ]
                  refine wpHold_one (i := 11) rfl (by kernel_rfl) (by rfl) (fun K hK => ?_)
                  go_simp
                  refine (refput11 kd _ M _ HKD.out.2 (HSU.out.grown (grown_drew _ _)) (by rw [HMM.out]; omega)).mono ?_
                  rintro e w6 ⟨u6, rfl, o6, g6⟩
                  have G6 : Hid (wr.grownBy w6 none ∧ Disk.Own w6 wr.heap.size u6 (frm kd M)) := ⟨grown_trans (grown_drew _ _) g6, o6⟩
                  clear o6 g6
                  go_wp2_with fail
                  refine hK.out _ _ (fun _ => grown_weak G6.out.1 _) ?_
                  clear hK K
                  try simp only [Act.put, List.setIfInBounds_toArray, List.set_cons_zero, List.set_cons_succ]
                  refine wpHold_one (i := 12) rfl (by kernel_rfl) (by rfl) (fun K hK => ?_)
                  refine app22_wp _ _ _ rfl w4.heap.size (.slice ax pl cx) (flat (l.take q)) u6 (frm kd M) rfl rfl (HO.out.1.grown G6.out.1) G6.out.2.seg ?f0 ?f1 ?_
                  case f0 => rw [HPL.out, frm_len, HMM.out]; omega
                  case f1 => have h1 := HO.out.2.size; have h2 := G6.out.1.size; omega
                  intro v7 w7 o7 g7 l7
                  rw [ovr_blk] at g7
                  have H7 : Hid (wr.grownBy w7 (ax.map (·.block)) ∧ Disk.Own w7 w4.heap.size v7 (flat (l.take q) ++ frm kd M)) := ⟨grown_trans (grown_weak G6.out.1 _) g7, o7⟩
                  clear o7 g7 l7
                  go_wp2_with fail
                  refine hK.out _ _ (fun _ => H7.out.1) ?_
                  clear hK K
                  try simp only [Act.put, List.setIfInBounds_toArray, List.set_cons_zero, List.set_cons_succ]
                  refine wpHold_take (i := 13) (v := _) (H7.out.1) rfl rfl (by kernel_rfl) (by kernel_rfl) (by kernel_rfl) (by kernel_rfl) (by kernel_rfl) (fun _ _ _ h => h) (by rfl) (fun wk hk => by obtain ⟨k0, k1⟩ := HQ.out wk hk; go_simp; try rfl) ?_
                  try simp only [Act.put, List.setIfInBounds_toArray, List.set_cons_zero, List.set_cons_succ]
                  refine wpHold_done (by kernel_rfl) ?_
                  refine (‹∀ (a : Act) (w : World), Code.wp Try.prog _ _ a w → _› _ _ ?_)
                  have H8 : Hid (∃ (ay : Option Addr) (cy : Nat), v7 = .slice ay (flat (l.take (q + 1))).length cy ∧ Disk.Own w7 w4.heap.size (.slice ay (flat (l.take (q + 1))).length cy) (flat (l.take (q + 1))) ∧ w4.grownBy w7 none) := by
                    have o7 := H7.out.2
                    have e7 : flat (l.take q) ++ frm kd M = flat (l.take (q + 1)) := by rw [flat_take_succ l q hql, HKD.out.1, HM.out]
                    rw [e7] at o7
                    obtain ⟨ay, cy, hv7⟩ := o7.seg.shape
                    refine ⟨ay, cy, hv7, by rw [← hv7]; exact o7, grown_new HO.out.2 H7.out.1 (fun x hx => ?_)⟩
                    exact (HO.out.1.lt x (by rw [ovr_blk]; exact hx)).1
                  obtain ⟨ay, cy, hv7, h8⟩ := H8.out
                  subst hv7
                  have H9 : Hid _ := h8
                  clear h8 H8
                  go_wp2_with fail
                  go_roundw
                  case rel => exact ⟨q + 1, ay, cy, by omega, rfl, by go_num, H9.out.1, H9.out.2⟩
                  case measure => simp [intOf]; omega
                · obtain rfl : k = q := by omega
                  have hz : ¬ (k : Int) < (k : Int) := by omega
                  have hGW : w.grownBy wr none := grown_trans (GW.out) HO.out.2
                  have HGW : Hid (w.grownBy wr none) := hGW
                  have htk : l.take k = l := by rw [← HNL.out, List.take_length]
                  have HFL : Hid ((flat l).length = pl) := by have := HPL.out; rw [htk] at this; exact this
                  have HO2 : Hid (Disk.Own wr w4.heap.size (.slice ax pl cx) (flat l)) := by have := HO.out.1; rw [htk] at this; exact this
                  clear hGW htk
                  go_wp2_with fail
                  refine (putall12 _ l _ (HF2.out.grown HGW.out) HSM.out.bodies (by have := HSM.out.len; omega) (by have := HSM.out.flat; omega)).mono ?_
                  rintro e w6 ⟨g6, _, hgood⟩
                  obtain ⟨u6, he, o6⟩ := hgood HK.out
                  subst he
                  have G6 : Hid (w.grownBy w6 none) := grown_trans HGW.out g6
                  obtain ⟨S, hS⟩ : ∃ S : ByteArray, ⟨(flat l).toArray⟩ = S := ⟨_, rfl⟩
                  have cv3 : (convert 22 9 (.slice ax pl cx)).run Try.prog w6 = .ok (.string S) w6 := by rw [← hS]; exact seg_str (HO2.out.grown g6).seg
                  have cv4 : (convert 22 9 u6).run Try.prog w6 = .ok (.string S) w6 := by rw [← hS]; exact seg_str o6.seg
                  clear g6 hgood o6 hS
                  go_wp2_with (first | (go_at_call 10; refine (num10 _ _).mono ?_; rintro e wx ⟨rfl, hx⟩; rw [hx]; clear hx) | (go_at_call 9; refine (size9s _ n _ _ (by omega)).mono ?_; rintro e wx ⟨rfl, hx⟩; rw [hx]; clear hx))
                  try go_simp
                  try go_wp2_with (first | (go_at_call 10; refine (num10 _ _).mono ?_; rintro e wx ⟨rfl, hx⟩; rw [hx]; clear hx) | (go_at_call 9; refine (size9s _ n _ _ (by omega)).mono ?_; rintro e wx ⟨rfl, hx⟩; rw [hx]; clear hx))
                  refine (known7 _).mono ?_
                  rintro e wy ⟨rfl, gy⟩
                  have GY : Hid (w.grownBy wy none) := grown_trans G6.out gy
                  clear gy
                  go_wp2_with fail
                  go_ret
                  exact ⟨rfl, GY.out⟩
      · by_cases hk1 : 255 < kind
        · have HNK : Hid (¬ Kinds [(kind, L)]) := fun h => absurd (h (kind, L) (by simp)) (by simp; omega)
          go_wp2_with fail
          try go_simp
          try go_wp2_with fail
          refine (put8 kind _ L _ HT.out (by rw [HN.out]; omega)).mono ?_
          rintro e w3 ⟨g3, hbad, _⟩
          have he := hbad HNK.out
          subst he
          have G3 : Hid (w2.grownBy w3 none) := g3
          clear g3 hbad
          go_wp2_with fail
          try go_simp
          try go_wp2_with fail
          refine (put8 kind _ L _ (HT.out.grown G3.out) (by rw [HN.out]; omega)).mono ?_
          rintro e w4 ⟨g4, hbad, _⟩
          have he := hbad HNK.out
          subst he
          have G4 : Hid (w2.grownBy w4 none) := grown_trans G3.out g4
          clear g4 hbad
          have GW : Hid (w.grownBy w4 none) := grown_trans H2.out.2 G4.out
          have cv1 : (convert 22 9 (.slice (some ⟨go, 0, none⟩) (n + 1) c2)).run Try.prog w4 = .ok (.string ⟨(L ++ [119]).toArray⟩) w4 := seg_str (H2.out.1.grown G4.out).seg
          have cv2 : (convert 22 9 (.slice ao n cap)).run Try.prog w4 = .ok (.string ⟨L.toArray⟩) w4 := seg_str (HS.out.grown (GW.out))
          have ad : (Op.stringOp .add ⟨L.toArray⟩ ⟨#[119]⟩).run Try.prog w4 = .ok (.string ⟨(L ++ [119]).toArray⟩) w4 := str_add L [119] w4 (by rw [HN.out]; simp; omega)
          go_upto_region 24 with (first | (go_at_call 10; refine (num10 _ _).mono ?_; rintro e wx ⟨rfl, hx⟩; rw [hx]; clear hx) | (go_at_call 9; refine (size9s _ n _ _ (by omega)).mono ?_; rintro e wx ⟨rfl, hx⟩; rw [hx]; clear hx))
          clear cv1 cv2 ad
          go_wp2_with fail
          go_loopw [16, 17] (fun m i wr => ∃ (q : Nat) (b : Bool), q ≤ k ∧ m = .bool b ∧ i = .int .i64 q ∧ w4 = wr ∧ (b = true ↔ ∀ j (hj : j < l.length), j < q → 0 ≤ l[j].1 ∧ l[j].1 ≤ 255)) (fun _ i _ => k - (intOf i).toNat)
          case atStart => exact ⟨0, true, Nat.zero_le _, rfl, rfl, rfl, fun _ j _ h => absurd h (by omega), fun _ => rfl⟩
          case round =>
            obtain ⟨q, b, hq, rfl, rfl, rfl, hb⟩ := hrel
            have HB : Hid (b = true ↔ ∀ j (hj : j < l.length), j < q → 0 ≤ l[j].1 ∧ l[j].1 ≤ 255) := hb
            clear hb
            by_cases hqk : q < k
            · have hql : q < l.length := by rw [HNL.out]; exact hqk
              have i1 : (0 : Int) ≤ (q : Int) := by omega
              have i2 : (q : Int) < (k : Int) := by omega
              obtain ⟨g, off, u, rfl, d0, d1, _, _⟩ := HCELL.out w4 (GW.out) q hql
              clear d1
              obtain ⟨kd, hkd⟩ : ∃ kd, l[q].1 = kd := ⟨_, rfl⟩
              have HKD : Hid _ := hkd
              rw [hkd] at d0
              clear hkd
              cases b
              · go_wp2_with fail
                go_roundw
                case rel =>
                  refine ⟨q + 1, false, by omega, by go_num, by go_num, trivial, fun h => absurd h (by simp), fun h => HB.out.2 fun j hj hjq => h j hj (by omega)⟩
                case measure => simp [intOf]; omega
              · by_cases k0 : kd < 0
                · have k1 : ¬ 0 ≤ kd := by omega
                  go_wp2_with fail
                  go_roundw
                  case rel => exact ⟨q + 1, false, by omega, by go_num, by go_num, trivial, fun h => absurd h (by simp), fun h => absurd (h q hql (by omega)).1 (by rw [HKD.out]; exact k1)⟩
                  case measure => simp [intOf]; omega
                · have k1 : 0 ≤ kd := by omega
                  by_cases k2 : kd ≤ 255
                  · go_wp2_with fail
                    go_roundw
                    case rel =>
                      refine ⟨q + 1, true, by omega, by go_num, by go_num, trivial, fun _ j hj hjq => ?_, fun _ => rfl⟩
                      by_cases hjq2 : j < q
                      · exact HB.out.1 rfl j hj hjq2
                      · obtain rfl : j = q := by omega
                        rw [HKD.out]
                        exact ⟨k1, k2⟩
                    case measure => simp [intOf]; omega
                  · go_wp2_with fail
                    go_roundw
                    case rel => exact ⟨q + 1, false, by omega, by go_num, by go_num, trivial, fun h => absurd h (by simp), fun h => absurd (h q hql (by omega)).2 (by rw [HKD.out]; exact k2)⟩
                    case measure => simp [intOf]; omega
            · obtain rfl : k = q := by omega
              have HKL : Hid (b = true ↔ Kinds l) := by
                refine ⟨fun h f hf => ?_, fun h => HB.out.2 fun j hj _ => h _ (List.getElem_mem hj)⟩
                obtain ⟨j, hj, rfl⟩ := List.getElem_of_mem hf
                exact HB.out.1 h j hj (by have := HNL.out; omega)
              clear HB
              cases b
              · have HNK : Hid (¬ Kinds l) := fun h => absurd (HKL.out.2 h) (by simp)
                clear HKL
                go_wp2_with fail
                go_loopw [15, 18] (fun x i wr => x = .slice none 0 0 ∧ i = .int .i64 0 ∧ w4 = wr) (fun _ _ _ => 0)
                case atStart => exact ⟨rfl, rfl, rfl⟩
                case round =>
                  obtain ⟨rfl, rfl, rfl⟩ := hrel
                  have hz : (0 : Int) < (k : Int) ∨ ¬ (0 : Int) < (k : Int) := by omega
                  rcases hz with hz | hz
                  all_goals
                    go_wp2_with fail
                    refine (putall12 _ l _ (HF2.out.grown (GW.out)) HSM.out.bodies (by have := HSM.out.len; omega) (by have := HSM.out.flat; omega)).mono ?_
                    rintro e w6 ⟨g6, hbad, _⟩
                    have he := hbad HNK.out
                    subst he
                    have G6 : Hid (w.grownBy w6 none) := grown_trans (GW.out) g6
                    have cv3 : (convert 22 9 (.slice none 0 0)).run Try.prog w6 = .ok (.string ⟨([] : List UInt8).toArray⟩) w6 := seg_str (seg_nil w6)
                    clear g6 hbad
                    go_wp2_with (first | (go_at_call 10; refine (num10 _ _).mono ?_; rintro e wx ⟨rfl, hx⟩; rw [hx]; clear hx) | (go_at_call 9; refine (size9s _ n _ _ (by omega)).mono ?_; rintro e wx ⟨rfl, hx⟩; rw [hx]; clear hx))
                    try go_simp
                    try go_wp2_with (first | (go_at_call 10; refine (num10 _ _).mono ?_; rintro e wx ⟨rfl, hx⟩; rw [hx]; clear hx) | (go_at_call 9; refine (size9s _ n _ _ (by omega)).mono ?_; rintro e wx ⟨rfl, hx⟩; rw [hx]; clear hx))
                    refine (known7 _).mono ?_
                    rintro e wy ⟨rfl, gy⟩
                    have GY : Hid (w.grownBy wy none) := grown_trans G6.out gy
                    clear gy
                    go_wp2_with fail
                    go_ret
                    exact ⟨rfl, GY.out⟩
              · have HK : Hid (Kinds l) := HKL.out.1 rfl
                clear HKL
                go_wp2_with fail
                go_loopw [15, 18] (fun x i wr => ∃ (q : Nat) (ax : Option Addr) (cx : Nat), q ≤ k ∧ x = .slice ax (flat (l.take q)).length cx ∧ i = .int .i64 q ∧ Disk.Own wr w4.heap.size (.slice ax (flat (l.take q)).length cx) (flat (l.take q)) ∧ w4.grownBy wr none) (fun _ i _ => k - (intOf i).toNat)
                case atStart => exact ⟨0, none, 0, Nat.zero_le _, rfl, rfl, Disk.Own.nil _ _, grown_refl _ _⟩
                case round =>
                  obtain ⟨q, ax, cx, hq, rfl, rfl, hown, hgw⟩ := hrel
                  have HO : Hid (Disk.Own wr w4.heap.size (.slice ax (flat (l.take q)).length cx) (flat (l.take q)) ∧ w4.grownBy wr none) := ⟨hown, hgw⟩
                  obtain ⟨pl, hpl⟩ : ∃ pl, (flat (l.take q)).length = pl := ⟨_, rfl⟩
                  have HPL : Hid _ := hpl
                  have hpn : pl ≤ 16777216 := by rw [← hpl]; exact Nat.le_trans (flat_take_le l q) HSM.out.flat
                  rw [hpl] at HO ⊢
                  clear hown hgw hpl
                  by_cases hqk : q < k
                  · have hql : q < l.length := by rw [HNL.out]; exact hqk
                    have i1 : (0 : Int) ≤ (q : Int) := by omega
                    have i2 : (q : Int) < (k : Int) := by omega
                    have hGW : w.grownBy wr none := grown_trans (GW.out) HO.out.2
                    obtain ⟨g, off, u, rfl, d0, d1, hs, hgl⟩ := HCELL.out wr hGW q hql
                    have hkq := HK.out l[q] (List.getElem_mem hql)
                    have hbq := HSM.out.bod l[q] (List.getElem_mem hql)
                    obtain ⟨kd, hkd⟩ : ∃ kd : Nat, l[q].1 = (kd : Int) := ⟨l[q].1.toNat, by omega⟩
                    have HKD : Hid (l[q].1.toNat = kd ∧ kd < 256) := ⟨by omega, by omega⟩
                    rw [hkd] at d0
                    obtain ⟨au, cu, hu⟩ := hs.shape
                    subst hu
                    obtain ⟨M, hM⟩ : ∃ M, l[q].2 = M := ⟨_, rfl⟩
                    have HM : Hid _ := hM
                    rw [hM] at d1 hs hbq
                    obtain ⟨m, hm⟩ : ∃ m, M.length = m := ⟨_, rfl⟩
                    rw [hm] at d1 hs hbq
                    have HMM : Hid (M.length = m) := hm
                    have HSU : Hid (Seg wr (.slice au m cu) M) := hs
                    have HQ : Hid (∀ x : World, wr.grownBy x (ax.map (·.block)) → x.cell? ⟨g, off + q * 2, none⟩ = some (.int .i64 (kd : Int)) ∧ x.cell? ⟨g, off + q * 2 + 1, none⟩ = some (.slice au m cu)) := by
                      intro x hx
                      have hne : ax.map (·.block) ≠ some g := by
                        intro e
                        have h1 := (HO.out.1.lt g (by rw [ovr_blk]; exact e)).1
                        have h2 : w.grownBy w4 none := GW.out
                        have := h2.size
                        omega
                      exact ⟨hx.cell d0 hne.symm, hx.cell d1 hne.symm⟩
                    clear hkq hkd d0 d1 hs hM hm hGW hgl
                    go_wp2_with fail
                    refine wp_region_noPanic ?_
                    refine wp_region_hold 1000 (fun x => wr.grownBy x (ax.map (·.block))) (by kernel_rfl) ?_
                    refine wpHold_take (i := 0) (v := _) (grown_drew _ _) rfl rfl (by kernel_rfl) (by kernel_rfl) (by kernel_rfl) (by kernel_rfl) (by kernel_rfl) (fun _ _ _ h => h) (by rfl) (fun wk hk => by obtain ⟨k0, k1⟩ := HQ.out wk hk; go_simp; try rfl) ?_
                    try simp only [Act.put, List.setIfInBounds_toArray, List.set_cons_zero, List.set_cons_succ]
                    refine wpHold_take (i := 1) (v := _) (grown_drew _ _) rfl rfl (by kernel_rfl) (by kernel_rfl) (by kernel_rfl) (by kernel_rfl) (by kernel_rfl) (fun _ _ _ h => h) (by rfl) (fun wk hk => by obtain ⟨k0, k1⟩ := HQ.out wk hk; go_simp; try rfl) ?_
                    try simp only [Act.put, List.setIfInBounds_toArray, List.set_cons_zero, List.set_cons_succ]
                    refine wpHold_take (i := 2) (v := _) (grown_drew _ _) rfl rfl (by kernel_rfl) (by kernel_rfl) (by kernel_rfl) (by kernel_rfl) (by kernel_rfl) (fun _ _ _ h => h) (by rfl) (fun wk hk => by obtain ⟨k0, k1⟩ := HQ.out wk hk; go_simp; try rfl) ?_
                    try simp only [Act.put, List.setIfInBounds_toArray, List.set_cons_zero, List.set_cons_succ]
                    refine wpHold_take (i := 3) (v := _) (grown_drew _ _) rfl rfl (by kernel_rfl) (by kernel_rfl) (by kernel_rfl) (by kernel_rfl) (by kernel_rfl) (fun _ _ _ h => h) (by rfl) (fun wk hk => by obtain ⟨k0, k1⟩ := HQ.out wk hk; go_simp; try rfl) ?_
                    try simp only [Act.put, List.setIfInBounds_toArray, List.set_cons_zero, List.set_cons_succ]
                    refine wpHold_take (i := 4) (v := _) (grown_drew _ _) rfl rfl (by kernel_rfl) (by kernel_rfl) (by kernel_rfl) (by kernel_rfl) (by kernel_rfl) (fun _ _ _ h => h) (by rfl) (fun wk hk => by obtain ⟨k0, k1⟩ := HQ.out wk hk; go_simp; try rfl) ?_
                    try simp only [Act.put, List.setIfInBounds_toArray, List.set_cons_zero, List.set_cons_succ]
                    refine wpHold_take (i := 5) (v := _) (grown_drew _ _) rfl rfl (by kernel_rfl) (by kernel_rfl) (by kernel_rfl) (by kernel_rfl) (by kernel_rfl) (fun _ _ _ h => h) (by rfl) (fun wk hk => by obtain ⟨k0, k1⟩ := HQ.out wk hk; go_simp; try rfl) ?_
                    try simp only [Act.put, List.setIfInBounds_toArray, List.set_cons_zero, List.set_cons_succ]
                    refine wpHold_take (i := 6) (v := _) (grown_drew _ _) rfl rfl (by kernel_rfl) (by kernel_rfl) (by kernel_rfl) (by kernel_rfl) (by kernel_rfl) (fun _ _ _ h => h) (by rfl) (fun wk hk => by obtain ⟨k0, k1⟩ := HQ.out wk hk; go_simp; try rfl) ?_
                    try simp only [Act.put, List.setIfInBounds_toArray, List.set_cons_zero, List.set_cons_succ]
                    refine wpHold_take (i := 7) (v := _) (grown_drew _ _) rfl rfl (by kernel_rfl) (by kernel_rfl) (by kernel_rfl) (by kernel_rfl) (by kernel_rfl) (fun _ _ _ h => h) (by rfl) (fun wk hk => by obtain ⟨k0, k1⟩ := HQ.out wk hk; go_simp; try rfl) ?_
                    try simp only [Act.put, List.setIfInBounds_toArray, List.set_cons_zero, List.set_cons_succ]
                    refine wpHold_take (i := 8) (v := _) (grown_drew _ _) rfl rfl (by kernel_rfl) (by kernel_rfl) (by kernel_rfl) (by kernel_rfl) (by kernel_rfl) (fun _ _ _ h => h) (by rfl) (fun wk hk => by obtain ⟨k0, k1⟩ := HQ.out wk hk; go_simp; try rfl) ?_
                    try simp only [Act.put, List.setIfInBounds_toArray, List.set_cons_zero, List.set_cons_succ]
                    refine wpHold_take (i := 9) (v := _) (grown_drew _ _) rfl rfl (by kernel_rfl) (by kernel_rfl) (by kernel_rfl) (by kernel_rfl) (by kernel_rfl) (fun _ _ _ h => h) (by rfl) (fun wk hk => by obtain ⟨k0, k1⟩ := HQ.out wk hk; go_simp; try rfl) ?_
                    try simp only [Act.put, List.setIfInBounds_toArray, List.set_cons_zero, List.set_cons_succ]
                    refine wpHold_take (i := 10) (v := _) (grown_drew _ _) rfl rfl (by kernel_rfl) (by kernel_rfl) (by kernel_rfl) (by kernel_rfl) (by kernel_rfl) (fun _ _ _ h => h) (by rfl) (fun wk hk => by obtain ⟨k0, k1⟩ := HQ.out wk hk; go_simp; try rfl) ?_
                    try simp only [Act.put, List.setIfInBounds_toArray, List.set_cons_zero, List.set_cons_succ]
                    refine wpHold_one (i := 11) rfl (by kernel_rfl) (by rfl) (fun K hK => ?_)
                    go_simp
                    refine (refput11 kd _ M _ HKD.out.2 (HSU.out.grown (grown_drew _ _)) (by rw [HMM.out]; omega)).mono ?_
                    rintro e w6 ⟨u6, rfl, o6, g6⟩
                    have G6 : Hid (wr.grownBy w6 none ∧ Disk.Own w6 wr.heap.size u6 (frm kd M)) := ⟨grown_trans (grown_drew _ _) g6, o6⟩
                    clear o6 g6
                    go_wp2_with fail
                    refine hK.out _ _ (fun _ => grown_weak G6.out.1 _) ?_
                    clear hK K
                    try simp only [Act.put, List.setIfInBounds_toArray, List.set_cons_zero, List.set_cons_succ]
                    refine wpHold_one (i := 12) rfl (by kernel_rfl) (by rfl) (fun K hK => ?_)
                    refine app22_wp _ _ _ rfl w4.heap.size (.slice ax pl cx) (flat (l.take q)) u6 (frm kd M) rfl rfl (HO.out.1.grown G6.out.1) G6.out.2.seg ?f0 ?f1 ?_
                    case f0 => rw [HPL.out, frm_len, HMM.out]; omega
                    case f1 => have h1 := HO.out.2.size; have h2 := G6.out.1.size; omega
                    intro v7 w7 o7 g7 l7
                    rw [ovr_blk] at g7
                    have H7 : Hid (wr.grownBy w7 (ax.map (·.block)) ∧ Disk.Own w7 w4.heap.size v7 (flat (l.take q) ++ frm kd M)) := ⟨grown_trans (grown_weak G6.out.1 _) g7, o7⟩
                    clear o7 g7 l7
                    go_wp2_with fail
                    refine hK.out _ _ (fun _ => H7.out.1) ?_
                    clear hK K
                    try simp only [Act.put, List.setIfInBounds_toArray, List.set_cons_zero, List.set_cons_succ]
                    refine wpHold_take (i := 13) (v := _) (H7.out.1) rfl rfl (by kernel_rfl) (by kernel_rfl) (by kernel_rfl) (by kernel_rfl) (by kernel_rfl) (fun _ _ _ h => h) (by rfl) (fun wk hk => by obtain ⟨k0, k1⟩ := HQ.out wk hk; go_simp; try rfl) ?_
                    try simp only [Act.put, List.setIfInBounds_toArray, List.set_cons_zero, List.set_cons_succ]
                    refine wpHold_done (by kernel_rfl) ?_
                    refine (‹∀ (a : Act) (w : World), Code.wp Try.prog _ _ a w → _› _ _ ?_)
                    have H8 : Hid (∃ (ay : Option Addr) (cy : Nat), v7 = .slice ay (flat (l.take (q + 1))).length cy ∧ Disk.Own w7 w4.heap.size (.slice ay (flat (l.take (q + 1))).length cy) (flat (l.take (q + 1))) ∧ w4.grownBy w7 none) := by
                      have o7 := H7.out.2
                      have e7 : flat (l.take q) ++ frm kd M = flat (l.take (q + 1)) := by rw [flat_take_succ l q hql, HKD.out.1, HM.out]
                      rw [e7] at o7
                      obtain ⟨ay, cy, hv7⟩ := o7.seg.shape
                      refine ⟨ay, cy, hv7, by rw [← hv7]; exact o7, grown_new HO.out.2 H7.out.1 (fun x hx => ?_)⟩
                      exact (HO.out.1.lt x (by rw [ovr_blk]; exact hx)).1
                    obtain ⟨ay, cy, hv7, h8⟩ := H8.out
                    subst hv7
                    have H9 : Hid _ := h8
                    clear h8 H8
                    go_wp2_with fail
                    go_roundw
                    case rel => exact ⟨q + 1, ay, cy, by omega, rfl, by go_num, H9.out.1, H9.out.2⟩
                    case measure => simp [intOf]; omega
                  · obtain rfl : k = q := by omega
                    have hz : ¬ (k : Int) < (k : Int) := by omega
                    have hGW : w.grownBy wr none := grown_trans (GW.out) HO.out.2
                    have HGW : Hid (w.grownBy wr none) := hGW
                    have htk : l.take k = l := by rw [← HNL.out, List.take_length]
                    have HFL : Hid ((flat l).length = pl) := by have := HPL.out; rw [htk] at this; exact this
                    have HO2 : Hid (Disk.Own wr w4.heap.size (.slice ax pl cx) (flat l)) := by have := HO.out.1; rw [htk] at this; exact this
                    clear hGW htk
                    go_wp2_with fail
                    refine (putall12 _ l _ (HF2.out.grown HGW.out) HSM.out.bodies (by have := HSM.out.len; omega) (by have := HSM.out.flat; omega)).mono ?_
                    rintro e w6 ⟨g6, _, hgood⟩
                    obtain ⟨u6, he, o6⟩ := hgood HK.out
                    subst he
                    have G6 : Hid (w.grownBy w6 none) := grown_trans HGW.out g6
                    obtain ⟨S, hS⟩ : ∃ S : ByteArray, ⟨(flat l).toArray⟩ = S := ⟨_, rfl⟩
                    have cv3 : (convert 22 9 (.slice ax pl cx)).run Try.prog w6 = .ok (.string S) w6 := by rw [← hS]; exact seg_str (HO2.out.grown g6).seg
                    have cv4 : (convert 22 9 u6).run Try.prog w6 = .ok (.string S) w6 := by rw [← hS]; exact seg_str o6.seg
                    clear g6 hgood o6 hS
                    go_wp2_with (first | (go_at_call 10; refine (num10 _ _).mono ?_; rintro e wx ⟨rfl, hx⟩; rw [hx]; clear hx) | (go_at_call 9; refine (size9s _ n _ _ (by omega)).mono ?_; rintro e wx ⟨rfl, hx⟩; rw [hx]; clear hx))
                    try go_simp
                    try go_wp2_with (first | (go_at_call 10; refine (num10 _ _).mono ?_; rintro e wx ⟨rfl, hx⟩; rw [hx]; clear hx) | (go_at_call 9; refine (size9s _ n _ _ (by omega)).mono ?_; rintro e wx ⟨rfl, hx⟩; rw [hx]; clear hx))
                    refine (known7 _).mono ?_
                    rintro e wy ⟨rfl, gy⟩
                    have GY : Hid (w.grownBy wy none) := grown_trans G6.out gy
                    clear gy
                    go_wp2_with fail
                    go_ret
                    exact ⟨rfl, GY.out⟩
        · obtain ⟨kd, rfl⟩ : ∃ kd : Nat, kind = (kd : Int) := ⟨kind.toNat, by omega⟩
          have hkd : kd < 256 := by omega
          have HK1 : Hid (Kinds [((kd : Int), L)]) := by
            intro f hf
            simp at hf
            subst hf
            exact ⟨by simp, by simp; omega⟩
          go_wp2_with fail
          try go_simp
          try go_wp2_with fail
          refine (put8 kd _ L _ HT.out (by rw [HN.out]; omega)).mono ?_
          rintro e w3 ⟨g3, _, hgood⟩
          obtain ⟨u3, he, o3⟩ := hgood HK1.out
          subst he
          obtain ⟨F, hF⟩ : ∃ F, flat [((kd : Int), L)] = F := ⟨_, rfl⟩
          have HF : Hid (F = frm kd L) := by rw [← hF, flat_cons, flat_nil, List.append_nil]; rfl
          rw [hF] at o3
          have hFN : F.length = 9 + n := by rw [HF.out, frm_len, HN.out]
          have HFN : Hid (F.length = 9 + n) := hFN
          obtain ⟨a3, c3, hu3⟩ := o3.seg.shape
          rw [hFN] at hu3
          subst hu3
          obtain ⟨ga, hga⟩ := own_ao o3 hFN (by omega)
          subst hga
          have H3 : Hid (Disk.Own w3 w2.heap.size (.slice (some ⟨ga, 0, none⟩) (9 + n) c3) F ∧ w2.grownBy w3 none) := ⟨o3, g3⟩
          clear g3 hgood o3
          go_wp2_with fail
          try go_simp
          try go_wp2_with fail
          refine (put8 kd _ L _ (HT.out.grown H3.out.2) (by rw [HN.out]; omega)).mono ?_
          rintro e w4 ⟨g4, _, hgood⟩
          obtain ⟨u4, he, o4⟩ := hgood HK1.out
          subst he
          rw [hF] at o4
          obtain ⟨a4, c4, hu4⟩ := o4.seg.shape
          rw [hFN] at hu4
          subst hu4
          have H4 : Hid (Disk.Own w4 w3.heap.size (.slice a4 (9 + n) c4) F ∧ w3.grownBy w4 none) := ⟨o4, g4⟩
          have G4 : Hid (w2.grownBy w4 none) := grown_trans H3.out.2 g4
          have GW : Hid (w.grownBy w4 none) := grown_trans H2.out.2 G4.out
          clear g4 hgood o4 hF hFN
          have cv1 : (convert 22 9 (.slice (some ⟨go, 0, none⟩) (n + 1) c2)).run Try.prog w4 = .ok (.string ⟨(L ++ [119]).toArray⟩) w4 := seg_str (H2.out.1.grown G4.out).seg
          have cv2 : (convert 22 9 (.slice ao n cap)).run Try.prog w4 = .ok (.string ⟨L.toArray⟩) w4 := seg_str (HS.out.grown (GW.out))
          have ad : (Op.stringOp .add ⟨L.toArray⟩ ⟨#[119]⟩).run Try.prog w4 = .ok (.string ⟨(L ++ [119]).toArray⟩) w4 := str_add L [119] w4 (by rw [HN.out]; simp; omega)
          go_upto_region 16 with (first | (go_at_call 10; refine (num10 _ _).mono ?_; rintro e wx ⟨rfl, hx⟩; rw [hx]; clear hx) | (go_at_call 9; refine (size9s _ n _ _ (by omega)).mono ?_; rintro e wx ⟨rfl, hx⟩; rw [hx]; clear hx))
          clear cv1 cv2 ad
          obtain ⟨S, hS⟩ : ∃ S : ByteArray, ⟨F.toArray⟩ = S := ⟨_, rfl⟩
          have HSS : Hid (⟨(frm kd L).toArray⟩ = S) := by rw [← HF.out]; exact hS
          have HQ : Hid (∀ x : World, w4.grownBy x none → (convert 22 9 (.slice (some ⟨ga, 0, none⟩) (9 + n) c3)).run Try.prog x = .ok (.string S) x) := fun x hx => by rw [← hS]; exact seg_str ((H3.out.1.seg.grown H4.out.2).grown hx)
          have HQB : Hid (∀ x : World, Seg x (.slice a4 (9 + n) c4) F → (convert 22 9 (.slice a4 (9 + n) c4)).run Try.prog x = .ok (.string S) x) := fun x hx => by rw [← hS]; exact seg_str hx
          clear hS
          refine wp_region_noPanic ?_
          refine wp_region_hold 1000 (fun x => w4.grownBy x none) (by kernel_rfl) ?_
          refine wpHold_take (i := 0) (v := _) (grown_drew _ _) rfl rfl (by kernel_rfl) (by kernel_rfl) (by kernel_rfl) (by kernel_rfl) (by kernel_rfl) (fun _ _ _ h => h) (by rfl) (fun wk hk => by have k0 := HQ.out wk hk; go_simp; try rfl) ?_
          try simp only [Act.put, List.setIfInBounds_toArray, List.set_cons_zero, List.set_cons_succ]
          refine wpHold_take (i := 1) (v := _) (grown_drew _ _) rfl rfl (by kernel_rfl) (by kernel_rfl) (by kernel_rfl) (by kernel_rfl) (by kernel_rfl) (fun _ _ _ h => h) (by rfl) (fun wk hk => by have k0 := HQ.out wk hk; go_simp; try rfl) ?_
          try simp only [Act.put, List.setIfInBounds_toArray, List.set_cons_zero, List.set_cons_succ]
          refine wpHold_take (i := 2) (v := _) (grown_drew _ _) rfl rfl (by kernel_rfl) (by kernel_rfl) (by kernel_rfl) (by kernel_rfl) (by kernel_rfl) (fun _ _ _ h => h) (by rfl) (fun wk hk => by have k0 := HQ.out wk hk; go_simp; try rfl) ?_
          try simp only [Act.put, List.setIfInBounds_toArray, List.set_cons_zero, List.set_cons_succ]
          refine wpHold_take (i := 3) (v := _) (grown_drew _ _) rfl rfl (by kernel_rfl) (by kernel_rfl) (by kernel_rfl) (by kernel_rfl) (by kernel_rfl) (fun _ _ _ h => h) (by rfl) (fun wk hk => by have k0 := HQ.out wk hk; go_simp; try rfl) ?_
          try simp only [Act.put, List.setIfInBounds_toArray, List.set_cons_zero, List.set_cons_succ]
          refine wpHold_one (i := 4) rfl (by kernel_rfl) (by rfl) (fun K hK => ?_)
          go_simp
          refine (refput11 kd _ L _ hkd (HS.out.grown (grown_trans GW.out (grown_drew _ _))) (by rw [HN.out]; omega)).mono ?_
          rintro e w5 ⟨u5, rfl, o5, g5⟩
          have G5 : Hid (w4.grownBy w5 none) := grown_trans (grown_drew _ _) g5
          have HQ5 : Hid ((convert 22 9 u5).run Try.prog w5 = .ok (.string S) w5) := by unfold Hid; rw [← HSS.out]; exact seg_str o5.seg
          clear o5 g5
          go_wp2_with fail
          refine hK.out _ _ (fun _ => G5.out) ?_
          clear hK K
          try simp only [Act.put, List.setIfInBounds_toArray, List.set_cons_zero, List.set_cons_succ]
          refine wpHold_one (i := 5) rfl (by kernel_rfl) (by rfl) (fun K hK => ?_)
          have cv := HQ5.out
          go_wp2_with fail
          refine hK.out _ _ (fun _ => G5.out) ?_
          clear hK K
          try simp only [Act.put, List.setIfInBounds_toArray, List.set_cons_zero, List.set_cons_succ]
          refine wpHold_take (i := 6) (v := _) (G5.out) rfl rfl (by kernel_rfl) (by kernel_rfl) (by kernel_rfl) (by kernel_rfl) (by kernel_rfl) (fun _ _ _ h => h) (by rfl) (fun wk hk => by have k0 := HQ.out wk hk; go_simp; try rfl) ?_
          try simp only [Act.put, List.setIfInBounds_toArray, List.set_cons_zero, List.set_cons_succ]
          refine wpHold_take (i := 7) (v := _) (G5.out) rfl rfl (by kernel_rfl) (by kernel_rfl) (by kernel_rfl) (by kernel_rfl) (by kernel_rfl) (fun _ _ _ h => h) (by rfl) (fun wk hk => by have k0 := HQ.out wk hk; go_simp; try rfl) ?_
          try simp only [Act.put, List.setIfInBounds_toArray, List.set_cons_zero, List.set_cons_succ]
          refine wpHold_take (i := 8) (v := _) (G5.out) rfl rfl (by kernel_rfl) (by kernel_rfl) (by kernel_rfl) (by kernel_rfl) (by kernel_rfl) (fun _ _ _ h => h) (by rfl) (fun wk hk => by have k0 := HQ.out wk hk; go_simp; try rfl) ?_
          try simp only [Act.put, List.setIfInBounds_toArray, List.set_cons_zero, List.set_cons_succ]
          refine wpHold_one (i := 9) rfl (by kernel_rfl) (by rfl) (fun K hK => ?_)
          go_simp
          refine (num10 _ _).mono ?_
          rintro e wx ⟨rfl, hx⟩
          rw [hx]
          clear hx
          go_wp2_with fail
          refine hK.out _ _ (fun _ => G5.out) ?_
          clear hK K
          try simp only [Act.put, List.setIfInBounds_toArray, List.set_cons_zero, List.set_cons_succ]
          refine wpHold_take (i := 10) (v := _) (G5.out) rfl rfl (by kernel_rfl) (by kernel_rfl) (by kernel_rfl) (by kernel_rfl) (by kernel_rfl) (fun _ _ _ h => h) (by rfl) (fun wk hk => by have k0 := HQ.out wk hk; go_simp; try rfl) ?_
          try simp only [Act.put, List.setIfInBounds_toArray, List.set_cons_zero, List.set_cons_succ]
          refine wpHold_take (i := 11) (v := _) (G5.out) rfl rfl (by kernel_rfl) (by kernel_rfl) (by kernel_rfl) (by kernel_rfl) (by kernel_rfl) (fun _ _ _ h => h) (by rfl) (fun wk hk => by have k0 := HQ.out wk hk; go_simp; try rfl) ?_
          try simp only [Act.put, List.setIfInBounds_toArray, List.set_cons_zero, List.set_cons_succ]
          refine wpHold_done (by kernel_rfl) ?_
          refine (‹∀ (a : Act) (w : World), Code.wp Try.prog _ _ a w → _› _ _ ?_)
          clear HQ HQ5
          go_wp2_with fail
          go_loopw [14] (fun i wr => ∃ (q : Nat) (X : List UInt8), q ≤ 9 + n ∧ i = .int .i64 q ∧ X.length = 9 + n ∧ Disk.Own wr w2.heap.size (.slice (some ⟨ga, 0, none⟩) (9 + n) c3) X ∧ w5.grownBy wr (some ga)) (fun i _ => 9 + n - (intOf i).toNat)
          case atStart => exact ⟨0, F, Nat.zero_le _, rfl, HFN.out, H3.out.1.grown (grown_trans H4.out.2 G5.out), grown_refl _ _⟩
          case round =>
            obtain ⟨q, X, hq, rfl, hX, hown, hgi⟩ := hrel
            have HW : Hid (X.length = 9 + n ∧ Disk.Own wr w2.heap.size (.slice (some ⟨ga, 0, none⟩) (9 + n) c3) X ∧ w5.grownBy wr (some ga)) := ⟨hX, hown, hgi⟩
            clear hX hown hgi
            have q0 : (0 : Int) ≤ (q : Int) := by omega
            by_cases hq2 : q < 9 + n
            · have q1 : (q : Int) < 9 + (n : Int) := by omega
              have hqX : q < X.length := by rw [HW.out.1]; exact hq2
              obtain ⟨y0, y1⟩ := own_facts HW.out.2.1 q hqX
              go_wp2_with fail
              go_roundw
              case rel =>
                refine ⟨q + 1, X.set q 90, by omega, by go_num, by rw [List.length_set]; exact HW.out.1, Wire.own_store HW.out.2.1 q 90 90 rfl, grown_trans HW.out.2.2 ?_⟩
                exact grown_setCell _ _ _ _
              case measure => simp [intOf]; omega
            · obtain rfl : q = 9 + n := by omega
              have q2 : ¬ (9 + (n : Int)) < 9 + (n : Int) := by omega
              have HG : Hid (w.grownBy wr none ∧ Seg wr (.slice a4 (9 + n) c4) F) := by
                have h1 := H3.out.1.lt ga rfl
                have h2 := H2.out.2.size
                refine ⟨grown_new (grown_trans GW.out G5.out) HW.out.2.2 (fun x hx => by simp at hx; omega), ?_⟩
                have o5 := H4.out.1.grown G5.out
                exact Disk.Own.seg (B := w3.heap.size) (o5.same fun x hx => HW.out.2.2.block x (o5.lt x hx).2 (by have := (o5.lt x hx).1; simp; omega))
              clear HW q0
              go_upto_region 22 with fail
              have HQ : Hid (∀ x : World, wr.grownBy x none → (convert 22 9 (.slice a4 (9 + n) c4)).run Try.prog x = .ok (.string S) x) := fun x hx => HQB.out x (HG.out.2.grown hx)
              refine wp_region_noPanic ?_
              refine wp_region_hold 1000 (fun x => wr.grownBy x none) (by kernel_rfl) ?_
              refine wpHold_take (i := 0) (v := _) (grown_drew _ _) rfl rfl (by kernel_rfl) (by kernel_rfl) (by kernel_rfl) (by kernel_rfl) (by kernel_rfl) (fun _ _ _ h => h) (by rfl) (fun wk hk => by have k0 := HQ.out wk hk; go_simp; try rfl) ?_
              try simp only [Act.put, List.setIfInBounds_toArray, List.set_cons_zero, List.set_cons_succ]
              refine wpHold_take (i := 1) (v := _) (grown_drew _ _) rfl rfl (by kernel_rfl) (by kernel_rfl) (by kernel_rfl) (by kernel_rfl) (by kernel_rfl) (fun _ _ _ h => h) (by rfl) (fun wk hk => by have k0 := HQ.out wk hk; go_simp; try rfl) ?_
              try simp only [Act.put, List.setIfInBounds_toArray, List.set_cons_zero, List.set_cons_succ]
              refine wpHold_take (i := 2) (v := _) (grown_drew _ _) rfl rfl (by kernel_rfl) (by kernel_rfl) (by kernel_rfl) (by kernel_rfl) (by kernel_rfl) (fun _ _ _ h => h) (by rfl) (fun wk hk => by have k0 := HQ.out wk hk; go_simp; try rfl) ?_
              try simp only [Act.put, List.setIfInBounds_toArray, List.set_cons_zero, List.set_cons_succ]
              refine wpHold_take (i := 3) (v := _) (grown_drew _ _) rfl rfl (by kernel_rfl) (by kernel_rfl) (by kernel_rfl) (by kernel_rfl) (by kernel_rfl) (fun _ _ _ h => h) (by rfl) (fun wk hk => by have k0 := HQ.out wk hk; go_simp; try rfl) ?_
              try simp only [Act.put, List.setIfInBounds_toArray, List.set_cons_zero, List.set_cons_succ]
              refine wpHold_one (i := 4) rfl (by kernel_rfl) (by rfl) (fun K hK => ?_)
              go_simp
              refine (refput11 kd _ L _ hkd (HS.out.grown (grown_trans HG.out.1 (grown_drew _ _))) (by rw [HN.out]; omega)).mono ?_
              rintro e wf ⟨u6, rfl, o6, g6⟩
              have GF : Hid (wr.grownBy wf none) := grown_trans (grown_drew _ _) g6
              have HQ6 : Hid ((convert 22 9 u6).run Try.prog wf = .ok (.string S) wf) := by unfold Hid; rw [← HSS.out]; exact seg_str o6.seg
              clear o6 g6
              go_wp2_with fail
              refine hK.out _ _ (fun _ => GF.out) ?_
              clear hK K
              try simp only [Act.put, List.setIfInBounds_toArray, List.set_cons_zero, List.set_cons_succ]
              refine wpHold_one (i := 5) rfl (by kernel_rfl) (by rfl) (fun K hK => ?_)
              have cv := HQ6.out
              go_wp2_with fail
              refine hK.out _ _ (fun _ => GF.out) ?_
              clear hK K
              try simp only [Act.put, List.setIfInBounds_toArray, List.set_cons_zero, List.set_cons_succ]
              refine wpHold_take (i := 6) (v := _) (GF.out) rfl rfl (by kernel_rfl) (by kernel_rfl) (by kernel_rfl) (by kernel_rfl) (by kernel_rfl) (fun _ _ _ h => h) (by rfl) (fun wk hk => by have k0 := HQ.out wk hk; go_simp; try rfl) ?_
              try simp only [Act.put, List.setIfInBounds_toArray, List.set_cons_zero, List.set_cons_succ]
              refine wpHold_done (by kernel_rfl) ?_
              refine (‹∀ (a : Act) (w : World), Code.wp Try.prog _ _ a w → _› _ _ ?_)
              have GFW : Hid (w.grownBy wf none) := grown_trans HG.out.1 GF.out
              clear HQ HQ6
              go_wp2_with fail
              go_loopw [16, 17] (fun m i wr => ∃ (q : Nat) (b : Bool), q ≤ k ∧ m = .bool b ∧ i = .int .i64 q ∧ wf = wr ∧ (b = true ↔ ∀ j (hj : j < l.length), j < q → 0 ≤ l[j].1 ∧ l[j].1 ≤ 255)) (fun _ i _ => k - (intOf i).toNat)
              case atStart => exact ⟨0, true, Nat.zero_le _, rfl, rfl, rfl, fun _ j _ h => absurd h (by omega), fun _ => rfl⟩
              case round =>
                obtain ⟨q, b, hq, rfl, rfl, rfl, hb⟩ := hrel
                have HB : Hid (b = true ↔ ∀ j (hj : j < l.length), j < q → 0 ≤ l[j].1 ∧ l[j].1 ≤ 255) := hb
                clear hb
                by_cases hqk : q < k
                · have hql : q < l.length := by rw [HNL.out]; exact hqk
                  have i1 : (0 : Int) ≤ (q : Int) := by omega
                  have i2 : (q : Int) < (k : Int) := by omega
                  obtain ⟨g, off, u, rfl, d0, d1, _, _⟩ := HCELL.out wf (GFW.out) q hql
                  clear d1
                  obtain ⟨kd, hkd⟩ : ∃ kd, l[q].1 = kd := ⟨_, rfl⟩
                  have HKD : Hid _ := hkd
                  rw [hkd] at d0
                  clear hkd
                  cases b
                  · go_wp2_with fail
                    go_roundw
                    case rel =>
                      refine ⟨q + 1, false, by omega, by go_num, by go_num, trivial, fun h => absurd h (by simp), fun h => HB.out.2 fun j hj hjq => h j hj (by omega)⟩
                    case measure => simp [intOf]; omega
                  · by_cases k0 : kd < 0
                    · have k1 : ¬ 0 ≤ kd := by omega
                      go_wp2_with fail
                      go_roundw
                      case rel => exact ⟨q + 1, false, by omega, by go_num, by go_num, trivial, fun h => absurd h (by simp), fun h => absurd (h q hql (by omega)).1 (by rw [HKD.out]; exact k1)⟩
                      case measure => simp [intOf]; omega
                    · have k1 : 0 ≤ kd := by omega
                      by_cases k2 : kd ≤ 255
                      · go_wp2_with fail
                        go_roundw
                        case rel =>
                          refine ⟨q + 1, true, by omega, by go_num, by go_num, trivial, fun _ j hj hjq => ?_, fun _ => rfl⟩
                          by_cases hjq2 : j < q
                          · exact HB.out.1 rfl j hj hjq2
                          · obtain rfl : j = q := by omega
                            rw [HKD.out]
                            exact ⟨k1, k2⟩
                        case measure => simp [intOf]; omega
                      · go_wp2_with fail
                        go_roundw
                        case rel => exact ⟨q + 1, false, by omega, by go_num, by go_num, trivial, fun h => absurd h (by simp), fun h => absurd (h q hql (by omega)).2 (by rw [HKD.out]; exact k2)⟩
                        case measure => simp [intOf]; omega
                · obtain rfl : k = q := by omega
                  have HKL : Hid (b = true ↔ Kinds l) := by
                    refine ⟨fun h f hf => ?_, fun h => HB.out.2 fun j hj _ => h _ (List.getElem_mem hj)⟩
                    obtain ⟨j, hj, rfl⟩ := List.getElem_of_mem hf
                    exact HB.out.1 h j hj (by have := HNL.out; omega)
                  clear HB
                  cases b
                  · have HNK : Hid (¬ Kinds l) := fun h => absurd (HKL.out.2 h) (by simp)
                    clear HKL
                    go_wp2_with fail
                    go_loopw [15, 18] (fun x i wr => x = .slice none 0 0 ∧ i = .int .i64 0 ∧ wf = wr) (fun _ _ _ => 0)
                    case atStart => exact ⟨rfl, rfl, rfl⟩
                    case round =>
                      obtain ⟨rfl, rfl, rfl⟩ := hrel
                      have hz : (0 : Int) < (k : Int) ∨ ¬ (0 : Int) < (k : Int) := by omega
                      rcases hz with hz | hz
                      all_goals
                        go_wp2_with fail
                        refine (putall12 _ l _ (HF2.out.grown (GFW.out)) HSM.out.bodies (by have := HSM.out.len; omega) (by have := HSM.out.flat; omega)).mono ?_
                        rintro e w6 ⟨g6, hbad, _⟩
                        have he := hbad HNK.out
                        subst he
                        have G6 : Hid (w.grownBy w6 none) := grown_trans (GFW.out) g6
                        have cv3 : (convert 22 9 (.slice none 0 0)).run Try.prog w6 = .ok (.string ⟨([] : List UInt8).toArray⟩) w6 := seg_str (seg_nil w6)
                        clear g6 hbad
                        go_wp2_with (first | (go_at_call 10; refine (num10 _ _).mono ?_; rintro e wx ⟨rfl, hx⟩; rw [hx]; clear hx) | (go_at_call 9; refine (size9s _ n _ _ (by omega)).mono ?_; rintro e wx ⟨rfl, hx⟩; rw [hx]; clear hx))
                        try go_simp
                        try go_wp2_with (first | (go_at_call 10; refine (num10 _ _).mono ?_; rintro e wx ⟨rfl, hx⟩; rw [hx]; clear hx) | (go_at_call 9; refine (size9s _ n _ _ (by omega)).mono ?_; rintro e wx ⟨rfl, hx⟩; rw [hx]; clear hx))
                        refine (known7 _).mono ?_
                        rintro e wy ⟨rfl, gy⟩
                        have GY : Hid (w.grownBy wy none) := grown_trans G6.out gy
                        clear gy
                        go_wp2_with fail
                        go_ret
                        exact ⟨rfl, GY.out⟩
                  · have HK : Hid (Kinds l) := HKL.out.1 rfl
                    clear HKL
                    go_wp2_with fail
                    go_loopw [15, 18] (fun x i wr => ∃ (q : Nat) (ax : Option Addr) (cx : Nat), q ≤ k ∧ x = .slice ax (flat (l.take q)).length cx ∧ i = .int .i64 q ∧ Disk.Own wr wf.heap.size (.slice ax (flat (l.take q)).length cx) (flat (l.take q)) ∧ wf.grownBy wr none) (fun _ i _ => k - (intOf i).toNat)
                    case atStart => exact ⟨0, none, 0, Nat.zero_le _, rfl, rfl, Disk.Own.nil _ _, grown_refl _ _⟩
                    case round =>
                      obtain ⟨q, ax, cx, hq, rfl, rfl, hown, hgw⟩ := hrel
                      have HO : Hid (Disk.Own wr wf.heap.size (.slice ax (flat (l.take q)).length cx) (flat (l.take q)) ∧ wf.grownBy wr none) := ⟨hown, hgw⟩
                      obtain ⟨pl, hpl⟩ : ∃ pl, (flat (l.take q)).length = pl := ⟨_, rfl⟩
                      have HPL : Hid _ := hpl
                      have hpn : pl ≤ 16777216 := by rw [← hpl]; exact Nat.le_trans (flat_take_le l q) HSM.out.flat
                      rw [hpl] at HO ⊢
                      clear hown hgw hpl
                      by_cases hqk : q < k
                      · have hql : q < l.length := by rw [HNL.out]; exact hqk
                        have i1 : (0 : Int) ≤ (q : Int) := by omega
                        have i2 : (q : Int) < (k : Int) := by omega
                        have hGW : w.grownBy wr none := grown_trans (GFW.out) HO.out.2
                        obtain ⟨g, off, u, rfl, d0, d1, hs, hgl⟩ := HCELL.out wr hGW q hql
                        have hkq := HK.out l[q] (List.getElem_mem hql)
                        have hbq := HSM.out.bod l[q] (List.getElem_mem hql)
                        obtain ⟨kd, hkd⟩ : ∃ kd : Nat, l[q].1 = (kd : Int) := ⟨l[q].1.toNat, by omega⟩
                        have HKD : Hid (l[q].1.toNat = kd ∧ kd < 256) := ⟨by omega, by omega⟩
                        rw [hkd] at d0
                        obtain ⟨au, cu, hu⟩ := hs.shape
                        subst hu
                        obtain ⟨M, hM⟩ : ∃ M, l[q].2 = M := ⟨_, rfl⟩
                        have HM : Hid _ := hM
                        rw [hM] at d1 hs hbq
                        obtain ⟨m, hm⟩ : ∃ m, M.length = m := ⟨_, rfl⟩
                        rw [hm] at d1 hs hbq
                        have HMM : Hid (M.length = m) := hm
                        have HSU : Hid (Seg wr (.slice au m cu) M) := hs
                        have HQ : Hid (∀ x : World, wr.grownBy x (ax.map (·.block)) → x.cell? ⟨g, off + q * 2, none⟩ = some (.int .i64 (kd : Int)) ∧ x.cell? ⟨g, off + q * 2 + 1, none⟩ = some (.slice au m cu)) := by
                          intro x hx
                          have hne : ax.map (·.block) ≠ some g := by
                            intro e
                            have h1 := (HO.out.1.lt g (by rw [ovr_blk]; exact e)).1
                            have h2 : w.grownBy wf none := GFW.out
                            have := h2.size
                            omega
                          exact ⟨hx.cell d0 hne.symm, hx.cell d1 hne.symm⟩
                        clear hkq hkd d0 d1 hs hM hm hGW hgl
                        go_wp2_with fail
                        refine wp_region_noPanic ?_
                        refine wp_region_hold 1000 (fun x => wr.grownBy x (ax.map (·.block))) (by kernel_rfl) ?_
                        refine wpHold_take (i := 0) (v := _) (grown_drew _ _) rfl rfl (by kernel_rfl) (by kernel_rfl) (by kernel_rfl) (by kernel_rfl) (by kernel_rfl) (fun _ _ _ h => h) (by rfl) (fun wk hk => by obtain ⟨k0, k1⟩ := HQ.out wk hk; go_simp; try rfl) ?_
                        try simp only [Act.put, List.setIfInBounds_toArray, List.set_cons_zero, List.set_cons_succ]
                        refine wpHold_take (i := 1) (v := _) (grown_drew _ _) rfl rfl (by kernel_rfl) (by kernel_rfl) (by kernel_rfl) (by kernel_rfl) (by kernel_rfl) (fun _ _ _ h => h) (by rfl) (fun wk hk => by obtain ⟨k0, k1⟩ := HQ.out wk hk; go_simp; try rfl) ?_
                        try simp only [Act.put, List.setIfInBounds_toArray, List.set_cons_zero, List.set_cons_succ]
                        refine wpHold_take (i := 2) (v := _) (grown_drew _ _) rfl rfl (by kernel_rfl) (by kernel_rfl) (by kernel_rfl) (by kernel_rfl) (by kernel_rfl) (fun _ _ _ h => h) (by rfl) (fun wk hk => by obtain ⟨k0, k1⟩ := HQ.out wk hk; go_simp; try rfl) ?_
                        try simp only [Act.put, List.setIfInBounds_toArray, List.set_cons_zero, List.set_cons_succ]
                        refine wpHold_take (i := 3) (v := _) (grown_drew _ _) rfl rfl (by kernel_rfl) (by kernel_rfl) (by kernel_rfl) (by kernel_rfl) (by kernel_rfl) (fun _ _ _ h => h) (by rfl) (fun wk hk => by obtain ⟨k0, k1⟩ := HQ.out wk hk; go_simp; try rfl) ?_
                        try simp only [Act.put, List.setIfInBounds_toArray, List.set_cons_zero, List.set_cons_succ]
                        refine wpHold_take (i := 4) (v := _) (grown_drew _ _) rfl rfl (by kernel_rfl) (by kernel_rfl) (by kernel_rfl) (by kernel_rfl) (by kernel_rfl) (fun _ _ _ h => h) (by rfl) (fun wk hk => by obtain ⟨k0, k1⟩ := HQ.out wk hk; go_simp; try rfl) ?_
                        try simp only [Act.put, List.setIfInBounds_toArray, List.set_cons_zero, List.set_cons_succ]
                        refine wpHold_take (i := 5) (v := _) (grown_drew _ _) rfl rfl (by kernel_rfl) (by kernel_rfl) (by kernel_rfl) (by kernel_rfl) (by kernel_rfl) (fun _ _ _ h => h) (by rfl) (fun wk hk => by obtain ⟨k0, k1⟩ := HQ.out wk hk; go_simp; try rfl) ?_
                        try simp only [Act.put, List.setIfInBounds_toArray, List.set_cons_zero, List.set_cons_succ]
                        refine wpHold_take (i := 6) (v := _) (grown_drew _ _) rfl rfl (by kernel_rfl) (by kernel_rfl) (by kernel_rfl) (by kernel_rfl) (by kernel_rfl) (fun _ _ _ h => h) (by rfl) (fun wk hk => by obtain ⟨k0, k1⟩ := HQ.out wk hk; go_simp; try rfl) ?_
                        try simp only [Act.put, List.setIfInBounds_toArray, List.set_cons_zero, List.set_cons_succ]
                        refine wpHold_take (i := 7) (v := _) (grown_drew _ _) rfl rfl (by kernel_rfl) (by kernel_rfl) (by kernel_rfl) (by kernel_rfl) (by kernel_rfl) (fun _ _ _ h => h) (by rfl) (fun wk hk => by obtain ⟨k0, k1⟩ := HQ.out wk hk; go_simp; try rfl) ?_
                        try simp only [Act.put, List.setIfInBounds_toArray, List.set_cons_zero, List.set_cons_succ]
                        refine wpHold_take (i := 8) (v := _) (grown_drew _ _) rfl rfl (by kernel_rfl) (by kernel_rfl) (by kernel_rfl) (by kernel_rfl) (by kernel_rfl) (fun _ _ _ h => h) (by rfl) (fun wk hk => by obtain ⟨k0, k1⟩ := HQ.out wk hk; go_simp; try rfl) ?_
                        try simp only [Act.put, List.setIfInBounds_toArray, List.set_cons_zero, List.set_cons_succ]
                        refine wpHold_take (i := 9) (v := _) (grown_drew _ _) rfl rfl (by kernel_rfl) (by kernel_rfl) (by kernel_rfl) (by kernel_rfl) (by kernel_rfl) (fun _ _ _ h => h) (by rfl) (fun wk hk => by obtain ⟨k0, k1⟩ := HQ.out wk hk; go_simp; try rfl) ?_
                        try simp only [Act.put, List.setIfInBounds_toArray, List.set_cons_zero, List.set_cons_succ]
                        refine wpHold_take (i := 10) (v := _) (grown_drew _ _) rfl rfl (by kernel_rfl) (by kernel_rfl) (by kernel_rfl) (by kernel_rfl) (by kernel_rfl) (fun _ _ _ h => h) (by rfl) (fun wk hk => by obtain ⟨k0, k1⟩ := HQ.out wk hk; go_simp; try rfl) ?_
                        try simp only [Act.put, List.setIfInBounds_toArray, List.set_cons_zero, List.set_cons_succ]
                        refine wpHold_one (i := 11) rfl (by kernel_rfl) (by rfl) (fun K hK => ?_)
                        go_simp
                        refine (refput11 kd _ M _ HKD.out.2 (HSU.out.grown (grown_drew _ _)) (by rw [HMM.out]; omega)).mono ?_
                        rintro e w6 ⟨u6, rfl, o6, g6⟩
                        have G6 : Hid (wr.grownBy w6 none ∧ Disk.Own w6 wr.heap.size u6 (frm kd M)) := ⟨grown_trans (grown_drew _ _) g6, o6⟩
                        clear o6 g6
                        go_wp2_with fail
                        refine hK.out _ _ (fun _ => grown_weak G6.out.1 _) ?_
                        clear hK K
                        try simp only [Act.put, List.setIfInBounds_toArray, List.set_cons_zero, List.set_cons_succ]
                        refine wpHold_one (i := 12) rfl (by kernel_rfl) (by rfl) (fun K hK => ?_)
                        refine app22_wp _ _ _ rfl wf.heap.size (.slice ax pl cx) (flat (l.take q)) u6 (frm kd M) rfl rfl (HO.out.1.grown G6.out.1) G6.out.2.seg ?f0 ?f1 ?_
                        case f0 => rw [HPL.out, frm_len, HMM.out]; omega
                        case f1 => have h1 := HO.out.2.size; have h2 := G6.out.1.size; omega
                        intro v7 w7 o7 g7 l7
                        rw [ovr_blk] at g7
                        have H7 : Hid (wr.grownBy w7 (ax.map (·.block)) ∧ Disk.Own w7 wf.heap.size v7 (flat (l.take q) ++ frm kd M)) := ⟨grown_trans (grown_weak G6.out.1 _) g7, o7⟩
                        clear o7 g7 l7
                        go_wp2_with fail
                        refine hK.out _ _ (fun _ => H7.out.1) ?_
                        clear hK K
                        try simp only [Act.put, List.setIfInBounds_toArray, List.set_cons_zero, List.set_cons_succ]
                        refine wpHold_take (i := 13) (v := _) (H7.out.1) rfl rfl (by kernel_rfl) (by kernel_rfl) (by kernel_rfl) (by kernel_rfl) (by kernel_rfl) (fun _ _ _ h => h) (by rfl) (fun wk hk => by obtain ⟨k0, k1⟩ := HQ.out wk hk; go_simp; try rfl) ?_
                        try simp only [Act.put, List.setIfInBounds_toArray, List.set_cons_zero, List.set_cons_succ]
                        refine wpHold_done (by kernel_rfl) ?_
                        refine (‹∀ (a : Act) (w : World), Code.wp Try.prog _ _ a w → _› _ _ ?_)
                        have H8 : Hid (∃ (ay : Option Addr) (cy : Nat), v7 = .slice ay (flat (l.take (q + 1))).length cy ∧ Disk.Own w7 wf.heap.size (.slice ay (flat (l.take (q + 1))).length cy) (flat (l.take (q + 1))) ∧ wf.grownBy w7 none) := by
                          have o7 := H7.out.2
                          have e7 : flat (l.take q) ++ frm kd M = flat (l.take (q + 1)) := by rw [flat_take_succ l q hql, HKD.out.1, HM.out]
                          rw [e7] at o7
                          obtain ⟨ay, cy, hv7⟩ := o7.seg.shape
                          refine ⟨ay, cy, hv7, by rw [← hv7]; exact o7, grown_new HO.out.2 H7.out.1 (fun x hx => ?_)⟩
                          exact (HO.out.1.lt x (by rw [ovr_blk]; exact hx)).1
                        obtain ⟨ay, cy, hv7, h8⟩ := H8.out
                        subst hv7
                        have H9 : Hid _ := h8
                        clear h8 H8
                        go_wp2_with fail
                        go_roundw
                        case rel => exact ⟨q + 1, ay, cy, by omega, rfl, by go_num, H9.out.1, H9.out.2⟩
                        case measure => simp [intOf]; omega
                      · obtain rfl : k = q := by omega
                        have hz : ¬ (k : Int) < (k : Int) := by omega
                        have hGW : w.grownBy wr none := grown_trans (GFW.out) HO.out.2
                        have HGW : Hid (w.grownBy wr none) := hGW
                        have htk : l.take k = l := by rw [← HNL.out, List.take_length]
                        have HFL : Hid ((flat l).length = pl) := by have := HPL.out; rw [htk] at this; exact this
                        have HO2 : Hid (Disk.Own wr wf.heap.size (.slice ax pl cx) (flat l)) := by have := HO.out.1; rw [htk] at this; exact this
                        clear hGW htk
                        go_wp2_with fail
                        refine (putall12 _ l _ (HF2.out.grown HGW.out) HSM.out.bodies (by have := HSM.out.len; omega) (by have := HSM.out.flat; omega)).mono ?_
                        rintro e w6 ⟨g6, _, hgood⟩
                        obtain ⟨u6, he, o6⟩ := hgood HK.out
                        subst he
                        have G6 : Hid (w.grownBy w6 none) := grown_trans HGW.out g6
                        obtain ⟨S, hS⟩ : ∃ S : ByteArray, ⟨(flat l).toArray⟩ = S := ⟨_, rfl⟩
                        have cv3 : (convert 22 9 (.slice ax pl cx)).run Try.prog w6 = .ok (.string S) w6 := by rw [← hS]; exact seg_str (HO2.out.grown g6).seg
                        have cv4 : (convert 22 9 u6).run Try.prog w6 = .ok (.string S) w6 := by rw [← hS]; exact seg_str o6.seg
                        clear g6 hgood o6 hS
                        go_wp2_with (first | (go_at_call 10; refine (num10 _ _).mono ?_; rintro e wx ⟨rfl, hx⟩; rw [hx]; clear hx) | (go_at_call 9; refine (size9s _ n _ _ (by omega)).mono ?_; rintro e wx ⟨rfl, hx⟩; rw [hx]; clear hx))
                        try go_simp
                        try go_wp2_with (first | (go_at_call 10; refine (num10 _ _).mono ?_; rintro e wx ⟨rfl, hx⟩; rw [hx]; clear hx) | (go_at_call 9; refine (size9s _ n _ _ (by omega)).mono ?_; rintro e wx ⟨rfl, hx⟩; rw [hx]; clear hx))
                        refine (known7 _).mono ?_
                        rintro e wy ⟨rfl, gy⟩
                        have GY : Hid (w.grownBy wy none) := grown_trans G6.out gy
                        clear gy
                        go_wp2_with fail
                        go_ret
                        exact ⟨rfl, GY.out⟩
end Go.Proofs.Ytdfdlkpljgpckaa
