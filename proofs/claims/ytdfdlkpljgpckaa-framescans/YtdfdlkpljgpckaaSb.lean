/-
  FrameScans' walk.
-/
import Derived.Test.YtdfdlkpljgpckaaSa
import Derived.Test.YtdfdlkpljgpckaaRs
import Derived.Test.YtdfdlkpljgpckaaSm
import Derived.Deep.DeepCutAuto
namespace Go.Proofs.Ytdfdlkpljgpckaa
open Go.RowKit Disk

attribute [local go_sem ↓] eql40
set_option maxRecDepth 100000 in
set_option maxHeartbeats 8000000 in
theorem scans4 (v : Value) (L : List UInt8) (leave : Int) (w : World) (h : Seg w v L) : Calls Try.prog 4 #[v, .int .i64 leave] w fun e w' => e = .returned (.bool true) ∧ w.grownBy w' none := by
  obtain ⟨ao, cap, hv⟩ := h.shape
  subst hv
  obtain ⟨n, hn⟩ : ∃ n, L.length = n := ⟨_, rfl⟩
  have HS : Hid (Seg w (.slice ao n cap) L) := by rw [← hn]; exact h
  have HN : Hid (L.length = n) := hn
  rw [hn]
  clear hn h
  go_enter Try.func4, Try.ntmps4
  by_cases hbig : 60000 < n
  · have hbi : (60000 : Int) < (n : Int) := by omega
    go_wp2_with fail
    refine (known7 _).mono ?_
    rintro e w1 ⟨rfl, g1⟩
    have G1 : Hid (w.grownBy w1 none) := g1
    clear g1
    go_wp2_with fail
    go_ret
    exact ⟨rfl, G1.out⟩
  have hbi : ¬ (60000 : Int) < (n : Int) := by omega
  go_wp2_with (at_builtin; refine app22 _ rfl _ _ rfl w.heap.size _ [] _ L rfl rfl (Disk.Own.nil _ _) HS.out ?c0 (Nat.le_refl _) ?_)
  case c0 => have := HN.out; omega
  intro v1 w1 o1 g1 l1
  have H1 : Hid (Disk.Own w1 w.heap.size v1 L ∧ w.grownBy w1 none) := ⟨o1, g1⟩
  clear o1 g1 l1
  obtain ⟨a1, c1, hv1⟩ := H1.out.1.seg.shape
  rw [HN.out] at hv1
  subst hv1
  go_wp2_with (at_builtin; refine app22 _ rfl _ _ rfl w.heap.size _ L _ [119] rfl rfl (H1.out.1.grown (World.grownBy_alloc _ _ _)) (seg_lit w1 #[.int .u8 119] (0, 0) [119] rfl (by simp)) ?d0 ?d1 ?_)
  case d0 => rw [HN.out]; simp; omega
  case d1 => have := H1.out.2.size; simp; omega
  intro v2 w2 o2 g2 l2
  have H2 : Hid (Disk.Own w2 w.heap.size v2 (L ++ [119]) ∧ w.grownBy w2 none) := ⟨o2, grown_new (grown_trans H1.out.2 (World.grownBy_alloc _ _ _)) g2 (fun x hx => (H1.out.1.lt x hx).1)⟩
  clear o2 g2 l2 H1
  obtain ⟨a2, c2, hv2⟩ := H2.out.1.seg.shape
  have hl2 : (L ++ [119]).length = n + 1 := by rw [List.length_append, HN.out]; rfl
  have HL2 : Hid _ := hl2
  rw [hl2] at hv2
  subst hv2
  obtain ⟨go, hgo⟩ := own_ao H2.out.1 hl2 (by omega)
  subst hgo
  have HGO : Hid (w.heap.size ≤ go ∧ go < w2.heap.size) := H2.out.1.lt go rfl
  have hc2 : n + 1 ≤ c2 := by
    obtain ⟨a', c', hv, h1, _⟩ := H2.out.1.seg
    simp at hv
    rw [hl2] at h1
    omega
  have HT : Hid (Seg w2 (.slice (some ⟨go, 0, none⟩) n c2) L) := by
    have h1 : Seg w2 (.slice (some ⟨go, 0, none⟩) (L ++ [119]).length c2) (L ++ [119]) := by rw [hl2]; exact H2.out.1.seg
    have h2 := seg_take n (by rw [hl2]; omega) h1
    have e3 : (L ++ [119]).take n = L := by
      have := HN.out
      subst this
      exact List.take_left
    rw [e3] at h2
    exact h2
  clear hl2
  have hc3 : (n : Int) ≤ (c2 : Int) := by omega
  have hc4 : (0 : Int) ≤ (n : Int) := by omega
  have hc5 : n ≤ c2 := by omega
  go_wp2_with fail
  try go_simp
  try go_wp2_with fail
  refine (scan13 _ L _ HT.out (by rw [HN.out]; omega)).mono ?_
  rintro e w3 ⟨fs, R, vl, vs, hsc, rfl, hrow, g3⟩
  have HSC : Hid (Sc L fs R) := hsc
  have H3 : Hid (FRow w3 w2.heap.size vl vs fs ∧ w2.grownBy w3 none) := ⟨hrow, g3⟩
  have G3 : Hid (w.grownBy w3 none) := grown_trans H2.out.2 g3
  obtain ⟨nf, hnf⟩ : ∃ nf, fs.length = nf := ⟨_, rfl⟩
  have HNF : Hid (fs.length = nf) := hnf
  have hnf2 : nf * 9 ≤ n := by have := hsc.count; rw [HN.out, hnf] at this; exact this
  obtain ⟨al, cl, hvl⟩ := hrow.shape
  rw [hnf] at hvl
  subst hvl
  obtain ⟨fl, hfl⟩ : ∃ fl, (flat fs).length = fl := ⟨_, rfl⟩
  have hfl2 : fl ≤ n := by have := hsc.len; rw [HN.out, hfl] at this; omega
  obtain ⟨er, her⟩ : ∃ er, ends R = er := ⟨_, rfl⟩
  have HER : Hid (ends R = er) := her
  have her2 : er ≤ 141 := by
    rw [← her]
    unfold ends
    split
    · omega
    · rcases code_le R with e | e | e <;> omega
  have HFL : Hid _ := hfl
  rw [hfl, her]
  clear hrow g3 hnf
  go_wp2_with fail
  refine (refscan14 _ L _ (HS.out.grown G3.out) (by rw [HN.out]; omega)).mono ?_
  rintro e w4 ⟨fs', R', vw, vs2, hsc2, rfl, hrow, g4⟩
  obtain ⟨rfl, rfl⟩ := sc_unique _ hsc hsc2
  rw [hfl, her]
  have H4 : Hid (FRow w4 w3.heap.size vw vs2 fs ∧ w3.grownBy w4 none) := ⟨hrow, g4⟩
  have G4 : Hid (w.grownBy w4 none) := grown_trans G3.out g4
  obtain ⟨aw, cw, hvw⟩ := hrow.shape
  rw [HNF.out] at hvw
  subst hvw
  clear hrow g4 hsc hsc2 hfl her
  go_wp2_with (first | (go_at_call 10; refine (num10 _ _).mono ?_; rintro e wx ⟨rfl, hx⟩; rw [hx]; clear hx))
  try go_simp
  try go_wp2_with fail
  refine (all15 _ L _ (HT.out.grown (grown_trans H3.out.2 H4.out.2)) (by rw [HN.out]; omega)).mono ?_
  rintro e w5 ⟨Bx, u, rfl, ou, hbx, hlx, g5⟩
  have H5 : Hid (Disk.Own w5 w4.heap.size u L ∧ Blk w5 Bx 22 #[u] ∧ w4.heap.size ≤ Bx ∧ w4.grownBy w5 none) := ⟨ou, hbx, hlx, g5⟩
  have G5 : Hid (w.grownBy w5 none) := grown_trans G4.out g5
  clear ou hbx hlx g5
  go_wp2_with fail
  go_loopw [13] (fun i wr => ∃ k : Nat, k ≤ nf ∧ i = .int .i64 k ∧ LI w5 w2.heap.size w3.heap.size (.slice al nf cl) vs fs k wr) (fun i _ => nf - (intOf i).toNat)
  case atStart => exact ⟨0, Nat.zero_le _, rfl, LI.start H3.out.1 (grown_trans H4.out.2 H5.out.2.2.2)⟩
  case round =>
    obtain ⟨k, hk, rfl, hli⟩ := hrel
    have HLI : Hid (LI w5 w2.heap.size w3.heap.size (.slice al nf cl) vs fs k wr) := hli
    have k0 : (0 : Int) ≤ (k : Int) := by omega
    by_cases hlt : k < nf
    · have k1 : (k : Int) < (nf : Int) := by omega
      have hkf : k < fs.length := by rw [HNF.out]; exact hlt
      have hkv : k < vs.length := by rw [H3.out.1.len]; exact hkf
      have hkv2 : k < vs2.length := by rw [H4.out.1.len]; exact hkf
      obtain ⟨g, cg, cur, eg, hbg, d0, d1⟩ := hli.cell hkf hkv
      have hwt := hli.want H4.out.1 H5.out.2.2.2
      obtain ⟨g2, cg2, eg2, x0, x1, _⟩ := hwt.cell k hkf hkv2
      have ea := (Value.slice.inj eg).1
      have ea2 := (Value.slice.inj eg2).1
      subst ea ea2
      clear eg eg2
      have ho := hli.own k hkv hkf (Nat.le_refl _)
      have ho2 := hwt.each k hkv2 hkf
      obtain ⟨xa, xc, hx⟩ := ho.seg.shape
      obtain ⟨ya, yc, hy⟩ := ho2.seg.shape
      have HVX : Hid _ := hx
      rw [hx] at d1
      rw [hy] at x1
      obtain ⟨m, hm⟩ : ∃ m, fs[k].2.length = m := ⟨_, rfl⟩
      have HM : Hid _ := hm
      have hmn : m ≤ n := by
        have := (HSC.out.at k hkf).2.2.2
        rw [hm, HN.out] at this
        omega
      obtain ⟨kd, hkd⟩ : ∃ kd, fs[k].1 = kd := ⟨_, rfl⟩
      rw [hm] at d1 x1 hx hy HVX
      rw [hkd] at d0 x0
      have HSG : Hid (Disk.Own wr w2.heap.size (.slice xa m xc) fs[k].2 ∧ Seg wr (.slice ya m yc) fs[k].2) := by
        refine ⟨?_, ?_⟩
        · rw [← hx]; exact ho
        · rw [← hy]; exact ho2.seg
      have HBG : Hid (Blk wr g 25 cur) := hbg
      have HNG : Hid (∀ x, xa.map (·.block) = some x → some x ≠ some g) := by
        intro x hxx
        obtain ⟨vs', _, _, h3⟩ := hli.row
        have h4 := frow_own h3 HSG.out.1 (k := x) (by rw [ovr_blk]; exact hxx)
        intro e
        exact h4 (by rw [e]; rfl)
      have HQ : Hid (∀ x : World, wr.grownBy x none → x.cell? ⟨g, k * 2, none⟩ = some (.int .i64 kd) ∧ x.cell? ⟨g, k * 2 + 1, none⟩ = some (.slice xa m xc) ∧ x.cell? ⟨g2, k * 2, none⟩ = some (.int .i64 kd) ∧ x.cell? ⟨g2, k * 2 + 1, none⟩ = some (.slice ya m yc)) := fun x hx => ⟨hx.cell d0 (by simp), hx.cell d1 (by simp), hx.cell x0 (by simp), hx.cell x1 (by simp)⟩
      have HD1 : Hid (wr.cell? ⟨g, k * 2 + 1, none⟩ = some (.slice xa m xc)) := d1
      clear hbg d0 d1 x0 x1 ho ho2 hx hy hwt hli hm hkd
      go_wp2_with fail
      refine wp_region_noPanic ?_
      refine wp_region_hold 1000 (fun x => wr.grownBy x none) (by kernel_rfl) ?_
      refine wpHold_take (i := 0) (v := _) (grown_drew _ _) rfl rfl (by kernel_rfl) (by kernel_rfl) (by kernel_rfl) (by kernel_rfl) (by kernel_rfl) (fun _ _ _ h => h) (by rfl) (fun wk hk => by obtain ⟨k0, k1, k2, k3⟩ := HQ.out wk hk; go_simp; try rfl) ?_
      try simp only [Act.put, List.setIfInBounds_toArray, List.set_cons_zero, List.set_cons_succ]
      refine wpHold_take (i := 1) (v := _) (grown_drew _ _) rfl rfl (by kernel_rfl) (by kernel_rfl) (by kernel_rfl) (by kernel_rfl) (by kernel_rfl) (fun _ _ _ h => h) (by rfl) (fun wk hk => by obtain ⟨k0, k1, k2, k3⟩ := HQ.out wk hk; go_simp; try rfl) ?_
      try simp only [Act.put, List.setIfInBounds_toArray, List.set_cons_zero, List.set_cons_succ]
      refine wpHold_take (i := 2) (v := _) (grown_drew _ _) rfl rfl (by kernel_rfl) (by kernel_rfl) (by kernel_rfl) (by kernel_rfl) (by kernel_rfl) (fun _ _ _ h => h) (by rfl) (fun wk hk => by obtain ⟨k0, k1, k2, k3⟩ := HQ.out wk hk; go_simp; try rfl) ?_
      try simp only [Act.put, List.setIfInBounds_toArray, List.set_cons_zero, List.set_cons_succ]
      refine wpHold_take (i := 3) (v := _) (grown_drew _ _) rfl rfl (by kernel_rfl) (by kernel_rfl) (by kernel_rfl) (by kernel_rfl) (by kernel_rfl) (fun _ _ _ h => h) (by rfl) (fun wk hk => by obtain ⟨k0, k1, k2, k3⟩ := HQ.out wk hk; go_simp; try rfl) ?_
      try simp only [Act.put, List.setIfInBounds_toArray, List.set_cons_zero, List.set_cons_succ]
      refine wpHold_take (i := 4) (v := _) (grown_drew _ _) rfl rfl (by kernel_rfl) (by kernel_rfl) (by kernel_rfl) (by kernel_rfl) (by kernel_rfl) (fun _ _ _ h => h) (by rfl) (fun wk hk => by obtain ⟨k0, k1, k2, k3⟩ := HQ.out wk hk; go_simp; try rfl) ?_
      try simp only [Act.put, List.setIfInBounds_toArray, List.set_cons_zero, List.set_cons_succ]
      refine wpHold_take (i := 5) (v := _) (grown_drew _ _) rfl rfl (by kernel_rfl) (by kernel_rfl) (by kernel_rfl) (by kernel_rfl) (by kernel_rfl) (fun _ _ _ h => h) (by rfl) (fun wk hk => by obtain ⟨k0, k1, k2, k3⟩ := HQ.out wk hk; go_simp; try rfl) ?_
      try simp only [Act.put, List.setIfInBounds_toArray, List.set_cons_zero, List.set_cons_succ]
      refine wpHold_take (i := 6) (v := _) (grown_drew _ _) rfl rfl (by kernel_rfl) (by kernel_rfl) (by kernel_rfl) (by kernel_rfl) (by kernel_rfl) (fun _ _ _ h => h) (by rfl) (fun wk hk => by obtain ⟨k0, k1, k2, k3⟩ := HQ.out wk hk; go_simp; try rfl) ?_
      try simp only [Act.put, List.setIfInBounds_toArray, List.set_cons_zero, List.set_cons_succ]
      refine wpHold_take (i := 7) (v := _) (grown_drew _ _) rfl rfl (by kernel_rfl) (by kernel_rfl) (by kernel_rfl) (by kernel_rfl) (by kernel_rfl) (fun _ _ _ h => h) (by rfl) (fun wk hk => by obtain ⟨k0, k1, k2, k3⟩ := HQ.out wk hk; go_simp; try rfl) ?_
      try simp only [Act.put, List.setIfInBounds_toArray, List.set_cons_zero, List.set_cons_succ]
      refine wpHold_one (i := 8) rfl (by kernel_rfl) (by rfl) (fun K hK => ?_)
      go_simp
      refine (same16 kd kd (.slice xa m xc) (.slice ya m yc) fs[k].2 fs[k].2 _ (HSG.out.1.seg.grown (grown_drew _ _)) (HSG.out.2.grown (grown_drew _ _))).mono ?_
      rintro e w6 ⟨rfl, g6⟩
      have G6 : Hid (wr.grownBy w6 none) := grown_trans (grown_drew _ _) g6
      clear g6
      have dt : decide (kd = kd ∧ fs[k].2 = fs[k].2) = true := by simp
      rw [dt]
      clear dt
      go_wp2_with fail
      refine hK.out _ _ (fun _ => G6.out) ?_
      clear hK K
      try simp only [Act.put, List.setIfInBounds_toArray, List.set_cons_zero, List.set_cons_succ]
      refine wpHold_take (i := 9) (v := _) (G6.out) rfl rfl (by kernel_rfl) (by kernel_rfl) (by kernel_rfl) (by kernel_rfl) (by kernel_rfl) (fun _ _ _ h => h) (by rfl) (fun wk hk => by obtain ⟨k0, k1, k2, k3⟩ := HQ.out wk hk; go_simp; try rfl) ?_
      try simp only [Act.put, List.setIfInBounds_toArray, List.set_cons_zero, List.set_cons_succ]
      refine wpHold_done (by kernel_rfl) ?_
      refine (‹∀ (a : Act) (w : World), Code.wp Try.prog _ _ a w → _› _ _ ?_)
      go_wp2_with fail
      have HLI6 : Hid (LI w5 w2.heap.size w3.heap.size (.slice (some ⟨g, 0, none⟩) nf cl) vs fs k w6) := HLI.out.grown G6.out
      go_loopw [14] (fun i wi => ∃ (q : Nat) (X : List UInt8), q ≤ m ∧ i = .int .i64 q ∧ X.length = m ∧ Disk.Own wi w2.heap.size (.slice xa m xc) X ∧ w6.grownBy wi (xa.map (·.block))) (fun i _ => m - (intOf i).toNat)
      case atStart => exact ⟨0, fs[k].2, Nat.zero_le _, rfl, HM.out, HSG.out.1.grown G6.out, grown_refl _ _⟩
      case round =>
        obtain ⟨q, X, hq, rfl, hX, hown, hgi⟩ := hrel
        have HW : Hid (X.length = m ∧ Disk.Own wr w2.heap.size (.slice xa m xc) X ∧ w6.grownBy wr (xa.map (·.block)) ∧ Blk wr g 25 cur ∧ wr.cell? ⟨g, k * 2 + 1, none⟩ = some (.slice xa m xc)) := by
          have hb6 : Blk w6 g 25 cur := HBG.out.grown G6.out (by simp)
          have hbi : Blk wr g 25 cur := hb6.grown hgi (fun e => HNG.out g e rfl)
          refine ⟨hX, hown, hgi, hbi, ?_⟩
          rw [hbi.cell, ← HBG.out.cell]
          exact HD1.out
        clear hX hown hgi
        have d1 := HW.out.2.2.2.2
        have q0 : (0 : Int) ≤ (q : Int) := by omega
        by_cases hq2 : q < m
        · have q1 : (q : Int) < (m : Int) := by omega
          obtain ⟨gx, hgx⟩ := own_ao HW.out.2.1 HW.out.1 (by omega)
          subst hgx
          have hqX : q < X.length := by rw [HW.out.1]; exact hq2
          obtain ⟨y0, y1⟩ := own_facts HW.out.2.1 q hqX
          go_wp2_with fail
          go_roundw
          case rel =>
            refine ⟨q + 1, X.set q 90, by omega, by go_num, by rw [List.length_set]; exact HW.out.1, Wire.own_store HW.out.2.1 q 90 90 rfl, grown_trans HW.out.2.2.1 ?_⟩
            exact grown_setCell _ _ _ _
          case measure => simp [intOf]; omega
        · obtain rfl : q = m := by omega
          go_wp2_with (at_builtin; refine app22 _ rfl _ _ rfl w2.heap.size _ X _ [1, 2, 3] rfl rfl (HW.out.2.1.grown (World.grownBy_alloc _ _ _)) (seg_lit wr #[.int .u8 1, .int .u8 2, .int .u8 3] (0, 0) [1, 2, 3] rfl (by simp)) ?e0 ?e1 ?_)
          case e0 => rw [HW.out.1]; simp; omega
          case e1 => have h1 := HLI6.out.fr.size; have h2 := HW.out.2.2.1.size; have h3 := H5.out.2.2.2.size; have h4 := H4.out.2.size; have h5 := H3.out.2.size; simp; omega
          intro v8 w8 o8 g8 l8
          obtain ⟨a8, c8, hv8⟩ := o8.seg.shape
          have hl8 : (X ++ [1, 2, 3]).length = q + 3 := by rw [List.length_append, HW.out.1]; rfl
          rw [hl8] at hv8
          subst hv8
          have H8 : Hid (w6.grownBy w8 vs[k].ownBlock ∧ Blk w8 g 25 cur) := by
            rw [ovr_blk] at g8
            refine ⟨?_, ?_⟩
            · rw [HVX.out, ovr_blk]
              exact grown_trans (grown_trans HW.out.2.2.1 (World.grownBy_alloc _ _ _)) g8
            · exact (HW.out.2.2.2.1.grown (World.grownBy_alloc _ _ none) (by simp)).grown g8 (fun e => HNG.out g e rfl)
          have d2 : w8.cell? ⟨g, k * 2 + 1, none⟩ = some (.slice xa q xc) := by
            have h := HW.out.2.2.2.2
            rw [HW.out.2.2.2.1.cell] at h
            rw [H8.out.2.cell]
            exact h
          have f2 := H8.out.2.free (k * 2 + 1)
          clear o8 g8 l8 hl8 d1
          go_wp2_with fail
          go_roundw
          case rel => exact ⟨k + 1, by omega, by go_num, LI.step HLI6.out H3.out.1 hkv (by rw [HNF.out]) H8.out.1 _⟩
          case measure => simp [intOf]; omega
    · obtain rfl : k = nf := by omega
      have H9 : Hid (FRow wr w3.heap.size (.slice aw k cw) vs2 fs ∧ Disk.Own wr w4.heap.size u L ∧ Blk wr Bx 22 #[u] ∧ w.grownBy wr none ∧ Disk.Own wr w.heap.size (.slice (some ⟨go, 0, none⟩) (n + 1) c2) (L ++ [119])) := by
        have h1 := hli.low (grown_trans (grown_trans H3.out.2 H4.out.2) H5.out.2.2.2)
        have h4 := H4.out.2.size
        have h5 := H5.out.2.2.1
        obtain ⟨z1, z2, z3, z4⟩ := H5.out
        exact ⟨hli.want H4.out.1 z4, z1.same fun x hx => hli.high x (by have := (z1.lt x hx).1; omega) (z1.lt x hx).2, z2.same (hli.high Bx (by omega) z2.lt), grown_trans H2.out.2 h1, H2.out.1.grown h1⟩
      have HT9 : Hid (Seg wr (.slice (some ⟨go, 0, none⟩) n c2) L) := HT.out.grown (hli.low (grown_trans (grown_trans H3.out.2 H4.out.2) H5.out.2.2.2))
      clear hli
      go_wp2_with fail
      try go_simp
      try go_wp2_with fail
      refine (one17 _ L _ HT9.out).mono ?_
      rintro e w7 ⟨g7, hno, hyes⟩
      have G7 : Hid (wr.grownBy w7 none) := g7
      clear g7 HT9
      by_cases h1 : isOne L
      · obtain ⟨u7, rfl, o7⟩ := hyes h1
        have O7 : Hid (Disk.Own w7 wr.heap.size u7 (bodyOf L)) := o7
        obtain ⟨hfs, her⟩ := (sc_one HSC.out).1 h1
        have HFS : Hid _ := hfs
        obtain rfl : k = 1 := by rw [← HNF.out, hfs]; rfl
        obtain rfl : er = 0 := by rw [← HER.out, her]
        obtain ⟨a7, c7, hu7⟩ := o7.seg.shape
        obtain ⟨kd, hkd⟩ : ∃ kd : Int, ((kindOf L : Nat) : Int) = kd := ⟨_, rfl⟩
        obtain ⟨M, hM⟩ : ∃ M, bodyOf L = M := ⟨_, rfl⟩
        rw [hkd, hM] at HFS
        rw [hM] at O7 hu7
        obtain ⟨m, hm⟩ : ∃ m, M.length = m := ⟨_, rfl⟩
        rw [hm] at hu7
        subst hu7
        rw [hkd]
        clear hno hyes o7 hfs her hkd hM h1
        go_upto_region 22 with fail
        have H8 : Hid (Blk (w7.alloc (.cells #[(.int .i64 kd), (.slice a7 m c7)] 25)) w7.heap.size 25 #[(.int .i64 kd), (.slice a7 m c7)] ∧ w7.grownBy (w7.alloc (.cells #[(.int .i64 kd), (.slice a7 m c7)] 25)) none) := ⟨heap_alloc_new _ _, World.grownBy_alloc _ _ _⟩
        generalize hw8 : w7.alloc (.cells #[(.int .i64 kd), (.slice a7 m c7)] 25) = w8 at H8 ⊢
        clear hw8
        have HZ : Hid (FRow w8 w3.heap.size (.slice aw 1 cw) vs2 fs ∧ Disk.Own w8 w4.heap.size u L ∧ Blk w8 Bx 22 #[u] ∧ w.grownBy w8 none ∧ Disk.Own w8 w.heap.size (.slice (some ⟨go, 0, none⟩) (n + 1) c2) (L ++ [119])) := by
          obtain ⟨z1, z2, z3, z4, z5⟩ := H9.out
          have hg := grown_trans G7.out H8.out.2
          exact ⟨z1.grown hg, z2.grown hg, z3.grown hg (by simp), grown_trans z4 hg, z5.grown hg⟩
        have cv1 : (convert 22 9 (.slice (some ⟨go, 0, none⟩) (n + 1) c2)).run Try.prog w8 = .ok (.string ⟨(L ++ [119]).toArray⟩) w8 := seg_str HZ.out.2.2.2.2.seg
        have cv2 : (convert 22 9 (.slice ao n cap)).run Try.prog w8 = .ok (.string ⟨L.toArray⟩) w8 := seg_str (HS.out.grown HZ.out.2.2.2.1)
        have ad : (Op.stringOp .add ⟨L.toArray⟩ ⟨#[119]⟩).run Try.prog w8 = .ok (.string ⟨(L ++ [119]).toArray⟩) w8 := str_add L [119] w8 (by rw [HN.out]; simp; omega)
        have hrw := HZ.out.1
        rw [HFS.out] at hrw
        obtain ⟨g2, cg2, e2, x0, x1, _⟩ := hrw.cell 0 (by simp) (by rw [hrw.len]; simp)
        have ea2 := (Value.slice.inj e2).1
        subst ea2
        clear e2
        have ho2 := hrw.each 0 (by rw [hrw.len]; simp) (by simp)
        obtain ⟨ya, yc, hy⟩ := ho2.seg.shape
        rw [hy] at x1
        simp only [Nat.zero_mul, Nat.zero_add, List.getElem_cons_zero] at x0 x1 hy ho2
        rw [hm] at x1 hy
        have b0 := H8.out.1.cell 0
        have b1 := H8.out.1.cell 1
        simp at b0 b1
        have HSG : Hid (Seg w8 (.slice a7 m c7) M ∧ Seg w8 (.slice ya m yc) M) := by
          refine ⟨?_, ?_⟩
          · exact O7.out.seg.grown H8.out.2
          · rw [← hy]; exact ho2.seg
        have HQ : Hid (∀ x : World, w8.grownBy x none → x.cell? ⟨w7.heap.size, 0, none⟩ = some (.int .i64 kd) ∧ x.cell? ⟨w7.heap.size, 1, none⟩ = some (.slice a7 m c7) ∧ x.cell? ⟨g2, 0, none⟩ = some (.int .i64 kd) ∧ x.cell? ⟨g2, 1, none⟩ = some (.slice ya m yc)) := fun x hx => ⟨hx.cell b0 (by simp), hx.cell b1 (by simp), hx.cell x0 (by simp), hx.cell x1 (by simp)⟩
        clear hrw ho2 hy x0 x1 b0 b1
        go_wp2_with fail
        clear cv1 cv2 ad
        refine wp_region_noPanic ?_
        refine wp_region_hold 1000 (fun x => w8.grownBy x none) (by kernel_rfl) ?_
        refine wpHold_take (i := 0) (v := _) (grown_drew _ _) rfl rfl (by kernel_rfl) (by kernel_rfl) (by kernel_rfl) (by kernel_rfl) (by kernel_rfl) (fun _ _ _ h => h) (by rfl) (fun wk hk => by obtain ⟨k0, k1, k2, k3⟩ := HQ.out wk hk; go_simp; try rfl) ?_
        try simp only [Act.put, List.setIfInBounds_toArray, List.set_cons_zero, List.set_cons_succ]
        refine wpHold_take (i := 1) (v := _) (grown_drew _ _) rfl rfl (by kernel_rfl) (by kernel_rfl) (by kernel_rfl) (by kernel_rfl) (by kernel_rfl) (fun _ _ _ h => h) (by rfl) (fun wk hk => by obtain ⟨k0, k1, k2, k3⟩ := HQ.out wk hk; go_simp; try rfl) ?_
        try simp only [Act.put, List.setIfInBounds_toArray, List.set_cons_zero, List.set_cons_succ]
        refine wpHold_take (i := 2) (v := _) (grown_drew _ _) rfl rfl (by kernel_rfl) (by kernel_rfl) (by kernel_rfl) (by kernel_rfl) (by kernel_rfl) (fun _ _ _ h => h) (by rfl) (fun wk hk => by obtain ⟨k0, k1, k2, k3⟩ := HQ.out wk hk; go_simp; try rfl) ?_
        try simp only [Act.put, List.setIfInBounds_toArray, List.set_cons_zero, List.set_cons_succ]
        refine wpHold_take (i := 3) (v := _) (grown_drew _ _) rfl rfl (by kernel_rfl) (by kernel_rfl) (by kernel_rfl) (by kernel_rfl) (by kernel_rfl) (fun _ _ _ h => h) (by rfl) (fun wk hk => by obtain ⟨k0, k1, k2, k3⟩ := HQ.out wk hk; go_simp; try rfl) ?_
        try simp only [Act.put, List.setIfInBounds_toArray, List.set_cons_zero, List.set_cons_succ]
        refine wpHold_one (i := 4) rfl (by kernel_rfl) (by rfl) (fun K hK => ?_)
        go_simp
        refine (same16 kd kd (.slice a7 m c7) (.slice ya m yc) M M _ (HSG.out.1.grown (grown_drew _ _)) (HSG.out.2.grown (grown_drew _ _))).mono ?_
        rintro e w9 ⟨rfl, g9⟩
        have G9 : Hid (w8.grownBy w9 none) := grown_trans (grown_drew _ _) g9
        clear g9
        have dt : decide (kd = kd ∧ M = M) = true := by simp
        rw [dt]
        clear dt
        go_wp2_with fail
        refine hK.out _ _ (fun _ => G9.out) ?_
        clear hK K
        try simp only [Act.put, List.setIfInBounds_toArray, List.set_cons_zero, List.set_cons_succ]
        refine wpHold_take (i := 5) (v := _) (G9.out) rfl rfl (by kernel_rfl) (by kernel_rfl) (by kernel_rfl) (by kernel_rfl) (by kernel_rfl) (fun _ _ _ h => h) (by rfl) (fun wk hk => by obtain ⟨k0, k1, k2, k3⟩ := HQ.out wk hk; go_simp; try rfl) ?_
        try simp only [Act.put, List.setIfInBounds_toArray, List.set_cons_zero, List.set_cons_succ]
        refine wpHold_take (i := 6) (v := _) (G9.out) rfl rfl (by kernel_rfl) (by kernel_rfl) (by kernel_rfl) (by kernel_rfl) (by kernel_rfl) (fun _ _ _ h => h) (by rfl) (fun wk hk => by obtain ⟨k0, k1, k2, k3⟩ := HQ.out wk hk; go_simp; try rfl) ?_
        try simp only [Act.put, List.setIfInBounds_toArray, List.set_cons_zero, List.set_cons_succ]
        refine wpHold_take (i := 7) (v := _) (G9.out) rfl rfl (by kernel_rfl) (by kernel_rfl) (by kernel_rfl) (by kernel_rfl) (by kernel_rfl) (fun _ _ _ h => h) (by rfl) (fun wk hk => by obtain ⟨k0, k1, k2, k3⟩ := HQ.out wk hk; go_simp; try rfl) ?_
        try simp only [Act.put, List.setIfInBounds_toArray, List.set_cons_zero, List.set_cons_succ]
        refine wpHold_one (i := 8) rfl (by kernel_rfl) (by rfl) (fun K hK => ?_)
        go_simp
        refine (num10 _ _).mono ?_
        rintro e wx ⟨rfl, hx⟩
        rw [hx]
        clear hx
        go_wp2_with fail
        refine hK.out _ _ (fun _ => G9.out) ?_
        clear hK K
        try simp only [Act.put, List.setIfInBounds_toArray, List.set_cons_zero, List.set_cons_succ]
        refine wpHold_take (i := 9) (v := _) (G9.out) rfl rfl (by kernel_rfl) (by kernel_rfl) (by kernel_rfl) (by kernel_rfl) (by kernel_rfl) (fun _ _ _ h => h) (by rfl) (fun wk hk => by obtain ⟨k0, k1, k2, k3⟩ := HQ.out wk hk; go_simp; try rfl) ?_
        try simp only [Act.put, List.setIfInBounds_toArray, List.set_cons_zero, List.set_cons_succ]
        refine wpHold_take (i := 10) (v := _) (G9.out) rfl rfl (by kernel_rfl) (by kernel_rfl) (by kernel_rfl) (by kernel_rfl) (by kernel_rfl) (fun _ _ _ h => h) (by rfl) (fun wk hk => by obtain ⟨k0, k1, k2, k3⟩ := HQ.out wk hk; go_simp; try rfl) ?_
        try simp only [Act.put, List.setIfInBounds_toArray, List.set_cons_zero, List.set_cons_succ]
        refine wpHold_done (by kernel_rfl) ?_
        refine (‹∀ (a : Act) (w : World), Code.wp Try.prog _ _ a w → _› _ _ ?_)
        have HY : Hid (FRow w9 w3.heap.size (.slice (some ⟨g2, 0, none⟩) 1 cw) vs2 fs ∧ Disk.Own w9 w4.heap.size u L ∧ Blk w9 Bx 22 #[u] ∧ w.grownBy w9 none ∧ Disk.Own w9 w.heap.size (.slice (some ⟨go, 0, none⟩) (n + 1) c2) (L ++ [119])) := by
          obtain ⟨z1, z2, z3, z4, z5⟩ := HZ.out
          have hg := G9.out
          exact ⟨z1.grown hg, z2.grown hg, z3.grown hg (by simp), grown_trans z4 hg, z5.grown hg⟩
        clear HZ HSG HQ
        go_wp2_with fail
        go_loopw [17] (fun i wr => ∃ (q : Nat) (X : List UInt8), q ≤ n + 1 ∧ i = .int .i64 q ∧ X.length = n + 1 ∧ Disk.Own wr w.heap.size (.slice (some ⟨go, 0, none⟩) (n + 1) c2) X ∧ w9.grownBy wr (some go)) (fun i _ => n + 1 - (intOf i).toNat)
        case atStart => exact ⟨0, L ++ [119], Nat.zero_le _, rfl, HL2.out, HY.out.2.2.2.2, grown_refl _ _⟩
        case round =>
          obtain ⟨q, X, hq, rfl, hX, hown, hgi⟩ := hrel
          have HW : Hid (X.length = n + 1 ∧ Disk.Own wr w.heap.size (.slice (some ⟨go, 0, none⟩) (n + 1) c2) X ∧ w9.grownBy wr (some go)) := ⟨hX, hown, hgi⟩
          clear hX hown hgi
          have q0 : (0 : Int) ≤ (q : Int) := by omega
          by_cases hq2 : q < n + 1
          · have q1 : (q : Int) < (n : Int) + 1 := by omega
            have hqX : q < X.length := by rw [HW.out.1]; exact hq2
            obtain ⟨y0, y1⟩ := own_facts HW.out.2.1 q hqX
            go_wp2_with fail
            go_roundw
            case rel =>
              refine ⟨q + 1, X.set q 102, by omega, by go_num, by rw [List.length_set]; exact HW.out.1, Wire.own_store HW.out.2.1 q 102 102 rfl, grown_trans HW.out.2.2 ?_⟩
              exact grown_setCell _ _ _ _
            case measure => simp [intOf]; omega
          · obtain rfl : q = n + 1 := by omega
            have q2 : ¬ ((n : Int) + 1) < (n : Int) + 1 := by omega
            have HF : Hid (Blk wr Bx 22 #[u] ∧ Seg wr u L ∧ FSeg wr (.slice (some ⟨g2, 0, none⟩) 1 cw) fs ∧ w.grownBy wr none) := by
              obtain ⟨z1, z2, z3, z4, z5⟩ := HY.out
              have hg := HW.out.2.2
              have hgo := HGO.out
              have h1 := H3.out.2.size
              have h2 := H4.out.2.size
              have h3 := H5.out.2.2.1
              refine ⟨z3.grown hg (by simp; omega), ?_, FRow.fseg (B := w3.heap.size) (vs := vs2) ?_ ?_, grown_new z4 hg (fun x hx => by simp at hx; omega)⟩
              · exact Disk.Own.seg (B := w4.heap.size) (z2.same fun x hx => hg.block x (z2.lt x hx).2 (by have := (z2.lt x hx).1; simp; omega))
              · exact z1.same fun x hx => hg.block x (z1.lt hx).2 (by have := (z1.lt hx).1; simp; omega)
              · have := HNF.out; omega
            clear HW q0
            go_wp2_with fail
            refine (over18 Bx u L fs R _ leave _ HF.out.1 HF.out.2.1 (by rw [HN.out]; omega) HSC.out HF.out.2.2.1).mono ?_
            rintro e wa ⟨rfl, ga⟩
            have GA : Hid (wr.grownBy wa none) := ga
            clear ga
            go_wp2_with fail
            refine (over18 Bx u L fs R _ 0 _ (HF.out.1.grown GA.out (by simp)) (HF.out.2.1.grown GA.out) (by rw [HN.out]; omega) HSC.out (HF.out.2.2.1.grown GA.out)).mono ?_
            rintro e wb ⟨rfl, gb⟩
            have GB : Hid (wr.grownBy wb none) := grown_trans GA.out gb
            clear gb
            go_wp2_with fail
            refine (known7 _).mono ?_
            rintro e wc ⟨rfl, gc⟩
            have GC : Hid (w.grownBy wc none) := grown_trans HF.out.2.2.2 (grown_trans GB.out gc)
            clear gc
            go_wp2_with fail
            go_ret
            exact ⟨rfl, GC.out⟩
      · obtain rfl := hno h1
        clear hno hyes
        go_upto_region 22 with fail
        have H8 : Hid (Blk (w7.alloc (.cells #[(.int .i64 0), (.slice none 0 0)] 25)) w7.heap.size 25 #[(.int .i64 0), (.slice none 0 0)] ∧ w7.grownBy (w7.alloc (.cells #[(.int .i64 0), (.slice none 0 0)] 25)) none) := ⟨heap_alloc_new _ _, World.grownBy_alloc _ _ _⟩
        generalize hw8 : w7.alloc (.cells #[(.int .i64 0), (.slice none 0 0)] 25) = w8 at H8 ⊢
        clear hw8
        have HZ : Hid (FRow w8 w3.heap.size (.slice aw k cw) vs2 fs ∧ Disk.Own w8 w4.heap.size u L ∧ Blk w8 Bx 22 #[u] ∧ w.grownBy w8 none ∧ Disk.Own w8 w.heap.size (.slice (some ⟨go, 0, none⟩) (n + 1) c2) (L ++ [119])) := by
          obtain ⟨z1, z2, z3, z4, z5⟩ := H9.out
          have hg := grown_trans G7.out H8.out.2
          exact ⟨z1.grown hg, z2.grown hg, z3.grown hg (by simp), grown_trans z4 hg, z5.grown hg⟩
        have cv1 : (convert 22 9 (.slice (some ⟨go, 0, none⟩) (n + 1) c2)).run Try.prog w8 = .ok (.string ⟨(L ++ [119]).toArray⟩) w8 := seg_str HZ.out.2.2.2.2.seg
        have cv2 : (convert 22 9 (.slice ao n cap)).run Try.prog w8 = .ok (.string ⟨L.toArray⟩) w8 := seg_str (HS.out.grown HZ.out.2.2.2.1)
        have ad : (Op.stringOp .add ⟨L.toArray⟩ ⟨#[119]⟩).run Try.prog w8 = .ok (.string ⟨(L ++ [119]).toArray⟩) w8 := str_add L [119] w8 (by rw [HN.out]; simp; omega)
        have b0 := H8.out.1.cell 0
        have b1 := H8.out.1.cell 1
        simp at b0 b1
        by_cases hk1 : k = 1
        · subst hk1
          have her : ¬ er = 0 := fun h => h1 ((sc_one HSC.out).2 HNF.out (by rw [HER.out]; exact h))
          have her0 : ¬ (er : Int) = 0 := by omega
          clear h1
          go_upto_region 29 with (first | (go_at_call 10; refine (num10 _ _).mono ?_; rintro e wx ⟨rfl, hx⟩; rw [hx]; clear hx))
          clear cv1 cv2 ad b0 b1
          go_wp2_with fail
          go_loopw [17] (fun i wr => ∃ (q : Nat) (X : List UInt8), q ≤ n + 1 ∧ i = .int .i64 q ∧ X.length = n + 1 ∧ Disk.Own wr w.heap.size (.slice (some ⟨go, 0, none⟩) (n + 1) c2) X ∧ w8.grownBy wr (some go)) (fun i _ => n + 1 - (intOf i).toNat)
          case atStart => exact ⟨0, L ++ [119], Nat.zero_le _, rfl, HL2.out, HZ.out.2.2.2.2, grown_refl _ _⟩
          case round =>
            obtain ⟨q, X, hq, rfl, hX, hown, hgi⟩ := hrel
            have HW : Hid (X.length = n + 1 ∧ Disk.Own wr w.heap.size (.slice (some ⟨go, 0, none⟩) (n + 1) c2) X ∧ w8.grownBy wr (some go)) := ⟨hX, hown, hgi⟩
            clear hX hown hgi
            have q0 : (0 : Int) ≤ (q : Int) := by omega
            by_cases hq2 : q < n + 1
            · have q1 : (q : Int) < (n : Int) + 1 := by omega
              have hqX : q < X.length := by rw [HW.out.1]; exact hq2
              obtain ⟨y0, y1⟩ := own_facts HW.out.2.1 q hqX
              go_wp2_with fail
              go_roundw
              case rel =>
                refine ⟨q + 1, X.set q 102, by omega, by go_num, by rw [List.length_set]; exact HW.out.1, Wire.own_store HW.out.2.1 q 102 102 rfl, grown_trans HW.out.2.2 ?_⟩
                exact grown_setCell _ _ _ _
              case measure => simp [intOf]; omega
            · obtain rfl : q = n + 1 := by omega
              have q2 : ¬ ((n : Int) + 1) < (n : Int) + 1 := by omega
              have HF : Hid (Blk wr Bx 22 #[u] ∧ Seg wr u L ∧ FSeg wr (.slice aw 1 cw) fs ∧ w.grownBy wr none) := by
                obtain ⟨z1, z2, z3, z4, z5⟩ := HZ.out
                have hg := HW.out.2.2
                have hgo := HGO.out
                have h1 := H3.out.2.size
                have h2 := H4.out.2.size
                have h3 := H5.out.2.2.1
                refine ⟨z3.grown hg (by simp; omega), ?_, FRow.fseg (B := w3.heap.size) (vs := vs2) ?_ ?_, grown_new z4 hg (fun x hx => by simp at hx; omega)⟩
                · exact Disk.Own.seg (B := w4.heap.size) (z2.same fun x hx => hg.block x (z2.lt x hx).2 (by have := (z2.lt x hx).1; simp; omega))
                · exact z1.same fun x hx => hg.block x (z1.lt hx).2 (by have := (z1.lt hx).1; simp; omega)
                · have := HNF.out; omega
              clear HW q0
              go_wp2_with fail
              refine (over18 Bx u L fs R _ leave _ HF.out.1 HF.out.2.1 (by rw [HN.out]; omega) HSC.out HF.out.2.2.1).mono ?_
              rintro e wa ⟨rfl, ga⟩
              have GA : Hid (wr.grownBy wa none) := ga
              clear ga
              go_wp2_with fail
              refine (over18 Bx u L fs R _ 0 _ (HF.out.1.grown GA.out (by simp)) (HF.out.2.1.grown GA.out) (by rw [HN.out]; omega) HSC.out (HF.out.2.2.1.grown GA.out)).mono ?_
              rintro e wb ⟨rfl, gb⟩
              have GB : Hid (wr.grownBy wb none) := grown_trans GA.out gb
              clear gb
              go_wp2_with fail
              refine (known7 _).mono ?_
              rintro e wc ⟨rfl, gc⟩
              have GC : Hid (w.grownBy wc none) := grown_trans HF.out.2.2.2 (grown_trans GB.out gc)
              clear gc
              go_wp2_with fail
              go_ret
              exact ⟨rfl, GC.out⟩
        · have hk2 : ¬ (k : Int) = 1 := by omega
          clear h1
          go_upto_region 29 with (first | (go_at_call 10; refine (num10 _ _).mono ?_; rintro e wx ⟨rfl, hx⟩; rw [hx]; clear hx))
          clear cv1 cv2 ad b0 b1
          go_wp2_with fail
          go_loopw [17] (fun i wr => ∃ (q : Nat) (X : List UInt8), q ≤ n + 1 ∧ i = .int .i64 q ∧ X.length = n + 1 ∧ Disk.Own wr w.heap.size (.slice (some ⟨go, 0, none⟩) (n + 1) c2) X ∧ w8.grownBy wr (some go)) (fun i _ => n + 1 - (intOf i).toNat)
          case atStart => exact ⟨0, L ++ [119], Nat.zero_le _, rfl, HL2.out, HZ.out.2.2.2.2, grown_refl _ _⟩
          case round =>
            obtain ⟨q, X, hq, rfl, hX, hown, hgi⟩ := hrel
            have HW : Hid (X.length = n + 1 ∧ Disk.Own wr w.heap.size (.slice (some ⟨go, 0, none⟩) (n + 1) c2) X ∧ w8.grownBy wr (some go)) := ⟨hX, hown, hgi⟩
            clear hX hown hgi
            have q0 : (0 : Int) ≤ (q : Int) := by omega
            by_cases hq2 : q < n + 1
            · have q1 : (q : Int) < (n : Int) + 1 := by omega
              have hqX : q < X.length := by rw [HW.out.1]; exact hq2
              obtain ⟨y0, y1⟩ := own_facts HW.out.2.1 q hqX
              go_wp2_with fail
              go_roundw
              case rel =>
                refine ⟨q + 1, X.set q 102, by omega, by go_num, by rw [List.length_set]; exact HW.out.1, Wire.own_store HW.out.2.1 q 102 102 rfl, grown_trans HW.out.2.2 ?_⟩
                exact grown_setCell _ _ _ _
              case measure => simp [intOf]; omega
            · obtain rfl : q = n + 1 := by omega
              have q2 : ¬ ((n : Int) + 1) < (n : Int) + 1 := by omega
              have HF : Hid (Blk wr Bx 22 #[u] ∧ Seg wr u L ∧ FSeg wr (.slice aw k cw) fs ∧ w.grownBy wr none) := by
                obtain ⟨z1, z2, z3, z4, z5⟩ := HZ.out
                have hg := HW.out.2.2
                have hgo := HGO.out
                have h1 := H3.out.2.size
                have h2 := H4.out.2.size
                have h3 := H5.out.2.2.1
                refine ⟨z3.grown hg (by simp; omega), ?_, FRow.fseg (B := w3.heap.size) (vs := vs2) ?_ ?_, grown_new z4 hg (fun x hx => by simp at hx; omega)⟩
                · exact Disk.Own.seg (B := w4.heap.size) (z2.same fun x hx => hg.block x (z2.lt x hx).2 (by have := (z2.lt x hx).1; simp; omega))
                · exact z1.same fun x hx => hg.block x (z1.lt hx).2 (by have := (z1.lt hx).1; simp; omega)
                · have := HNF.out; omega
              clear HW q0
              go_wp2_with fail
              refine (over18 Bx u L fs R _ leave _ HF.out.1 HF.out.2.1 (by rw [HN.out]; omega) HSC.out HF.out.2.2.1).mono ?_
              rintro e wa ⟨rfl, ga⟩
              have GA : Hid (wr.grownBy wa none) := ga
              clear ga
              go_wp2_with fail
              refine (over18 Bx u L fs R _ 0 _ (HF.out.1.grown GA.out (by simp)) (HF.out.2.1.grown GA.out) (by rw [HN.out]; omega) HSC.out (HF.out.2.2.1.grown GA.out)).mono ?_
              rintro e wb ⟨rfl, gb⟩
              have GB : Hid (wr.grownBy wb none) := grown_trans GA.out gb
              clear gb
              go_wp2_with fail
              refine (known7 _).mono ?_
              rintro e wc ⟨rfl, gc⟩
              have GC : Hid (w.grownBy wc none) := grown_trans HF.out.2.2.2 (grown_trans GB.out gc)
              clear gc
              go_wp2_with fail
              go_ret
              exact ⟨rfl, GC.out⟩
end Go.Proofs.Ytdfdlkpljgpckaa
