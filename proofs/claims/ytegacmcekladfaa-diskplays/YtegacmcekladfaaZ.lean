/-
  DiskPlays' walk.
-/
import Derived.Test.YtegacmcekladfaaY
namespace Go.Proofs.Ytegacmcekladfaa
open Go.RowKit

set_option maxRecDepth 100000 in
set_option maxHeartbeats 4000000 in
theorem plays3 (c : Int) (u v sv : Value) (log : List UInt8) (Ls : List (List UInt8)) (L : List (Int × Int × List UInt8)) (w : World) (hu : Seg w u log) (hv : Segs w v Ls) (hs : StepsV w sv L) (hl : log.length ≤ 140737488351232) (hL : ∀ M ∈ Ls, M.length ≤ 140737488351232) (hn : Ls.length * 24 ≤ 140737488351232) :
    Calls Try.prog 3 #[.agg #[.int .i64 c, u, v], sv] w fun e w' => e = .returned (.bool true) ∧ w.grownBy w' none := by
  obtain ⟨au, cu, huv⟩ := hu.shape
  subst huv
  obtain ⟨aq, cq, hsv⟩ := hs.shape
  subst hsv
  obtain ⟨av, cv, rfl, hvl, hvc⟩ := id hv
  have HB : Hid (Blk (w.alloc (.cells #[.int .i64 c, .slice au log.length cu, .slice av Ls.length cv] 25)) w.heap.size 25 #[.int .i64 c, .slice au log.length cu, .slice av Ls.length cv] ∧ w.grownBy (w.alloc (.cells #[.int .i64 c, .slice au log.length cu, .slice av Ls.length cv] 25)) none) := ⟨heap_alloc_new _ _, World.grownBy_alloc _ _ _⟩
  have HU : Hid (Seg w (.slice au log.length cu) log ∧ Segs w (.slice av Ls.length cv) Ls ∧ StepsV w (.slice aq L.length cq) L) := ⟨hu, hv, hs⟩
  have HVC : Hid _ := hvc
  have HL : Hid (∀ M ∈ Ls, M.length ≤ 140737488351232) := hL
  obtain ⟨n, hnl⟩ : ∃ n, Ls.length = n := ⟨_, rfl⟩
  have HN : Hid (Ls.length = n) := hnl
  obtain ⟨q, hq⟩ : ∃ q, L.length = q := ⟨_, rfl⟩
  have HQ : Hid (L.length = q) := hq
  have hq2 : q ≤ 140737488355328 := by
    obtain ⟨_, _, _, h, _⟩ := hs
    omega
  obtain ⟨nl, hll⟩ : ∃ n, log.length = n := ⟨_, rfl⟩
  have HNL : Hid (log.length = nl) := hll
  rw [hll] at HB HU hl ⊢
  rw [hnl] at HB HU hvl hn ⊢
  rw [hq] at HU ⊢
  clear hu hv hs hvc hL hnl hq hll
  go_enter Try.func3, Try.ntmps3
  go_wp2_with fail
  generalize w.alloc (.cells #[.int .i64 c, .slice au nl cu, .slice av n cv] 25) = w0 at HB ⊢
  go_loopw [5, 6] (fun a i wr => ∃ (k : Nat) (vs : List Value), k ≤ n ∧ i = .int .i64 k ∧ vs.length = k ∧ LRow wr w0.heap.size a vs (Ls.take k) ∧ w0.grownBy wr none) (fun _ i _ => n - (intOf i).toNat)
  case atStart => exact ⟨0, [], by omega, rfl, rfl, by simpa using lrow_nil _ _, grown_refl _ _⟩
  case round =>
    obtain ⟨k, vs, hk, rfl, hvs, hrow, hg⟩ := hrel
    have hb := HB.out.1.grown hg (by simp)
    have b2 : wr.cell? ⟨w.heap.size, 2, none⟩ = some (.slice av n cv) := hb.cell 2
    obtain ⟨ar, cr, har⟩ := hrow.shape
    rw [hvs] at har
    subst har
    by_cases hlt : k < n
    · have hkl : k < Ls.length := by rw [HN.out]; exact hlt
      obtain ⟨bb, off, sk, rfl, hc, hsk⟩ := HVC.out k hkl
      have hcr := (grown_trans HB.out.2 hg).cell hc (by simp)
      have hskl := HL.out _ (List.getElem_mem hkl)
      have HR : Hid (LRow wr w0.heap.size (.slice ar k cr) vs (Ls.take k) ∧ w0.grownBy wr none ∧ Seg wr sk Ls[k] ∧ True) := ⟨hrow, hg, hsk.grown (grown_trans HB.out.2 hg), trivial⟩
      have i1 : (0 : Int) ≤ (k : Int) := by omega
      have i2 : (k : Int) < (n : Int) := by omega
      have i3 : (k : Int) < (n : Int) := by omega
      clear hb hrow hg hsk hc
      go_wp2_with fail
      refine (lent6 _ Ls[k] _ HR.out.2.2.1 (by omega)).mono ?_
      rintro e w1 ⟨um, rfl, lm, g1⟩
      have HR1 : Hid (LRow (w1.alloc (.cells #[um] 22)) w0.heap.size (.slice ar k cr) vs (Ls.take k) ∧ w0.grownBy (w1.alloc (.cells #[um] 22)) none ∧ Lent (w1.alloc (.cells #[um] 22)) w0.heap.size um Ls[k] ∧ (∀ j (hj : j < vs.length) a, vs[j].ownBlock = some a → um.ownBlock ≠ some a) ∧ w0.heap.size ≤ w1.heap.size) := by
        obtain ⟨h1, h2, h3, h4⟩ := HR.out
        have ga := World.grownBy_alloc w1 (.cells #[um] 22) none
        refine ⟨(h1.grown g1).grown ga, grown_trans h2 (grown_trans g1 ga), Lent.mono (lm.same fun k hk => ga.block k (lm.lt k hk).2 (by simp)) h2.size, fun j hj a ha e => ?_, Nat.le_trans h2.size g1.size⟩
        have q1 := ((h1.each j hj (by rw [← h1.len]; exact hj)).lt a ha).2
        have q2 := (lm.lt a e).1
        omega
      obtain ⟨gm, cm, hum, _⟩ := id lm
      clear lm g1 HR
      subst hum
      go_wp2_with (at_builtin; refine app23 _ rfl _ _ rfl w0.heap.size _ vs _ w1.heap.size rfl rfl (by have h := HR1.out.1.row; exact h) (by simp; rfl) rfl (by rw [hvs]; omega) (by have := HR1.out.2.2.2.2; simp; omega) ?_)
      intro v' w2 hr2 hg2
      have HR2 : Hid (LRow w2 w0.heap.size v' (vs ++ [.slice (some ⟨gm, 0, none⟩) Ls[k].length cm]) (Ls.take (k + 1)) ∧ w0.grownBy w2 none) := by
        obtain ⟨h1, h2, h3, h4, h5⟩ := HR1.out
        rw [List.take_succ_eq_append_getElem hkl]
        exact ⟨h1.snoc h3 h4 hg2 (by rw [hvs]; exact hr2), grown_new h2 hg2 (fun x hx => (World.ownsRow.lt h1.row x hx).1)⟩
      clear hr2 hg2 HR1
      go_wp2_with fail
      go_roundw
      case rel => exact ⟨k + 1, _, by omega, by go_num, by simp [hvs], HR2.out.1, HR2.out.2⟩
      case measure => simp [intOf]; omega
    · have ek : k = n := by omega
      subst ek
      rw [List.take_of_length_le (by rw [HN.out]; omega)] at hrow
      obtain ⟨wa, hwa⟩ : ∃ wa, wa = wr := ⟨_, rfl⟩
      subst hwa
      have HA : Hid (LRow wa w0.heap.size (.slice ar k cr) vs Ls ∧ w0.grownBy wa none ∧ w.grownBy wa none) := ⟨hrow, hg, grown_trans HB.out.2 hg⟩
      have b1 : wa.cell? ⟨w.heap.size, 1, none⟩ = some (.slice au nl cu) := hb.cell 1
      clear hrow hg hk hlt
      go_wp2_with fail
      refine (lent6 _ log _ (HU.out.1.grown HA.out.2.2) (by rw [HNL.out]; omega)).mono ?_
      rintro e w3 ⟨um, rfl, lm, g3⟩
      have HM3 : Hid (Lent w3 wa.heap.size um log ∧ wa.grownBy w3 none) := ⟨lm, g3⟩
      have hb3 := hb.grown g3 (by simp)
      have b0 : w3.cell? ⟨w.heap.size, 0, none⟩ = some (.int .i64 c) := hb3.cell 0
      clear lm g3 b1 b2 hb
      go_wp2_with fail
      refine (ofD c _ _ log Ls _ HM3.out.1.seg ((HA.out.1.grown HM3.out.2).segs (by rw [HN.out]; omega)) (by rw [HNL.out]; omega) HL.out).mono ?_
      rintro e w4 ⟨d, rfl, g4, F, d4, l4, u4⟩
      obtain ⟨X, hX⟩ : ∃ X, ofX c log Ls = X := ⟨_, rfl⟩
      have HFW : Hid (Few 0 X) := by rw [← hX]; exact ofX_few _ _ _ _
      have HX : Hid (ofX c log Ls = X) := hX
      rw [hX] at d4 ⊢
      clear hX
      have HM4 : Hid (w3.grownBy w4 none ∧ DQ w4 F d X ∧ (∀ k, F k → w3.heap.size ≤ k) ∧ ∀ k, F k → k < w4.heap.size) := ⟨g4, d4, l4, u4⟩
      have hb4 := hb3.grown g4 (by simp)
      have b0 : w4.cell? ⟨w.heap.size, 0, none⟩ = some (.int .i64 c) := hb4.cell 0
      have b1 : w4.cell? ⟨w.heap.size, 1, none⟩ = some (.slice au nl cu) := hb4.cell 1
      have b2 : w4.cell? ⟨w.heap.size, 2, none⟩ = some (.slice av k cv) := hb4.cell 2
      clear g4 d4 l4 u4 hb3
      go_wp2_with fail
      refine (ofR c _ _ log Ls _ (HU.out.1.grown (grown_trans HA.out.2.2 (grown_trans HM3.out.2 HM4.out.1))) (HU.out.2.1.grown (grown_trans HA.out.2.2 (grown_trans HM3.out.2 HM4.out.1))) (by rw [HNL.out]; omega) HL.out).mono ?_
      rw [HX.out]
      rintro e w5 ⟨r, rfl, g5, G, d5, l5, u5⟩
      have HM5 : Hid (Mid w w5 F G d r X X ∧ (∀ k, F k ∨ G k → w3.heap.size ≤ k) ∧ Lent w5 wa.heap.size um log ∧ wa.grownBy w5 none ∧ Blk w5 w.heap.size 25 #[.int .i64 c, .slice au nl cu, .slice av k cv]) := by
        obtain ⟨h1, h2, h3, h4⟩ := HM4.out
        refine ⟨mid_new (grown_trans HA.out.2.2 HM3.out.2) h1 h2 h3 h4 g5 d5 l5 u5, fun k hk => ?_, HM3.out.1.same fun k hk => (grown_trans h1 g5).block k (HM3.out.1.lt k hk).2 (by simp), grown_trans HM3.out.2 (grown_trans h1 g5), hb4.grown g5 (by simp)⟩
        rcases hk with hk | hk
        · exact h3 k hk
        · exact Nat.le_trans h1.size (l5 k hk)
      have hum : Hid (∀ k, um.ownBlock = some k → wa.heap.size ≤ k ∧ k < w3.heap.size) := fun k hk => HM3.out.1.lt k hk
      have hw3 : Hid (wa.heap.size ≤ w3.heap.size) := HM3.out.2.size
      clear g5 d5 l5 u5 HM4 HM3 hb4 b0 b1 b2
      have b1 : w5.cell? ⟨w.heap.size, 1, none⟩ = some (.slice au nl cu) := HM5.out.2.2.2.2.cell 1
      go_wp2_with fail
      refine (left9 _ _ wa.heap.size log _ HM5.out.2.2.1 (HU.out.1.grown HM5.out.1.gr) (by rw [HNL.out]; omega)).mono ?_
      rintro e w6 ⟨rfl, g6⟩
      have HM6 : Hid (Mid w w6 F G d r X X ∧ (∀ k, F k ∨ G k → wa.heap.size ≤ k) ∧ Rem w6 w0.heap.size (.slice ar k cr) vs Ls 0 ∧ Blk w6 w.heap.size 25 #[.int .i64 c, .slice au nl cu, .slice av k cv]) := by
        obtain ⟨h1, h2, h3, h4, h5⟩ := HM5.out
        have hz := HA.out.2.2.size
        have hq : ∀ k, um.ownBlock = some k → w.heap.size ≤ k ∧ ¬ F k ∧ ¬ G k := fun k hk => by
          have hh := hum.out k hk
          exact ⟨by omega, fun hf => by have := h2 k (.inl hf); omega, fun hf => by have := h2 k (.inr hf); omega⟩
        have gw : wa.grownBy w6 none := grown_new h4 g6 (fun k hk => (hum.out k hk).1)
        exact ⟨h1.over g6 hq, fun k hk => Nat.le_trans hw3.out (h2 k hk), (HA.out.1.grown gw).rem, h5.grown g6 (fun e => by have := hum.out _ e; have := h5.lt; have hx := (HB.out.1.grown HA.out.2.1 (by simp)).lt; omega)⟩
      have HFAR : Hid (∀ i j (hi : i < vs.length) (hj : j < vs.length), i ≠ j → ∀ a, vs[i].ownBlock = some a → vs[j].ownBlock ≠ some a) := HA.out.1.far
      have HVB : Hid (∀ j (hj : j < vs.length) a, vs[j].ownBlock = some a → a < wa.heap.size) := fun j hj a ha => ((HA.out.1.each j hj (by rw [← HA.out.1.len]; exact hj)).lt a ha).2
      have hz0 : Hid (w.heap.size < w0.heap.size) := HB.out.1.lt
      clear g6 HM5 b1 hum hw3
      go_wp2_with fail
      go_loopw [11, 12] (fun o i wr => ∃ j : Nat, j ≤ k ∧ i = .int .i64 j ∧ o = .bool true ∧ Mid w wr F G d r X X ∧ Rem wr w0.heap.size (.slice ar k cr) vs Ls j ∧ Blk wr w.heap.size 25 #[.int .i64 c, .slice au nl cu, .slice av k cv]) (fun _ i _ => k - (intOf i).toNat)
      case atStart => exact ⟨0, by omega, rfl, rfl, HM6.out.1, HM6.out.2.2.1, HM6.out.2.2.2⟩
      case round =>
        obtain ⟨j, hj, rfl, rfl, hmid, hrem, hblk⟩ := hrel
        by_cases hlt : j < k
        · have hjv : j < vs.length := by rw [hvs]; exact hlt
          have hjl : j < Ls.length := by rw [HN.out]; exact hlt
          obtain ⟨gr, hgr⟩ : ∃ gr, ar = some ⟨gr, 0, none⟩ := by
            rcases hrem.1.2 with ⟨_, h0⟩ | ⟨g, cap, cur, e, _⟩
            · omega
            · simp at e; exact ⟨g, e.1⟩
          subst hgr
          obtain ⟨bb, off, sk, rfl, hc, hsk⟩ := HVC.out j hjl
          obtain ⟨vj, hvj⟩ : ∃ x, vs[j] = x := ⟨_, rfl⟩
          have k1 : wr.cell? ⟨gr, j, none⟩ = some vj := by rw [← hvj]; exact hrem.cell hvs j hjv
          have k2 : wr.cell? ⟨w.heap.size, 2, none⟩ = some (.slice (some ⟨bb, off, none⟩) k cv) := hblk.cell 2
          have k3 : wr.cell? ⟨bb, off + j, none⟩ = some sk := hmid.gr.cell hc (by simp)
          have hlj : Lent wr w0.heap.size vj Ls[j] := by rw [← hvj]; exact hrem.2 j (Nat.le_refl _) hjv hjl
          have hskl := HL.out _ (List.getElem_mem hjl)
          have HJ : Hid (Mid w wr F G d r X X ∧ Rem wr w0.heap.size (.slice (some ⟨gr, 0, none⟩) k cr) vs Ls j ∧ Blk wr w.heap.size 25 #[.int .i64 c, .slice au nl cu, .slice (some ⟨bb, off, none⟩) k cv] ∧ Lent wr w0.heap.size vj Ls[j] ∧ Seg wr sk Ls[j]) := ⟨hmid, hrem, hblk, hlj, hsk.grown hmid.gr⟩
          have HVJ : Hid (vs[j] = vj) := hvj
          have HCC : Hid (w.cell? ⟨bb, off + j, none⟩ = some sk ∧ wr.cell? ⟨gr, j, none⟩ = some vj) := ⟨hc, k1⟩
          have i1 : (0 : Int) ≤ (j : Int) := by omega
          have i2 : (j : Int) < (k : Int) := by omega
          obtain ⟨vg, vcap, vcur, evj, hvb, hvg⟩ := hlj.blk
          clear hmid hrem hblk hlj hsk hc hvj
          subst evj
          have HVG : Hid (Blk wr vg 5 vcur ∧ w0.heap.size ≤ vg) := ⟨hvb, hvg⟩
          clear hvb hvg
          have HH : Hid (wr.cell? ⟨gr, j, none⟩ = some (.slice (some ⟨vg, 0, none⟩) Ls[j].length vcap) ∧ wr.cell? ⟨w.heap.size, 2, none⟩ = some (.slice (some ⟨bb, off, none⟩) k cv) ∧ wr.cell? ⟨bb, off + j, none⟩ = some sk) := ⟨k1, k2, k3⟩
          go_wp2_with fail
          clear k1 k2 k3
          refine wp_region_noPanic ?_
          refine wp_region_hold 1000 (fun x => x.cell? ⟨gr, j, none⟩ = some (.slice (some ⟨vg, 0, none⟩) Ls[j].length vcap) ∧ x.cell? ⟨w.heap.size, 2, none⟩ = some (.slice (some ⟨bb, off, none⟩) k cv) ∧ x.cell? ⟨bb, off + j, none⟩ = some sk) (by kernel_rfl) ?_
          refine wpHold_take (i := 0) (v := _) (HH.out) rfl rfl (by kernel_rfl) (by kernel_rfl) (by kernel_rfl) (by kernel_rfl) (by kernel_rfl) (fun _ _ _ h => h) (by rfl) (fun wk hk => by obtain ⟨k1, k2, k3⟩ := hk; go_simp; try rfl) ?_
          try simp only [Act.put, List.setIfInBounds_toArray, List.set_cons_zero, List.set_cons_succ]
          refine wpHold_take (i := 1) (v := _) (HH.out) rfl rfl (by kernel_rfl) (by kernel_rfl) (by kernel_rfl) (by kernel_rfl) (by kernel_rfl) (fun _ _ _ h => h) (by rfl) (fun wk hk => by obtain ⟨k1, k2, k3⟩ := hk; go_simp; try rfl) ?_
          try simp only [Act.put, List.setIfInBounds_toArray, List.set_cons_zero, List.set_cons_succ]
          refine wpHold_take (i := 2) (v := _) (HH.out) rfl rfl (by kernel_rfl) (by kernel_rfl) (by kernel_rfl) (by kernel_rfl) (by kernel_rfl) (fun _ _ _ h => h) (by rfl) (fun wk hk => by obtain ⟨k1, k2, k3⟩ := hk; go_simp; try rfl) ?_
          try simp only [Act.put, List.setIfInBounds_toArray, List.set_cons_zero, List.set_cons_succ]
          refine wpHold_take (i := 3) (v := _) (HH.out) rfl rfl (by kernel_rfl) (by kernel_rfl) (by kernel_rfl) (by kernel_rfl) (by kernel_rfl) (fun _ _ _ h => h) (by rfl) (fun wk hk => by obtain ⟨k1, k2, k3⟩ := hk; go_simp; try rfl) ?_
          try simp only [Act.put, List.setIfInBounds_toArray, List.set_cons_zero, List.set_cons_succ]
          refine wpHold_take (i := 4) (v := _) (HH.out) rfl rfl (by kernel_rfl) (by kernel_rfl) (by kernel_rfl) (by kernel_rfl) (by kernel_rfl) (fun _ _ _ h => h) (by rfl) (fun wk hk => by obtain ⟨k1, k2, k3⟩ := hk; go_simp; try rfl) ?_
          try simp only [Act.put, List.setIfInBounds_toArray, List.set_cons_zero, List.set_cons_succ]
          refine wpHold_take (i := 5) (v := _) (HH.out) rfl rfl (by kernel_rfl) (by kernel_rfl) (by kernel_rfl) (by kernel_rfl) (by kernel_rfl) (fun _ _ _ h => h) (by rfl) (fun wk hk => by obtain ⟨k1, k2, k3⟩ := hk; go_simp; try rfl) ?_
          try simp only [Act.put, List.setIfInBounds_toArray, List.set_cons_zero, List.set_cons_succ]
          refine wpHold_take (i := 6) (v := _) (HH.out) rfl rfl (by kernel_rfl) (by kernel_rfl) (by kernel_rfl) (by kernel_rfl) (by kernel_rfl) (fun _ _ _ h => h) (by rfl) (fun wk hk => by obtain ⟨k1, k2, k3⟩ := hk; go_simp; try rfl) ?_
          try simp only [Act.put, List.setIfInBounds_toArray, List.set_cons_zero, List.set_cons_succ]
          refine wpHold_take (i := 7) (v := _) (HH.out) rfl rfl (by kernel_rfl) (by kernel_rfl) (by kernel_rfl) (by kernel_rfl) (by kernel_rfl) (fun _ _ _ h => h) (by rfl) (fun wk hk => by obtain ⟨k1, k2, k3⟩ := hk; go_simp; try rfl) ?_
          try simp only [Act.put, List.setIfInBounds_toArray, List.set_cons_zero, List.set_cons_succ]
          refine wpHold_take (i := 8) (v := _) (HH.out) rfl rfl (by kernel_rfl) (by kernel_rfl) (by kernel_rfl) (by kernel_rfl) (by kernel_rfl) (fun _ _ _ h => h) (by rfl) (fun wk hk => by obtain ⟨k1, k2, k3⟩ := hk; go_simp; try rfl) ?_
          try simp only [Act.put, List.setIfInBounds_toArray, List.set_cons_zero, List.set_cons_succ]
          refine wpHold_one (i := 9) rfl (by kernel_rfl) (by rfl) (fun K hK => ?_)
          go_simp
          refine (left9 _ _ w0.heap.size Ls[j] wr.drew (HJ.out.2.2.2.1.same fun _ _ => rfl) (HJ.out.2.2.2.2.grown (grown_drew _ _)) (by omega)).mono ?_
          rintro e w7 ⟨rfl, g7⟩
          have G7 : wr.grownBy w7 (some vg) := grown_trans (grown_drew _ _) g7
          have HJ7 : Hid (Mid w w7 F G d r X X ∧ Rem w7 w0.heap.size (.slice (some ⟨gr, 0, none⟩) k cr) vs Ls (j + 1) ∧ Blk w7 w.heap.size 25 #[.int .i64 c, .slice au nl cu, .slice (some ⟨bb, off, none⟩) k cv]) := by
            obtain ⟨h1, h2, h3, h4, h5⟩ := HJ.out
            have hz := hz0.out
            have hvl : vg < wa.heap.size := HVB.out j hjv vg (by rw [HVJ.out]; rfl)
            refine ⟨h1.over G7 fun x hx => ?_, h2.step HFAR.out hjv hjl (by rw [HVJ.out]; exact G7), h3.grown G7 (fun e => ?_)⟩
            · simp at hx
              subst hx
              exact ⟨by have := HVG.out.2; omega, fun hf => by have := HM6.out.2.1 _ (.inl hf); omega, fun hf => by have := HM6.out.2.1 _ (.inr hf); omega⟩
            · simp at e
              have := HVG.out.2
              omega
          have HH7 : Hid (w7.cell? ⟨gr, j, none⟩ = some (.slice (some ⟨vg, 0, none⟩) Ls[j].length vcap) ∧ w7.cell? ⟨w.heap.size, 2, none⟩ = some (.slice (some ⟨bb, off, none⟩) k cv) ∧ w7.cell? ⟨bb, off + j, none⟩ = some sk) := by
            refine ⟨?_, HJ7.out.2.2.cell 2, HJ7.out.1.gr.cell HCC.out.1 (by simp)⟩
            have h := HJ7.out.2.1.cell hvs j hjv
            rw [HVJ.out] at h
            exact h
          clear g7 G7
          go_wp2_with fail
          refine hK.out _ _ (fun _ => HH7.out) ?_
          clear hK K
          try simp only [Act.put, List.setIfInBounds_toArray, List.set_cons_zero, List.set_cons_succ]
          refine wpHold_take (i := 10) (v := _) (HH7.out) rfl rfl (by kernel_rfl) (by kernel_rfl) (by kernel_rfl) (by kernel_rfl) (by kernel_rfl) (fun _ _ _ h => h) (by rfl) (fun wk hk => by obtain ⟨k1, k2, k3⟩ := hk; go_simp; try rfl) ?_
          try simp only [Act.put, List.setIfInBounds_toArray, List.set_cons_zero, List.set_cons_succ]
          refine wpHold_take (i := 11) (v := _) (HH7.out) rfl rfl (by kernel_rfl) (by kernel_rfl) (by kernel_rfl) (by kernel_rfl) (by kernel_rfl) (fun _ _ _ h => h) (by rfl) (fun wk hk => by obtain ⟨k1, k2, k3⟩ := hk; go_simp; try rfl) ?_
          try simp only [Act.put, List.setIfInBounds_toArray, List.set_cons_zero, List.set_cons_succ]
          refine wpHold_take (i := 12) (v := _) (HH7.out) rfl rfl (by kernel_rfl) (by kernel_rfl) (by kernel_rfl) (by kernel_rfl) (by kernel_rfl) (fun _ _ _ h => h) (by rfl) (fun wk hk => by obtain ⟨k1, k2, k3⟩ := hk; go_simp; try rfl) ?_
          try simp only [Act.put, List.setIfInBounds_toArray, List.set_cons_zero, List.set_cons_succ]
          refine wpHold_take (i := 13) (v := _) (HH7.out) rfl rfl (by kernel_rfl) (by kernel_rfl) (by kernel_rfl) (by kernel_rfl) (by kernel_rfl) (fun _ _ _ h => h) (by rfl) (fun wk hk => by obtain ⟨k1, k2, k3⟩ := hk; go_simp; try rfl) ?_
          try simp only [Act.put, List.setIfInBounds_toArray, List.set_cons_zero, List.set_cons_succ]
          refine wpHold_done (by kernel_rfl) ?_
          refine (‹∀ (a : Act) (w : World), Code.wp Try.prog _ _ a w → _› _ _ ?_)
          go_wp2_with fail
          go_roundw
          case rel => exact ⟨j + 1, by omega, by go_num, rfl, HJ7.out.1, HJ7.out.2.1, HJ7.out.2.2⟩
          case measure => simp [intOf]; omega
        · obtain ⟨wb, hwb⟩ : ∃ wb, wb = wr := ⟨_, rfl⟩
          subst hwb
          have HP : Hid (Mid w wb F G d r X X) := hmid
          clear hmid hrem hblk HM6 HFAR HVB hz0 HA HVC HB HX
          have HT : Hid _ := tellsQ F G d r X wb HP.out.dq HP.out.rq
          have hcase : (X = none ∧ d = .pointer none ∧ r = .pointer none ∧ ofCode X = 2) ∨ (∃ b1 b2, d = .pointer (some ⟨b1, 0, none⟩) ∧ r = .pointer (some ⟨b2, 0, none⟩) ∧ ofCode X = 0) := by
            rcases HP.out.dq.isNil with ⟨e1, e2⟩ | ⟨S, b, e1, e2⟩
            · rcases HP.out.rq.isNil with ⟨_, e4⟩ | ⟨S, b, e3, e4⟩
              · exact .inl ⟨e1, e2, e4, by rw [e1]; rfl⟩
              · rw [e1] at e3; cases e3
            · rcases HP.out.rq.isNil with ⟨e3, e4⟩ | ⟨S', b', e3, e4⟩
              · rw [e1] at e3; cases e3
              · exact .inr ⟨b, b', e2, e4, by rw [e1]; rfl⟩
          rcases hcase with ⟨_, ed, er, ec⟩ | ⟨b1, b2, ed, er, ec⟩
          all_goals
            subst ed er
            rw [ec]
            clear ec
            go_wp2_with fail
            refine Calls.mono HT.out ?_
            rintro e wt ⟨rfl, gt⟩
            have HPT : Hid (Mid w wt F G _ _ X X) := HP.out.grown gt
            clear gt HT HP
            go_wp2_with fail
            go_loopw [8, 10, 11, 13] (fun d r o i wr => ∃ (j : Nat) (X' : Option St), j ≤ q ∧ i = .int .i64 j ∧ o = .bool true ∧ PairQ w wr d r X' ∧ Few j X') (fun _ _ _ i _ => q - (intOf i).toNat)
            case atStart => exact ⟨0, X, by omega, rfl, rfl, ⟨F, G, HPT.out⟩, HFW.out⟩
            case round =>
              obtain ⟨j, X', hj, rfl, rfl, hpair, hfew⟩ := hrel
              have HPR : Hid (PairQ w wr _ _ X' ∧ Few j X') := ⟨hpair, hfew⟩
              have hgr : w.grownBy wr none := by obtain ⟨_, _, h⟩ := hpair; exact h.gr
              clear hpair hfew
              by_cases hlt : j < q
              · have hjl : j < L.length := by rw [HQ.out]; exact hlt
                obtain ⟨_, _, hv, _, h4⟩ := HU.out.2.2
                simp at hv
                obtain ⟨bs, offs, us, es, k0, k1, k2, hsg, hsl, hn1, hn2⟩ := h4 j hjl
                have e1 : aq = some ⟨bs, offs, none⟩ := by rw [hv.1, es]
                subst e1
                have k0 := hgr.cell k0 (by simp)
                have k1 := hgr.cell k1 (by simp)
                have k2 := hgr.cell k2 (by simp)
                obtain ⟨st, hst⟩ : ∃ st, L[j] = st := ⟨_, rfl⟩
                rw [hst] at k0 k1 hsg hsl hn1 hn2
                obtain ⟨kd, nn, MM⟩ := st
                simp only at k0 k1 hsg hsl hn1 hn2
                have HSG : Hid (Seg w us MM) := hsg
                obtain ⟨a3, c3, e3⟩ := hsg.shape
                subst e3
                have i1 : (0 : Int) ≤ (j : Int) := by omega
                have i2 : (j : Int) < (q : Int) := by omega
                clear h4 hv es hst hsg
                go_wp2_with fail
                refine (does11 w wr _ _ X' j kd nn _ MM HPR.out.1 HPR.out.2 (by omega) HSG.out hsl hn1 hn2).mono ?_
                rintro e w8 ⟨d', r', rfl, X8, ⟨F8, G8, p8⟩, f8, _⟩
                have HP8 : Hid (Mid w w8 F8 G8 d' r' X8 X8 ∧ Few (j + 1) X8) := ⟨p8, f8⟩
                clear p8 f8 k0 k1 k2
                go_wp2_with fail
                refine (tellsQ F8 G8 d' r' X8 _ HP8.out.1.dq HP8.out.1.rq).mono ?_
                rintro e w9 ⟨rfl, g9⟩
                have HP9 : Hid (PairQ w w9 d' r' X8 ∧ Few (j + 1) X8) := ⟨⟨F8, G8, HP8.out.1.grown g9⟩, HP8.out.2⟩
                clear g9 HP8
                go_wp2_with fail
                go_roundw
                case rel => exact ⟨j + 1, X8, by omega, by go_num, rfl, HP9.out.1, HP9.out.2⟩
                case measure => simp [intOf]; omega
              · have HGR : Hid (w.grownBy wr none) := hgr
                clear hgr
                go_wp2_with fail
                refine (known12 _).mono ?_
                rintro e w9 ⟨rfl, g9⟩
                have G9 : Hid (w.grownBy w9 none) := grown_trans HGR.out g9
                clear g9
                go_wp2_with fail
                go_ret
                exact ⟨rfl, G9.out⟩
end Go.Proofs.Ytegacmcekladfaa
