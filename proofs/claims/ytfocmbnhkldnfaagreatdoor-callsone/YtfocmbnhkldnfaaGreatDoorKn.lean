/-
  known: some of the chapter's rows.
-/
import Derived.Test.YtfocmbnhkldnfaaGreatDoorKf
import Derived.Test.YtfocmbnhkldnfaaGreatDoorSm
namespace Go.Proofs.YtfocmbnhkldnfaaGreatDoor
open Go.RowKit Disk
open Names (Str)

theorem same19_get (a b : Value) (w : World) (ha : Ops w a [getOp]) (hb : Ops w b [getOp]) : Calls Tryz.prog 19 #[.agg #[a], .agg #[b]] w fun e w' => e = .returned (.bool true) ∧ w.grownBy w' none := by simpa using same19 a b [getOp] [getOp] w ha hb
theorem same34_get (a b : Value) (w : World) (ha : Ops w a [getOp]) (hb : Ops w b [getOp]) : Calls Tryz.prog 34 #[.agg #[a], .agg #[b]] w fun e w' => e = .returned (.bool true) ∧ w.grownBy w' none := by simpa using same34 a b [getOp] [getOp] w ha hb
theorem reads17_get (a : Value) (w : World) (ha : Ops w a [getOp]) : Calls Tryz.prog 17 #[.agg #[a]] w fun e w' => e = .returned (.bool true) ∧ w.grownBy w' none := by
  have := reads17 a [getOp] w ha
  rwa [kf_rds] at this
theorem check16_nil (w : World) : Calls Tryz.prog 16 #[.agg #[.slice none 0 0]] w fun e w' => e = .returned (.int .i64 2) ∧ w.grownBy w' none := by
  have := check16 (.slice none 0 0) [] w ⟨none, 0, rfl, by simp, fun j hj => absurd hj (by simp)⟩
  rwa [kf_chk0] at this
theorem result27_one (w : World) : Calls Tryz.prog 27 #[.agg #[.int .i64 1, .int .i64 1, .slice none 0 0]] w fun e w' => ∃ u, e = .returned (.tuple #[u, .int .i64 0]) ∧ Own w' w.heap.size u [1, 1] ∧ w.grownBy w' none := by
  refine (result27_abort 1 1 w (.inl rfl) (by decide) (by decide)).mono ?_
  rintro e w' (⟨_, u, h1, h2, h3⟩ | ⟨hno, _⟩)
  · rw [kf_num] at h2
    exact ⟨u, h1, h2, h3⟩
  · exact absurd (by decide) hno

set_option maxRecDepth 100000 in
set_option maxHeartbeats 40000000 in
theorem known10 (w : World) (hE : EnvF w) : Calls Tryz.prog 10 #[] w fun e w' => e = .returned (.bool true) ∧ w.grownBy w' none := by
  have HE : Hid (EnvF w) := hE
  clear hE
  go_enter Tryz.func10, Tryz.ntmps10
  go_wp2_with (go_at_call 36; refine (get36 _).mono ?_)
  rintro e w1 ⟨g1, rfl, ho1, hg1⟩
  obtain ⟨ga, gc, rfl⟩ := ho1.shape
  have H1 : Hid (Ops w1 (.slice ga 1 gc) [getOp] ∧ w.grownBy w1 none) := ⟨ho1, hg1⟩
  clear ho1 hg1
  go_wp2_with (go_at_call 13; refine (bytes13 _ [getOp] _ H1.out.1).mono ?_)
  rw [show BytesPost [getOp] w1 = fun e w' => ∃ u, e = .returned (.tuple #[u, .int .i64 0]) ∧ Own w' w1.heap.size u [1, 1, 1, 116, 1, 107] ∧ w1.grownBy w' none from by unfold BytesPost; rw [kf_chk, if_pos rfl, kf_form]]
  rintro e w2 ⟨u1, rfl, ho2, hg2⟩
  have H2 : Hid (Own w2 w1.heap.size u1 [1, 1, 1, 116, 1, 107] ∧ w.grownBy w2 none) := ⟨ho2, grown_trans H1.out.2 hg2⟩
  clear ho2 hg2
  obtain ⟨w3, cv3, hs3, H3⟩ := lit29 w2 #[.int .u8 1, .int .u8 1, .int .u8 1, .int .u8 116, .int .u8 1, .int .u8 107] 6 [1, 1, 1, 116, 1, 107] rfl rfl rfl (by simp)
  go_wp2_with (go_at_call 22; refine (read22 _ [1, 1, 1, 116, 1, 107] _ (by simp) H3.out.1).mono ?_)
  rw [kf_read]
  rintro e w4 ⟨u4, rfl, ho4, hg4⟩
  simp only at ho4
  obtain ⟨xa, na, ya, rfl, hna⟩ := ho4.slice
  have hna2 : na = 1 := hna
  clear hna
  subst hna2
  have H4 : Hid (OpsOwn w4 w3.heap.size (.slice xa 1 ya) [getOp] ∧ w.grownBy w4 none ∧ Own w4 w1.heap.size u1 [1, 1, 1, 116, 1, 107]) := ⟨ho4, grown_trans (grown_trans H2.out.2 H3.out.2) hg4, (H2.out.1.grown H3.out.2).grown hg4⟩
  clear ho4 hg4 cv3 hs3 H3 H2
  go_wp2_with (go_at_call 36; refine (get36 _).mono ?_)
  rintro e w5 ⟨g5, rfl, ho5, hg5⟩
  obtain ⟨gb, gd, rfl⟩ := ho5.shape
  have H5 : Hid (Ops w5 (.slice gb 1 gd) [getOp] ∧ OpsOwn w5 w3.heap.size (.slice xa 1 ya) [getOp] ∧ w.grownBy w5 none ∧ Own w5 w1.heap.size u1 [1, 1, 1, 116, 1, 107] ∧ Blk w5 w4.heap.size 24 #[.slice xa 1 ya]) := by
    have hg := grown_trans (World.grownBy_alloc w4 (.cells #[.slice xa 1 ya] 24) none) hg5
    exact ⟨ho5, H4.out.1.grown hg, grown_trans H4.out.2.1 hg, H4.out.2.2.grown hg, (Blk.grown (heap_alloc_new w4 _) hg5 (by simp))⟩
  clear ho5 hg5 H4
  go_wp2_with (go_at_call 14; refine (text14 _ [getOp] _ H5.out.1 (HE.out.grown H5.out.2.2.1).kw).mono ?_)
  rw [show TextPost [getOp] w5 = fun e w' => e = .returned (.tuple #[.string ⟨#[103, 101, 116, 32, 116, 32, 107]⟩, .int .i64 0]) ∧ w5.grownBy w' none from by unfold TextPost; rw [kf_chk, if_pos rfl, kf_txt]; rfl]
  rintro e w6 ⟨rfl, hg6⟩
  have H6 : Hid (OpsOwn w6 w3.heap.size (.slice xa 1 ya) [getOp] ∧ w.grownBy w6 none ∧ Own w6 w1.heap.size u1 [1, 1, 1, 116, 1, 107] ∧ Blk w6 w4.heap.size 24 #[.slice xa 1 ya]) := ⟨H5.out.2.1.grown hg6, grown_trans H5.out.2.2.1 hg6, H5.out.2.2.2.1.grown hg6, H5.out.2.2.2.2.grown hg6 (by simp)⟩
  clear hg6 H5
  go_wp2_with (go_at_call 27; refine (result27_one _).mono ?_)
  rintro e w7 ⟨u7, rfl, ho7, hg7⟩
  have H7 : Hid (OpsOwn w7 w3.heap.size (.slice xa 1 ya) [getOp] ∧ w.grownBy w7 none ∧ Own w7 w1.heap.size u1 [1, 1, 1, 116, 1, 107] ∧ Blk w7 w4.heap.size 24 #[.slice xa 1 ya] ∧ Own w7 w6.heap.size u7 [1, 1]) := ⟨H6.out.1.grown hg7, grown_trans H6.out.2.1 hg7, H6.out.2.2.1.grown hg7, H6.out.2.2.2.grown hg7 (by simp), ho7⟩
  clear ho7 hg7 H6
  go_wp2_with (go_at_call 25; refine (parse25 [103, 101, 116, 32, 32, 116, 32, 107] _ (by simp) (HE.out.grown H7.out.2.1)).mono ?_)
  rw [kf_parse]
  rintro e w8 ⟨u8, rfl, ho8, hg8⟩
  simp only at ho8
  obtain ⟨xb, nb, yb, rfl, hnb⟩ := ho8.slice
  have H8 : Hid (OpsOwn w8 w3.heap.size (.slice xa 1 ya) [getOp] ∧ w.grownBy w8 none ∧ Own w8 w1.heap.size u1 [1, 1, 1, 116, 1, 107] ∧ Blk w8 w4.heap.size 24 #[.slice xa 1 ya] ∧ Own w8 w6.heap.size u7 [1, 1]) := ⟨H7.out.1.grown hg8, grown_trans H7.out.2.1 hg8, H7.out.2.2.1.grown hg8, H7.out.2.2.2.1.grown hg8 (by simp), H7.out.2.2.2.2.grown hg8⟩
  clear ho8 hg8 H7 hnb
  go_wp2_with fail
  have H9 : Hid (OpsOwn (w8.alloc (.cells #[.slice xb nb yb] 24)) w3.heap.size (.slice xa 1 ya) [getOp] ∧ w.grownBy (w8.alloc (.cells #[.slice xb nb yb] 24)) none ∧ Own (w8.alloc (.cells #[.slice xb nb yb] 24)) w1.heap.size u1 [1, 1, 1, 116, 1, 107] ∧ Blk (w8.alloc (.cells #[.slice xb nb yb] 24)) w4.heap.size 24 #[.slice xa 1 ya] ∧ Own (w8.alloc (.cells #[.slice xb nb yb] 24)) w6.heap.size u7 [1, 1]) := by
    have hg := World.grownBy_alloc w8 (.cells #[.slice xb nb yb] 24) none
    exact ⟨H8.out.1.grown hg, grown_trans H8.out.2.1 hg, H8.out.2.2.1.grown hg, H8.out.2.2.2.1.grown hg (by simp), H8.out.2.2.2.2.grown hg⟩
  clear H8
  generalize (w8.alloc (.cells #[.slice xb nb yb] 24)) = W at H9 ⊢
  refine wp_region_noPanic ?_
  refine wp_region_hold 1000 (fun x => W.grownBy x none) (by kernel_rfl) ?_
  refine wpHold_take (i := 0) (v := _) (grown_drew _ _) rfl rfl (by kernel_rfl) (by kernel_rfl) (by kernel_rfl) (by kernel_rfl) (by kernel_rfl) (fun _ _ _ h => h) (by rfl) (fun wk hk => by have v1 := seg_str (H9.out.2.2.1.grown hk).seg; have v2 := seg_str (H9.out.2.2.2.2.grown hk).seg; have v3 := (H9.out.2.2.2.1.grown hk (by simp)).cell 0; go_simp; try rfl) ?_
  try simp only [Act.put, List.setIfInBounds_toArray, List.set_cons_zero, List.set_cons_succ]
  refine wpHold_take (i := 1) (v := _) (grown_drew _ _) rfl rfl (by kernel_rfl) (by kernel_rfl) (by kernel_rfl) (by kernel_rfl) (by kernel_rfl) (fun _ _ _ h => h) (by rfl) (fun wk hk => by have v1 := seg_str (H9.out.2.2.1.grown hk).seg; have v2 := seg_str (H9.out.2.2.2.2.grown hk).seg; have v3 := (H9.out.2.2.2.1.grown hk (by simp)).cell 0; go_simp; try rfl) ?_
  try simp only [Act.put, List.setIfInBounds_toArray, List.set_cons_zero, List.set_cons_succ]
  refine wpHold_take (i := 2) (v := _) (grown_drew _ _) rfl rfl (by kernel_rfl) (by kernel_rfl) (by kernel_rfl) (by kernel_rfl) (by kernel_rfl) (fun _ _ _ h => h) (by rfl) (fun wk hk => by have v1 := seg_str (H9.out.2.2.1.grown hk).seg; have v2 := seg_str (H9.out.2.2.2.2.grown hk).seg; have v3 := (H9.out.2.2.2.1.grown hk (by simp)).cell 0; go_simp; try rfl) ?_
  try simp only [Act.put, List.setIfInBounds_toArray, List.set_cons_zero, List.set_cons_succ]
  refine wpHold_take (i := 3) (v := _) (grown_drew _ _) rfl rfl (by kernel_rfl) (by kernel_rfl) (by kernel_rfl) (by kernel_rfl) (by kernel_rfl) (fun _ _ _ h => h) (by rfl) (fun wk hk => by have v1 := seg_str (H9.out.2.2.1.grown hk).seg; have v2 := seg_str (H9.out.2.2.2.2.grown hk).seg; have v3 := (H9.out.2.2.2.1.grown hk (by simp)).cell 0; go_simp; try rfl) ?_
  try simp only [Act.put, List.setIfInBounds_toArray, List.set_cons_zero, List.set_cons_succ]
  refine wpHold_take (i := 4) (v := _) (grown_drew _ _) rfl rfl (by kernel_rfl) (by kernel_rfl) (by kernel_rfl) (by kernel_rfl) (by kernel_rfl) (fun _ _ _ h => h) (by rfl) (fun wk hk => by have v1 := seg_str (H9.out.2.2.1.grown hk).seg; have v2 := seg_str (H9.out.2.2.2.2.grown hk).seg; have v3 := (H9.out.2.2.2.1.grown hk (by simp)).cell 0; go_simp; try rfl) ?_
  try simp only [Act.put, List.setIfInBounds_toArray, List.set_cons_zero, List.set_cons_succ]
  refine wpHold_one (i := 5) rfl (by kernel_rfl) (by rfl) (fun K hK => ?_)
  go_wp2_with (go_at_call 15; refine (num15 _ _).mono ?_; rintro e w10 ⟨rfl, hw⟩; rw [hw]; clear hw)
  refine hK.out _ _ (fun _ => grown_drew _ _) ?_
  clear hK K
  try simp only [Act.put, List.setIfInBounds_toArray, List.set_cons_zero, List.set_cons_succ]
  refine wpHold_take (i := 6) (v := _) (grown_drew _ _) rfl rfl (by kernel_rfl) (by kernel_rfl) (by kernel_rfl) (by kernel_rfl) (by kernel_rfl) (fun _ _ _ h => h) (by rfl) (fun wk hk => by have v1 := seg_str (H9.out.2.2.1.grown hk).seg; have v2 := seg_str (H9.out.2.2.2.2.grown hk).seg; have v3 := (H9.out.2.2.2.1.grown hk (by simp)).cell 0; go_simp; try rfl) ?_
  try simp only [Act.put, List.setIfInBounds_toArray, List.set_cons_zero, List.set_cons_succ]
  refine wpHold_take (i := 7) (v := _) (grown_drew _ _) rfl rfl (by kernel_rfl) (by kernel_rfl) (by kernel_rfl) (by kernel_rfl) (by kernel_rfl) (fun _ _ _ h => h) (by rfl) (fun wk hk => by have v1 := seg_str (H9.out.2.2.1.grown hk).seg; have v2 := seg_str (H9.out.2.2.2.2.grown hk).seg; have v3 := (H9.out.2.2.2.1.grown hk (by simp)).cell 0; go_simp; try rfl) ?_
  try simp only [Act.put, List.setIfInBounds_toArray, List.set_cons_zero, List.set_cons_succ]
  refine wpHold_take (i := 8) (v := _) (grown_drew _ _) rfl rfl (by kernel_rfl) (by kernel_rfl) (by kernel_rfl) (by kernel_rfl) (by kernel_rfl) (fun _ _ _ h => h) (by rfl) (fun wk hk => by have v1 := seg_str (H9.out.2.2.1.grown hk).seg; have v2 := seg_str (H9.out.2.2.2.2.grown hk).seg; have v3 := (H9.out.2.2.2.1.grown hk (by simp)).cell 0; go_simp; try rfl) ?_
  try simp only [Act.put, List.setIfInBounds_toArray, List.set_cons_zero, List.set_cons_succ]
  refine wpHold_take (i := 9) (v := _) (grown_drew _ _) rfl rfl (by kernel_rfl) (by kernel_rfl) (by kernel_rfl) (by kernel_rfl) (by kernel_rfl) (fun _ _ _ h => h) (by rfl) (fun wk hk => by have v1 := seg_str (H9.out.2.2.1.grown hk).seg; have v2 := seg_str (H9.out.2.2.2.2.grown hk).seg; have v3 := (H9.out.2.2.2.1.grown hk (by simp)).cell 0; go_simp; try rfl) ?_
  try simp only [Act.put, List.setIfInBounds_toArray, List.set_cons_zero, List.set_cons_succ]
  refine wpHold_one (i := 10) rfl (by kernel_rfl) (by rfl) (fun K hK => ?_)
  go_wp2_with (go_at_call 36; refine (get36 _).mono ?_)
  rintro e w10 ⟨g10, rfl, ho10, hg10⟩
  obtain ⟨gx, gy, rfl⟩ := ho10.shape
  have H10 : Hid (Ops w10 (.slice gx 1 gy) [getOp] ∧ W.grownBy w10 none) := ⟨ho10, grown_trans (grown_drew _ _) hg10⟩
  clear ho10 hg10
  go_wp2_with fail
  refine hK.out _ _ (fun _ => H10.out.2) ?_
  clear hK K
  try simp only [Act.put, List.setIfInBounds_toArray, List.set_cons_zero, List.set_cons_succ]
  refine wpHold_one (i := 11) rfl (by kernel_rfl) (by rfl) (fun K hK => ?_)
  go_wp2_with (go_at_call 19; refine (same19_get _ _ _ (H9.out.1.grown H10.out.2).ops H10.out.1).mono ?_; rintro e w11 ⟨rfl, hg11⟩; have H11 : Hid (W.grownBy w11 none) := grown_trans H10.out.2 hg11; clear hg11)
  refine hK.out _ _ (fun _ => H11.out) ?_
  clear hK K
  try simp only [Act.put, List.setIfInBounds_toArray, List.set_cons_zero, List.set_cons_succ]
  refine wpHold_take (i := 12) (v := _) (H11.out) rfl rfl (by kernel_rfl) (by kernel_rfl) (by kernel_rfl) (by kernel_rfl) (by kernel_rfl) (fun _ _ _ h => h) (by rfl) (fun wk hk => by have v1 := seg_str (H9.out.2.2.1.grown hk).seg; have v2 := seg_str (H9.out.2.2.2.2.grown hk).seg; have v3 := (H9.out.2.2.2.1.grown hk (by simp)).cell 0; go_simp; try rfl) ?_
  try simp only [Act.put, List.setIfInBounds_toArray, List.set_cons_zero, List.set_cons_succ]
  refine wpHold_take (i := 13) (v := _) (H11.out) rfl rfl (by kernel_rfl) (by kernel_rfl) (by kernel_rfl) (by kernel_rfl) (by kernel_rfl) (fun _ _ _ h => h) (by rfl) (fun wk hk => by have v1 := seg_str (H9.out.2.2.1.grown hk).seg; have v2 := seg_str (H9.out.2.2.2.2.grown hk).seg; have v3 := (H9.out.2.2.2.1.grown hk (by simp)).cell 0; go_simp; try rfl) ?_
  try simp only [Act.put, List.setIfInBounds_toArray, List.set_cons_zero, List.set_cons_succ]
  refine wpHold_take (i := 14) (v := _) (H11.out) rfl rfl (by kernel_rfl) (by kernel_rfl) (by kernel_rfl) (by kernel_rfl) (by kernel_rfl) (fun _ _ _ h => h) (by rfl) (fun wk hk => by have v1 := seg_str (H9.out.2.2.1.grown hk).seg; have v2 := seg_str (H9.out.2.2.2.2.grown hk).seg; have v3 := (H9.out.2.2.2.1.grown hk (by simp)).cell 0; go_simp; try rfl) ?_
  try simp only [Act.put, List.setIfInBounds_toArray, List.set_cons_zero, List.set_cons_succ]
  refine wpHold_one (i := 15) rfl (by kernel_rfl) (by rfl) (fun K hK => ?_)
  go_wp2_with (go_at_call 15; refine (num15 _ _).mono ?_; rintro e w12 ⟨rfl, hw⟩; rw [hw]; clear hw)
  refine hK.out _ _ (fun _ => H11.out) ?_
  clear hK K
  try simp only [Act.put, List.setIfInBounds_toArray, List.set_cons_zero, List.set_cons_succ]
  refine wpHold_take (i := 16) (v := _) (H11.out) rfl rfl (by kernel_rfl) (by kernel_rfl) (by kernel_rfl) (by kernel_rfl) (by kernel_rfl) (fun _ _ _ h => h) (by rfl) (fun wk hk => by have v1 := seg_str (H9.out.2.2.1.grown hk).seg; have v2 := seg_str (H9.out.2.2.2.2.grown hk).seg; have v3 := (H9.out.2.2.2.1.grown hk (by simp)).cell 0; go_simp; try rfl) ?_
  try simp only [Act.put, List.setIfInBounds_toArray, List.set_cons_zero, List.set_cons_succ]
  refine wpHold_take (i := 17) (v := _) (H11.out) rfl rfl (by kernel_rfl) (by kernel_rfl) (by kernel_rfl) (by kernel_rfl) (by kernel_rfl) (fun _ _ _ h => h) (by rfl) (fun wk hk => by have v1 := seg_str (H9.out.2.2.1.grown hk).seg; have v2 := seg_str (H9.out.2.2.2.2.grown hk).seg; have v3 := (H9.out.2.2.2.1.grown hk (by simp)).cell 0; go_simp; try rfl) ?_
  try simp only [Act.put, List.setIfInBounds_toArray, List.set_cons_zero, List.set_cons_succ]
  refine wpHold_take (i := 18) (v := _) (H11.out) rfl rfl (by kernel_rfl) (by kernel_rfl) (by kernel_rfl) (by kernel_rfl) (by kernel_rfl) (fun _ _ _ h => h) (by rfl) (fun wk hk => by have v1 := seg_str (H9.out.2.2.1.grown hk).seg; have v2 := seg_str (H9.out.2.2.2.2.grown hk).seg; have v3 := (H9.out.2.2.2.1.grown hk (by simp)).cell 0; go_simp; try rfl) ?_
  try simp only [Act.put, List.setIfInBounds_toArray, List.set_cons_zero, List.set_cons_succ]
  refine wpHold_take (i := 19) (v := _) (H11.out) rfl rfl (by kernel_rfl) (by kernel_rfl) (by kernel_rfl) (by kernel_rfl) (by kernel_rfl) (fun _ _ _ h => h) (by rfl) (fun wk hk => by have v1 := seg_str (H9.out.2.2.1.grown hk).seg; have v2 := seg_str (H9.out.2.2.2.2.grown hk).seg; have v3 := (H9.out.2.2.2.1.grown hk (by simp)).cell 0; go_simp; try rfl) ?_
  try simp only [Act.put, List.setIfInBounds_toArray, List.set_cons_zero, List.set_cons_succ]
  refine wpHold_take (i := 20) (v := _) (H11.out) rfl rfl (by kernel_rfl) (by kernel_rfl) (by kernel_rfl) (by kernel_rfl) (by kernel_rfl) (fun _ _ _ h => h) (by rfl) (fun wk hk => by have v1 := seg_str (H9.out.2.2.1.grown hk).seg; have v2 := seg_str (H9.out.2.2.2.2.grown hk).seg; have v3 := (H9.out.2.2.2.1.grown hk (by simp)).cell 0; go_simp; try rfl) ?_
  try simp only [Act.put, List.setIfInBounds_toArray, List.set_cons_zero, List.set_cons_succ]
  refine wpHold_take (i := 21) (v := _) (H11.out) rfl rfl (by kernel_rfl) (by kernel_rfl) (by kernel_rfl) (by kernel_rfl) (by kernel_rfl) (fun _ _ _ h => h) (by rfl) (fun wk hk => by have v1 := seg_str (H9.out.2.2.1.grown hk).seg; have v2 := seg_str (H9.out.2.2.2.2.grown hk).seg; have v3 := (H9.out.2.2.2.1.grown hk (by simp)).cell 0; go_simp; try rfl) ?_
  try simp only [Act.put, List.setIfInBounds_toArray, List.set_cons_zero, List.set_cons_succ]
  refine wpHold_take (i := 22) (v := _) (H11.out) rfl rfl (by kernel_rfl) (by kernel_rfl) (by kernel_rfl) (by kernel_rfl) (by kernel_rfl) (fun _ _ _ h => h) (by rfl) (fun wk hk => by have v1 := seg_str (H9.out.2.2.1.grown hk).seg; have v2 := seg_str (H9.out.2.2.2.2.grown hk).seg; have v3 := (H9.out.2.2.2.1.grown hk (by simp)).cell 0; go_simp; try rfl) ?_
  try simp only [Act.put, List.setIfInBounds_toArray, List.set_cons_zero, List.set_cons_succ]
  refine wpHold_take (i := 23) (v := _) (H11.out) rfl rfl (by kernel_rfl) (by kernel_rfl) (by kernel_rfl) (by kernel_rfl) (by kernel_rfl) (fun _ _ _ h => h) (by rfl) (fun wk hk => by have v1 := seg_str (H9.out.2.2.1.grown hk).seg; have v2 := seg_str (H9.out.2.2.2.2.grown hk).seg; have v3 := (H9.out.2.2.2.1.grown hk (by simp)).cell 0; go_simp; try rfl) ?_
  try simp only [Act.put, List.setIfInBounds_toArray, List.set_cons_zero, List.set_cons_succ]
  refine wpHold_one (i := 24) rfl (by kernel_rfl) (by rfl) (fun K hK => ?_)
  go_wp2_with (go_at_call 15; refine (num15 _ _).mono ?_; rintro e w12 ⟨rfl, hw⟩; rw [hw]; clear hw)
  refine hK.out _ _ (fun _ => H11.out) ?_
  clear hK K
  try simp only [Act.put, List.setIfInBounds_toArray, List.set_cons_zero, List.set_cons_succ]
  refine wpHold_take (i := 25) (v := _) (H11.out) rfl rfl (by kernel_rfl) (by kernel_rfl) (by kernel_rfl) (by kernel_rfl) (by kernel_rfl) (fun _ _ _ h => h) (by rfl) (fun wk hk => by have v1 := seg_str (H9.out.2.2.1.grown hk).seg; have v2 := seg_str (H9.out.2.2.2.2.grown hk).seg; have v3 := (H9.out.2.2.2.1.grown hk (by simp)).cell 0; go_simp; try rfl) ?_
  try simp only [Act.put, List.setIfInBounds_toArray, List.set_cons_zero, List.set_cons_succ]
  refine wpHold_take (i := 26) (v := _) (H11.out) rfl rfl (by kernel_rfl) (by kernel_rfl) (by kernel_rfl) (by kernel_rfl) (by kernel_rfl) (fun _ _ _ h => h) (by rfl) (fun wk hk => by have v1 := seg_str (H9.out.2.2.1.grown hk).seg; have v2 := seg_str (H9.out.2.2.2.2.grown hk).seg; have v3 := (H9.out.2.2.2.1.grown hk (by simp)).cell 0; go_simp; try rfl) ?_
  try simp only [Act.put, List.setIfInBounds_toArray, List.set_cons_zero, List.set_cons_succ]
  refine wpHold_take (i := 27) (v := _) (H11.out) rfl rfl (by kernel_rfl) (by kernel_rfl) (by kernel_rfl) (by kernel_rfl) (by kernel_rfl) (fun _ _ _ h => h) (by rfl) (fun wk hk => by have v1 := seg_str (H9.out.2.2.1.grown hk).seg; have v2 := seg_str (H9.out.2.2.2.2.grown hk).seg; have v3 := (H9.out.2.2.2.1.grown hk (by simp)).cell 0; go_simp; try rfl) ?_
  try simp only [Act.put, List.setIfInBounds_toArray, List.set_cons_zero, List.set_cons_succ]
  refine wpHold_take (i := 28) (v := _) (H11.out) rfl rfl (by kernel_rfl) (by kernel_rfl) (by kernel_rfl) (by kernel_rfl) (by kernel_rfl) (fun _ _ _ h => h) (by rfl) (fun wk hk => by have v1 := seg_str (H9.out.2.2.1.grown hk).seg; have v2 := seg_str (H9.out.2.2.2.2.grown hk).seg; have v3 := (H9.out.2.2.2.1.grown hk (by simp)).cell 0; go_simp; try rfl) ?_
  try simp only [Act.put, List.setIfInBounds_toArray, List.set_cons_zero, List.set_cons_succ]
  refine wpHold_take (i := 29) (v := _) (H11.out) rfl rfl (by kernel_rfl) (by kernel_rfl) (by kernel_rfl) (by kernel_rfl) (by kernel_rfl) (fun _ _ _ h => h) (by rfl) (fun wk hk => by have v1 := seg_str (H9.out.2.2.1.grown hk).seg; have v2 := seg_str (H9.out.2.2.2.2.grown hk).seg; have v3 := (H9.out.2.2.2.1.grown hk (by simp)).cell 0; go_simp; try rfl) ?_
  try simp only [Act.put, List.setIfInBounds_toArray, List.set_cons_zero, List.set_cons_succ]
  refine wpHold_take (i := 30) (v := _) (H11.out) rfl rfl (by kernel_rfl) (by kernel_rfl) (by kernel_rfl) (by kernel_rfl) (by kernel_rfl) (fun _ _ _ h => h) (by rfl) (fun wk hk => by have v1 := seg_str (H9.out.2.2.1.grown hk).seg; have v2 := seg_str (H9.out.2.2.2.2.grown hk).seg; have v3 := (H9.out.2.2.2.1.grown hk (by simp)).cell 0; go_simp; try rfl) ?_
  try simp only [Act.put, List.setIfInBounds_toArray, List.set_cons_zero, List.set_cons_succ]
  refine wpHold_take (i := 31) (v := _) (H11.out) rfl rfl (by kernel_rfl) (by kernel_rfl) (by kernel_rfl) (by kernel_rfl) (by kernel_rfl) (fun _ _ _ h => h) (by rfl) (fun wk hk => by have v1 := seg_str (H9.out.2.2.1.grown hk).seg; have v2 := seg_str (H9.out.2.2.2.2.grown hk).seg; have v3 := (H9.out.2.2.2.1.grown hk (by simp)).cell 0; go_simp; try rfl) ?_
  try simp only [Act.put, List.setIfInBounds_toArray, List.set_cons_zero, List.set_cons_succ]
  refine wpHold_take (i := 32) (v := _) (H11.out) rfl rfl (by kernel_rfl) (by kernel_rfl) (by kernel_rfl) (by kernel_rfl) (by kernel_rfl) (fun _ _ _ h => h) (by rfl) (fun wk hk => by have v1 := seg_str (H9.out.2.2.1.grown hk).seg; have v2 := seg_str (H9.out.2.2.2.2.grown hk).seg; have v3 := (H9.out.2.2.2.1.grown hk (by simp)).cell 0; go_simp; try rfl) ?_
  try simp only [Act.put, List.setIfInBounds_toArray, List.set_cons_zero, List.set_cons_succ]
  refine wpHold_take (i := 33) (v := _) (H11.out) rfl rfl (by kernel_rfl) (by kernel_rfl) (by kernel_rfl) (by kernel_rfl) (by kernel_rfl) (fun _ _ _ h => h) (by rfl) (fun wk hk => by have v1 := seg_str (H9.out.2.2.1.grown hk).seg; have v2 := seg_str (H9.out.2.2.2.2.grown hk).seg; have v3 := (H9.out.2.2.2.1.grown hk (by simp)).cell 0; go_simp; try rfl) ?_
  try simp only [Act.put, List.setIfInBounds_toArray, List.set_cons_zero, List.set_cons_succ]
  refine wpHold_one (i := 34) rfl (by kernel_rfl) (by rfl) (fun K hK => ?_)
  go_wp2_with (go_at_call 15; refine (num15 _ _).mono ?_; rintro e w12 ⟨rfl, hw⟩; rw [hw]; clear hw)
  refine hK.out _ _ (fun _ => H11.out) ?_
  clear hK K
  try simp only [Act.put, List.setIfInBounds_toArray, List.set_cons_zero, List.set_cons_succ]
  refine wpHold_take (i := 35) (v := _) (H11.out) rfl rfl (by kernel_rfl) (by kernel_rfl) (by kernel_rfl) (by kernel_rfl) (by kernel_rfl) (fun _ _ _ h => h) (by rfl) (fun wk hk => by have v1 := seg_str (H9.out.2.2.1.grown hk).seg; have v2 := seg_str (H9.out.2.2.2.2.grown hk).seg; have v3 := (H9.out.2.2.2.1.grown hk (by simp)).cell 0; go_simp; try rfl) ?_
  try simp only [Act.put, List.setIfInBounds_toArray, List.set_cons_zero, List.set_cons_succ]
  refine wpHold_take (i := 36) (v := _) (H11.out) rfl rfl (by kernel_rfl) (by kernel_rfl) (by kernel_rfl) (by kernel_rfl) (by kernel_rfl) (fun _ _ _ h => h) (by rfl) (fun wk hk => by have v1 := seg_str (H9.out.2.2.1.grown hk).seg; have v2 := seg_str (H9.out.2.2.2.2.grown hk).seg; have v3 := (H9.out.2.2.2.1.grown hk (by simp)).cell 0; go_simp; try rfl) ?_
  try simp only [Act.put, List.setIfInBounds_toArray, List.set_cons_zero, List.set_cons_succ]
  refine wpHold_take (i := 37) (v := _) (H11.out) rfl rfl (by kernel_rfl) (by kernel_rfl) (by kernel_rfl) (by kernel_rfl) (by kernel_rfl) (fun _ _ _ h => h) (by rfl) (fun wk hk => by have v1 := seg_str (H9.out.2.2.1.grown hk).seg; have v2 := seg_str (H9.out.2.2.2.2.grown hk).seg; have v3 := (H9.out.2.2.2.1.grown hk (by simp)).cell 0; go_simp; try rfl) ?_
  try simp only [Act.put, List.setIfInBounds_toArray, List.set_cons_zero, List.set_cons_succ]
  refine wpHold_take (i := 38) (v := _) (H11.out) rfl rfl (by kernel_rfl) (by kernel_rfl) (by kernel_rfl) (by kernel_rfl) (by kernel_rfl) (fun _ _ _ h => h) (by rfl) (fun wk hk => by have v1 := seg_str (H9.out.2.2.1.grown hk).seg; have v2 := seg_str (H9.out.2.2.2.2.grown hk).seg; have v3 := (H9.out.2.2.2.1.grown hk (by simp)).cell 0; go_simp; try rfl) ?_
  try simp only [Act.put, List.setIfInBounds_toArray, List.set_cons_zero, List.set_cons_succ]
  refine wpHold_one (i := 39) rfl (by kernel_rfl) (by rfl) (fun K hK => ?_)
  go_wp2_with (go_at_call 15; refine (num15 _ _).mono ?_; rintro e w12 ⟨rfl, hw⟩; rw [hw]; clear hw)
  refine hK.out _ _ (fun _ => H11.out) ?_
  clear hK K
  try simp only [Act.put, List.setIfInBounds_toArray, List.set_cons_zero, List.set_cons_succ]
  refine wpHold_take (i := 40) (v := _) (H11.out) rfl rfl (by kernel_rfl) (by kernel_rfl) (by kernel_rfl) (by kernel_rfl) (by kernel_rfl) (fun _ _ _ h => h) (by rfl) (fun wk hk => by have v1 := seg_str (H9.out.2.2.1.grown hk).seg; have v2 := seg_str (H9.out.2.2.2.2.grown hk).seg; have v3 := (H9.out.2.2.2.1.grown hk (by simp)).cell 0; go_simp; try rfl) ?_
  try simp only [Act.put, List.setIfInBounds_toArray, List.set_cons_zero, List.set_cons_succ]
  refine wpHold_take (i := 41) (v := _) (H11.out) rfl rfl (by kernel_rfl) (by kernel_rfl) (by kernel_rfl) (by kernel_rfl) (by kernel_rfl) (fun _ _ _ h => h) (by rfl) (fun wk hk => by have v1 := seg_str (H9.out.2.2.1.grown hk).seg; have v2 := seg_str (H9.out.2.2.2.2.grown hk).seg; have v3 := (H9.out.2.2.2.1.grown hk (by simp)).cell 0; go_simp; try rfl) ?_
  try simp only [Act.put, List.setIfInBounds_toArray, List.set_cons_zero, List.set_cons_succ]
  refine wpHold_take (i := 42) (v := _) (H11.out) rfl rfl (by kernel_rfl) (by kernel_rfl) (by kernel_rfl) (by kernel_rfl) (by kernel_rfl) (fun _ _ _ h => h) (by rfl) (fun wk hk => by have v1 := seg_str (H9.out.2.2.1.grown hk).seg; have v2 := seg_str (H9.out.2.2.2.2.grown hk).seg; have v3 := (H9.out.2.2.2.1.grown hk (by simp)).cell 0; go_simp; try rfl) ?_
  try simp only [Act.put, List.setIfInBounds_toArray, List.set_cons_zero, List.set_cons_succ]
  refine wpHold_one (i := 43) rfl (by kernel_rfl) (by rfl) (fun K hK => ?_)
  go_wp2_with (go_at_call 36; refine (get36 _).mono ?_)
  rintro e w13 ⟨g13, rfl, ho13, hg13⟩
  obtain ⟨hx, hy, rfl⟩ := ho13.shape
  have H13 : Hid (Ops w13 (.slice hx 1 hy) [getOp] ∧ W.grownBy w13 none) := ⟨ho13, grown_trans H11.out hg13⟩
  clear ho13 hg13
  go_wp2_with fail
  refine hK.out _ _ (fun _ => H13.out.2) ?_
  clear hK K
  try simp only [Act.put, List.setIfInBounds_toArray, List.set_cons_zero, List.set_cons_succ]
  refine wpHold_one (i := 44) rfl (by kernel_rfl) (by rfl) (fun K hK => ?_)
  go_wp2_with (go_at_call 17; refine (reads17_get _ _ H13.out.1).mono ?_; rintro e w14 ⟨rfl, hg14⟩; have H14 : Hid (W.grownBy w14 none) := grown_trans H13.out.2 hg14; clear hg14)
  refine hK.out _ _ (fun _ => H14.out) ?_
  clear hK K
  try simp only [Act.put, List.setIfInBounds_toArray, List.set_cons_zero, List.set_cons_succ]
  refine wpHold_take (i := 45) (v := _) (H14.out) rfl rfl (by kernel_rfl) (by kernel_rfl) (by kernel_rfl) (by kernel_rfl) (by kernel_rfl) (fun _ _ _ h => h) (by rfl) (fun wk hk => by have v1 := seg_str (H9.out.2.2.1.grown hk).seg; have v2 := seg_str (H9.out.2.2.2.2.grown hk).seg; have v3 := (H9.out.2.2.2.1.grown hk (by simp)).cell 0; go_simp; try rfl) ?_
  try simp only [Act.put, List.setIfInBounds_toArray, List.set_cons_zero, List.set_cons_succ]
  refine wpHold_take (i := 46) (v := _) (H14.out) rfl rfl (by kernel_rfl) (by kernel_rfl) (by kernel_rfl) (by kernel_rfl) (by kernel_rfl) (fun _ _ _ h => h) (by rfl) (fun wk hk => by have v1 := seg_str (H9.out.2.2.1.grown hk).seg; have v2 := seg_str (H9.out.2.2.2.2.grown hk).seg; have v3 := (H9.out.2.2.2.1.grown hk (by simp)).cell 0; go_simp; try rfl) ?_
  try simp only [Act.put, List.setIfInBounds_toArray, List.set_cons_zero, List.set_cons_succ]
  refine wpHold_take (i := 47) (v := _) (H14.out) rfl rfl (by kernel_rfl) (by kernel_rfl) (by kernel_rfl) (by kernel_rfl) (by kernel_rfl) (fun _ _ _ h => h) (by rfl) (fun wk hk => by have v1 := seg_str (H9.out.2.2.1.grown hk).seg; have v2 := seg_str (H9.out.2.2.2.2.grown hk).seg; have v3 := (H9.out.2.2.2.1.grown hk (by simp)).cell 0; go_simp; try rfl) ?_
  try simp only [Act.put, List.setIfInBounds_toArray, List.set_cons_zero, List.set_cons_succ]
  refine wpHold_one (i := 48) rfl (by kernel_rfl) (by rfl) (fun K hK => ?_)
  go_wp2_with (go_at_call 16; refine (check16_nil _).mono ?_; rintro e w15 ⟨rfl, hg15⟩; have H15 : Hid (W.grownBy w15 none) := grown_trans H14.out hg15; clear hg15)
  refine hK.out _ _ (fun _ => H15.out) ?_
  clear hK K
  try simp only [Act.put, List.setIfInBounds_toArray, List.set_cons_zero, List.set_cons_succ]
  refine wpHold_one (i := 49) rfl (by kernel_rfl) (by rfl) (fun K hK => ?_)
  go_wp2_with (go_at_call 15; refine (num15 _ _).mono ?_; rintro e w12 ⟨rfl, hw⟩; rw [hw]; clear hw)
  refine hK.out _ _ (fun _ => H15.out) ?_
  clear hK K
  try simp only [Act.put, List.setIfInBounds_toArray, List.set_cons_zero, List.set_cons_succ]
  refine wpHold_take (i := 50) (v := _) (H15.out) rfl rfl (by kernel_rfl) (by kernel_rfl) (by kernel_rfl) (by kernel_rfl) (by kernel_rfl) (fun _ _ _ h => h) (by rfl) (fun wk hk => by have v1 := seg_str (H9.out.2.2.1.grown hk).seg; have v2 := seg_str (H9.out.2.2.2.2.grown hk).seg; have v3 := (H9.out.2.2.2.1.grown hk (by simp)).cell 0; go_simp; try rfl) ?_
  try simp only [Act.put, List.setIfInBounds_toArray, List.set_cons_zero, List.set_cons_succ]
  refine wpHold_take (i := 51) (v := _) (H15.out) rfl rfl (by kernel_rfl) (by kernel_rfl) (by kernel_rfl) (by kernel_rfl) (by kernel_rfl) (fun _ _ _ h => h) (by rfl) (fun wk hk => by have v1 := seg_str (H9.out.2.2.1.grown hk).seg; have v2 := seg_str (H9.out.2.2.2.2.grown hk).seg; have v3 := (H9.out.2.2.2.1.grown hk (by simp)).cell 0; go_simp; try rfl) ?_
  try simp only [Act.put, List.setIfInBounds_toArray, List.set_cons_zero, List.set_cons_succ]
  refine wpHold_take (i := 52) (v := _) (H15.out) rfl rfl (by kernel_rfl) (by kernel_rfl) (by kernel_rfl) (by kernel_rfl) (by kernel_rfl) (fun _ _ _ h => h) (by rfl) (fun wk hk => by have v1 := seg_str (H9.out.2.2.1.grown hk).seg; have v2 := seg_str (H9.out.2.2.2.2.grown hk).seg; have v3 := (H9.out.2.2.2.1.grown hk (by simp)).cell 0; go_simp; try rfl) ?_
  try simp only [Act.put, List.setIfInBounds_toArray, List.set_cons_zero, List.set_cons_succ]
  refine wpHold_one (i := 53) rfl (by kernel_rfl) (by rfl) (fun K hK => ?_)
  go_wp2_with (go_at_call 36; refine (get36 _).mono ?_)
  rintro e w16 ⟨g16, rfl, ho16, hg16⟩
  obtain ⟨ix, iy, rfl⟩ := ho16.shape
  have H16 : Hid (Ops w16 (.slice ix 1 iy) [getOp] ∧ W.grownBy w16 none) := ⟨ho16, grown_trans H15.out hg16⟩
  clear ho16 hg16
  go_wp2_with fail
  refine hK.out _ _ (fun _ => H16.out.2) ?_
  clear hK K
  try simp only [Act.put, List.setIfInBounds_toArray, List.set_cons_zero, List.set_cons_succ]
  refine wpHold_one (i := 54) rfl (by kernel_rfl) (by rfl) (fun K hK => ?_)
  go_wp2_with (go_at_call 36; refine (get36 _).mono ?_)
  rintro e w17 ⟨g17, rfl, ho17, hg17⟩
  obtain ⟨jx, jy, rfl⟩ := ho17.shape
  have H17 : Hid (Ops w17 (.slice jx 1 jy) [getOp] ∧ Ops w17 (.slice ix 1 iy) [getOp] ∧ W.grownBy w17 none) := ⟨ho17, H16.out.1.grown hg17, grown_trans H16.out.2 hg17⟩
  clear ho17 hg17
  go_wp2_with fail
  refine hK.out _ _ (fun _ => H17.out.2.2) ?_
  clear hK K
  try simp only [Act.put, List.setIfInBounds_toArray, List.set_cons_zero, List.set_cons_succ]
  refine wpHold_one (i := 55) rfl (by kernel_rfl) (by rfl) (fun K hK => ?_)
  go_wp2_with (go_at_call 34; refine (same34_get _ _ _ H17.out.2.1 H17.out.1).mono ?_; rintro e w18 ⟨rfl, hg18⟩; have H18 : Hid (W.grownBy w18 none) := grown_trans H17.out.2.2 hg18; clear hg18)
  refine hK.out _ _ (fun _ => H18.out) ?_
  clear hK K
  try simp only [Act.put, List.setIfInBounds_toArray, List.set_cons_zero, List.set_cons_succ]
  refine wpHold_take (i := 56) (v := _) (H18.out) rfl rfl (by kernel_rfl) (by kernel_rfl) (by kernel_rfl) (by kernel_rfl) (by kernel_rfl) (fun _ _ _ h => h) (by rfl) (fun wk hk => by have v1 := seg_str (H9.out.2.2.1.grown hk).seg; have v2 := seg_str (H9.out.2.2.2.2.grown hk).seg; have v3 := (H9.out.2.2.2.1.grown hk (by simp)).cell 0; go_simp; try rfl) ?_
  try simp only [Act.put, List.setIfInBounds_toArray, List.set_cons_zero, List.set_cons_succ]
  refine wpHold_take (i := 57) (v := _) (H18.out) rfl rfl (by kernel_rfl) (by kernel_rfl) (by kernel_rfl) (by kernel_rfl) (by kernel_rfl) (fun _ _ _ h => h) (by rfl) (fun wk hk => by have v1 := seg_str (H9.out.2.2.1.grown hk).seg; have v2 := seg_str (H9.out.2.2.2.2.grown hk).seg; have v3 := (H9.out.2.2.2.1.grown hk (by simp)).cell 0; go_simp; try rfl) ?_
  try simp only [Act.put, List.setIfInBounds_toArray, List.set_cons_zero]
  refine wpHold_done (by kernel_rfl) ?_
  refine (‹∀ (a : Act) (w : World), Code.wp Tryz.prog _ _ a w → _› _ _ ?_)
  go_wp2_with fail
  go_ret
  exact ⟨rfl, grown_trans H9.out.2.1 H18.out⟩
end Go.Proofs.YtfocmbnhkldnfaaGreatDoor
