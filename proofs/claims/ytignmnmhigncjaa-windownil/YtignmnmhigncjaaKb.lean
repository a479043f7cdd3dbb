/-
  WindowNil: a closed sentence: windows that are not there, zero ones.
-/
import Derived.Test.YtignmnmhigncjaaKa
import Derived.Test.YtignmnmhigncjaaIC
namespace Go.Proofs.Ytignmnmhigncjaa
open Go.RowKit Disk Table S

set_option maxRecDepth 100000 in
set_option maxHeartbeats 8000000 in
theorem nothing26 (a : Option Addr) (w : World) (h : NoWin w (.pointer a)) : Calls Try.prog 26 #[.pointer a] w fun e w' => e = .returned (.bool true) ∧ w.grownBy w' none := by
  have HN : Hid (NoWin w (.pointer a)) := h
  clear h
  refine calls_marks Try.func26 rfl ?_
  simp only [Try.ntmps26, List.size_toArray, List.length_cons, List.length_nil, Nat.reduceAdd, Nat.reduceSub, Array.replicate_succ, Array.replicate_zero, List.push_toArray, List.append_toArray, List.nil_append, List.cons_append]
  go_wp2_with fail
  refine (give_no _ ⟨#[120]⟩ w HN.out).mono ?_
  rintro e w1 ⟨rfl, hg⟩
  have H1 : Hid (w.grownBy w1 none ∧ NoWin w1 (.pointer a)) := ⟨hg, HN.out.grown hg⟩
  clear hg
  go_wp2_with fail
  refine (get_no _ 1 w1 H1.out.2).mono ?_
  rintro e w2 ⟨rfl, rfl⟩
  go_wp2_with fail
  refine (set_no _ 1 ⟨#[120]⟩ w2 H1.out.2).mono ?_
  rintro e w3 ⟨rfl, hg⟩
  have H3 : Hid (w.grownBy w3 none ∧ NoWin w3 (.pointer a)) := ⟨grown_trans H1.out.1 hg, H1.out.2.grown hg⟩
  clear hg H1
  go_wp2_with fail
  refine (back_no _ 1 w3 H3.out.2).mono ?_
  rintro e w4 ⟨rfl, rfl⟩
  go_wp2_with fail
  refine (all_any a w4).mono ?_
  rintro e w5 ⟨rfl, hbk, hg5, hsz5⟩
  obtain ⟨bx, hbx⟩ : ∃ x, w4.heap.size = x := ⟨_, rfl⟩
  rw [hbx] at hbk hsz5 ⊢
  have H5 : Hid (w.grownBy w5 none ∧ w4.grownBy w5 none ∧ NoWin w5 (.pointer a) ∧ Blk w5 bx 23 #[.pointer a]) := ⟨grown_trans H3.out.1 hg5, hg5, H3.out.2.grown hg5, hbk⟩
  have hfn : ∀ wk, (binOp .eql 69 (.func (.func 48) #[] #[.pointer (some ⟨bx, 0, none⟩)]) .nilFunc).run Try.prog wk = .ok (.bool false) wk := fun _ => rfl
  clear hbk hg5 hsz5 hbx
  go_upto_region 9 with fail
  obtain ⟨w6, hw6, H6⟩ := al1 w5 #[.int .i64 0] 3
  obtain ⟨z0, hz0⟩ : ∃ x, w5.heap.size = x := ⟨_, rfl⟩
  rw [hw6]
  rw [hz0] at H6 ⊢
  clear hw6 hz0 hfn
  have H7 : Hid (w.grownBy w6 none ∧ NoWin w6 (.pointer a) ∧ Blk w6 bx 23 #[.pointer a] ∧ Blk w6 z0 3 #[.int .i64 0]) := ⟨grown_trans H5.out.1 H6.out.2.1, H5.out.2.2.1.grown H6.out.2.1, H5.out.2.2.2.grown H6.out.2.1 (by simp), H6.out.1⟩
  go_wp2_with fail
  have HGV : Hid (GivesS Try.prog 48 #[.pointer (some ⟨bx, 0, none⟩)] 0 (Fino []) (Xo []) (fun _ => False) w6) := overS_no _ bx (.pointer a) w6 w6 H7.out.2.2.1 H7.out.2.1 (grown_refl _ _)
  refine wp_rangeB (id := 0) (gf := 48) (lb := #[.pointer (some ⟨bx, 0, none⟩)]) rfl (enters_of Try.func48 (by kernel_rfl) rfl) HGV.out ?_
    (fun _ _ A => Hid (w6.grownBy A none)) (fun _ => False) ?_ ?_ ?_ ?_ (fun A => Hid (w6.grownBy A none)) ?_ ?_ ?_
  · rintro k k' W0 W1 xs ⟨_, _, _, _, _, _, rfl⟩
    rfl
  · rintro k G A B HB ht
    exact tx_grown ht HB.out (by omega)
  · exact fun _ _ h _ => h
  · exact grown_refl _ _
  · rintro l' k k' G W0 W1 xs HI hlt0 htn ⟨j, t, _, hj, _⟩ _
    exact absurd hj (by simp)
  · exact fun _ _ _ _ h => h
  · exact fun _ h => h.elim
  · intro A HB hd
    refine (‹∀ (a : Act) (w : World), Code.wp Try.prog _ _ a w → _› _ _ ?_)
    have HD : Hid (A.heap[w6.heap.size]? = some (.deferred (some []))) := hd
    have H8 : Hid (w.grownBy A none ∧ NoWin A (.pointer a) ∧ Blk A z0 3 #[.int .i64 0]) := ⟨grown_trans H7.out.1 HB.out, H7.out.2.1.grown HB.out, H7.out.2.2.2.grown HB.out (by simp)⟩
    have v0 := H8.out.2.2.cell 0
    simp at v0
    clear hd
    have hw0 : IntKind.i64.wrap 0 = 0 := by rw [IntKind.wrap_i64]; omega
    go_upto_region 11 with fail
    refine wp_region_noPanic ?_
    refine wp_region_hold 1000 (fun y => A.grownBy y none) (by kernel_rfl) ?_
    have G0 : Hid (A.grownBy A.drew none) := grown_drew _ _
    generalize A.drew = wd at G0 ⊢
    have J : Idx [0] := trivial
    iterate 1 (refine tk J (G0.out) rfl rfl (fun wk hk => by have k0 := hk.cell v0 (by simp); go_simp; try rfl) ?_; replace J := J.tl; try simp only [Act.put, List.setIfInBounds_toArray, List.set_cons_zero, List.set_cons_succ])
    clear J
    refine wpHold_one (i := 1) rfl (by kernel_rfl) (by rfl) (fun K hK => ?_)
    go_wp2_with fail
    refine (num7 1 wd).mono ?_
    rintro e we ⟨rfl, rfl⟩
    go_wp2_with fail
    refine hK.out _ _ (fun _ => G0.out) ?_
    clear hK K
    try simp only [Act.put, List.setIfInBounds_toArray, List.set_cons_zero, List.set_cons_succ]
    have J : Idx [2, 3, 4] := trivial
    iterate 3 (refine tk J (G0.out) rfl rfl (fun wk hk => by have k0 := hk.cell v0 (by simp); go_simp; try rfl) ?_; replace J := J.tl; try simp only [Act.put, List.setIfInBounds_toArray, List.set_cons_zero, List.set_cons_succ])
    clear J
    refine wpHold_one (i := 5) rfl (by kernel_rfl) (by rfl) (fun K hK => ?_)
    go_wp2_with fail
    refine (num7 1 we).mono ?_
    rintro e wf ⟨rfl, rfl⟩
    go_wp2_with fail
    refine hK.out _ _ (fun _ => G0.out) ?_
    clear hK K
    try simp only [Act.put, List.setIfInBounds_toArray, List.set_cons_zero, List.set_cons_succ]
    have J : Idx [6, 7, 8, 9] := trivial
    iterate 4 (refine tk J (G0.out) rfl rfl (fun wk hk => by have k0 := hk.cell v0 (by simp); go_simp; try rfl) ?_; replace J := J.tl; try simp only [Act.put, List.setIfInBounds_toArray, List.set_cons_zero, List.set_cons_succ])
    clear J
    refine wpHold_one (i := 10) rfl (by kernel_rfl) (by rfl) (fun K hK => ?_)
    go_wp2_with fail
    refine (num7 1 wf).mono ?_
    rintro e wg ⟨rfl, rfl⟩
    go_wp2_with fail
    refine hK.out _ _ (fun _ => G0.out) ?_
    clear hK K
    try simp only [Act.put, List.setIfInBounds_toArray, List.set_cons_zero, List.set_cons_succ]
    have J : Idx [11, 12, 13, 14] := trivial
    iterate 4 (refine tk J (G0.out) rfl rfl (fun wk hk => by have k0 := hk.cell v0 (by simp); go_simp; try rfl) ?_; replace J := J.tl; try simp only [Act.put, List.setIfInBounds_toArray, List.set_cons_zero, List.set_cons_succ])
    clear J
    refine wpHold_one (i := 15) rfl (by kernel_rfl) (by rfl) (fun K hK => ?_)
    go_wp2_with fail
    refine (num7 1 wg).mono ?_
    rintro e wh ⟨rfl, rfl⟩
    go_wp2_with fail
    refine hK.out _ _ (fun _ => G0.out) ?_
    clear hK K
    try simp only [Act.put, List.setIfInBounds_toArray, List.set_cons_zero, List.set_cons_succ]
    have J : Idx [16, 17, 18, 19, 21] := trivial
    iterate 5 (refine tk J (G0.out) rfl rfl (fun wk hk => by have k0 := hk.cell v0 (by simp); go_simp; try rfl) ?_; replace J := J.tl; try simp only [Act.put, List.setIfInBounds_toArray, List.set_cons_zero, List.set_cons_succ])
    clear J
    refine wpHold_one (i := 20) rfl (by kernel_rfl) (by rfl) (fun K hK => ?_)
    go_wp2_with fail
    refine (mark_no _ wh (H8.out.2.1.grown G0.out)).mono ?_
    rintro e wi ⟨rfl, rfl⟩
    go_wp2_with fail
    refine hK.out _ _ (fun _ => G0.out) ?_
    clear hK K
    try simp only [Act.put, List.setIfInBounds_toArray, List.set_cons_zero, List.set_cons_succ]
    refine wpHold_one (i := 22) rfl (by kernel_rfl) (by rfl) (fun K hK => ?_)
    go_wp2_with fail
    refine (last_no _ wi (H8.out.2.1.grown G0.out)).mono ?_
    rintro e wj ⟨rfl, rfl⟩
    go_wp2_with fail
    refine hK.out _ _ (fun _ => G0.out) ?_
    clear hK K
    try simp only [Act.put, List.setIfInBounds_toArray, List.set_cons_zero, List.set_cons_succ]
    have J : Idx [23, 24, 25, 26, 27, 28, 31] := trivial
    iterate 7 (refine tk J (G0.out) rfl rfl (fun wk hk => by have k0 := hk.cell v0 (by simp); go_simp; try rfl) ?_; replace J := J.tl; try simp only [Act.put, List.setIfInBounds_toArray, List.set_cons_zero, List.set_cons_succ])
    clear J
    refine wpHold_one (i := 29) rfl (by kernel_rfl) (by rfl) (fun K hK => ?_)
    go_wp2_with fail
    refine (len_no a wj (H8.out.2.1.grown G0.out)).mono ?_
    rintro e wk ⟨rfl, hgk⟩
    have G1 : Hid (A.grownBy wk none) := grown_trans G0.out hgk
    clear hgk
    go_wp2_with fail
    refine hK.out _ _ (fun _ => G1.out) ?_
    clear hK K
    try simp only [Act.put, List.setIfInBounds_toArray, List.set_cons_zero, List.set_cons_succ]
    have J : Idx [30] := trivial
    iterate 1 (refine tk J (G1.out) rfl rfl (fun wk hk => by have k0 := hk.cell v0 (by simp); go_simp; try rfl) ?_; replace J := J.tl; try simp only [Act.put, List.setIfInBounds_toArray, List.set_cons_zero, List.set_cons_succ])
    clear J
    refine wpHold_one (i := 32) rfl (by kernel_rfl) (by rfl) (fun K hK => ?_)
    go_wp2_with fail
    refine (room_no _ wk (H8.out.2.1.grown G1.out)).mono ?_
    rintro e wl ⟨rfl, rfl⟩
    go_wp2_with fail
    refine hK.out _ _ (fun _ => G1.out) ?_
    clear hK K
    try simp only [Act.put, List.setIfInBounds_toArray, List.set_cons_zero, List.set_cons_succ]
    have J : Idx [33, 34, 35, 36] := trivial
    iterate 4 (refine tk J (G1.out) rfl rfl (fun wk hk => by have k0 := hk.cell v0 (by simp); go_simp; try rfl) ?_; replace J := J.tl; try simp only [Act.put, List.setIfInBounds_toArray, List.set_cons_zero, List.set_cons_succ])
    clear J
    refine wpHold_done (by kernel_rfl) ?_
    refine (‹∀ (a : Act) (w : World), Code.wp Try.prog _ _ a w → _› _ _ ?_)
    clear v0
    go_wp2_with fail
    have HD2 : Hid (wl.heap[w6.heap.size]? = some (.deferred (some []))) := (G1.out.block _ (Array.getElem?_eq_some_iff.1 HD.out).1 (by simp)).trans HD.out
    refine ⟨by simp, .inl ⟨_, _, rfl, run_takeDeferred HD2.out, ?_⟩⟩
    have t1 := Tx.putD (n0 := w.heap.size) (.deferred none) HD2.out H7.out.1.size
    exact ⟨_, by simp [results, Try.results26, go_sem], rfl, tx_grown t1 (grown_trans H8.out.1 G1.out) (Nat.le_refl _)⟩

set_option maxRecDepth 100000 in
set_option maxHeartbeats 8000000 in
theorem nil5 (w : World) : Calls Try.prog 5 #[] w fun e w' => e = .returned (.bool true) ∧ w.grownBy w' none := by
  go_enter Try.func5, Try.ntmps5
  go_wp2_with fail
  refine (I.new_no 65 w (.inr (by omega))).mono ?_
  rintro e w1 ⟨rfl, rfl⟩
  go_wp2_with fail
  refine (I.new_win 64 w1 (by omega) (by omega)).mono ?_
  rintro e w2 ⟨b, v, rfl, _, hg, _⟩
  have H2 : Hid (w1.grownBy w2 none) := hg
  clear hg
  go_wp2_with fail
  refine (num7 2 w2).mono ?_
  rintro e w3 ⟨rfl, rfl⟩
  go_wp2_with fail
  refine (num7 0 w3).mono ?_
  rintro e w4 ⟨rfl, rfl⟩
  go_wp2_with fail
  refine (copy_no (.pointer none) w4 (.inl rfl)).mono ?_
  rintro e w5 ⟨rfl, rfl⟩
  go_wp2_with fail
  refine (nothing26 none w5 (.inl rfl)).mono ?_
  rintro e w6 ⟨rfl, hg⟩
  have H6 : Hid (w1.grownBy w6 none) := grown_trans H2.out hg
  clear hg
  obtain ⟨w7, hw7, H7⟩ := al1 w6 #[.slice none 0 0, .int .i64 0, .int .i64 0] 56
  have HW7 : Hid (w6.alloc (.cells #[.slice none 0 0, .int .i64 0, .int .i64 0] 56) = w7) := hw7
  clear hw7
  go_wp2_with fail
  rw [HW7.out]
  refine (nothing26 _ w7 (.inr ⟨_, _, _, rfl, H7.out.1⟩)).mono ?_
  rintro e w8 ⟨rfl, hg⟩
  have H8 : Hid (w1.grownBy w8 none) := grown_trans H6.out (grown_trans H7.out.2.1 hg)
  clear hg HW7
  go_wp2_with fail
  refine (known8 w8).mono ?_
  rintro e w9 ⟨rfl, hg⟩
  have H9 : Hid (w1.grownBy w9 none) := grown_trans H8.out hg
  clear hg
  go_wp2_with fail
  go_ret
  exact ⟨rfl, H9.out⟩
end Go.Proofs.Ytignmnmhigncjaa
