/-
  An out is read.
-/
import Derived.Test.YtfocmbnhkldnfaaGreatDoorRslAll
namespace Go.Proofs.YtfocmbnhkldnfaaGreatDoor
open Go.RowKit Disk
open Names (Str)
open Wire (RdB RdG)

theorem list158_int (x : Int) (b : Nat) (L : Bs) (most : Nat) (hx : x = most) (w : World) (hm : most ≤ 100) (hz : L.length ≤ 140737488355328) (hr : RR w b L) :
    Calls Tryz.prog 158 #[rdV b, .int .i64 x, .func (.func 159) #[] #[]] w (RdPost b w (pList pRow most L) (fun l v w' => RowsOwn w' w.heap.size v l)) := by subst hx; exact list158 b L most w hm hz hr
/-- An out was read. -/
def OutTold (w : World) (o : POut) (v : Value) (w' : World) : Prop := ∃ k x, v = .agg #[.bool o.has, k, x] ∧ OutOwn w' w.heap.size k x o

set_option maxRecDepth 100000 in
set_option maxHeartbeats 8000000 in
theorem out111 (b : Nat) (L : Bs) (w : World) (hz : L.length ≤ 140737488355328) (hr : RR w b L) : Calls Tryz.prog 111 #[rdV b] w (RdPost b w (pOut L) (OutTold w)) := by
  have HM0 : Hid (MidG 54 #[.bool false, .slice none 0 0, .slice none 0 0] w _ b L #[.bool false, .slice none 0 0, .slice none 0 0]) := midG_start 54 #[.bool false, .slice none 0 0, .slice none 0 0] hr
  have hblt : b < w.heap.size := by obtain ⟨s, hs⟩ := hr.blk; exact hs.lt
  clear hr
  have e0 : rdV b = .agg #[.pointer (some ⟨b, 0, none⟩)] := rfl
  rw [e0]
  go_enter Tryz.func111, Tryz.ntmps111
  go_wp2_with (go_at_call 136; refine (flag136 b L _ HM0.out.rr).mono ?_)
  intro e w1 h
  rcases h.symm with ⟨hx, rfl, hg⟩ | ⟨fl, L1, v, hx, rfl, rfl, hR, hg⟩
  · have F : Hid (pOut L = none ∧ w.grownBy w1 (some b)) := ⟨by unfold pOut; rw [hx]; rfl, grown_trans HM0.out.grow hg⟩
    clear hx hg h
    unfold Pan
    go_wp2_with fail
    exact ⟨rfl, .inr ⟨F.out.1, rfl, F.out.2⟩⟩
  clear h
  have HF : Hid (pFlag L = some (fl, L1)) := hx
  have hz1 : L1.length ≤ 140737488355328 := Nat.le_trans (pFlag_len hx) hz
  have HM1 : Hid (MidG 54 #[.bool false, .slice none 0 0, .slice none 0 0] w w1 b L1 #[.bool false, .slice none 0 0, .slice none 0 0]) := HM0.out.call (by decide) hR hg
  clear hx hR hg HM0
  have c0 := HM1.out.op.cell 0
  have f0 := HM1.out.op.free 0
  have HM2 : Hid (MidG 54 #[.bool false, .slice none 0 0, .slice none 0 0] w (w1.setCell ⟨w.heap.size + 2, 0, none⟩ (.bool fl)) b L1 #[.bool fl, .slice none 0 0, .slice none 0 0]) := HM1.out.store (by decide) (by decide) 0 _
  have kb := HM2.out.box.cell 0
  go_wp2_with (go_at_call 135; refine (bytes135_int _ b L1 256 rfl _ (by decide) hz1 HM2.out.rr).mono ?_)
  intro e w2 h
  rcases h.symm with ⟨hx, rfl, hg⟩ | ⟨vy, L2, v2, hx, rfl, ho, hR, hg⟩
  · have F : Hid (pOut L = none ∧ w.grownBy w2 (some b)) := ⟨by unfold pOut; rw [HF.out]; simp [hx], grown_trans HM2.out.grow hg⟩
    clear hx hg h c0 f0 kb
    unfold Pan
    go_wp2_with fail
    exact ⟨rfl, .inr ⟨F.out.1, rfl, F.out.2⟩⟩
  clear h c0 f0 kb
  have HV : Hid (pBytes 256 L1 = some (vy, L2)) := hx
  have hz2 : L2.length ≤ 140737488355328 := Nat.le_trans (pBytes_len hx) hz1
  obtain ⟨x2, n2, y2, rfl⟩ := slice_of ho
  have HM3 : Hid (MidG 54 #[.bool false, .slice none 0 0, .slice none 0 0] w w2 b L2 #[.bool fl, .slice none 0 0, .slice none 0 0] ∧ Own w2 w.heap.size (.slice x2 n2 y2) vy) := ⟨HM2.out.call (by decide) hR hg, ho.mono HM2.out.grow.size⟩
  clear hx ho hR hg HM1 HM2
  have c1 := HM3.out.1.op.cell 1
  have f1 := HM3.out.1.op.free 1
  have HM4 : Hid (MidG 54 #[.bool false, .slice none 0 0, .slice none 0 0] w (w2.setCell ⟨w.heap.size + 2, 1, none⟩ (.slice x2 n2 y2)) b L2 #[.bool fl, .slice x2 n2 y2, .slice none 0 0] ∧ Own (w2.setCell ⟨w.heap.size + 2, 1, none⟩ (.slice x2 n2 y2)) w.heap.size (.slice x2 n2 y2) vy) := ⟨HM3.out.1.store (by decide) (by decide) 1 _, own_set HM3.out.2 HM3.out.1.op (by decide) (grown_setCell _ _ _ _)⟩
  have kb := HM4.out.1.box.cell 0
  go_wp2_with (go_at_call 158; refine (list158_int _ b L2 64 rfl _ (by decide) hz2 HM4.out.1.rr).mono ?_)
  intro e w3 h
  rcases h.symm with ⟨hx, rfl, hg⟩ | ⟨rs, L3, v3, hx, rfl, ho, hR, hg⟩
  · have F : Hid (pOut L = none ∧ w.grownBy w3 (some b)) := ⟨by unfold pOut; rw [HF.out]; simp [HV.out, hx], grown_trans HM4.out.1.grow hg⟩
    clear hx hg h c1 f1 kb
    unfold Pan
    go_wp2_with fail
    exact ⟨rfl, .inr ⟨F.out.1, rfl, F.out.2⟩⟩
  clear h c1 f1 kb
  have HX : Hid (pList pRow 64 L2 = some (rs, L3)) := hx
  obtain ⟨x3, n3, y3, rfl, hn3⟩ := ho.slice
  clear hn3
  have HM5 : Hid (MidG 54 #[.bool false, .slice none 0 0, .slice none 0 0] w w3 b L3 #[.bool fl, .slice x2 n2 y2, .slice none 0 0] ∧ Own w3 w.heap.size (.slice x2 n2 y2) vy ∧ RowsOwn w3 w.heap.size (.slice x3 n3 y3) rs) := ⟨HM4.out.1.call (by decide) hR hg, HM4.out.1.keep hg _ _ _ HM4.out.2, ho.mono HM4.out.1.grow.size⟩
  clear hx ho hR hg HM3 HM4
  obtain ⟨w4, hw4⟩ : ∃ W, w3.setCell ⟨w.heap.size + 2, 2, none⟩ (.slice x3 n3 y3) = W := ⟨_, rfl⟩
  have HM6 : Hid (MidG 54 #[.bool false, .slice none 0 0, .slice none 0 0] w w4 b L3 #[.bool fl, .slice x2 n2 y2, .slice x3 n3 y3] ∧ OutOwn w4 w.heap.size (.slice x2 n2 y2) (.slice x3 n3 y3) ⟨fl, vy, rs⟩) := by
    rw [← hw4]
    exact ⟨HM5.out.1.store (by decide) (by decide) 2 _, own_set HM5.out.2.1 HM5.out.1.op (by decide) (grown_setCell _ _ _ _), HM5.out.2.2.set HM5.out.1.op (by decide) (by decide) (grown_setCell _ _ _ _)⟩
  have c2 := HM5.out.1.op.cell 2
  have f2 := HM5.out.1.op.free 2
  have d2 := HM6.out.1.op.cell 2
  go_wp2_with (go_at_call 148; refine (rising148 _ rs _ HM6.out.2.rows.rws).mono ?_)
  rintro e w5 ⟨rfl, g5⟩
  have HM7 : Hid (MidG 54 #[.bool false, .slice none 0 0, .slice none 0 0] w w5 b L3 #[.bool fl, .slice x2 n2 y2, .slice x3 n3 y3] ∧ OutOwn w5 w.heap.size (.slice x2 n2 y2) (.slice x3 n3 y3) ⟨fl, vy, rs⟩) := ⟨HM6.out.1.more g5, HM6.out.2.grown g5⟩
  clear HM5 HM6 c2 f2 d2 g5 hw4
  cases hrb : riseB rs with
  | false =>
    have F : Hid (pOut L = none ∧ w.grownBy w5 (some b)) := ⟨by unfold pOut; rw [HF.out]; simp [HV.out, HX.out, hrb], HM7.out.1.grow⟩
    go_wp2_with (go_at_call 55; refine (sure_no _ _).mono ?_; rintro e w6 ⟨rfl, hw6⟩; rw [hw6]; clear hw6; unfold Pan)
    exact ⟨rfl, .inr ⟨F.out.1, rfl, F.out.2⟩⟩
  | true =>
    have F : Hid (pOut L = some (⟨fl, vy, rs⟩, L3)) := by unfold pOut; rw [HF.out]; simp [HV.out, HX.out, hrb, Hid]
    have d0 := HM7.out.1.op.cell 0
    have d1 := HM7.out.1.op.cell 1
    have d2 := HM7.out.1.op.cell 2
    have g0 := HM7.out.1.res.cell 0
    have g1 := HM7.out.1.res.cell 1
    have g2 := HM7.out.1.res.cell 2
    have j0 := HM7.out.1.res.free 0
    have j1 := HM7.out.1.res.free 1
    have j2 := HM7.out.1.res.free 2
    have HB : Hid _ := And.intro (((HM7.out.1.res.store 0 (.bool fl)).store 1 (.slice x2 n2 y2)).store 2 (.slice x3 n3 y3)) (grown_trans (grown_trans (grown_setCell w5 (w.heap.size + 1) 0 (.bool fl)) (grown_setCell _ (w.heap.size + 1) 1 (.slice x2 n2 y2))) (grown_setCell _ (w.heap.size + 1) 2 (.slice x3 n3 y3)))
    go_wp2_with (go_at_call 55; refine (sure_yes _ _).mono ?_; rintro e w6 ⟨rfl, hw6⟩; rw [hw6]; clear hw6)
    refine bodyPost_ret (v := _) (results_cell_row rfl _ _ (w.heap.size + 1) 54 _ (0, 0) _ rfl HB.out.1 Tryz.underlying54 rfl (by kernel_rfl)) rfl ?_
    exact .inl ⟨⟨fl, vy, rs⟩, L3, _, F.out, rfl, ⟨_, _, rfl, HM7.out.2.set HM7.out.1.res (by decide) (by decide) HB.out.2⟩, HM7.out.1.rr.set HM7.out.1.res HB.out.2 (by decide) (by decide), grown_new HM7.out.1.grow HB.out.2 (fun y hy => by simp at hy; omega)⟩
end Go.Proofs.YtfocmbnhkldnfaaGreatDoor
