/-
  The document's disk: Put, Switch, looking.
-/
import Derived.Test.YtegacmcekladfaaRw
namespace Go.Proofs.Ytegacmcekladfaa
open Go.RowKit
attribute [local go_sem ↓] run_max0 run_maxn run_minn

set_option maxHeartbeats 400000 in
theorem spareAt49 (b : Nat) (S : St) (w : World) (c7 : w.cell? ⟨b, 7, none⟩ = some (.int .i64 S.rlast)) (hl : S.last ≤ 1) : Calls Try.prog 49 #[.pointer (some ⟨b, 0, none⟩)] w fun e w' => e = .returned (.int .i64 ((1 - S.last : Nat) : Int)) ∧ w' = w := by
  by_cases e : S.last = 0
  · have e1 : S.rlast = 0 := by unfold St.rlast; rw [if_pos e]
    rw [e1] at c7
    rw [e]
    go_enter Try.func49, Try.ntmps49
    go_wp2_with fail
    go_ret
    exact ⟨rfl, rfl⟩
  · have el : S.last = 1 := by omega
    rw [el]
    cases h1 : S.h1 with
    | true =>
      have e1 : S.rlast = 1 := by unfold St.rlast; rw [if_neg e, h1]; rfl
      rw [e1] at c7
      clear h1
      go_enter Try.func49, Try.ntmps49
      go_wp2_with fail
      go_ret
      exact ⟨rfl, rfl⟩
    | false =>
      have e1 : S.rlast = -1 := by unfold St.rlast; rw [if_neg e, h1]; rfl
      rw [e1] at c7
      clear h1
      go_enter Try.func49, Try.ntmps49
      go_wp2_with fail
      go_ret
      exact ⟨rfl, rfl⟩

theorem spareAt49i (b : Nat) (S : St) (n : Nat) (w : World) (c7 : w.cell? ⟨b, 7, none⟩ = some (.int .i64 S.rlast)) (hl : S.last ≤ 1) (hn : 1 - S.last = n) : Calls Try.prog 49 #[.pointer (some ⟨b, 0, none⟩)] w fun e w' => e = .returned (.int .i64 (n : Int)) ∧ w' = w := by
  subst hn
  exact spareAt49 b S w c7 hl

set_option maxRecDepth 100000 in
set_option maxHeartbeats 400000 in
theorem ref39 (F : Nat → Prop) (v : Value) (S : St) (w : World) (h : RK w F v S) (hm : S.steps < 9223372036854775807) :
    Calls Try.prog 39 #[v] w fun e w' => e = .returned (.int .i64 S.switchCode) ∧ RAft w F w' v S.switch := by
  obtain ⟨b, lv, v0, v1, rfl, h⟩ := h
  obtain ⟨c0, c1, c2, c3, c4, c5, c6, c7, c8⟩ := h.cells
  have hf := h.blk.free 8
  have h1 := h.stepped
  obtain ⟨ao, cap, hsv⟩ := h.log.seg.shape
  subst hsv
  have HS : Hid (RKb (w.setCell ⟨b, 8, none⟩ (.int .i64 ((S.steps + 1 : Nat) : Int))) F b (.slice ao S.log.length cap) v0 v1 S.step ∧ Aft w F (w.setCell ⟨b, 8, none⟩ (.int .i64 ((S.steps + 1 : Nat) : Int))) F) := ⟨h1, aft_set h.inb _ _⟩
  have HO : Hid S.Ok := h.ok
  have hl := h.ok.log
  have hsl := h.ok.sure
  have hcp : S.log.length ≤ cap ∧ cap ≤ 9223372036854775807 := by
    obtain ⟨ao', cap', hv, q1, q2, _⟩ := h.log.seg
    simp at hv; unfold maxLen at q2; omega
  obtain ⟨hcp1, hcp2⟩ := hcp
  rw [show ((S.steps + 1 : Nat) : Int) = (S.steps : Int) + 1 by omega] at HS
  have HOK : Hid S.switch.Ok := St.switch_ok h.ok
  have hll := h.ok.last
  clear h h1 c0 c1 c2 c3 c4 c5 c6 c7 hcp1 hcp2
  cases hh : S.spareHas with
  | false =>
    by_cases e : S.last = 0
    · have el : S.last = 0 := by omega
      have es : S.h1 = false := by unfold St.spareHas St.spare at hh; rw [if_pos e] at hh; exact hh
      have e1 : Hid (S.switch = S.step) := by unfold Hid St.switch; rw [hh]; rfl
      have e2 : Hid (S.switchCode = 5) := by unfold Hid St.switchCode; rw [hh]; rfl
      have EL : Hid (S.last = 0) := el
      have ES : Hid (S.h1 = false) := es
      clear hh e es el
      go_enter Try.func39, Try.ntmps39
      go_wp2_with fail
      generalize w.setCell ⟨b, 8, none⟩ (.int .i64 ((S.steps : Int) + 1)) = w1 at HS ⊢
      have k6 : w1.cell? ⟨b, 6, none⟩ = some (.bool false) := by rw [← ES.out]; exact HS.out.1.blk.cell 6
      have k7 : Hid (w1.cell? ⟨b, 7, none⟩ = some (.int .i64 S.step.rlast)) := HS.out.1.blk.cell 7
      have f7 := HS.out.1.blk.free 7
      go_quiet ((go_at_call 49; exact Calls.quiet_of_same (spareAt49i b S.step 1 _ k7.out hll (by show 1 - S.last = 1; rw [EL.out]))))
      go_wp2_with fail
      go_ret
      rw [e1.out, e2.out]
      exact ⟨rfl, F, ⟨b, _, v0, v1, rfl, HS.out.1.grown (grown_drewN _ _ none)⟩, HS.out.2.trans (aft_grown (grown_drewN _ _ none))⟩
    · have el : S.last = 1 := by omega
      have es : S.h0 = false := by unfold St.spareHas St.spare at hh; rw [if_neg e] at hh; exact hh
      have e1 : Hid (S.switch = S.step) := by unfold Hid St.switch; rw [hh]; rfl
      have e2 : Hid (S.switchCode = 5) := by unfold Hid St.switchCode; rw [hh]; rfl
      have EL : Hid (S.last = 1) := el
      have ES : Hid (S.h0 = false) := es
      clear hh e es el
      go_enter Try.func39, Try.ntmps39
      go_wp2_with fail
      generalize w.setCell ⟨b, 8, none⟩ (.int .i64 ((S.steps : Int) + 1)) = w1 at HS ⊢
      have k5 : w1.cell? ⟨b, 5, none⟩ = some (.bool false) := by rw [← ES.out]; exact HS.out.1.blk.cell 5
      have k7 : Hid (w1.cell? ⟨b, 7, none⟩ = some (.int .i64 S.step.rlast)) := HS.out.1.blk.cell 7
      have f7 := HS.out.1.blk.free 7
      go_quiet ((go_at_call 49; exact Calls.quiet_of_same (spareAt49i b S.step 0 _ k7.out hll (by show 1 - S.last = 0; rw [EL.out]))))
      go_wp2_with fail
      go_ret
      rw [e1.out, e2.out]
      exact ⟨rfl, F, ⟨b, _, v0, v1, rfl, HS.out.1.grown (grown_drewN _ _ none)⟩, HS.out.2.trans (aft_grown (grown_drewN _ _ none))⟩
  | true =>
    by_cases e : S.last = 0
    · have el : S.last = 0 := by omega
      have es : S.h1 = true := by unfold St.spareHas St.spare at hh; rw [if_pos e] at hh; exact hh
      have e1 : Hid (S.switch = { S.step with last := 1 - S.last }) := by unfold Hid St.switch; rw [hh]; rfl
      have e2 : Hid (S.switchCode = 0) := by unfold Hid St.switchCode; rw [hh]; rfl
      have EL : Hid (S.last = 0) := el
      have ES : Hid (S.h1 = true) := es
      clear hh e es el
      go_enter Try.func39, Try.ntmps39
      go_wp2_with fail
      generalize w.setCell ⟨b, 8, none⟩ (.int .i64 ((S.steps : Int) + 1)) = w1 at HS ⊢
      have k6 : w1.cell? ⟨b, 6, none⟩ = some (.bool true) := by rw [← ES.out]; exact HS.out.1.blk.cell 6
      have k7 : Hid (w1.cell? ⟨b, 7, none⟩ = some (.int .i64 S.step.rlast)) := HS.out.1.blk.cell 7
      have f7 := HS.out.1.blk.free 7
      go_quiet ((go_at_call 49; exact Calls.quiet_of_same (spareAt49i b S.step 1 _ k7.out hll (by show 1 - S.last = 1; rw [EL.out]))))
      go_wp2_with fail
      refine (spareAt49i b S.step 1 _ (World.grownBy.cell (grown_drewN _ _ none) k7.out (by simp)) hll (by show 1 - S.last = 1; rw [EL.out])).mono ?_
      rintro e w2 ⟨rfl, he⟩
      have HS2 : Hid (RKb w2 F b (.slice ao S.log.length cap) v0 v1 S.step ∧ Aft w F w2 F) := by
        rw [he]
        exact ⟨HS.out.1.grown (grown_drewN _ _ none), HS.out.2.trans (aft_grown (grown_drewN _ _ none))⟩
      have q7 : w2.cell? ⟨b, 7, none⟩ = some (.int .i64 S.step.rlast) := by rw [he]; exact k7.out
      have g7 : w2.frozen? ⟨b, 7, none⟩ = false := by rw [he]; exact f7
      clear he HS k7 f7
      go_wp2_with fail
      go_ret
      rw [e2.out]
      refine ⟨rfl, F, ⟨b, _, v0, v1, rfl, HS2.out.1.set (S' := S.switch) 7 _ ?_ ?_ ?_ ?_ HOK.out⟩, HS2.out.2.trans (aft_set HS2.out.1.inb _ _)⟩
      · rw [e1.out]; unfold rC; simp [St.rlast, St.step, EL.out, ES.out]
      all_goals rw [e1.out]
    · have el : S.last = 1 := by omega
      have es : S.h0 = true := by unfold St.spareHas St.spare at hh; rw [if_neg e] at hh; exact hh
      have e1 : Hid (S.switch = { S.step with last := 1 - S.last }) := by unfold Hid St.switch; rw [hh]; rfl
      have e2 : Hid (S.switchCode = 0) := by unfold Hid St.switchCode; rw [hh]; rfl
      have EL : Hid (S.last = 1) := el
      have ES : Hid (S.h0 = true) := es
      clear hh e es el
      go_enter Try.func39, Try.ntmps39
      go_wp2_with fail
      generalize w.setCell ⟨b, 8, none⟩ (.int .i64 ((S.steps : Int) + 1)) = w1 at HS ⊢
      have k5 : w1.cell? ⟨b, 5, none⟩ = some (.bool true) := by rw [← ES.out]; exact HS.out.1.blk.cell 5
      have k7 : Hid (w1.cell? ⟨b, 7, none⟩ = some (.int .i64 S.step.rlast)) := HS.out.1.blk.cell 7
      have f7 := HS.out.1.blk.free 7
      go_quiet ((go_at_call 49; exact Calls.quiet_of_same (spareAt49i b S.step 0 _ k7.out hll (by show 1 - S.last = 0; rw [EL.out]))))
      go_wp2_with fail
      refine (spareAt49i b S.step 0 _ (World.grownBy.cell (grown_drewN _ _ none) k7.out (by simp)) hll (by show 1 - S.last = 0; rw [EL.out])).mono ?_
      rintro e w2 ⟨rfl, he⟩
      have HS2 : Hid (RKb w2 F b (.slice ao S.log.length cap) v0 v1 S.step ∧ Aft w F w2 F) := by
        rw [he]
        exact ⟨HS.out.1.grown (grown_drewN _ _ none), HS.out.2.trans (aft_grown (grown_drewN _ _ none))⟩
      have q7 : w2.cell? ⟨b, 7, none⟩ = some (.int .i64 S.step.rlast) := by rw [he]; exact k7.out
      have g7 : w2.frozen? ⟨b, 7, none⟩ = false := by rw [he]; exact f7
      clear he HS k7 f7
      go_wp2_with fail
      go_ret
      rw [e2.out]
      refine ⟨rfl, F, ⟨b, _, v0, v1, rfl, HS2.out.1.set (S' := S.switch) 7 _ ?_ ?_ ?_ ?_ HOK.out⟩, HS2.out.2.trans (aft_set HS2.out.1.inb _ _)⟩
      · rw [e1.out]; unfold rC; simp [St.rlast, St.step, EL.out, ES.out]
      all_goals rw [e1.out]

set_option maxRecDepth 100000 in
set_option maxHeartbeats 400000 in
theorem ref35 (F : Nat → Prop) (v u : Value) (S : St) (M : List UInt8) (w : World) (h : RK w F v S) (hm : S.steps < 9223372036854775807) (hu : Seg w u M) (hd : M ≠ [] → ∀ k, u.ownBlock = some k → ¬ F k) (hM : M.length ≤ 140737488351232) :
    Calls Try.prog 35 #[v, u] w fun e w' => e = .returned (.int .i64 0) ∧ RAft w F w' v (S.put M) := by
  obtain ⟨au, cu, huv⟩ := hu.shape
  subst huv
  obtain ⟨b, lv, v0, v1, rfl, h⟩ := h
  obtain ⟨c0, c1, c2, c3, c4, c5, c6, c7, c8⟩ := h.cells
  have hf := h.blk.free 8
  have h1 := h.stepped
  obtain ⟨ao, cap, hsv⟩ := h.log.seg.shape
  subst hsv
  have HS : Hid (RKb (w.setCell ⟨b, 8, none⟩ (.int .i64 ((S.steps + 1 : Nat) : Int))) F b (.slice ao S.log.length cap) v0 v1 S.step ∧ Aft w F (w.setCell ⟨b, 8, none⟩ (.int .i64 ((S.steps + 1 : Nat) : Int))) F ∧ Seg (w.setCell ⟨b, 8, none⟩ (.int .i64 ((S.steps + 1 : Nat) : Int))) (.slice au M.length cu) M) := ⟨h1, aft_set h.inb _ _, hu.far (aft_set (F := F) h.inb _ _).fr hd⟩
  have HO : Hid S.Ok := h.ok
  have hl := h.ok.log
  have hsl := h.ok.sure
  have hcp : S.log.length ≤ cap ∧ cap ≤ 9223372036854775807 := by
    obtain ⟨ao', cap', hv, q1, q2, _⟩ := h.log.seg
    simp at hv; unfold maxLen at q2; omega
  obtain ⟨hcp1, hcp2⟩ := hcp
  rw [show ((S.steps + 1 : Nat) : Int) = (S.steps : Int) + 1 by omega] at HS
  have HOK : Hid (S.put M).Ok := St.put_ok h.ok hM
  have hll := h.ok.last
  clear h h1 c0 c1 c2 c3 c4 c5 c6 c7 hu hcp1 hcp2
  by_cases e : S.last = 0
  · have el : S.last = 0 := by omega
    have e1 : Hid (S.put M = { S.step with h1 := true, b1 := M }) := by unfold Hid St.put; rw [if_pos e]
    have EL : Hid (S.last = 0) := el
    clear e el
    go_enter Try.func35, Try.ntmps35
    go_wp2_with fail
    generalize w.setCell ⟨b, 8, none⟩ (.int .i64 ((S.steps : Int) + 1)) = w1 at HS ⊢
    have k7 : Hid (w1.cell? ⟨b, 7, none⟩ = some (.int .i64 S.step.rlast)) := HS.out.1.blk.cell 7
    refine wp_region_noPanic ?_
    refine wp_region_hold 8 (fun x => w1.grownBy x none) (by kernel_rfl) ?_
    refine wpHold_take (i := 0) (v := _) (grown_drew _ _) rfl rfl (by kernel_rfl) (by kernel_rfl) (by kernel_rfl) (by kernel_rfl) (by kernel_rfl) (fun _ _ _ h => h) (by rfl) (fun wk hk => by skip; go_simp; try rfl) ?_
    try simp only [Act.put, List.setIfInBounds_toArray, List.set_cons_zero, List.set_cons_succ]
    refine wpHold_take (i := 1) (v := _) (grown_drew _ _) rfl rfl (by kernel_rfl) (by kernel_rfl) (by kernel_rfl) (by kernel_rfl) (by kernel_rfl) (fun _ _ _ h => h) (by rfl) (fun wk hk => by skip; go_simp; try rfl) ?_
    try simp only [Act.put, List.setIfInBounds_toArray, List.set_cons_zero, List.set_cons_succ]
    refine wpHold_take (i := 3) (v := _) (grown_drew _ _) rfl rfl (by kernel_rfl) (by kernel_rfl) (by kernel_rfl) (by kernel_rfl) (by kernel_rfl) (fun _ _ _ h => h) (by rfl) (fun wk hk => by skip; go_simp; try rfl) ?_
    try simp only [Act.put, List.setIfInBounds_toArray, List.set_cons_zero, List.set_cons_succ]
    refine wpHold_take (i := 5) (v := _) (grown_drew _ _) rfl rfl (by kernel_rfl) (by kernel_rfl) (by kernel_rfl) (by kernel_rfl) (by kernel_rfl) (fun _ _ _ h => h) (by rfl) (fun wk hk => by skip; go_simp; try rfl) ?_
    try simp only [Act.put, List.setIfInBounds_toArray, List.set_cons_zero, List.set_cons_succ]
    refine wpHold_take (i := 6) (v := _) (grown_drew _ _) rfl rfl (by kernel_rfl) (by kernel_rfl) (by kernel_rfl) (by kernel_rfl) (by kernel_rfl) (fun _ _ _ h => h) (by rfl) (fun wk hk => by skip; go_simp; try rfl) ?_
    try simp only [Act.put, List.setIfInBounds_toArray, List.set_cons_zero, List.set_cons_succ]
    refine wpHold_one (i := 2) rfl (by kernel_rfl) (by rfl) (fun K hK => ?_)
    go_simp
    refine (spareAt49i b S.step 1 _ (World.grownBy.cell (grown_drew w1 none) k7.out (by simp)) hll (by show 1 - S.last = 1; rw [EL.out])).mono ?_
    rintro e w2 ⟨rfl, he⟩
    subst he
    go_wp2_with fail
    refine hK.out _ _ (fun _ => grown_drew _ _) ?_
    clear hK K
    try simp only [Act.put, List.setIfInBounds_toArray, List.set_cons_zero, List.set_cons_succ]
    refine wpHold_one (i := 4) rfl (by kernel_rfl) (by rfl) (fun K hK => ?_)
    go_simp
    refine (copy27 _ M _ (Seg.grown HS.out.2.2 (grown_drew _ none)) (by omega)).mono ?_
    rintro e w3 ⟨u3, rfl, o3, g3⟩
    obtain ⟨a3, cp3, hv3⟩ := o3.seg.shape
    subst hv3
    have G3 : Hid (w1.grownBy w3 none) := grown_trans (grown_drew _ none) g3
    have O3 : Hid (Own w3 w1.heap.size (.slice a3 M.length cp3) M) := o3
    clear o3 g3
    go_wp2_with fail
    refine hK.out _ _ (fun _ => G3.out) ?_
    clear hK K
    try simp only [Act.put, List.setIfInBounds_toArray, List.set_cons_zero, List.set_cons_succ]
    refine wpHold_take (i := 7) (v := _) (G3.out) rfl rfl (by kernel_rfl) (by kernel_rfl) (by kernel_rfl) (by kernel_rfl) (by kernel_rfl) (fun _ _ _ h => h) (by rfl) (fun wk hk => by skip; go_simp; try rfl) ?_
    try simp only [Act.put, List.setIfInBounds_toArray, List.set_cons_zero, List.set_cons_succ]
    refine wpHold_one (i := 8) rfl (by kernel_rfl) (by rfl) (fun K hK => ?_)
    have hb := HS.out.1.blk.grown G3.out (by simp)
    have q0 := hb.cell 4
    have f0 := hb.free 4
    simp [rC] at q0
    go_wp2_with fail
    refine hK.out _ _ (fun h => absurd rfl h) ?_
    clear hK K hb q0 f0
    try simp only [Act.put, List.setIfInBounds_toArray, List.set_cons_zero, List.set_cons_succ]
    refine wpHold_done (by kernel_rfl) ?_
    refine (‹∀ (a : Act) (w : World), Code.wp Try.prog _ _ a w → _› _ _ ?_)
    have HB : Hid (Blk (w3.setCell ⟨b, 4, none⟩ (.slice a3 M.length cp3)) b 63 ((rC S.step (.slice ao S.log.length cap) v0 v1).setIfInBounds 4 (.slice a3 M.length cp3)) ∧ w3.grownBy (w3.setCell ⟨b, 4, none⟩ (.slice a3 M.length cp3)) (some b)) := ⟨(HS.out.1.blk.grown G3.out (by simp)).store 4 _, grown_setCell _ _ _ _⟩
    go_wp2_with fail
    generalize w3.setCell ⟨b, 4, none⟩ (.slice a3 M.length cp3) = w4 at HB ⊢
    have k7 : Hid (w4.cell? ⟨b, 7, none⟩ = some (.int .i64 S.step.rlast)) := HB.out.1.cell 7
    refine wp_region_noPanic ?_
    refine wp_region_hold 6 (fun x => w4.grownBy x none) (by kernel_rfl) ?_
    refine wpHold_take (i := 0) (v := _) (grown_drew _ _) rfl rfl (by kernel_rfl) (by kernel_rfl) (by kernel_rfl) (by kernel_rfl) (by kernel_rfl) (fun _ _ _ h => h) (by rfl) (fun wk hk => by skip; go_simp; try rfl) ?_
    try simp only [Act.put, List.setIfInBounds_toArray, List.set_cons_zero, List.set_cons_succ]
    refine wpHold_take (i := 1) (v := _) (grown_drew _ _) rfl rfl (by kernel_rfl) (by kernel_rfl) (by kernel_rfl) (by kernel_rfl) (by kernel_rfl) (fun _ _ _ h => h) (by rfl) (fun wk hk => by skip; go_simp; try rfl) ?_
    try simp only [Act.put, List.setIfInBounds_toArray, List.set_cons_zero, List.set_cons_succ]
    refine wpHold_take (i := 3) (v := _) (grown_drew _ _) rfl rfl (by kernel_rfl) (by kernel_rfl) (by kernel_rfl) (by kernel_rfl) (by kernel_rfl) (fun _ _ _ h => h) (by rfl) (fun wk hk => by skip; go_simp; try rfl) ?_
    try simp only [Act.put, List.setIfInBounds_toArray, List.set_cons_zero, List.set_cons_succ]
    refine wpHold_take (i := 4) (v := _) (grown_drew _ _) rfl rfl (by kernel_rfl) (by kernel_rfl) (by kernel_rfl) (by kernel_rfl) (by kernel_rfl) (fun _ _ _ h => h) (by rfl) (fun wk hk => by skip; go_simp; try rfl) ?_
    try simp only [Act.put, List.setIfInBounds_toArray, List.set_cons_zero, List.set_cons_succ]
    refine wpHold_one (i := 2) rfl (by kernel_rfl) (by rfl) (fun K hK => ?_)
    go_simp
    refine (spareAt49i b S.step 1 _ (World.grownBy.cell (grown_drew w4 none) k7.out (by simp)) hll (by show 1 - S.last = 1; rw [EL.out])).mono ?_
    rintro e w5 ⟨rfl, he⟩
    subst he
    go_wp2_with fail
    refine hK.out _ _ (fun _ => grown_drew _ _) ?_
    clear hK K
    try simp only [Act.put, List.setIfInBounds_toArray, List.set_cons_zero, List.set_cons_succ]
    refine wpHold_take (i := 5) (v := _) (grown_drew _ _) rfl rfl (by kernel_rfl) (by kernel_rfl) (by kernel_rfl) (by kernel_rfl) (by kernel_rfl) (fun _ _ _ h => h) (by rfl) (fun wk hk => by skip; go_simp; try rfl) ?_
    try simp only [Act.put, List.setIfInBounds_toArray, List.set_cons_zero, List.set_cons_succ]
    refine wpHold_one (i := 6) rfl (by kernel_rfl) (by rfl) (fun K hK => ?_)
    have hb := HB.out.1.grown (grown_drew w4 none) (by simp)
    have q0 := hb.cell 6
    have f0 := hb.free 6
    simp [rC] at q0
    have HF : Hid (RAft w F (w4.drew.setCell ⟨b, 6, none⟩ (.bool true)) (.pointer (some ⟨b, 0, none⟩)) (S.put M)) := by
      have h1 := HS.out.1.grown G3.out
      have g2 : w3.grownBy (w4.drew.setCell ⟨b, 6, none⟩ (.bool true)) (some b) := grown_trans (grown_trans HB.out.2 (grown_drew w4 _)) (grown_setCell _ _ _ _)
      have hn : ∀ k, (Value.slice a3 M.length cp3).ownBlock = some k → ¬ F k := fun k hk hF => by
        have := (O3.out.lt k hk).1
        have := HS.out.1.lt k hF
        omega
      have hok := HOK.out
      rw [e1.out] at hok ⊢
      have hbb : Blk (w4.drew.setCell ⟨b, 6, none⟩ (.bool true)) b 63 (rC { S.step with h1 := true, b1 := M } (.slice ao S.log.length cap) v0 (.slice a3 M.length cp3)) := by
        have e3 : rC { S.step with h1 := true, b1 := M } (.slice ao S.log.length cap) v0 (.slice a3 M.length cp3) = ((rC S.step (.slice ao S.log.length cap) v0 v1).setIfInBounds 4 (.slice a3 M.length cp3)).setIfInBounds 6 (.bool true) := by
          unfold rC; simp [St.rlast, St.step, EL.out]
        rw [e3]
        exact hb.store 6 _
      refine RAft.after ⟨fun k => F k ∨ (Value.slice a3 M.length cp3).ownBlock = some k, ⟨b, _, v0, _, rfl, h1.reput1 (O3.out.mono (Nat.zero_le _)) hn g2 hbb rfl rfl hok⟩, ⟨Fr.trans (Fr.of (F := F) G3.out (by simp)) (Fr.of (F := F) g2 (fun k hk => by simp at hk; subst hk; exact HS.out.1.inb)) (fun k hk => .inl hk), fun k hk => ?_⟩⟩ HS.out.2.1
      rcases hk with hk | hk
      · exact .inl hk
      · exact .inr (O3.out.lt k hk).1
    go_wp2_with fail
    refine hK.out _ _ (fun h => absurd rfl h) ?_
    clear hK K
    try simp only [Act.put, List.setIfInBounds_toArray, List.set_cons_zero, List.set_cons_succ]
    refine wpHold_done (by kernel_rfl) ?_
    refine (‹∀ (a : Act) (w : World), Code.wp Try.prog _ _ a w → _› _ _ ?_)
    go_wp2_with fail
    go_ret
    exact ⟨rfl, HF.out⟩
  · have el : S.last = 1 := by omega
    have e1 : Hid (S.put M = { S.step with h0 := true, b0 := M }) := by unfold Hid St.put; rw [if_neg e]
    have EL : Hid (S.last = 1) := el
    clear e el
    go_enter Try.func35, Try.ntmps35
    go_wp2_with fail
    generalize w.setCell ⟨b, 8, none⟩ (.int .i64 ((S.steps : Int) + 1)) = w1 at HS ⊢
    have k7 : Hid (w1.cell? ⟨b, 7, none⟩ = some (.int .i64 S.step.rlast)) := HS.out.1.blk.cell 7
    refine wp_region_noPanic ?_
    refine wp_region_hold 8 (fun x => w1.grownBy x none) (by kernel_rfl) ?_
    refine wpHold_take (i := 0) (v := _) (grown_drew _ _) rfl rfl (by kernel_rfl) (by kernel_rfl) (by kernel_rfl) (by kernel_rfl) (by kernel_rfl) (fun _ _ _ h => h) (by rfl) (fun wk hk => by skip; go_simp; try rfl) ?_
    try simp only [Act.put, List.setIfInBounds_toArray, List.set_cons_zero, List.set_cons_succ]
    refine wpHold_take (i := 1) (v := _) (grown_drew _ _) rfl rfl (by kernel_rfl) (by kernel_rfl) (by kernel_rfl) (by kernel_rfl) (by kernel_rfl) (fun _ _ _ h => h) (by rfl) (fun wk hk => by skip; go_simp; try rfl) ?_
    try simp only [Act.put, List.setIfInBounds_toArray, List.set_cons_zero, List.set_cons_succ]
    refine wpHold_take (i := 3) (v := _) (grown_drew _ _) rfl rfl (by kernel_rfl) (by kernel_rfl) (by kernel_rfl) (by kernel_rfl) (by kernel_rfl) (fun _ _ _ h => h) (by rfl) (fun wk hk => by skip; go_simp; try rfl) ?_
    try simp only [Act.put, List.setIfInBounds_toArray, List.set_cons_zero, List.set_cons_succ]
    refine wpHold_take (i := 5) (v := _) (grown_drew _ _) rfl rfl (by kernel_rfl) (by kernel_rfl) (by kernel_rfl) (by kernel_rfl) (by kernel_rfl) (fun _ _ _ h => h) (by rfl) (fun wk hk => by skip; go_simp; try rfl) ?_
    try simp only [Act.put, List.setIfInBounds_toArray, List.set_cons_zero, List.set_cons_succ]
    refine wpHold_take (i := 6) (v := _) (grown_drew _ _) rfl rfl (by kernel_rfl) (by kernel_rfl) (by kernel_rfl) (by kernel_rfl) (by kernel_rfl) (fun _ _ _ h => h) (by rfl) (fun wk hk => by skip; go_simp; try rfl) ?_
    try simp only [Act.put, List.setIfInBounds_toArray, List.set_cons_zero, List.set_cons_succ]
    refine wpHold_one (i := 2) rfl (by kernel_rfl) (by rfl) (fun K hK => ?_)
    go_simp
    refine (spareAt49i b S.step 0 _ (World.grownBy.cell (grown_drew w1 none) k7.out (by simp)) hll (by show 1 - S.last = 0; rw [EL.out])).mono ?_
    rintro e w2 ⟨rfl, he⟩
    subst he
    go_wp2_with fail
    refine hK.out _ _ (fun _ => grown_drew _ _) ?_
    clear hK K
    try simp only [Act.put, List.setIfInBounds_toArray, List.set_cons_zero, List.set_cons_succ]
    refine wpHold_one (i := 4) rfl (by kernel_rfl) (by rfl) (fun K hK => ?_)
    go_simp
    refine (copy27 _ M _ (Seg.grown HS.out.2.2 (grown_drew _ none)) (by omega)).mono ?_
    rintro e w3 ⟨u3, rfl, o3, g3⟩
    obtain ⟨a3, cp3, hv3⟩ := o3.seg.shape
    subst hv3
    have G3 : Hid (w1.grownBy w3 none) := grown_trans (grown_drew _ none) g3
    have O3 : Hid (Own w3 w1.heap.size (.slice a3 M.length cp3) M) := o3
    clear o3 g3
    go_wp2_with fail
    refine hK.out _ _ (fun _ => G3.out) ?_
    clear hK K
    try simp only [Act.put, List.setIfInBounds_toArray, List.set_cons_zero, List.set_cons_succ]
    refine wpHold_take (i := 7) (v := _) (G3.out) rfl rfl (by kernel_rfl) (by kernel_rfl) (by kernel_rfl) (by kernel_rfl) (by kernel_rfl) (fun _ _ _ h => h) (by rfl) (fun wk hk => by skip; go_simp; try rfl) ?_
    try simp only [Act.put, List.setIfInBounds_toArray, List.set_cons_zero, List.set_cons_succ]
    refine wpHold_one (i := 8) rfl (by kernel_rfl) (by rfl) (fun K hK => ?_)
    have hb := HS.out.1.blk.grown G3.out (by simp)
    have q0 := hb.cell 3
    have f0 := hb.free 3
    simp [rC] at q0
    go_wp2_with fail
    refine hK.out _ _ (fun h => absurd rfl h) ?_
    clear hK K hb q0 f0
    try simp only [Act.put, List.setIfInBounds_toArray, List.set_cons_zero, List.set_cons_succ]
    refine wpHold_done (by kernel_rfl) ?_
    refine (‹∀ (a : Act) (w : World), Code.wp Try.prog _ _ a w → _› _ _ ?_)
    have HB : Hid (Blk (w3.setCell ⟨b, 3, none⟩ (.slice a3 M.length cp3)) b 63 ((rC S.step (.slice ao S.log.length cap) v0 v1).setIfInBounds 3 (.slice a3 M.length cp3)) ∧ w3.grownBy (w3.setCell ⟨b, 3, none⟩ (.slice a3 M.length cp3)) (some b)) := ⟨(HS.out.1.blk.grown G3.out (by simp)).store 3 _, grown_setCell _ _ _ _⟩
    go_wp2_with fail
    generalize w3.setCell ⟨b, 3, none⟩ (.slice a3 M.length cp3) = w4 at HB ⊢
    have k7 : Hid (w4.cell? ⟨b, 7, none⟩ = some (.int .i64 S.step.rlast)) := HB.out.1.cell 7
    refine wp_region_noPanic ?_
    refine wp_region_hold 6 (fun x => w4.grownBy x none) (by kernel_rfl) ?_
    refine wpHold_take (i := 0) (v := _) (grown_drew _ _) rfl rfl (by kernel_rfl) (by kernel_rfl) (by kernel_rfl) (by kernel_rfl) (by kernel_rfl) (fun _ _ _ h => h) (by rfl) (fun wk hk => by skip; go_simp; try rfl) ?_
    try simp only [Act.put, List.setIfInBounds_toArray, List.set_cons_zero, List.set_cons_succ]
    refine wpHold_take (i := 1) (v := _) (grown_drew _ _) rfl rfl (by kernel_rfl) (by kernel_rfl) (by kernel_rfl) (by kernel_rfl) (by kernel_rfl) (fun _ _ _ h => h) (by rfl) (fun wk hk => by skip; go_simp; try rfl) ?_
    try simp only [Act.put, List.setIfInBounds_toArray, List.set_cons_zero, List.set_cons_succ]
    refine wpHold_take (i := 3) (v := _) (grown_drew _ _) rfl rfl (by kernel_rfl) (by kernel_rfl) (by kernel_rfl) (by kernel_rfl) (by kernel_rfl) (fun _ _ _ h => h) (by rfl) (fun wk hk => by skip; go_simp; try rfl) ?_
    try simp only [Act.put, List.setIfInBounds_toArray, List.set_cons_zero, List.set_cons_succ]
    refine wpHold_take (i := 4) (v := _) (grown_drew _ _) rfl rfl (by kernel_rfl) (by kernel_rfl) (by kernel_rfl) (by kernel_rfl) (by kernel_rfl) (fun _ _ _ h => h) (by rfl) (fun wk hk => by skip; go_simp; try rfl) ?_
    try simp only [Act.put, List.setIfInBounds_toArray, List.set_cons_zero, List.set_cons_succ]
    refine wpHold_one (i := 2) rfl (by kernel_rfl) (by rfl) (fun K hK => ?_)
    go_simp
    refine (spareAt49i b S.step 0 _ (World.grownBy.cell (grown_drew w4 none) k7.out (by simp)) hll (by show 1 - S.last = 0; rw [EL.out])).mono ?_
    rintro e w5 ⟨rfl, he⟩
    subst he
    go_wp2_with fail
    refine hK.out _ _ (fun _ => grown_drew _ _) ?_
    clear hK K
    try simp only [Act.put, List.setIfInBounds_toArray, List.set_cons_zero, List.set_cons_succ]
    refine wpHold_take (i := 5) (v := _) (grown_drew _ _) rfl rfl (by kernel_rfl) (by kernel_rfl) (by kernel_rfl) (by kernel_rfl) (by kernel_rfl) (fun _ _ _ h => h) (by rfl) (fun wk hk => by skip; go_simp; try rfl) ?_
    try simp only [Act.put, List.setIfInBounds_toArray, List.set_cons_zero, List.set_cons_succ]
    refine wpHold_one (i := 6) rfl (by kernel_rfl) (by rfl) (fun K hK => ?_)
    have hb := HB.out.1.grown (grown_drew w4 none) (by simp)
    have q0 := hb.cell 5
    have f0 := hb.free 5
    simp [rC] at q0
    have HF : Hid (RAft w F (w4.drew.setCell ⟨b, 5, none⟩ (.bool true)) (.pointer (some ⟨b, 0, none⟩)) (S.put M)) := by
      have h1 := HS.out.1.grown G3.out
      have g2 : w3.grownBy (w4.drew.setCell ⟨b, 5, none⟩ (.bool true)) (some b) := grown_trans (grown_trans HB.out.2 (grown_drew w4 _)) (grown_setCell _ _ _ _)
      have hn : ∀ k, (Value.slice a3 M.length cp3).ownBlock = some k → ¬ F k := fun k hk hF => by
        have := (O3.out.lt k hk).1
        have := HS.out.1.lt k hF
        omega
      have hok := HOK.out
      rw [e1.out] at hok ⊢
      have hbb : Blk (w4.drew.setCell ⟨b, 5, none⟩ (.bool true)) b 63 (rC { S.step with h0 := true, b0 := M } (.slice ao S.log.length cap) (.slice a3 M.length cp3) v1) := by
        have e3 : rC { S.step with h0 := true, b0 := M } (.slice ao S.log.length cap) (.slice a3 M.length cp3) v1 = ((rC S.step (.slice ao S.log.length cap) v0 v1).setIfInBounds 3 (.slice a3 M.length cp3)).setIfInBounds 5 (.bool true) := by
          unfold rC; simp [St.rlast, St.step, EL.out]
        rw [e3]
        exact hb.store 5 _
      refine RAft.after ⟨fun k => F k ∨ (Value.slice a3 M.length cp3).ownBlock = some k, ⟨b, _, _, v1, rfl, h1.reput0 (O3.out.mono (Nat.zero_le _)) hn g2 hbb rfl rfl hok⟩, ⟨Fr.trans (Fr.of (F := F) G3.out (by simp)) (Fr.of (F := F) g2 (fun k hk => by simp at hk; subst hk; exact HS.out.1.inb)) (fun k hk => .inl hk), fun k hk => ?_⟩⟩ HS.out.2.1
      rcases hk with hk | hk
      · exact .inl hk
      · exact .inr (O3.out.lt k hk).1
    go_wp2_with fail
    refine hK.out _ _ (fun h => absurd rfl h) ?_
    clear hK K
    try simp only [Act.put, List.setIfInBounds_toArray, List.set_cons_zero, List.set_cons_succ]
    refine wpHold_done (by kernel_rfl) ?_
    refine (‹∀ (a : Act) (w : World), Code.wp Try.prog _ _ a w → _› _ _ ?_)
    go_wp2_with fail
    go_ret
    exact ⟨rfl, HF.out⟩

set_option maxHeartbeats 400000 in
theorem ref33 (F : Nat → Prop) (v : Value) (S : St) (w : World) (h : RK w F v S) : Calls Try.prog 33 #[v] w fun e w' => e = .returned (.int .i64 ((S.cap - S.log.length : Nat) : Int)) ∧ w.grownBy w' none ∧ w'.heap = w.heap := by
  obtain ⟨b, lv, v0, v1, rfl, h⟩ := h
  obtain ⟨c0, c1, c2, c3, c4, c5, c6, c7, c8⟩ := h.cells
  obtain ⟨ao, cap, hsv⟩ := h.log.seg.shape
  subst hsv
  have h1 := h.ok.cap1
  have h2 := h.ok.cap2
  have h3 := h.ok.log
  clear h c2 c3 c4 c5 c6 c7 c8
  obtain ⟨n, hn⟩ : ∃ n, S.log.length = n := ⟨_, rfl⟩
  obtain ⟨c, hc⟩ : ∃ c, S.cap = c := ⟨_, rfl⟩
  rw [hn] at c1 h3 ⊢
  rw [hc] at c0 h1 h2 ⊢
  clear hn hc
  go_enter Try.func33, Try.ntmps33
  go_wp2_with fail
  go_quiet (fail)
  go_wp2_with fail
  go_ret
  exact ⟨rfl, grown_drewN _ _ _, rfl⟩

set_option maxRecDepth 100000 in
set_option maxHeartbeats 400000 in
theorem ref28 (F : Nat → Prop) (v : Value) (S : St) (w : World) (h : RK w F v S) : Calls Try.prog 28 #[v] w fun e w' => ∃ u, e = .returned (.tuple #[u, .bool S.snap.2]) ∧ Own w' w.heap.size u S.snap.1 ∧ w.grownBy w' none := by
  obtain ⟨b, lv, v0, v1, rfl, h⟩ := h
  obtain ⟨c0, c1, c2, c3, c4, c5, c6, c7, c8⟩ := h.cells
  have H : Hid (RKb w F b lv v0 v1 S) := h
  have hl := h.ok.last
  clear h c0 c1 c2 c5 c6 c8
  by_cases e : S.last = 0
  · have e1 : S.rlast = 0 := by unfold St.rlast; rw [if_pos e]
    have es : S.snap = (S.b0, true) := by unfold St.snap; rw [if_pos e, H.out.ok.first e]
    rw [e1] at c7
    rw [es]
    have HC : Hid (∀ x : World, w.grownBy x none → x.cell? ⟨b, 3, none⟩ = some v0 ∧ x.cell? ⟨b, 7, none⟩ = some (.int .i64 0)) := fun x hx => ⟨hx.cell c3 (by simp), hx.cell c7 (by simp)⟩
    clear c3 c4
    go_enter Try.func28, Try.ntmps28
    go_wp2_with fail
    refine wp_region_noPanic ?_
    refine wp_region_hold 1000 (fun x => w.grownBy x none) (by kernel_rfl) ?_
    refine wpHold_take (i := 0) (v := _) (grown_drew _ _) rfl rfl (by kernel_rfl) (by kernel_rfl) (by kernel_rfl) (by kernel_rfl) (by kernel_rfl) (fun _ _ _ h => h) (by rfl) (fun wk hk => by obtain ⟨k0, k1⟩ := HC.out wk hk; go_simp; try rfl) ?_
    try simp only [Act.put, List.setIfInBounds_toArray, List.set_cons_zero, List.set_cons_succ]
    refine wpHold_take (i := 1) (v := _) (grown_drew _ _) rfl rfl (by kernel_rfl) (by kernel_rfl) (by kernel_rfl) (by kernel_rfl) (by kernel_rfl) (fun _ _ _ h => h) (by rfl) (fun wk hk => by obtain ⟨k0, k1⟩ := HC.out wk hk; go_simp; try rfl) ?_
    try simp only [Act.put, List.setIfInBounds_toArray, List.set_cons_zero, List.set_cons_succ]
    refine wpHold_take (i := 2) (v := _) (grown_drew _ _) rfl rfl (by kernel_rfl) (by kernel_rfl) (by kernel_rfl) (by kernel_rfl) (by kernel_rfl) (fun _ _ _ h => h) (by rfl) (fun wk hk => by obtain ⟨k0, k1⟩ := HC.out wk hk; go_simp; try rfl) ?_
    try simp only [Act.put, List.setIfInBounds_toArray, List.set_cons_zero, List.set_cons_succ]
    refine wpHold_take (i := 3) (v := _) (grown_drew _ _) rfl rfl (by kernel_rfl) (by kernel_rfl) (by kernel_rfl) (by kernel_rfl) (by kernel_rfl) (fun _ _ _ h => h) (by rfl) (fun wk hk => by obtain ⟨k0, k1⟩ := HC.out wk hk; go_simp; try rfl) ?_
    try simp only [Act.put, List.setIfInBounds_toArray, List.set_cons_zero, List.set_cons_succ]
    refine wpHold_take (i := 4) (v := _) (grown_drew _ _) rfl rfl (by kernel_rfl) (by kernel_rfl) (by kernel_rfl) (by kernel_rfl) (by kernel_rfl) (fun _ _ _ h => h) (by rfl) (fun wk hk => by obtain ⟨k0, k1⟩ := HC.out wk hk; go_simp; try rfl) ?_
    try simp only [Act.put, List.setIfInBounds_toArray, List.set_cons_zero, List.set_cons_succ]
    refine wpHold_take (i := 5) (v := _) (grown_drew _ _) rfl rfl (by kernel_rfl) (by kernel_rfl) (by kernel_rfl) (by kernel_rfl) (by kernel_rfl) (fun _ _ _ h => h) (by rfl) (fun wk hk => by obtain ⟨k0, k1⟩ := HC.out wk hk; go_simp; try rfl) ?_
    try simp only [Act.put, List.setIfInBounds_toArray, List.set_cons_zero, List.set_cons_succ]
    refine wpHold_take (i := 6) (v := _) (grown_drew _ _) rfl rfl (by kernel_rfl) (by kernel_rfl) (by kernel_rfl) (by kernel_rfl) (by kernel_rfl) (fun _ _ _ h => h) (by rfl) (fun wk hk => by obtain ⟨k0, k1⟩ := HC.out wk hk; go_simp; try rfl) ?_
    try simp only [Act.put, List.setIfInBounds_toArray, List.set_cons_zero, List.set_cons_succ]
    refine wpHold_take (i := 7) (v := _) (grown_drew _ _) rfl rfl (by kernel_rfl) (by kernel_rfl) (by kernel_rfl) (by kernel_rfl) (by kernel_rfl) (fun _ _ _ h => h) (by rfl) (fun wk hk => by obtain ⟨k0, k1⟩ := HC.out wk hk; go_simp; try rfl) ?_
    try simp only [Act.put, List.setIfInBounds_toArray, List.set_cons_zero, List.set_cons_succ]
    refine wpHold_take (i := 8) (v := _) (grown_drew _ _) rfl rfl (by kernel_rfl) (by kernel_rfl) (by kernel_rfl) (by kernel_rfl) (by kernel_rfl) (fun _ _ _ h => h) (by rfl) (fun wk hk => by obtain ⟨k0, k1⟩ := HC.out wk hk; go_simp; try rfl) ?_
    try simp only [Act.put, List.setIfInBounds_toArray, List.set_cons_zero, List.set_cons_succ]
    refine wpHold_one (i := 9) rfl (by kernel_rfl) (by rfl) (fun K hK => ?_)
    go_simp
    refine (copy27 _ S.b0 _ (H.out.p0.seg.grown (grown_drew _ none)) (by have := H.out.ok.l0; omega)).mono ?_
    rintro e w3 ⟨u3, rfl, o3, g3⟩
    have G3 : Hid (Own w3 w.heap.size u3 S.b0 ∧ w.grownBy w3 none) := ⟨o3, grown_trans (grown_drew _ none) g3⟩
    clear o3 g3
    go_wp2_with fail
    refine hK.out _ _ (fun _ => G3.out.2) ?_
    clear hK K
    try simp only [Act.put, List.setIfInBounds_toArray, List.set_cons_zero, List.set_cons_succ]
    refine wpHold_take (i := 10) (v := _) (G3.out.2) rfl rfl (by kernel_rfl) (by kernel_rfl) (by kernel_rfl) (by kernel_rfl) (by kernel_rfl) (fun _ _ _ h => h) (by rfl) (fun wk hk => by obtain ⟨k0, k1⟩ := HC.out wk hk; go_simp; try rfl) ?_
    try simp only [Act.put, List.setIfInBounds_toArray, List.set_cons_zero, List.set_cons_succ]
    refine wpHold_take (i := 11) (v := _) (G3.out.2) rfl rfl (by kernel_rfl) (by kernel_rfl) (by kernel_rfl) (by kernel_rfl) (by kernel_rfl) (fun _ _ _ h => h) (by rfl) (fun wk hk => by obtain ⟨k0, k1⟩ := HC.out wk hk; go_simp; try rfl) ?_
    try simp only [Act.put, List.setIfInBounds_toArray, List.set_cons_zero, List.set_cons_succ]
    refine wpHold_done (by kernel_rfl) ?_
    refine (‹∀ (a : Act) (w : World), Code.wp Try.prog _ _ a w → _› _ _ ?_)
    go_wp2_with fail
    go_ret2
    exact ⟨_, rfl, G3.out⟩
  · cases hh : S.h1 with
    | true =>
      have e1 : S.rlast = 1 := by unfold St.rlast; rw [if_neg e, hh]; rfl
      have es : S.snap = (S.b1, true) := by unfold St.snap; rw [if_neg e, hh]
      rw [e1] at c7
      rw [es]
      clear hh
      have HC : Hid (∀ x : World, w.grownBy x none → x.cell? ⟨b, 4, none⟩ = some v1 ∧ x.cell? ⟨b, 7, none⟩ = some (.int .i64 1)) := fun x hx => ⟨hx.cell c4 (by simp), hx.cell c7 (by simp)⟩
      clear c3 c4
      go_enter Try.func28, Try.ntmps28
      go_wp2_with fail
      refine wp_region_noPanic ?_
      refine wp_region_hold 1000 (fun x => w.grownBy x none) (by kernel_rfl) ?_
      refine wpHold_take (i := 0) (v := _) (grown_drew _ _) rfl rfl (by kernel_rfl) (by kernel_rfl) (by kernel_rfl) (by kernel_rfl) (by kernel_rfl) (fun _ _ _ h => h) (by rfl) (fun wk hk => by obtain ⟨k0, k1⟩ := HC.out wk hk; go_simp; try rfl) ?_
      try simp only [Act.put, List.setIfInBounds_toArray, List.set_cons_zero, List.set_cons_succ]
      refine wpHold_take (i := 1) (v := _) (grown_drew _ _) rfl rfl (by kernel_rfl) (by kernel_rfl) (by kernel_rfl) (by kernel_rfl) (by kernel_rfl) (fun _ _ _ h => h) (by rfl) (fun wk hk => by obtain ⟨k0, k1⟩ := HC.out wk hk; go_simp; try rfl) ?_
      try simp only [Act.put, List.setIfInBounds_toArray, List.set_cons_zero, List.set_cons_succ]
      refine wpHold_take (i := 2) (v := _) (grown_drew _ _) rfl rfl (by kernel_rfl) (by kernel_rfl) (by kernel_rfl) (by kernel_rfl) (by kernel_rfl) (fun _ _ _ h => h) (by rfl) (fun wk hk => by obtain ⟨k0, k1⟩ := HC.out wk hk; go_simp; try rfl) ?_
      try simp only [Act.put, List.setIfInBounds_toArray, List.set_cons_zero, List.set_cons_succ]
      refine wpHold_take (i := 3) (v := _) (grown_drew _ _) rfl rfl (by kernel_rfl) (by kernel_rfl) (by kernel_rfl) (by kernel_rfl) (by kernel_rfl) (fun _ _ _ h => h) (by rfl) (fun wk hk => by obtain ⟨k0, k1⟩ := HC.out wk hk; go_simp; try rfl) ?_
      try simp only [Act.put, List.setIfInBounds_toArray, List.set_cons_zero, List.set_cons_succ]
      refine wpHold_take (i := 4) (v := _) (grown_drew _ _) rfl rfl (by kernel_rfl) (by kernel_rfl) (by kernel_rfl) (by kernel_rfl) (by kernel_rfl) (fun _ _ _ h => h) (by rfl) (fun wk hk => by obtain ⟨k0, k1⟩ := HC.out wk hk; go_simp; try rfl) ?_
      try simp only [Act.put, List.setIfInBounds_toArray, List.set_cons_zero, List.set_cons_succ]
      refine wpHold_take (i := 5) (v := _) (grown_drew _ _) rfl rfl (by kernel_rfl) (by kernel_rfl) (by kernel_rfl) (by kernel_rfl) (by kernel_rfl) (fun _ _ _ h => h) (by rfl) (fun wk hk => by obtain ⟨k0, k1⟩ := HC.out wk hk; go_simp; try rfl) ?_
      try simp only [Act.put, List.setIfInBounds_toArray, List.set_cons_zero, List.set_cons_succ]
      refine wpHold_take (i := 6) (v := _) (grown_drew _ _) rfl rfl (by kernel_rfl) (by kernel_rfl) (by kernel_rfl) (by kernel_rfl) (by kernel_rfl) (fun _ _ _ h => h) (by rfl) (fun wk hk => by obtain ⟨k0, k1⟩ := HC.out wk hk; go_simp; try rfl) ?_
      try simp only [Act.put, List.setIfInBounds_toArray, List.set_cons_zero, List.set_cons_succ]
      refine wpHold_take (i := 7) (v := _) (grown_drew _ _) rfl rfl (by kernel_rfl) (by kernel_rfl) (by kernel_rfl) (by kernel_rfl) (by kernel_rfl) (fun _ _ _ h => h) (by rfl) (fun wk hk => by obtain ⟨k0, k1⟩ := HC.out wk hk; go_simp; try rfl) ?_
      try simp only [Act.put, List.setIfInBounds_toArray, List.set_cons_zero, List.set_cons_succ]
      refine wpHold_take (i := 8) (v := _) (grown_drew _ _) rfl rfl (by kernel_rfl) (by kernel_rfl) (by kernel_rfl) (by kernel_rfl) (by kernel_rfl) (fun _ _ _ h => h) (by rfl) (fun wk hk => by obtain ⟨k0, k1⟩ := HC.out wk hk; go_simp; try rfl) ?_
      try simp only [Act.put, List.setIfInBounds_toArray, List.set_cons_zero, List.set_cons_succ]
      refine wpHold_one (i := 9) rfl (by kernel_rfl) (by rfl) (fun K hK => ?_)
      go_simp
      refine (copy27 _ S.b1 _ (H.out.p1.seg.grown (grown_drew _ none)) (by have := H.out.ok.l1; omega)).mono ?_
      rintro e w3 ⟨u3, rfl, o3, g3⟩
      have G3 : Hid (Own w3 w.heap.size u3 S.b1 ∧ w.grownBy w3 none) := ⟨o3, grown_trans (grown_drew _ none) g3⟩
      clear o3 g3
      go_wp2_with fail
      refine hK.out _ _ (fun _ => G3.out.2) ?_
      clear hK K
      try simp only [Act.put, List.setIfInBounds_toArray, List.set_cons_zero, List.set_cons_succ]
      refine wpHold_take (i := 10) (v := _) (G3.out.2) rfl rfl (by kernel_rfl) (by kernel_rfl) (by kernel_rfl) (by kernel_rfl) (by kernel_rfl) (fun _ _ _ h => h) (by rfl) (fun wk hk => by obtain ⟨k0, k1⟩ := HC.out wk hk; go_simp; try rfl) ?_
      try simp only [Act.put, List.setIfInBounds_toArray, List.set_cons_zero, List.set_cons_succ]
      refine wpHold_take (i := 11) (v := _) (G3.out.2) rfl rfl (by kernel_rfl) (by kernel_rfl) (by kernel_rfl) (by kernel_rfl) (by kernel_rfl) (fun _ _ _ h => h) (by rfl) (fun wk hk => by obtain ⟨k0, k1⟩ := HC.out wk hk; go_simp; try rfl) ?_
      try simp only [Act.put, List.setIfInBounds_toArray, List.set_cons_zero, List.set_cons_succ]
      refine wpHold_done (by kernel_rfl) ?_
      refine (‹∀ (a : Act) (w : World), Code.wp Try.prog _ _ a w → _› _ _ ?_)
      go_wp2_with fail
      go_ret2
      exact ⟨_, rfl, G3.out⟩
    | false =>
      have e1 : S.rlast = -1 := by unfold St.rlast; rw [if_neg e, hh]; rfl
      have es : S.snap = ([], false) := by unfold St.snap; rw [if_neg e, hh, H.out.ok.e1 hh]
      rw [e1] at c7
      rw [es]
      clear hh
      go_enter Try.func28, Try.ntmps28
      go_wp2_with fail
      go_ret2
      exact ⟨_, rfl, Own.nil _ _, grown_refl _ _⟩

set_option maxRecDepth 100000 in
set_option maxHeartbeats 400000 in
theorem ref30_nil (w : World) : Calls Try.prog 30 #[.pointer none] w fun e w' => e = .returned (.tuple #[.slice none 0 0, .bool false]) ∧ w.grownBy w' none := by
  go_enter Try.func30, Try.ntmps30
  go_wp2_with fail
  go_quiet (fail)
  go_wp2_with fail
  go_ret2
  exact ⟨rfl, grown_drewN _ _ _⟩

set_option maxRecDepth 100000 in
set_option maxHeartbeats 400000 in
theorem ref30 (F : Nat → Prop) (v : Value) (S : St) (w : World) (h : RK w F v S) : Calls Try.prog 30 #[v] w fun e w' => ∃ u, e = .returned (.tuple #[u, .bool S.spare.2]) ∧ Own w' w.heap.size u S.spare.1 ∧ w.grownBy w' none := by
  obtain ⟨b, lv, v0, v1, rfl, h⟩ := h
  obtain ⟨c0, c1, c2, c3, c4, c5, c6, c7, c8⟩ := h.cells
  have H : Hid (RKb w F b lv v0 v1 S) := h
  have hll := h.ok.last
  have k7 : Hid (w.cell? ⟨b, 7, none⟩ = some (.int .i64 S.rlast)) := c7
  clear h c0 c1 c2 c8 c7
  by_cases e : S.last = 0
  · have el : S.last = 0 := by omega
    have es0 : S.spare = (S.b1, S.h1) := by unfold St.spare; rw [if_pos e]
    have EL : Hid (S.last = 0) := el
    clear e el
    cases hh : S.h1 with
    | false =>
      have es : S.spare = ([], false) := by rw [es0, hh, H.out.ok.e1 hh]
      rw [es]
      rw [hh] at c6
      clear hh es es0
      go_enter Try.func30, Try.ntmps30
      go_wp2_with fail
      go_quiet ((go_at_call 49; exact Calls.quiet_of_same (spareAt49i b S 1 _ k7.out hll (by rw [EL.out]))))
      go_wp2_with fail
      go_ret2
      exact ⟨_, rfl, Own.nil _ _, grown_drewN _ _ _⟩
    | true =>
      have es : S.spare = (S.b1, true) := by rw [es0, hh]
      rw [es]
      rw [hh] at c6
      clear hh es es0
      go_enter Try.func30, Try.ntmps30
      go_wp2_with fail
      go_quiet ((go_at_call 49; exact Calls.quiet_of_same (spareAt49i b S 1 _ k7.out hll (by rw [EL.out]))))
      go_wp2_with fail
      generalize hw1 : w.drewN _ = w1
      have HG : Hid (w.grownBy w1 none) := by rw [← hw1]; exact grown_drewN _ _ _
      clear hw1
      have HC : Hid (∀ x : World, w1.grownBy x none → x.cell? ⟨b, 4, none⟩ = some v1 ∧ Hid (x.cell? ⟨b, 7, none⟩ = some (.int .i64 S.rlast))) := fun x hx => ⟨(grown_trans HG.out hx).cell c4 (by simp), (grown_trans HG.out hx).cell k7.out (by simp)⟩
      clear c3 c4 c5 c6
      refine wp_region_noPanic ?_
      refine wp_region_hold 1000 (fun x => w1.grownBy x none) (by kernel_rfl) ?_
      refine wpHold_take (i := 0) (v := _) (grown_drew _ _) rfl rfl (by kernel_rfl) (by kernel_rfl) (by kernel_rfl) (by kernel_rfl) (by kernel_rfl) (fun _ _ _ h => h) (by rfl) (fun wk hk => by obtain ⟨k0, k1⟩ := HC.out wk hk; go_simp; try rfl) ?_
      try simp only [Act.put, List.setIfInBounds_toArray, List.set_cons_zero, List.set_cons_succ]
      refine wpHold_take (i := 1) (v := _) (grown_drew _ _) rfl rfl (by kernel_rfl) (by kernel_rfl) (by kernel_rfl) (by kernel_rfl) (by kernel_rfl) (fun _ _ _ h => h) (by rfl) (fun wk hk => by obtain ⟨k0, k1⟩ := HC.out wk hk; go_simp; try rfl) ?_
      try simp only [Act.put, List.setIfInBounds_toArray, List.set_cons_zero, List.set_cons_succ]
      refine wpHold_take (i := 3) (v := _) (grown_drew _ _) rfl rfl (by kernel_rfl) (by kernel_rfl) (by kernel_rfl) (by kernel_rfl) (by kernel_rfl) (fun _ _ _ h => h) (by rfl) (fun wk hk => by obtain ⟨k0, k1⟩ := HC.out wk hk; go_simp; try rfl) ?_
      try simp only [Act.put, List.setIfInBounds_toArray, List.set_cons_zero, List.set_cons_succ]
      refine wpHold_take (i := 4) (v := _) (grown_drew _ _) rfl rfl (by kernel_rfl) (by kernel_rfl) (by kernel_rfl) (by kernel_rfl) (by kernel_rfl) (fun _ _ _ h => h) (by rfl) (fun wk hk => by obtain ⟨k0, k1⟩ := HC.out wk hk; go_simp; try rfl) ?_
      try simp only [Act.put, List.setIfInBounds_toArray, List.set_cons_zero, List.set_cons_succ]
      refine wpHold_one (i := 2) rfl (by kernel_rfl) (by rfl) (fun K hK => ?_)
      go_simp
      refine (spareAt49i b S 1 _ (HC.out _ (grown_drew _ _)).2.out hll (by rw [EL.out])).mono ?_
      rintro e w2 ⟨rfl, he⟩
      subst he
      go_wp2_with fail
      refine hK.out _ _ (fun _ => grown_drew _ _) ?_
      clear hK K
      try simp only [Act.put, List.setIfInBounds_toArray, List.set_cons_zero, List.set_cons_succ]
      refine wpHold_take (i := 5) (v := _) (grown_drew _ _) rfl rfl (by kernel_rfl) (by kernel_rfl) (by kernel_rfl) (by kernel_rfl) (by kernel_rfl) (fun _ _ _ h => h) (by rfl) (fun wk hk => by obtain ⟨k0, k1⟩ := HC.out wk hk; go_simp; try rfl) ?_
      try simp only [Act.put, List.setIfInBounds_toArray, List.set_cons_zero, List.set_cons_succ]
      refine wpHold_take (i := 6) (v := _) (grown_drew _ _) rfl rfl (by kernel_rfl) (by kernel_rfl) (by kernel_rfl) (by kernel_rfl) (by kernel_rfl) (fun _ _ _ h => h) (by rfl) (fun wk hk => by obtain ⟨k0, k1⟩ := HC.out wk hk; go_simp; try rfl) ?_
      try simp only [Act.put, List.setIfInBounds_toArray, List.set_cons_zero, List.set_cons_succ]
      refine wpHold_one (i := 7) rfl (by kernel_rfl) (by rfl) (fun K hK => ?_)
      go_simp
      refine (copy27 _ S.b1 _ (H.out.p1.seg.grown (grown_trans HG.out (grown_drew _ none))) (by have := H.out.ok.l1; omega)).mono ?_
      rintro e w3 ⟨u3, rfl, o3, g3⟩
      have G3 : Hid (Own w3 w.heap.size u3 S.b1 ∧ w1.grownBy w3 none ∧ w.grownBy w3 none) := ⟨o3.mono HG.out.size, grown_trans (grown_drew _ none) g3, grown_trans HG.out (grown_trans (grown_drew _ none) g3)⟩
      clear o3 g3
      go_wp2_with fail
      refine hK.out _ _ (fun _ => G3.out.2.1) ?_
      clear hK K
      try simp only [Act.put, List.setIfInBounds_toArray, List.set_cons_zero, List.set_cons_succ]
      refine wpHold_take (i := 8) (v := _) (G3.out.2.1) rfl rfl (by kernel_rfl) (by kernel_rfl) (by kernel_rfl) (by kernel_rfl) (by kernel_rfl) (fun _ _ _ h => h) (by rfl) (fun wk hk => by obtain ⟨k0, k1⟩ := HC.out wk hk; go_simp; try rfl) ?_
      try simp only [Act.put, List.setIfInBounds_toArray, List.set_cons_zero, List.set_cons_succ]
      refine wpHold_take (i := 9) (v := _) (G3.out.2.1) rfl rfl (by kernel_rfl) (by kernel_rfl) (by kernel_rfl) (by kernel_rfl) (by kernel_rfl) (fun _ _ _ h => h) (by rfl) (fun wk hk => by obtain ⟨k0, k1⟩ := HC.out wk hk; go_simp; try rfl) ?_
      try simp only [Act.put, List.setIfInBounds_toArray, List.set_cons_zero, List.set_cons_succ]
      refine wpHold_done (by kernel_rfl) ?_
      refine (‹∀ (a : Act) (w : World), Code.wp Try.prog _ _ a w → _› _ _ ?_)
      go_wp2_with fail
      go_ret2
      exact ⟨_, rfl, G3.out.1, G3.out.2.2⟩
  · have el : S.last = 1 := by omega
    have es0 : S.spare = (S.b0, S.h0) := by unfold St.spare; rw [if_neg e]
    have EL : Hid (S.last = 1) := el
    clear e el
    cases hh : S.h0 with
    | false =>
      have es : S.spare = ([], false) := by rw [es0, hh, H.out.ok.e0 hh]
      rw [es]
      rw [hh] at c5
      clear hh es es0
      go_enter Try.func30, Try.ntmps30
      go_wp2_with fail
      go_quiet ((go_at_call 49; exact Calls.quiet_of_same (spareAt49i b S 0 _ k7.out hll (by rw [EL.out]))))
      go_wp2_with fail
      go_ret2
      exact ⟨_, rfl, Own.nil _ _, grown_drewN _ _ _⟩
    | true =>
      have es : S.spare = (S.b0, true) := by rw [es0, hh]
      rw [es]
      rw [hh] at c5
      clear hh es es0
      go_enter Try.func30, Try.ntmps30
      go_wp2_with fail
      go_quiet ((go_at_call 49; exact Calls.quiet_of_same (spareAt49i b S 0 _ k7.out hll (by rw [EL.out]))))
      go_wp2_with fail
      generalize hw1 : w.drewN _ = w1
      have HG : Hid (w.grownBy w1 none) := by rw [← hw1]; exact grown_drewN _ _ _
      clear hw1
      have HC : Hid (∀ x : World, w1.grownBy x none → x.cell? ⟨b, 3, none⟩ = some v0 ∧ Hid (x.cell? ⟨b, 7, none⟩ = some (.int .i64 S.rlast))) := fun x hx => ⟨(grown_trans HG.out hx).cell c3 (by simp), (grown_trans HG.out hx).cell k7.out (by simp)⟩
      clear c3 c4 c5 c6
      refine wp_region_noPanic ?_
      refine wp_region_hold 1000 (fun x => w1.grownBy x none) (by kernel_rfl) ?_
      refine wpHold_take (i := 0) (v := _) (grown_drew _ _) rfl rfl (by kernel_rfl) (by kernel_rfl) (by kernel_rfl) (by kernel_rfl) (by kernel_rfl) (fun _ _ _ h => h) (by rfl) (fun wk hk => by obtain ⟨k0, k1⟩ := HC.out wk hk; go_simp; try rfl) ?_
      try simp only [Act.put, List.setIfInBounds_toArray, List.set_cons_zero, List.set_cons_succ]
      refine wpHold_take (i := 1) (v := _) (grown_drew _ _) rfl rfl (by kernel_rfl) (by kernel_rfl) (by kernel_rfl) (by kernel_rfl) (by kernel_rfl) (fun _ _ _ h => h) (by rfl) (fun wk hk => by obtain ⟨k0, k1⟩ := HC.out wk hk; go_simp; try rfl) ?_
      try simp only [Act.put, List.setIfInBounds_toArray, List.set_cons_zero, List.set_cons_succ]
      refine wpHold_take (i := 3) (v := _) (grown_drew _ _) rfl rfl (by kernel_rfl) (by kernel_rfl) (by kernel_rfl) (by kernel_rfl) (by kernel_rfl) (fun _ _ _ h => h) (by rfl) (fun wk hk => by obtain ⟨k0, k1⟩ := HC.out wk hk; go_simp; try rfl) ?_
      try simp only [Act.put, List.setIfInBounds_toArray, List.set_cons_zero, List.set_cons_succ]
      refine wpHold_take (i := 4) (v := _) (grown_drew _ _) rfl rfl (by kernel_rfl) (by kernel_rfl) (by kernel_rfl) (by kernel_rfl) (by kernel_rfl) (fun _ _ _ h => h) (by rfl) (fun wk hk => by obtain ⟨k0, k1⟩ := HC.out wk hk; go_simp; try rfl) ?_
      try simp only [Act.put, List.setIfInBounds_toArray, List.set_cons_zero, List.set_cons_succ]
      refine wpHold_one (i := 2) rfl (by kernel_rfl) (by rfl) (fun K hK => ?_)
      go_simp
      refine (spareAt49i b S 0 _ (HC.out _ (grown_drew _ _)).2.out hll (by rw [EL.out])).mono ?_
      rintro e w2 ⟨rfl, he⟩
      subst he
      go_wp2_with fail
      refine hK.out _ _ (fun _ => grown_drew _ _) ?_
      clear hK K
      try simp only [Act.put, List.setIfInBounds_toArray, List.set_cons_zero, List.set_cons_succ]
      refine wpHold_take (i := 5) (v := _) (grown_drew _ _) rfl rfl (by kernel_rfl) (by kernel_rfl) (by kernel_rfl) (by kernel_rfl) (by kernel_rfl) (fun _ _ _ h => h) (by rfl) (fun wk hk => by obtain ⟨k0, k1⟩ := HC.out wk hk; go_simp; try rfl) ?_
      try simp only [Act.put, List.setIfInBounds_toArray, List.set_cons_zero, List.set_cons_succ]
      refine wpHold_take (i := 6) (v := _) (grown_drew _ _) rfl rfl (by kernel_rfl) (by kernel_rfl) (by kernel_rfl) (by kernel_rfl) (by kernel_rfl) (fun _ _ _ h => h) (by rfl) (fun wk hk => by obtain ⟨k0, k1⟩ := HC.out wk hk; go_simp; try rfl) ?_
      try simp only [Act.put, List.setIfInBounds_toArray, List.set_cons_zero, List.set_cons_succ]
      refine wpHold_one (i := 7) rfl (by kernel_rfl) (by rfl) (fun K hK => ?_)
      go_simp
      refine (copy27 _ S.b0 _ (H.out.p0.seg.grown (grown_trans HG.out (grown_drew _ none))) (by have := H.out.ok.l0; omega)).mono ?_
      rintro e w3 ⟨u3, rfl, o3, g3⟩
      have G3 : Hid (Own w3 w.heap.size u3 S.b0 ∧ w1.grownBy w3 none ∧ w.grownBy w3 none) := ⟨o3.mono HG.out.size, grown_trans (grown_drew _ none) g3, grown_trans HG.out (grown_trans (grown_drew _ none) g3)⟩
      clear o3 g3
      go_wp2_with fail
      refine hK.out _ _ (fun _ => G3.out.2.1) ?_
      clear hK K
      try simp only [Act.put, List.setIfInBounds_toArray, List.set_cons_zero, List.set_cons_succ]
      refine wpHold_take (i := 8) (v := _) (G3.out.2.1) rfl rfl (by kernel_rfl) (by kernel_rfl) (by kernel_rfl) (by kernel_rfl) (by kernel_rfl) (fun _ _ _ h => h) (by rfl) (fun wk hk => by obtain ⟨k0, k1⟩ := HC.out wk hk; go_simp; try rfl) ?_
      try simp only [Act.put, List.setIfInBounds_toArray, List.set_cons_zero, List.set_cons_succ]
      refine wpHold_take (i := 9) (v := _) (G3.out.2.1) rfl rfl (by kernel_rfl) (by kernel_rfl) (by kernel_rfl) (by kernel_rfl) (by kernel_rfl) (fun _ _ _ h => h) (by rfl) (fun wk hk => by obtain ⟨k0, k1⟩ := HC.out wk hk; go_simp; try rfl) ?_
      try simp only [Act.put, List.setIfInBounds_toArray, List.set_cons_zero, List.set_cons_succ]
      refine wpHold_done (by kernel_rfl) ?_
      refine (‹∀ (a : Act) (w : World), Code.wp Try.prog _ _ a w → _› _ _ ?_)
      go_wp2_with fail
      go_ret2
      exact ⟨_, rfl, G3.out.1, G3.out.2.2⟩
end Go.Proofs.Ytegacmcekladfaa
