/-
  What is done when a call is given up: the database as it was, and the abort.
-/
import Derived.Test.YtakmlhhapegpoaaGreatMo
namespace Go.Proofs.YtakmlhhapegpoaaGreat
open Go.RowKit Disk Table

theorem assert46 (c : Int) (w : World) : (Instr.typeAssert (.iface 46 (.int .i64 c)) 20 46 false).run Tryz.prog w = .ok (.int .i64 c) w := by kernel_rfl
theorem catch88_idle (p0 p1 p2 : Addr) (w : World) :
    CallsD Tryz.prog 88 #[.pointer (some p0), .pointer (some p1), .pointer (some p2)] .returning w fun e u' w' => e = .returned (.tuple #[]) ∧ u' = .returning ∧ w' = w := by
  refine callsD_of_wpS Tryz.func88 rfl fun c₀ cs hu => ?_
  apply wpS_seq
  apply wpS_region
  simp [wpOpsS, go_sem, recoverD, hu, Tryz.ntmps88, Exit.thenS]
  apply wpS_seq
  apply wpS_region
  simp [wpOpsS, go_sem, recoverD, hu, Exit.thenS]
  refine wpS_cond (t := false) (by simp [Act.eval, Array.replicate]) ?_
  simp only [Bool.false_eq_true, if_false]
  refine wpS_of_wp (wp_skip ?_)
  cases c₀
  simp_all [bodyPostS, results, Tryz.results88]
set_option maxRecDepth 100000 in
set_option maxHeartbeats 4000000 in
theorem catch88_panicking (eb rb ob b m : Nat) (q : Int × Int) (a : Option Addr) (n cp : Nat) (c : Int) (w : World) (h1 : Blk w eb 28 #[ptr b]) (h2 : EngB w b q m) (h3 : Blk w rb 49 #[.int .i64 0, .int .i64 0, .slice a n cp]) (h4 : Blk w ob 28 #[.pointer none]) (hne : ob ≠ eb) :
    CallsD Tryz.prog 88 #[.pointer (some ⟨eb, 0, none⟩), .pointer (some ⟨rb, 0, none⟩), .pointer (some ⟨ob, 0, none⟩)] (.panicking [{ v := .iface 46 (.int .i64 c), recovered := false }]) w fun e u' w' =>
      e = .returned (.tuple #[]) ∧ u' = .panicking [{ v := .iface 46 (.int .i64 c), recovered := true }] ∧ ∃ cb w1, w.heap.size ≤ cb ∧ w.grownBy w1 none ∧ EngB w1 cb q m ∧ w' = (((((w1.setCell ⟨ob, 0, none⟩ (ptr cb)).setCell ⟨rb, 0, none⟩ (.int .i64 c)).setCell ⟨rb, 1, none⟩ (.int .i64 (n : Int))).setCell ⟨rb, 2, none⟩ (.slice none 0 0))) := by
  refine callsD_of_wpS Tryz.func88 rfl fun c₀ cs hu => ?_
  apply wpS_seq
  apply wpS_region
  simp [wpOpsS, go_sem, recoverD, hu, Tryz.ntmps88, Exit.thenS]
  apply wpS_seq
  apply wpS_region
  simp [wpOpsS, go_sem, recoverD, Exit.thenS]
  refine wpS_cond (t := true) (by simp [Act.eval, Array.replicate]) ?_
  simp only [if_true]
  refine wpS_of_wp ?_
  show Code.wp Tryz.prog _ _ { tmps := #[.pointer (some ⟨eb, 0, none⟩), .pointer (some ⟨rb, 0, none⟩), .pointer (some ⟨ob, 0, none⟩), .iface 46 (.int .i64 c), .iface 46 (.int .i64 c), .iface 46 (.int .i64 c), .bool true, undef, undef, undef, undef, undef, undef, undef, undef], defers := [] } w
  have ha := assert46
  have hrbob : rb ≠ ob := fun e => by
    subst e
    unfold Blk at h3 h4
    rw [h3] at h4
    simp at h4
  have HH : Hid (Blk w eb 28 #[ptr b] ∧ EngB w b q m ∧ Blk w rb 49 #[.int .i64 0, .int .i64 0, .slice a n cp] ∧ Blk w ob 28 #[.pointer none] ∧ ob ≠ eb ∧ rb ≠ ob) := ⟨h1, h2, h3, h4, hne, hrbob⟩
  clear h1 h2 h3 h4 hne hrbob
  refine wp_region_hold 9 (fun y => Blk y eb 28 #[ptr b] ∧ Blk y rb 49 #[.int .i64 0, .int .i64 0, .slice a n cp]) (by kernel_rfl) ?_
  have G0 : Hid (w.grownBy w.drew none) := grown_drew _ _
  generalize w.drew = wd at G0 ⊢
  have HD : Hid (Blk wd eb 28 #[ptr b] ∧ Blk wd rb 49 #[.int .i64 0, .int .i64 0, .slice a n cp]) := ⟨HH.out.1.grown G0.out (by simp), HH.out.2.2.1.grown G0.out (by simp)⟩
  refine wpHold_take (i := 0) (v := _) (HD.out) rfl rfl (by kernel_rfl) (by kernel_rfl) (by kernel_rfl) (by kernel_rfl) (by kernel_rfl) (fun _ _ _ h => h) (by rfl) (fun wk hk => by have z0 := hk.1.cell 0; have z2 := hk.2.cell 2; unfold ptr at z0; simp at z0 z2; go_simp; try rfl) ?_
  try simp only [Act.put, List.setIfInBounds_toArray, List.set_cons_zero, List.set_cons_succ]
  refine wpHold_take (i := 2) (v := _) (HD.out) rfl rfl (by kernel_rfl) (by kernel_rfl) (by kernel_rfl) (by kernel_rfl) (by kernel_rfl) (fun _ _ _ h => h) (by rfl) (fun wk hk => by have z0 := hk.1.cell 0; have z2 := hk.2.cell 2; unfold ptr at z0; simp at z0 z2; go_simp; try rfl) ?_
  try simp only [Act.put, List.setIfInBounds_toArray, List.set_cons_zero, List.set_cons_succ]
  refine wpHold_take (i := 3) (v := _) (HD.out) rfl rfl (by kernel_rfl) (by kernel_rfl) (by kernel_rfl) (by kernel_rfl) (by kernel_rfl) (fun _ _ _ h => h) (by rfl) (fun wk hk => by have z0 := hk.1.cell 0; have z2 := hk.2.cell 2; unfold ptr at z0; simp at z0 z2; go_simp; try rfl) ?_
  try simp only [Act.put, List.setIfInBounds_toArray, List.set_cons_zero, List.set_cons_succ]
  refine wpHold_take (i := 4) (v := _) (HD.out) rfl rfl (by kernel_rfl) (by kernel_rfl) (by kernel_rfl) (by kernel_rfl) (by kernel_rfl) (fun _ _ _ h => h) (by rfl) (fun wk hk => by have z0 := hk.1.cell 0; have z2 := hk.2.cell 2; unfold ptr at z0; simp at z0 z2; go_simp; try rfl) ?_
  try simp only [Act.put, List.setIfInBounds_toArray, List.set_cons_zero, List.set_cons_succ]
  refine wpHold_take (i := 5) (v := _) (HD.out) rfl rfl (by kernel_rfl) (by kernel_rfl) (by kernel_rfl) (by kernel_rfl) (by kernel_rfl) (fun _ _ _ h => h) (by rfl) (fun wk hk => by have z0 := hk.1.cell 0; have z2 := hk.2.cell 2; unfold ptr at z0; simp at z0 z2; go_simp; try rfl) ?_
  try simp only [Act.put, List.setIfInBounds_toArray, List.set_cons_zero, List.set_cons_succ]
  refine wpHold_take (i := 6) (v := _) (HD.out) rfl rfl (by kernel_rfl) (by kernel_rfl) (by kernel_rfl) (by kernel_rfl) (by kernel_rfl) (fun _ _ _ h => h) (by rfl) (fun wk hk => by have z0 := hk.1.cell 0; have z2 := hk.2.cell 2; unfold ptr at z0; simp at z0 z2; go_simp; try rfl) ?_
  try simp only [Act.put, List.setIfInBounds_toArray, List.set_cons_zero, List.set_cons_succ]
  refine wpHold_take (i := 7) (v := _) (HD.out) rfl rfl (by kernel_rfl) (by kernel_rfl) (by kernel_rfl) (by kernel_rfl) (by kernel_rfl) (fun _ _ _ h => h) (by rfl) (fun wk hk => by have z0 := hk.1.cell 0; have z2 := hk.2.cell 2; unfold ptr at z0; simp at z0 z2; go_simp; try rfl) ?_
  try simp only [Act.put, List.setIfInBounds_toArray, List.set_cons_zero, List.set_cons_succ]
  refine wpHold_one (i := 1) rfl (by kernel_rfl) (by rfl) (fun K hK => ?_)
  go_wp2_with fail
  refine (copy9 b m q wd (Blk.grown HH.out.2.1 G0.out (by simp))).mono ?_
  rintro e w1 ⟨cb, rfl, hcb, hE, g1⟩
  have H1 : Hid (w.grownBy w1 none ∧ EngB w1 cb q m ∧ w.heap.size ≤ cb) := ⟨grown_trans G0.out g1, hE, Nat.le_trans G0.out.size hcb⟩
  have HD1 : Hid (Blk w1 eb 28 #[ptr b] ∧ Blk w1 rb 49 #[.int .i64 0, .int .i64 0, .slice a n cp]) := ⟨HH.out.1.grown H1.out.1 (by simp), HH.out.2.2.1.grown H1.out.1 (by simp)⟩
  clear g1 hE hcb
  go_wp2_with fail
  refine hK.out _ _ (fun _ => HD1.out) ?_
  clear hK K
  try simp only [Act.put, List.setIfInBounds_toArray, List.set_cons_zero, List.set_cons_succ]
  refine wpHold_one (i := 8) rfl (by kernel_rfl) (by rfl) (fun K hK => ?_)
  have ho := HH.out.2.2.2.1.grown H1.out.1 (by simp)
  have f0 := ho.free 0
  have o0 := ho.cell 0
  simp at o0
  go_wp2_with fail
  have HD2 : Hid (Blk (w1.setCell ⟨ob, 0, none⟩ (.pointer (some ⟨cb, 0, none⟩))) eb 28 #[ptr b] ∧ Blk (w1.setCell ⟨ob, 0, none⟩ (.pointer (some ⟨cb, 0, none⟩))) rb 49 #[.int .i64 0, .int .i64 0, .slice a n cp]) := ⟨HD1.out.1.grown (grown_setCell _ _ _ _) (by simpa using HH.out.2.2.2.2.1), HD1.out.2.grown (grown_setCell _ _ _ _) (by simpa using fun e => HH.out.2.2.2.2.2 e.symm)⟩
  refine hK.out _ _ (fun _ => HD2.out) ?_
  clear hK K ho f0 o0
  try simp only [Act.put, List.setIfInBounds_toArray, List.set_cons_zero, List.set_cons_succ]
  refine wpHold_one (i := 9) rfl (by kernel_rfl) (by rfl) (fun K hK => ?_)
  have hr := HD2.out.2
  obtain ⟨w3, hw3⟩ : ∃ w3, w1.setCell ⟨ob, 0, none⟩ (.pointer (some ⟨cb, 0, none⟩)) = w3 := ⟨_, rfl⟩
  rw [hw3] at hr ⊢
  have f0 := hr.free 0
  have f1 := hr.free 1
  have f2 := hr.free 2
  have r0 := hr.cell 0
  have r1 := hr.cell 1
  have r2 := hr.cell 2
  simp at r0 r1 r2
  have HW3 : Hid (w1.setCell ⟨ob, 0, none⟩ (.pointer (some ⟨cb, 0, none⟩)) = w3) := hw3
  clear hw3 hr
  go_wp2_with fail
  refine hK.out _ _ (fun h => absurd rfl h) ?_
  clear hK K
  try simp only [Act.put, List.setIfInBounds_toArray, List.set_cons_zero, List.set_cons_succ]
  refine wpHold_done (by kernel_rfl) ?_
  refine ⟨rfl, _, rfl, .tuple #[], by simp [results, Tryz.results88], rfl, rfl, cb, H1.out.2.2, w1, H1.out.1, H1.out.2.1, ?_⟩
  rw [← HW3.out]
  rfl
end Go.Proofs.YtakmlhhapegpoaaGreat
