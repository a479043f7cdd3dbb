/-
  CommandBack's walk.
-/
import Derived.Test.YtgjcpjckaopeeaaGreatDoorKr
namespace Go.Proofs.YtgjcpjckaopeeaaGreatDoor
open Go.RowKit Disk
open _root_.Go.Proofs.YtgjcpjckaopeeaaGreatDoor.Calls
open Names (Str)

theorem al2 (w : World) (A B : Array Value) (s t : Nat) : ∃ W, (w.alloc (.cells A s)).alloc (.cells B t) = W ∧ Hid (Blk W w.heap.size s A ∧ Blk W (w.heap.size + 1) t B ∧ w.grownBy W none) := by
  refine ⟨_, rfl, ?_, ?_, g2 _ _ _⟩
  · exact Blk.grown (heap_alloc_new _ _) (World.grownBy_alloc _ _ none) (by simp)
  · have := heap_alloc_new (w.alloc (.cells A s)) (.cells B t)
    rw [show (w.alloc (.cells A s)).heap.size = w.heap.size + 1 by simp] at this
    exact this
theorem bytes_okV (ov : Value) (c : PCmd) (w : World) (h : Ops w ov c.ops) (hI : InC c) (F : Bs) (hF : okC c = true ∧ formC c = F) : Calls Tryz.prog 10 #[.agg #[.int .i64 c.kind, .int .i64 c.token, .int .i64 c.session, .int .i64 c.number, .int .i64 c.mark, ov]] w fun e w' => ∃ ao n cap, e = .returned (.tuple #[.slice ao n cap, .int .i64 0]) ∧ n = F.length ∧ Own w' w.heap.size (.slice ao n cap) F ∧ w.grownBy w' none := bytes_ok ov c w h hI F hF

set_option maxRecDepth 100000 in
set_option maxHeartbeats 16000000 in
theorem back5_a (u v : Value) (c d : PCmd) (w : World) (hu : Ops w u c.ops) (hv : Ops w v d.ops) (ic : InC c) (id : InC d) (hE : EnvC w) (hb : smallB c = false) : Calls Tryz.prog 5 #[cmdV u c, cmdV v d] w fun e w' => e = .returned (.bool true) ∧ w.grownBy w' none := by
  obtain ⟨ao, n, ca, rfl, _, _, HU⟩ := ops_open hu
  obtain ⟨bo, m, cb, rfl, _, _, HV⟩ := ops_open hv
  have HI : Hid (InC c ∧ InC d ∧ EnvC w) := ⟨ic, id, hE⟩
  clear hu hv ic id hE
  unfold cmdV
  go_enter Tryz.func5, Tryz.ntmps5
  go_wp2_with fail
  obtain ⟨W, hW, HW⟩ := al2 w #[.int .i64 c.kind, .int .i64 c.token, .int .i64 c.session, .int .i64 c.number, .int .i64 c.mark, .slice ao n ca] #[.int .i64 d.kind, .int .i64 d.token, .int .i64 d.session, .int .i64 d.number, .int .i64 d.mark, .slice bo m cb] 27 27
  rw [hW]
  clear hW
  refine (known7 W (HI.out.2.2.grown HW.out.2.2)).mono ?_
  rintro e w1 ⟨rfl, g1⟩
  have H1 : Hid (Blk w1 w.heap.size 27 #[.int .i64 c.kind, .int .i64 c.token, .int .i64 c.session, .int .i64 c.number, .int .i64 c.mark, .slice ao n ca] ∧ Blk w1 (w.heap.size + 1) 27 #[.int .i64 d.kind, .int .i64 d.token, .int .i64 d.session, .int .i64 d.number, .int .i64 d.mark, .slice bo m cb] ∧ w.grownBy w1 none ∧ Ops w1 (.slice ao n ca) c.ops ∧ Ops w1 (.slice bo m cb) d.ops ∧ EnvC w1) := ⟨HW.out.1.grown g1 (by simp), HW.out.2.1.grown g1 (by simp), grown_trans HW.out.2.2 g1, HU.out.grown (grown_trans HW.out.2.2 g1), HV.out.grown (grown_trans HW.out.2.2 g1), HI.out.2.2.grown (grown_trans HW.out.2.2 g1)⟩
  clear g1 HW
  have HC : Hid (∀ y : World, w1.grownBy y none → y.cell? ⟨w.heap.size, 0, none⟩ = some (.int .i64 c.kind) ∧ y.cell? ⟨w.heap.size, 1, none⟩ = some (.int .i64 c.token) ∧ y.cell? ⟨w.heap.size, 2, none⟩ = some (.int .i64 c.session) ∧ y.cell? ⟨w.heap.size, 3, none⟩ = some (.int .i64 c.number) ∧ y.cell? ⟨w.heap.size, 4, none⟩ = some (.int .i64 c.mark) ∧ y.cell? ⟨w.heap.size, 5, none⟩ = some (.slice ao n ca) ∧ y.cell? ⟨w.heap.size + 1, 0, none⟩ = some (.int .i64 d.kind) ∧ y.cell? ⟨w.heap.size + 1, 1, none⟩ = some (.int .i64 d.token) ∧ y.cell? ⟨w.heap.size + 1, 2, none⟩ = some (.int .i64 d.session) ∧ y.cell? ⟨w.heap.size + 1, 3, none⟩ = some (.int .i64 d.number) ∧ y.cell? ⟨w.heap.size + 1, 4, none⟩ = some (.int .i64 d.mark) ∧ y.cell? ⟨w.heap.size + 1, 5, none⟩ = some (.slice bo m cb)) := fun y hy => by
    have hb := H1.out.1.grown hy (by simp)
    have hd := H1.out.2.1.grown hy (by simp)
    exact ⟨hb.cell 0, hb.cell 1, hb.cell 2, hb.cell 3, hb.cell 4, hb.cell 5, hd.cell 0, hd.cell 1, hd.cell 2, hd.cell 3, hd.cell 4, hd.cell 5⟩
  go_wp2_with fail
  refine wp_region_noPanic ?_
  refine wp_region_hold 1000 (fun y => w1.grownBy y none) (by kernel_rfl) ?_
  have G0 : Hid (w1.grownBy w1.drew none) := grown_drew _ _
  generalize w1.drew = wd at G0 ⊢
  refine wpHold_take (i := 0) (v := _) (G0.out) rfl rfl (by kernel_rfl) (by kernel_rfl) (by kernel_rfl) (by kernel_rfl) (by kernel_rfl) (fun _ _ _ h => h) (by rfl) (fun wk hk => by obtain ⟨m0, m1, m2, m3, m4, m5, p0, p1, p2, p3, p4, p5⟩ := HC.out wk hk; go_simp; try rfl) ?_
  try simp only [Act.put, List.setIfInBounds_toArray, List.set_cons_zero, List.set_cons_succ]
  refine wpHold_one (i := 1) rfl (by kernel_rfl) (by rfl) (fun K hK => ?_)
  go_wp2_with fail
  refine (small6e (.slice ao n ca) c wd (H1.out.2.2.2.1.grown G0.out)).mono ?_
  rintro e v1 ⟨rfl, gv⟩
  rw [hb]
  have G1 : Hid (w1.grownBy v1 none) := grown_trans G0.out gv
  clear gv
  go_wp2_with fail
  refine hK.out _ _ (fun _ => G1.out) ?_
  clear hK K
  try simp only [Act.put, List.setIfInBounds_toArray, List.set_cons_zero, List.set_cons_succ]
  refine wpHold_take (i := 2) (v := _) (G1.out) rfl rfl (by kernel_rfl) (by kernel_rfl) (by kernel_rfl) (by kernel_rfl) (by kernel_rfl) (fun _ _ _ h => h) (by rfl) (fun wk hk => by obtain ⟨m0, m1, m2, m3, m4, m5, p0, p1, p2, p3, p4, p5⟩ := HC.out wk hk; go_simp; try rfl) ?_
  try simp only [Act.put, List.setIfInBounds_toArray, List.set_cons_zero, List.set_cons_succ]
  refine wpHold_take (i := 3) (v := _) (G1.out) rfl rfl (by kernel_rfl) (by kernel_rfl) (by kernel_rfl) (by kernel_rfl) (by kernel_rfl) (fun _ _ _ h => h) (by rfl) (fun wk hk => by obtain ⟨m0, m1, m2, m3, m4, m5, p0, p1, p2, p3, p4, p5⟩ := HC.out wk hk; go_simp; try rfl) ?_
  try simp only [Act.put, List.setIfInBounds_toArray, List.set_cons_zero, List.set_cons_succ]
  refine wpHold_skip (i := 4) (G1.out) rfl rfl (by kernel_rfl) (by kernel_rfl) (by kernel_rfl) (by kernel_rfl) (by kernel_rfl) (fun _ _ _ h => h) (by rfl) ?_
  try simp only [Act.put, List.setIfInBounds_toArray, List.set_cons_zero, List.set_cons_succ]
  refine wpHold_skip (i := 5) (G1.out) rfl rfl (by kernel_rfl) (by kernel_rfl) (by kernel_rfl) (by kernel_rfl) (by kernel_rfl) (fun _ _ _ h => h) (by rfl) ?_
  try simp only [Act.put, List.setIfInBounds_toArray, List.set_cons_zero, List.set_cons_succ]
  refine wpHold_skip (i := 6) (G1.out) rfl rfl (by kernel_rfl) (by kernel_rfl) (by kernel_rfl) (by kernel_rfl) (by kernel_rfl) (fun _ _ _ h => h) (by rfl) ?_
  try simp only [Act.put, List.setIfInBounds_toArray, List.set_cons_zero, List.set_cons_succ]
  refine wpHold_take (i := 7) (v := _) (G1.out) rfl rfl (by kernel_rfl) (by kernel_rfl) (by kernel_rfl) (by kernel_rfl) (by kernel_rfl) (fun _ _ _ h => h) (by rfl) (fun wk hk => by obtain ⟨m0, m1, m2, m3, m4, m5, p0, p1, p2, p3, p4, p5⟩ := HC.out wk hk; go_simp; try rfl) ?_
  try simp only [Act.put, List.setIfInBounds_toArray, List.set_cons_zero, List.set_cons_succ]
  refine wpHold_take (i := 8) (v := _) (G1.out) rfl rfl (by kernel_rfl) (by kernel_rfl) (by kernel_rfl) (by kernel_rfl) (by kernel_rfl) (fun _ _ _ h => h) (by rfl) (fun wk hk => by obtain ⟨m0, m1, m2, m3, m4, m5, p0, p1, p2, p3, p4, p5⟩ := HC.out wk hk; go_simp; try rfl) ?_
  try simp only [Act.put, List.setIfInBounds_toArray, List.set_cons_zero, List.set_cons_succ]
  refine wpHold_skip (i := 9) (G1.out) rfl rfl (by kernel_rfl) (by kernel_rfl) (by kernel_rfl) (by kernel_rfl) (by kernel_rfl) (fun _ _ _ h => h) (by rfl) ?_
  try simp only [Act.put, List.setIfInBounds_toArray, List.set_cons_zero, List.set_cons_succ]
  refine wpHold_skip (i := 10) (G1.out) rfl rfl (by kernel_rfl) (by kernel_rfl) (by kernel_rfl) (by kernel_rfl) (by kernel_rfl) (fun _ _ _ h => h) (by rfl) ?_
  try simp only [Act.put, List.setIfInBounds_toArray, List.set_cons_zero, List.set_cons_succ]
  refine wpHold_skip (i := 11) (G1.out) rfl rfl (by kernel_rfl) (by kernel_rfl) (by kernel_rfl) (by kernel_rfl) (by kernel_rfl) (fun _ _ _ h => h) (by rfl) ?_
  try simp only [Act.put, List.setIfInBounds_toArray, List.set_cons_zero, List.set_cons_succ]
  refine wpHold_skip (i := 12) (G1.out) rfl rfl (by kernel_rfl) (by kernel_rfl) (by kernel_rfl) (by kernel_rfl) (by kernel_rfl) (fun _ _ _ h => h) (by rfl) ?_
  try simp only [Act.put, List.setIfInBounds_toArray, List.set_cons_zero, List.set_cons_succ]
  refine wpHold_skip (i := 13) (G1.out) rfl rfl (by kernel_rfl) (by kernel_rfl) (by kernel_rfl) (by kernel_rfl) (by kernel_rfl) (fun _ _ _ h => h) (by rfl) ?_
  try simp only [Act.put, List.setIfInBounds_toArray, List.set_cons_zero, List.set_cons_succ]
  refine wpHold_skip (i := 14) (G1.out) rfl rfl (by kernel_rfl) (by kernel_rfl) (by kernel_rfl) (by kernel_rfl) (by kernel_rfl) (fun _ _ _ h => h) (by rfl) ?_
  try simp only [Act.put, List.setIfInBounds_toArray, List.set_cons_zero, List.set_cons_succ]
  refine wpHold_skip (i := 15) (G1.out) rfl rfl (by kernel_rfl) (by kernel_rfl) (by kernel_rfl) (by kernel_rfl) (by kernel_rfl) (fun _ _ _ h => h) (by rfl) ?_
  try simp only [Act.put, List.setIfInBounds_toArray, List.set_cons_zero, List.set_cons_succ]
  refine wpHold_skip (i := 16) (G1.out) rfl rfl (by kernel_rfl) (by kernel_rfl) (by kernel_rfl) (by kernel_rfl) (by kernel_rfl) (fun _ _ _ h => h) (by rfl) ?_
  try simp only [Act.put, List.setIfInBounds_toArray, List.set_cons_zero, List.set_cons_succ]
  refine wpHold_take (i := 17) (v := _) (G1.out) rfl rfl (by kernel_rfl) (by kernel_rfl) (by kernel_rfl) (by kernel_rfl) (by kernel_rfl) (fun _ _ _ h => h) (by rfl) (fun wk hk => by obtain ⟨m0, m1, m2, m3, m4, m5, p0, p1, p2, p3, p4, p5⟩ := HC.out wk hk; go_simp; try rfl) ?_
  try simp only [Act.put, List.setIfInBounds_toArray, List.set_cons_zero, List.set_cons_succ]
  refine wpHold_done (by kernel_rfl) ?_
  refine (‹∀ (a : Act) (w : World), Code.wp Tryz.prog _ _ a w → _› _ _ ?_)
  go_wp2_with fail
  go_ret
  exact ⟨rfl, grown_trans H1.out.2.2.1 G1.out⟩

set_option maxRecDepth 100000 in
set_option maxHeartbeats 16000000 in
theorem back5_b (u v : Value) (c d : PCmd) (w : World) (hu : Ops w u c.ops) (hv : Ops w v d.ops) (ic : InC c) (id : InC d) (hE : EnvC w) (hb : smallB c = true) (hd : smallB d = false) : Calls Tryz.prog 5 #[cmdV u c, cmdV v d] w fun e w' => e = .returned (.bool true) ∧ w.grownBy w' none := by
  obtain ⟨ao, n, ca, rfl, _, _, HU⟩ := ops_open hu
  obtain ⟨bo, m, cb, rfl, _, _, HV⟩ := ops_open hv
  have HI : Hid (InC c ∧ InC d ∧ EnvC w) := ⟨ic, id, hE⟩
  clear hu hv ic id hE
  unfold cmdV
  go_enter Tryz.func5, Tryz.ntmps5
  go_wp2_with fail
  obtain ⟨W, hW, HW⟩ := al2 w #[.int .i64 c.kind, .int .i64 c.token, .int .i64 c.session, .int .i64 c.number, .int .i64 c.mark, .slice ao n ca] #[.int .i64 d.kind, .int .i64 d.token, .int .i64 d.session, .int .i64 d.number, .int .i64 d.mark, .slice bo m cb] 27 27
  rw [hW]
  clear hW
  refine (known7 W (HI.out.2.2.grown HW.out.2.2)).mono ?_
  rintro e w1 ⟨rfl, g1⟩
  have H1 : Hid (Blk w1 w.heap.size 27 #[.int .i64 c.kind, .int .i64 c.token, .int .i64 c.session, .int .i64 c.number, .int .i64 c.mark, .slice ao n ca] ∧ Blk w1 (w.heap.size + 1) 27 #[.int .i64 d.kind, .int .i64 d.token, .int .i64 d.session, .int .i64 d.number, .int .i64 d.mark, .slice bo m cb] ∧ w.grownBy w1 none ∧ Ops w1 (.slice ao n ca) c.ops ∧ Ops w1 (.slice bo m cb) d.ops ∧ EnvC w1) := ⟨HW.out.1.grown g1 (by simp), HW.out.2.1.grown g1 (by simp), grown_trans HW.out.2.2 g1, HU.out.grown (grown_trans HW.out.2.2 g1), HV.out.grown (grown_trans HW.out.2.2 g1), HI.out.2.2.grown (grown_trans HW.out.2.2 g1)⟩
  clear g1 HW
  have HC : Hid (∀ y : World, w1.grownBy y none → y.cell? ⟨w.heap.size, 0, none⟩ = some (.int .i64 c.kind) ∧ y.cell? ⟨w.heap.size, 1, none⟩ = some (.int .i64 c.token) ∧ y.cell? ⟨w.heap.size, 2, none⟩ = some (.int .i64 c.session) ∧ y.cell? ⟨w.heap.size, 3, none⟩ = some (.int .i64 c.number) ∧ y.cell? ⟨w.heap.size, 4, none⟩ = some (.int .i64 c.mark) ∧ y.cell? ⟨w.heap.size, 5, none⟩ = some (.slice ao n ca) ∧ y.cell? ⟨w.heap.size + 1, 0, none⟩ = some (.int .i64 d.kind) ∧ y.cell? ⟨w.heap.size + 1, 1, none⟩ = some (.int .i64 d.token) ∧ y.cell? ⟨w.heap.size + 1, 2, none⟩ = some (.int .i64 d.session) ∧ y.cell? ⟨w.heap.size + 1, 3, none⟩ = some (.int .i64 d.number) ∧ y.cell? ⟨w.heap.size + 1, 4, none⟩ = some (.int .i64 d.mark) ∧ y.cell? ⟨w.heap.size + 1, 5, none⟩ = some (.slice bo m cb)) := fun y hy => by
    have hb := H1.out.1.grown hy (by simp)
    have hd := H1.out.2.1.grown hy (by simp)
    exact ⟨hb.cell 0, hb.cell 1, hb.cell 2, hb.cell 3, hb.cell 4, hb.cell 5, hd.cell 0, hd.cell 1, hd.cell 2, hd.cell 3, hd.cell 4, hd.cell 5⟩
  go_wp2_with fail
  refine wp_region_noPanic ?_
  refine wp_region_hold 1000 (fun y => w1.grownBy y none) (by kernel_rfl) ?_
  have G0 : Hid (w1.grownBy w1.drew none) := grown_drew _ _
  generalize w1.drew = wd at G0 ⊢
  refine wpHold_take (i := 0) (v := _) (G0.out) rfl rfl (by kernel_rfl) (by kernel_rfl) (by kernel_rfl) (by kernel_rfl) (by kernel_rfl) (fun _ _ _ h => h) (by rfl) (fun wk hk => by obtain ⟨m0, m1, m2, m3, m4, m5, p0, p1, p2, p3, p4, p5⟩ := HC.out wk hk; go_simp; try rfl) ?_
  try simp only [Act.put, List.setIfInBounds_toArray, List.set_cons_zero, List.set_cons_succ]
  refine wpHold_one (i := 1) rfl (by kernel_rfl) (by rfl) (fun K hK => ?_)
  go_wp2_with fail
  refine (small6e (.slice ao n ca) c wd (H1.out.2.2.2.1.grown G0.out)).mono ?_
  rintro e v1 ⟨rfl, gv⟩
  rw [hb]
  have G1 : Hid (w1.grownBy v1 none) := grown_trans G0.out gv
  clear gv
  go_wp2_with fail
  refine hK.out _ _ (fun _ => G1.out) ?_
  clear hK K
  try simp only [Act.put, List.setIfInBounds_toArray, List.set_cons_zero, List.set_cons_succ]
  refine wpHold_take (i := 2) (v := _) (G1.out) rfl rfl (by kernel_rfl) (by kernel_rfl) (by kernel_rfl) (by kernel_rfl) (by kernel_rfl) (fun _ _ _ h => h) (by rfl) (fun wk hk => by obtain ⟨m0, m1, m2, m3, m4, m5, p0, p1, p2, p3, p4, p5⟩ := HC.out wk hk; go_simp; try rfl) ?_
  try simp only [Act.put, List.setIfInBounds_toArray, List.set_cons_zero, List.set_cons_succ]
  refine wpHold_take (i := 3) (v := _) (G1.out) rfl rfl (by kernel_rfl) (by kernel_rfl) (by kernel_rfl) (by kernel_rfl) (by kernel_rfl) (fun _ _ _ h => h) (by rfl) (fun wk hk => by obtain ⟨m0, m1, m2, m3, m4, m5, p0, p1, p2, p3, p4, p5⟩ := HC.out wk hk; go_simp; try rfl) ?_
  try simp only [Act.put, List.setIfInBounds_toArray, List.set_cons_zero, List.set_cons_succ]
  refine wpHold_take (i := 4) (v := _) (G1.out) rfl rfl (by kernel_rfl) (by kernel_rfl) (by kernel_rfl) (by kernel_rfl) (by kernel_rfl) (fun _ _ _ h => h) (by rfl) (fun wk hk => by obtain ⟨m0, m1, m2, m3, m4, m5, p0, p1, p2, p3, p4, p5⟩ := HC.out wk hk; go_simp; try rfl) ?_
  try simp only [Act.put, List.setIfInBounds_toArray, List.set_cons_zero, List.set_cons_succ]
  refine wpHold_one (i := 5) rfl (by kernel_rfl) (by rfl) (fun K hK => ?_)
  go_wp2_with fail
  refine (small6e (.slice bo m cb) d v1 (H1.out.2.2.2.2.1.grown G1.out)).mono ?_
  rintro e v2 ⟨rfl, gv⟩
  rw [hd]
  have G2 : Hid (w1.grownBy v2 none) := grown_trans G1.out gv
  clear gv
  go_wp2_with fail
  refine hK.out _ _ (fun _ => G2.out) ?_
  clear hK K
  try simp only [Act.put, List.setIfInBounds_toArray, List.set_cons_zero, List.set_cons_succ]
  refine wpHold_take (i := 6) (v := _) (G2.out) rfl rfl (by kernel_rfl) (by kernel_rfl) (by kernel_rfl) (by kernel_rfl) (by kernel_rfl) (fun _ _ _ h => h) (by rfl) (fun wk hk => by obtain ⟨m0, m1, m2, m3, m4, m5, p0, p1, p2, p3, p4, p5⟩ := HC.out wk hk; go_simp; try rfl) ?_
  try simp only [Act.put, List.setIfInBounds_toArray, List.set_cons_zero, List.set_cons_succ]
  refine wpHold_take (i := 7) (v := _) (G2.out) rfl rfl (by kernel_rfl) (by kernel_rfl) (by kernel_rfl) (by kernel_rfl) (by kernel_rfl) (fun _ _ _ h => h) (by rfl) (fun wk hk => by obtain ⟨m0, m1, m2, m3, m4, m5, p0, p1, p2, p3, p4, p5⟩ := HC.out wk hk; go_simp; try rfl) ?_
  try simp only [Act.put, List.setIfInBounds_toArray, List.set_cons_zero, List.set_cons_succ]
  refine wpHold_take (i := 8) (v := _) (G2.out) rfl rfl (by kernel_rfl) (by kernel_rfl) (by kernel_rfl) (by kernel_rfl) (by kernel_rfl) (fun _ _ _ h => h) (by rfl) (fun wk hk => by obtain ⟨m0, m1, m2, m3, m4, m5, p0, p1, p2, p3, p4, p5⟩ := HC.out wk hk; go_simp; try rfl) ?_
  try simp only [Act.put, List.setIfInBounds_toArray, List.set_cons_zero, List.set_cons_succ]
  refine wpHold_skip (i := 9) (G2.out) rfl rfl (by kernel_rfl) (by kernel_rfl) (by kernel_rfl) (by kernel_rfl) (by kernel_rfl) (fun _ _ _ h => h) (by rfl) ?_
  try simp only [Act.put, List.setIfInBounds_toArray, List.set_cons_zero, List.set_cons_succ]
  refine wpHold_skip (i := 10) (G2.out) rfl rfl (by kernel_rfl) (by kernel_rfl) (by kernel_rfl) (by kernel_rfl) (by kernel_rfl) (fun _ _ _ h => h) (by rfl) ?_
  try simp only [Act.put, List.setIfInBounds_toArray, List.set_cons_zero, List.set_cons_succ]
  refine wpHold_skip (i := 11) (G2.out) rfl rfl (by kernel_rfl) (by kernel_rfl) (by kernel_rfl) (by kernel_rfl) (by kernel_rfl) (fun _ _ _ h => h) (by rfl) ?_
  try simp only [Act.put, List.setIfInBounds_toArray, List.set_cons_zero, List.set_cons_succ]
  refine wpHold_skip (i := 12) (G2.out) rfl rfl (by kernel_rfl) (by kernel_rfl) (by kernel_rfl) (by kernel_rfl) (by kernel_rfl) (fun _ _ _ h => h) (by rfl) ?_
  try simp only [Act.put, List.setIfInBounds_toArray, List.set_cons_zero, List.set_cons_succ]
  refine wpHold_skip (i := 13) (G2.out) rfl rfl (by kernel_rfl) (by kernel_rfl) (by kernel_rfl) (by kernel_rfl) (by kernel_rfl) (fun _ _ _ h => h) (by rfl) ?_
  try simp only [Act.put, List.setIfInBounds_toArray, List.set_cons_zero, List.set_cons_succ]
  refine wpHold_skip (i := 14) (G2.out) rfl rfl (by kernel_rfl) (by kernel_rfl) (by kernel_rfl) (by kernel_rfl) (by kernel_rfl) (fun _ _ _ h => h) (by rfl) ?_
  try simp only [Act.put, List.setIfInBounds_toArray, List.set_cons_zero, List.set_cons_succ]
  refine wpHold_skip (i := 15) (G2.out) rfl rfl (by kernel_rfl) (by kernel_rfl) (by kernel_rfl) (by kernel_rfl) (by kernel_rfl) (fun _ _ _ h => h) (by rfl) ?_
  try simp only [Act.put, List.setIfInBounds_toArray, List.set_cons_zero, List.set_cons_succ]
  refine wpHold_skip (i := 16) (G2.out) rfl rfl (by kernel_rfl) (by kernel_rfl) (by kernel_rfl) (by kernel_rfl) (by kernel_rfl) (fun _ _ _ h => h) (by rfl) ?_
  try simp only [Act.put, List.setIfInBounds_toArray, List.set_cons_zero, List.set_cons_succ]
  refine wpHold_take (i := 17) (v := _) (G2.out) rfl rfl (by kernel_rfl) (by kernel_rfl) (by kernel_rfl) (by kernel_rfl) (by kernel_rfl) (fun _ _ _ h => h) (by rfl) (fun wk hk => by obtain ⟨m0, m1, m2, m3, m4, m5, p0, p1, p2, p3, p4, p5⟩ := HC.out wk hk; go_simp; try rfl) ?_
  try simp only [Act.put, List.setIfInBounds_toArray, List.set_cons_zero, List.set_cons_succ]
  refine wpHold_done (by kernel_rfl) ?_
  refine (‹∀ (a : Act) (w : World), Code.wp Tryz.prog _ _ a w → _› _ _ ?_)
  go_wp2_with fail
  go_ret
  exact ⟨rfl, grown_trans H1.out.2.2.1 G2.out⟩

set_option maxRecDepth 100000 in
set_option maxHeartbeats 16000000 in
theorem back5_c (u v : Value) (c d : PCmd) (w : World) (hu : Ops w u c.ops) (hv : Ops w v d.ops) (ic : InC c) (id : InC d) (hE : EnvC w) (hb : smallB c = true) (hd : smallB d = true) (x y : Int) (hx : chkC c = x) (hy : chkC d = y) (hxy : (x = 0 ∧ y = 2) ∨ (x = 2 ∧ (y = 0 ∨ y = 2))) : Calls Tryz.prog 5 #[cmdV u c, cmdV v d] w fun e w' => e = .returned (.bool true) ∧ w.grownBy w' none := by
  obtain ⟨ao, n, ca, rfl, _, _, HU⟩ := ops_open hu
  obtain ⟨bo, m, cb, rfl, _, _, HV⟩ := ops_open hv
  have HI : Hid (InC c ∧ InC d ∧ EnvC w) := ⟨ic, id, hE⟩
  clear hu hv ic id hE
  unfold cmdV
  go_enter Tryz.func5, Tryz.ntmps5
  go_wp2_with fail
  obtain ⟨W, hW, HW⟩ := al2 w #[.int .i64 c.kind, .int .i64 c.token, .int .i64 c.session, .int .i64 c.number, .int .i64 c.mark, .slice ao n ca] #[.int .i64 d.kind, .int .i64 d.token, .int .i64 d.session, .int .i64 d.number, .int .i64 d.mark, .slice bo m cb] 27 27
  rw [hW]
  clear hW
  refine (known7 W (HI.out.2.2.grown HW.out.2.2)).mono ?_
  rintro e w1 ⟨rfl, g1⟩
  have H1 : Hid (Blk w1 w.heap.size 27 #[.int .i64 c.kind, .int .i64 c.token, .int .i64 c.session, .int .i64 c.number, .int .i64 c.mark, .slice ao n ca] ∧ Blk w1 (w.heap.size + 1) 27 #[.int .i64 d.kind, .int .i64 d.token, .int .i64 d.session, .int .i64 d.number, .int .i64 d.mark, .slice bo m cb] ∧ w.grownBy w1 none ∧ Ops w1 (.slice ao n ca) c.ops ∧ Ops w1 (.slice bo m cb) d.ops ∧ EnvC w1) := ⟨HW.out.1.grown g1 (by simp), HW.out.2.1.grown g1 (by simp), grown_trans HW.out.2.2 g1, HU.out.grown (grown_trans HW.out.2.2 g1), HV.out.grown (grown_trans HW.out.2.2 g1), HI.out.2.2.grown (grown_trans HW.out.2.2 g1)⟩
  clear g1 HW
  have HC : Hid (∀ y : World, w1.grownBy y none → y.cell? ⟨w.heap.size, 0, none⟩ = some (.int .i64 c.kind) ∧ y.cell? ⟨w.heap.size, 1, none⟩ = some (.int .i64 c.token) ∧ y.cell? ⟨w.heap.size, 2, none⟩ = some (.int .i64 c.session) ∧ y.cell? ⟨w.heap.size, 3, none⟩ = some (.int .i64 c.number) ∧ y.cell? ⟨w.heap.size, 4, none⟩ = some (.int .i64 c.mark) ∧ y.cell? ⟨w.heap.size, 5, none⟩ = some (.slice ao n ca) ∧ y.cell? ⟨w.heap.size + 1, 0, none⟩ = some (.int .i64 d.kind) ∧ y.cell? ⟨w.heap.size + 1, 1, none⟩ = some (.int .i64 d.token) ∧ y.cell? ⟨w.heap.size + 1, 2, none⟩ = some (.int .i64 d.session) ∧ y.cell? ⟨w.heap.size + 1, 3, none⟩ = some (.int .i64 d.number) ∧ y.cell? ⟨w.heap.size + 1, 4, none⟩ = some (.int .i64 d.mark) ∧ y.cell? ⟨w.heap.size + 1, 5, none⟩ = some (.slice bo m cb)) := fun y hy => by
    have hb := H1.out.1.grown hy (by simp)
    have hd := H1.out.2.1.grown hy (by simp)
    exact ⟨hb.cell 0, hb.cell 1, hb.cell 2, hb.cell 3, hb.cell 4, hb.cell 5, hd.cell 0, hd.cell 1, hd.cell 2, hd.cell 3, hd.cell 4, hd.cell 5⟩
  go_wp2_with fail
  refine wp_region_noPanic ?_
  refine wp_region_hold 1000 (fun y => w1.grownBy y none) (by kernel_rfl) ?_
  have G0 : Hid (w1.grownBy w1.drew none) := grown_drew _ _
  generalize w1.drew = wd at G0 ⊢
  refine wpHold_take (i := 0) (v := _) (G0.out) rfl rfl (by kernel_rfl) (by kernel_rfl) (by kernel_rfl) (by kernel_rfl) (by kernel_rfl) (fun _ _ _ h => h) (by rfl) (fun wk hk => by obtain ⟨m0, m1, m2, m3, m4, m5, p0, p1, p2, p3, p4, p5⟩ := HC.out wk hk; go_simp; try rfl) ?_
  try simp only [Act.put, List.setIfInBounds_toArray, List.set_cons_zero, List.set_cons_succ]
  refine wpHold_one (i := 1) rfl (by kernel_rfl) (by rfl) (fun K hK => ?_)
  go_wp2_with fail
  refine (small6e (.slice ao n ca) c wd (H1.out.2.2.2.1.grown G0.out)).mono ?_
  rintro e v1 ⟨rfl, gv⟩
  rw [hb]
  have G1 : Hid (w1.grownBy v1 none) := grown_trans G0.out gv
  clear gv
  go_wp2_with fail
  refine hK.out _ _ (fun _ => G1.out) ?_
  clear hK K
  try simp only [Act.put, List.setIfInBounds_toArray, List.set_cons_zero, List.set_cons_succ]
  refine wpHold_take (i := 2) (v := _) (G1.out) rfl rfl (by kernel_rfl) (by kernel_rfl) (by kernel_rfl) (by kernel_rfl) (by kernel_rfl) (fun _ _ _ h => h) (by rfl) (fun wk hk => by obtain ⟨m0, m1, m2, m3, m4, m5, p0, p1, p2, p3, p4, p5⟩ := HC.out wk hk; go_simp; try rfl) ?_
  try simp only [Act.put, List.setIfInBounds_toArray, List.set_cons_zero, List.set_cons_succ]
  refine wpHold_take (i := 3) (v := _) (G1.out) rfl rfl (by kernel_rfl) (by kernel_rfl) (by kernel_rfl) (by kernel_rfl) (by kernel_rfl) (fun _ _ _ h => h) (by rfl) (fun wk hk => by obtain ⟨m0, m1, m2, m3, m4, m5, p0, p1, p2, p3, p4, p5⟩ := HC.out wk hk; go_simp; try rfl) ?_
  try simp only [Act.put, List.setIfInBounds_toArray, List.set_cons_zero, List.set_cons_succ]
  refine wpHold_take (i := 4) (v := _) (G1.out) rfl rfl (by kernel_rfl) (by kernel_rfl) (by kernel_rfl) (by kernel_rfl) (by kernel_rfl) (fun _ _ _ h => h) (by rfl) (fun wk hk => by obtain ⟨m0, m1, m2, m3, m4, m5, p0, p1, p2, p3, p4, p5⟩ := HC.out wk hk; go_simp; try rfl) ?_
  try simp only [Act.put, List.setIfInBounds_toArray, List.set_cons_zero, List.set_cons_succ]
  refine wpHold_one (i := 5) rfl (by kernel_rfl) (by rfl) (fun K hK => ?_)
  go_wp2_with fail
  refine (small6e (.slice bo m cb) d v1 (H1.out.2.2.2.2.1.grown G1.out)).mono ?_
  rintro e v2 ⟨rfl, gv⟩
  rw [hd]
  have G2 : Hid (w1.grownBy v2 none) := grown_trans G1.out gv
  clear gv
  go_wp2_with fail
  refine hK.out _ _ (fun _ => G2.out) ?_
  clear hK K
  try simp only [Act.put, List.setIfInBounds_toArray, List.set_cons_zero, List.set_cons_succ]
  refine wpHold_take (i := 6) (v := _) (G2.out) rfl rfl (by kernel_rfl) (by kernel_rfl) (by kernel_rfl) (by kernel_rfl) (by kernel_rfl) (fun _ _ _ h => h) (by rfl) (fun wk hk => by obtain ⟨m0, m1, m2, m3, m4, m5, p0, p1, p2, p3, p4, p5⟩ := HC.out wk hk; go_simp; try rfl) ?_
  try simp only [Act.put, List.setIfInBounds_toArray, List.set_cons_zero, List.set_cons_succ]
  refine wpHold_take (i := 7) (v := _) (G2.out) rfl rfl (by kernel_rfl) (by kernel_rfl) (by kernel_rfl) (by kernel_rfl) (by kernel_rfl) (fun _ _ _ h => h) (by rfl) (fun wk hk => by obtain ⟨m0, m1, m2, m3, m4, m5, p0, p1, p2, p3, p4, p5⟩ := HC.out wk hk; go_simp; try rfl) ?_
  try simp only [Act.put, List.setIfInBounds_toArray, List.set_cons_zero, List.set_cons_succ]
  refine wpHold_take (i := 8) (v := _) (G2.out) rfl rfl (by kernel_rfl) (by kernel_rfl) (by kernel_rfl) (by kernel_rfl) (by kernel_rfl) (fun _ _ _ h => h) (by rfl) (fun wk hk => by obtain ⟨m0, m1, m2, m3, m4, m5, p0, p1, p2, p3, p4, p5⟩ := HC.out wk hk; go_simp; try rfl) ?_
  try simp only [Act.put, List.setIfInBounds_toArray, List.set_cons_zero, List.set_cons_succ]
  refine wpHold_take (i := 9) (v := _) (G2.out) rfl rfl (by kernel_rfl) (by kernel_rfl) (by kernel_rfl) (by kernel_rfl) (by kernel_rfl) (fun _ _ _ h => h) (by rfl) (fun wk hk => by obtain ⟨m0, m1, m2, m3, m4, m5, p0, p1, p2, p3, p4, p5⟩ := HC.out wk hk; go_simp; try rfl) ?_
  try simp only [Act.put, List.setIfInBounds_toArray, List.set_cons_zero, List.set_cons_succ]
  refine wpHold_take (i := 12) (v := _) (G2.out) rfl rfl (by kernel_rfl) (by kernel_rfl) (by kernel_rfl) (by kernel_rfl) (by kernel_rfl) (fun _ _ _ h => h) (by rfl) (fun wk hk => by obtain ⟨m0, m1, m2, m3, m4, m5, p0, p1, p2, p3, p4, p5⟩ := HC.out wk hk; go_simp; try rfl) ?_
  try simp only [Act.put, List.setIfInBounds_toArray, List.set_cons_zero, List.set_cons_succ]
  refine wpHold_one (i := 10) rfl (by kernel_rfl) (by rfl) (fun K hK => ?_)
  go_wp2_with fail
  refine (check13 (.slice ao n ca) c v2 (H1.out.2.2.2.1.grown G2.out) HI.out.1).mono ?_
  rintro e v3 ⟨rfl, gv⟩
  rw [hx]
  have G3 : Hid (w1.grownBy v3 none) := grown_trans G2.out gv
  clear gv
  go_wp2_with fail
  refine hK.out _ _ (fun _ => G3.out) ?_
  clear hK K
  try simp only [Act.put, List.setIfInBounds_toArray, List.set_cons_zero, List.set_cons_succ]
  refine wpHold_one (i := 11) rfl (by kernel_rfl) (by rfl) (fun K hK => ?_)
  go_wp2_with (go_at_call 12; refine (num12 _ _).mono ?_; rintro e wx ⟨rfl, hx⟩; rw [hx]; clear hx)
  refine hK.out _ _ (fun _ => G3.out) ?_
  clear hK K
  try simp only [Act.put, List.setIfInBounds_toArray, List.set_cons_zero, List.set_cons_succ]
  refine wpHold_one (i := 13) rfl (by kernel_rfl) (by rfl) (fun K hK => ?_)
  go_wp2_with fail
  refine (check13 (.slice bo m cb) d v3 (H1.out.2.2.2.2.1.grown G3.out) HI.out.2.1).mono ?_
  rintro e v4 ⟨rfl, gv⟩
  rw [hy]
  have G4 : Hid (w1.grownBy v4 none) := grown_trans G3.out gv
  clear gv
  go_wp2_with fail
  refine hK.out _ _ (fun _ => G4.out) ?_
  clear hK K
  try simp only [Act.put, List.setIfInBounds_toArray, List.set_cons_zero, List.set_cons_succ]
  refine wpHold_one (i := 14) rfl (by kernel_rfl) (by rfl) (fun K hK => ?_)
  go_wp2_with (go_at_call 12; refine (num12 _ _).mono ?_; rintro e wx ⟨rfl, hx⟩; rw [hx]; clear hx)
  refine hK.out _ _ (fun _ => G4.out) ?_
  clear hK K
  try simp only [Act.put, List.setIfInBounds_toArray, List.set_cons_zero, List.set_cons_succ]
  refine wpHold_take (i := 15) (v := _) (G4.out) rfl rfl (by kernel_rfl) (by kernel_rfl) (by kernel_rfl) (by kernel_rfl) (by kernel_rfl) (fun _ _ _ h => h) (by rfl) (fun wk hk => by obtain ⟨m0, m1, m2, m3, m4, m5, p0, p1, p2, p3, p4, p5⟩ := HC.out wk hk; go_simp; try rfl) ?_
  try simp only [Act.put, List.setIfInBounds_toArray, List.set_cons_zero, List.set_cons_succ]
  refine wpHold_take (i := 16) (v := _) (G4.out) rfl rfl (by kernel_rfl) (by kernel_rfl) (by kernel_rfl) (by kernel_rfl) (by kernel_rfl) (fun _ _ _ h => h) (by rfl) (fun wk hk => by obtain ⟨m0, m1, m2, m3, m4, m5, p0, p1, p2, p3, p4, p5⟩ := HC.out wk hk; go_simp; try rfl) ?_
  try simp only [Act.put, List.setIfInBounds_toArray, List.set_cons_zero, List.set_cons_succ]
  refine wpHold_take (i := 17) (v := _) (G4.out) rfl rfl (by kernel_rfl) (by kernel_rfl) (by kernel_rfl) (by kernel_rfl) (by kernel_rfl) (fun _ _ _ h => h) (by rfl) (fun wk hk => by obtain ⟨m0, m1, m2, m3, m4, m5, p0, p1, p2, p3, p4, p5⟩ := HC.out wk hk; go_simp; try rfl) ?_
  try simp only [Act.put, List.setIfInBounds_toArray, List.set_cons_zero, List.set_cons_succ]
  refine wpHold_done (by kernel_rfl) ?_
  refine (‹∀ (a : Act) (w : World), Code.wp Tryz.prog _ _ a w → _› _ _ ?_)
  rcases hxy with ⟨h1, h2⟩ | ⟨h1, h2 | h2⟩
  all_goals subst h1
  all_goals subst h2
  all_goals go_wp2_with fail
  all_goals go_ret
  all_goals exact ⟨rfl, grown_trans H1.out.2.2.1 G4.out⟩

set_option maxRecDepth 100000 in
set_option maxHeartbeats 16000000 in
theorem back5_d (u v : Value) (c d : PCmd) (w : World) (hu : Ops w u c.ops) (hv : Ops w v d.ops) (ic : InC c) (id : InC d) (hE : EnvC w) (hb : smallB c = true) (hd : smallB d = true) (hx : okC c = true) (hy : okC d = true) : Calls Tryz.prog 5 #[cmdV u c, cmdV v d] w fun e w' => e = .returned (.bool true) ∧ w.grownBy w' none := by
  obtain ⟨ao, n, ca, rfl, _, _, HU⟩ := ops_open hu
  obtain ⟨bo, m, cb, rfl, _, _, HV⟩ := ops_open hv
  have HI : Hid (InC c ∧ InC d ∧ EnvC w) := ⟨ic, id, hE⟩
  clear hu hv ic id hE
  have HO : Hid (okC c = true ∧ okC d = true) := ⟨hx, hy⟩
  unfold cmdV
  go_enter Tryz.func5, Tryz.ntmps5
  go_wp2_with fail
  obtain ⟨W, hW, HW⟩ := al2 w #[.int .i64 c.kind, .int .i64 c.token, .int .i64 c.session, .int .i64 c.number, .int .i64 c.mark, .slice ao n ca] #[.int .i64 d.kind, .int .i64 d.token, .int .i64 d.session, .int .i64 d.number, .int .i64 d.mark, .slice bo m cb] 27 27
  rw [hW]
  clear hW
  refine (known7 W (HI.out.2.2.grown HW.out.2.2)).mono ?_
  rintro e w1 ⟨rfl, g1⟩
  have H1 : Hid (Blk w1 w.heap.size 27 #[.int .i64 c.kind, .int .i64 c.token, .int .i64 c.session, .int .i64 c.number, .int .i64 c.mark, .slice ao n ca] ∧ Blk w1 (w.heap.size + 1) 27 #[.int .i64 d.kind, .int .i64 d.token, .int .i64 d.session, .int .i64 d.number, .int .i64 d.mark, .slice bo m cb] ∧ w.grownBy w1 none ∧ Ops w1 (.slice ao n ca) c.ops ∧ Ops w1 (.slice bo m cb) d.ops ∧ EnvC w1) := ⟨HW.out.1.grown g1 (by simp), HW.out.2.1.grown g1 (by simp), grown_trans HW.out.2.2 g1, HU.out.grown (grown_trans HW.out.2.2 g1), HV.out.grown (grown_trans HW.out.2.2 g1), HI.out.2.2.grown (grown_trans HW.out.2.2 g1)⟩
  clear g1 HW
  have HC : Hid (∀ y : World, w1.grownBy y none → y.cell? ⟨w.heap.size, 0, none⟩ = some (.int .i64 c.kind) ∧ y.cell? ⟨w.heap.size, 1, none⟩ = some (.int .i64 c.token) ∧ y.cell? ⟨w.heap.size, 2, none⟩ = some (.int .i64 c.session) ∧ y.cell? ⟨w.heap.size, 3, none⟩ = some (.int .i64 c.number) ∧ y.cell? ⟨w.heap.size, 4, none⟩ = some (.int .i64 c.mark) ∧ y.cell? ⟨w.heap.size, 5, none⟩ = some (.slice ao n ca) ∧ y.cell? ⟨w.heap.size + 1, 0, none⟩ = some (.int .i64 d.kind) ∧ y.cell? ⟨w.heap.size + 1, 1, none⟩ = some (.int .i64 d.token) ∧ y.cell? ⟨w.heap.size + 1, 2, none⟩ = some (.int .i64 d.session) ∧ y.cell? ⟨w.heap.size + 1, 3, none⟩ = some (.int .i64 d.number) ∧ y.cell? ⟨w.heap.size + 1, 4, none⟩ = some (.int .i64 d.mark) ∧ y.cell? ⟨w.heap.size + 1, 5, none⟩ = some (.slice bo m cb)) := fun y hy => by
    have hb := H1.out.1.grown hy (by simp)
    have hd := H1.out.2.1.grown hy (by simp)
    exact ⟨hb.cell 0, hb.cell 1, hb.cell 2, hb.cell 3, hb.cell 4, hb.cell 5, hd.cell 0, hd.cell 1, hd.cell 2, hd.cell 3, hd.cell 4, hd.cell 5⟩
  go_wp2_with fail
  refine wp_region_noPanic ?_
  refine wp_region_hold 1000 (fun y => w1.grownBy y none) (by kernel_rfl) ?_
  have G0 : Hid (w1.grownBy w1.drew none) := grown_drew _ _
  generalize w1.drew = wd at G0 ⊢
  refine wpHold_take (i := 0) (v := _) (G0.out) rfl rfl (by kernel_rfl) (by kernel_rfl) (by kernel_rfl) (by kernel_rfl) (by kernel_rfl) (fun _ _ _ h => h) (by rfl) (fun wk hk => by obtain ⟨m0, m1, m2, m3, m4, m5, p0, p1, p2, p3, p4, p5⟩ := HC.out wk hk; go_simp; try rfl) ?_
  try simp only [Act.put, List.setIfInBounds_toArray, List.set_cons_zero, List.set_cons_succ]
  refine wpHold_one (i := 1) rfl (by kernel_rfl) (by rfl) (fun K hK => ?_)
  go_wp2_with fail
  refine (small6e (.slice ao n ca) c wd (H1.out.2.2.2.1.grown G0.out)).mono ?_
  rintro e v1 ⟨rfl, gv⟩
  rw [hb]
  have G1 : Hid (w1.grownBy v1 none) := grown_trans G0.out gv
  clear gv
  go_wp2_with fail
  refine hK.out _ _ (fun _ => G1.out) ?_
  clear hK K
  try simp only [Act.put, List.setIfInBounds_toArray, List.set_cons_zero, List.set_cons_succ]
  refine wpHold_take (i := 2) (v := _) (G1.out) rfl rfl (by kernel_rfl) (by kernel_rfl) (by kernel_rfl) (by kernel_rfl) (by kernel_rfl) (fun _ _ _ h => h) (by rfl) (fun wk hk => by obtain ⟨m0, m1, m2, m3, m4, m5, p0, p1, p2, p3, p4, p5⟩ := HC.out wk hk; go_simp; try rfl) ?_
  try simp only [Act.put, List.setIfInBounds_toArray, List.set_cons_zero, List.set_cons_succ]
  refine wpHold_take (i := 3) (v := _) (G1.out) rfl rfl (by kernel_rfl) (by kernel_rfl) (by kernel_rfl) (by kernel_rfl) (by kernel_rfl) (fun _ _ _ h => h) (by rfl) (fun wk hk => by obtain ⟨m0, m1, m2, m3, m4, m5, p0, p1, p2, p3, p4, p5⟩ := HC.out wk hk; go_simp; try rfl) ?_
  try simp only [Act.put, List.setIfInBounds_toArray, List.set_cons_zero, List.set_cons_succ]
  refine wpHold_take (i := 4) (v := _) (G1.out) rfl rfl (by kernel_rfl) (by kernel_rfl) (by kernel_rfl) (by kernel_rfl) (by kernel_rfl) (fun _ _ _ h => h) (by rfl) (fun wk hk => by obtain ⟨m0, m1, m2, m3, m4, m5, p0, p1, p2, p3, p4, p5⟩ := HC.out wk hk; go_simp; try rfl) ?_
  try simp only [Act.put, List.setIfInBounds_toArray, List.set_cons_zero, List.set_cons_succ]
  refine wpHold_one (i := 5) rfl (by kernel_rfl) (by rfl) (fun K hK => ?_)
  go_wp2_with fail
  refine (small6e (.slice bo m cb) d v1 (H1.out.2.2.2.2.1.grown G1.out)).mono ?_
  rintro e v2 ⟨rfl, gv⟩
  rw [hd]
  have G2 : Hid (w1.grownBy v2 none) := grown_trans G1.out gv
  clear gv
  go_wp2_with fail
  refine hK.out _ _ (fun _ => G2.out) ?_
  clear hK K
  try simp only [Act.put, List.setIfInBounds_toArray, List.set_cons_zero, List.set_cons_succ]
  refine wpHold_take (i := 6) (v := _) (G2.out) rfl rfl (by kernel_rfl) (by kernel_rfl) (by kernel_rfl) (by kernel_rfl) (by kernel_rfl) (fun _ _ _ h => h) (by rfl) (fun wk hk => by obtain ⟨m0, m1, m2, m3, m4, m5, p0, p1, p2, p3, p4, p5⟩ := HC.out wk hk; go_simp; try rfl) ?_
  try simp only [Act.put, List.setIfInBounds_toArray, List.set_cons_zero, List.set_cons_succ]
  refine wpHold_take (i := 7) (v := _) (G2.out) rfl rfl (by kernel_rfl) (by kernel_rfl) (by kernel_rfl) (by kernel_rfl) (by kernel_rfl) (fun _ _ _ h => h) (by rfl) (fun wk hk => by obtain ⟨m0, m1, m2, m3, m4, m5, p0, p1, p2, p3, p4, p5⟩ := HC.out wk hk; go_simp; try rfl) ?_
  try simp only [Act.put, List.setIfInBounds_toArray, List.set_cons_zero, List.set_cons_succ]
  refine wpHold_take (i := 8) (v := _) (G2.out) rfl rfl (by kernel_rfl) (by kernel_rfl) (by kernel_rfl) (by kernel_rfl) (by kernel_rfl) (fun _ _ _ h => h) (by rfl) (fun wk hk => by obtain ⟨m0, m1, m2, m3, m4, m5, p0, p1, p2, p3, p4, p5⟩ := HC.out wk hk; go_simp; try rfl) ?_
  try simp only [Act.put, List.setIfInBounds_toArray, List.set_cons_zero, List.set_cons_succ]
  refine wpHold_take (i := 9) (v := _) (G2.out) rfl rfl (by kernel_rfl) (by kernel_rfl) (by kernel_rfl) (by kernel_rfl) (by kernel_rfl) (fun _ _ _ h => h) (by rfl) (fun wk hk => by obtain ⟨m0, m1, m2, m3, m4, m5, p0, p1, p2, p3, p4, p5⟩ := HC.out wk hk; go_simp; try rfl) ?_
  try simp only [Act.put, List.setIfInBounds_toArray, List.set_cons_zero, List.set_cons_succ]
  refine wpHold_take (i := 12) (v := _) (G2.out) rfl rfl (by kernel_rfl) (by kernel_rfl) (by kernel_rfl) (by kernel_rfl) (by kernel_rfl) (fun _ _ _ h => h) (by rfl) (fun wk hk => by obtain ⟨m0, m1, m2, m3, m4, m5, p0, p1, p2, p3, p4, p5⟩ := HC.out wk hk; go_simp; try rfl) ?_
  try simp only [Act.put, List.setIfInBounds_toArray, List.set_cons_zero, List.set_cons_succ]
  refine wpHold_one (i := 10) rfl (by kernel_rfl) (by rfl) (fun K hK => ?_)
  go_wp2_with fail
  refine (check13 (.slice ao n ca) c v2 (H1.out.2.2.2.1.grown G2.out) HI.out.1).mono ?_
  rintro e v3 ⟨rfl, gv⟩
  rw [show chkC c = 0 by rw [chkC, if_pos hx]]
  have G3 : Hid (w1.grownBy v3 none) := grown_trans G2.out gv
  clear gv
  go_wp2_with fail
  refine hK.out _ _ (fun _ => G3.out) ?_
  clear hK K
  try simp only [Act.put, List.setIfInBounds_toArray, List.set_cons_zero, List.set_cons_succ]
  refine wpHold_one (i := 11) rfl (by kernel_rfl) (by rfl) (fun K hK => ?_)
  go_wp2_with (go_at_call 12; refine (num12 _ _).mono ?_; rintro e wx ⟨rfl, hx⟩; rw [hx]; clear hx)
  refine hK.out _ _ (fun _ => G3.out) ?_
  clear hK K
  try simp only [Act.put, List.setIfInBounds_toArray, List.set_cons_zero, List.set_cons_succ]
  refine wpHold_one (i := 13) rfl (by kernel_rfl) (by rfl) (fun K hK => ?_)
  go_wp2_with fail
  refine (check13 (.slice bo m cb) d v3 (H1.out.2.2.2.2.1.grown G3.out) HI.out.2.1).mono ?_
  rintro e v4 ⟨rfl, gv⟩
  rw [show chkC d = 0 by rw [chkC, if_pos hy]]
  have G4 : Hid (w1.grownBy v4 none) := grown_trans G3.out gv
  clear gv
  go_wp2_with fail
  refine hK.out _ _ (fun _ => G4.out) ?_
  clear hK K
  try simp only [Act.put, List.setIfInBounds_toArray, List.set_cons_zero, List.set_cons_succ]
  refine wpHold_one (i := 14) rfl (by kernel_rfl) (by rfl) (fun K hK => ?_)
  go_wp2_with (go_at_call 12; refine (num12 _ _).mono ?_; rintro e wx ⟨rfl, hx⟩; rw [hx]; clear hx)
  refine hK.out _ _ (fun _ => G4.out) ?_
  clear hK K
  try simp only [Act.put, List.setIfInBounds_toArray, List.set_cons_zero, List.set_cons_succ]
  refine wpHold_take (i := 15) (v := _) (G4.out) rfl rfl (by kernel_rfl) (by kernel_rfl) (by kernel_rfl) (by kernel_rfl) (by kernel_rfl) (fun _ _ _ h => h) (by rfl) (fun wk hk => by obtain ⟨m0, m1, m2, m3, m4, m5, p0, p1, p2, p3, p4, p5⟩ := HC.out wk hk; go_simp; try rfl) ?_
  try simp only [Act.put, List.setIfInBounds_toArray, List.set_cons_zero, List.set_cons_succ]
  refine wpHold_take (i := 16) (v := _) (G4.out) rfl rfl (by kernel_rfl) (by kernel_rfl) (by kernel_rfl) (by kernel_rfl) (by kernel_rfl) (fun _ _ _ h => h) (by rfl) (fun wk hk => by obtain ⟨m0, m1, m2, m3, m4, m5, p0, p1, p2, p3, p4, p5⟩ := HC.out wk hk; go_simp; try rfl) ?_
  try simp only [Act.put, List.setIfInBounds_toArray, List.set_cons_zero, List.set_cons_succ]
  refine wpHold_take (i := 17) (v := _) (G4.out) rfl rfl (by kernel_rfl) (by kernel_rfl) (by kernel_rfl) (by kernel_rfl) (by kernel_rfl) (fun _ _ _ h => h) (by rfl) (fun wk hk => by obtain ⟨m0, m1, m2, m3, m4, m5, p0, p1, p2, p3, p4, p5⟩ := HC.out wk hk; go_simp; try rfl) ?_
  try simp only [Act.put, List.setIfInBounds_toArray, List.set_cons_zero, List.set_cons_succ]
  refine wpHold_done (by kernel_rfl) ?_
  refine (‹∀ (a : Act) (w : World), Code.wp Tryz.prog _ _ a w → _› _ _ ?_)
  clear hx hy hb hd
  obtain ⟨m0, m1, m2, m3, m4, m5, p0, p1, p2, p3, p4, p5⟩ := HC.out v4 G4.out
  go_wp2_with fail
  clear m0 m1 m2 m3 m4 m5 p0 p1 p2 p3 p4 p5
  obtain ⟨FC, hFC⟩ : ∃ F, formC c = F := ⟨_, rfl⟩
  obtain ⟨FD, hFD⟩ : ∃ F, formC d = F := ⟨_, rfl⟩
  have HF : Hid (formC c = FC ∧ formC d = FD) := ⟨hFC, hFD⟩
  clear hFC hFD
  refine (bytes_okV (.slice ao n ca) c v4 (H1.out.2.2.2.1.grown G4.out) HI.out.1 FC ⟨HO.out.1, HF.out.1⟩).mono ?_
  rintro e v5 ⟨fx, fn, fy, rfl, hfn, of, gv⟩
  have G5 : Hid (w1.grownBy v5 none) := grown_trans G4.out gv
  have S5 : Hid (Seg v5 (.slice fx fn fy) FC ∧ fn = FC.length) := ⟨of.seg, hfn⟩
  clear gv of hfn
  obtain ⟨m0, m1, m2, m3, m4, m5, p0, p1, p2, p3, p4, p5⟩ := HC.out v5 G5.out
  go_wp2_with fail
  clear m0 m1 m2 m3 m4 m5 p0 p1 p2 p3 p4 p5
  refine (bytes_okV (.slice bo m cb) d v5 (H1.out.2.2.2.2.1.grown G5.out) HI.out.2.1 FD ⟨HO.out.2, HF.out.2⟩).mono ?_
  rintro e v6 ⟨gx, gn, gy, rfl, hgn, og, gv⟩
  have G6 : Hid (w1.grownBy v6 none) := grown_trans G5.out gv
  have S6 : Hid (Seg v6 (.slice fx fn fy) FC ∧ Seg v6 (.slice gx gn gy) FD ∧ fn = FC.length ∧ gn = FD.length) := ⟨S5.out.1.grown gv, og.seg, S5.out.2, hgn⟩
  clear gv og hgn S5
  go_wp2_with fail
  refine (read19 (.slice fx fn fy) FC v6 S6.out.1 (by have h1 := S6.out.1; obtain ⟨_, _, _, _⟩ := h1; rw [← HF.out.1]; exact formC_len HO.out.1 HI.out.1)).mono ?_
  rintro e v7 ⟨ov, rfl, ho, gv⟩
  rw [show readM FC = (c, 0) by rw [← HF.out.1]; exact readM_form HO.out.1 HI.out.1] at ho ⊢
  obtain ⟨ox, on', oy, rfl⟩ : ∃ a n b, ov = .slice a n b := by obtain ⟨a, n, b, e, _⟩ := ops_open ho.ops; exact ⟨a, n, b, e⟩
  have G7 : Hid (w1.grownBy v7 none) := grown_trans G6.out gv
  have S7 : Hid (Seg v7 (.slice fx fn fy) FC ∧ Seg v7 (.slice gx gn gy) FD ∧ fn = FC.length ∧ gn = FD.length ∧ Ops v7 (.slice ox on' oy) c.ops) := ⟨S6.out.1.grown gv, S6.out.2.1.grown gv, S6.out.2.2.1, S6.out.2.2.2, ho.ops⟩
  clear gv ho S6
  unfold cmdV
  simp only
  go_upto_region 8 with fail
  obtain ⟨v8, hv8, HA⟩ := al1 v7 #[.int .i64 c.kind, .int .i64 c.token, .int .i64 c.session, .int .i64 c.number, .int .i64 c.mark, .slice ox on' oy] 27
  rw [hv8]
  clear hv8
  have G8 : Hid (w1.grownBy v8 none) := grown_trans G7.out HA.out.2.1
  have S8 : Hid (Seg v8 (.slice fx fn fy) FC ∧ Seg v8 (.slice gx gn gy) FD ∧ fn = FC.length ∧ gn = FD.length ∧ Ops v8 (.slice ox on' oy) c.ops ∧ Blk v8 v7.heap.size 27 #[.int .i64 c.kind, .int .i64 c.token, .int .i64 c.session, .int .i64 c.number, .int .i64 c.mark, .slice ox on' oy]) := ⟨S7.out.1.grown HA.out.2.1, S7.out.2.1.grown HA.out.2.1, S7.out.2.2.1, S7.out.2.2.2.1, S7.out.2.2.2.2.grown HA.out.2.1, HA.out.1⟩
  clear S7 HA
  obtain ⟨m0, m1, m2, m3, m4, m5, p0, p1, p2, p3, p4, p5⟩ := HC.out v8 G8.out
  go_wp2_with fail
  clear m0 m1 m2 m3 m4 m5 p0 p1 p2 p3 p4 p5
  obtain ⟨TC, hTC⟩ : ∃ F, textC c = F := ⟨_, rfl⟩
  obtain ⟨TD, hTD⟩ : ∃ F, textC d = F := ⟨_, rfl⟩
  have HT : Hid (textC c = TC ∧ textC d = TD) := ⟨hTC, hTD⟩
  clear hTC hTD
  refine (text11 (.slice ao n ca) c v8 (H1.out.2.2.2.1.grown G8.out) HI.out.1 (H1.out.2.2.2.2.2.grown G8.out)).mono ?_
  rintro e v9 ⟨rfl, gv⟩
  rw [if_pos HO.out.1, show chkC c = 0 by rw [chkC, if_pos HO.out.1], HT.out.1]
  unfold Str
  have G9 : Hid (w1.grownBy v9 none) := grown_trans G8.out gv
  have S9 : Hid (Seg v9 (.slice fx fn fy) FC ∧ Seg v9 (.slice gx gn gy) FD ∧ fn = FC.length ∧ gn = FD.length ∧ Ops v9 (.slice ox on' oy) c.ops ∧ Blk v9 v7.heap.size 27 #[.int .i64 c.kind, .int .i64 c.token, .int .i64 c.session, .int .i64 c.number, .int .i64 c.mark, .slice ox on' oy]) := ⟨S8.out.1.grown gv, S8.out.2.1.grown gv, S8.out.2.2.1, S8.out.2.2.2.1, S8.out.2.2.2.2.1.grown gv, S8.out.2.2.2.2.2.grown gv (by simp)⟩
  clear S8 gv
  obtain ⟨m0, m1, m2, m3, m4, m5, p0, p1, p2, p3, p4, p5⟩ := HC.out v9 G9.out
  go_wp2_with fail
  clear m0 m1 m2 m3 m4 m5 p0 p1 p2 p3 p4 p5
  refine (text11 (.slice bo m cb) d v9 (H1.out.2.2.2.2.1.grown G9.out) HI.out.2.1 (H1.out.2.2.2.2.2.grown G9.out)).mono ?_
  rintro e v10 ⟨rfl, gv⟩
  rw [if_pos HO.out.2, show chkC d = 0 by rw [chkC, if_pos HO.out.2], HT.out.2]
  unfold Str
  have G10 : Hid (w1.grownBy v10 none) := grown_trans G9.out gv
  have S10 : Hid (Seg v10 (.slice fx fn fy) FC ∧ Seg v10 (.slice gx gn gy) FD ∧ fn = FC.length ∧ gn = FD.length ∧ Ops v10 (.slice ox on' oy) c.ops ∧ Blk v10 v7.heap.size 27 #[.int .i64 c.kind, .int .i64 c.token, .int .i64 c.session, .int .i64 c.number, .int .i64 c.mark, .slice ox on' oy]) := ⟨S9.out.1.grown gv, S9.out.2.1.grown gv, S9.out.2.2.1, S9.out.2.2.2.1, S9.out.2.2.2.2.1.grown gv, S9.out.2.2.2.2.2.grown gv (by simp)⟩
  clear S9 gv
  go_wp2_with fail
  refine (parse22 TC v10 (by rw [← HT.out.1]; have := textC_len HO.out.1 HI.out.1; omega) (H1.out.2.2.2.2.2.grown G10.out)).mono ?_
  rintro e v11 ⟨ov, rfl, ho, gv⟩
  rw [show parseM TC = (c, 0) by rw [← HT.out.1]; exact parseM_text HO.out.1 HI.out.1] at ho ⊢
  obtain ⟨qx, qn, qy, rfl⟩ : ∃ a n b, ov = .slice a n b := by obtain ⟨a, n, b, e, _⟩ := ops_open ho.ops; exact ⟨a, n, b, e⟩
  have G11 : Hid (w1.grownBy v11 none) := grown_trans G10.out gv
  have S11 : Hid (Seg v11 (.slice fx fn fy) FC ∧ Seg v11 (.slice gx gn gy) FD ∧ fn = FC.length ∧ gn = FD.length ∧ Ops v11 (.slice ox on' oy) c.ops ∧ Blk v11 v7.heap.size 27 #[.int .i64 c.kind, .int .i64 c.token, .int .i64 c.session, .int .i64 c.number, .int .i64 c.mark, .slice ox on' oy] ∧ Ops v11 (.slice qx qn qy) c.ops) := ⟨S10.out.1.grown gv, S10.out.2.1.grown gv, S10.out.2.2.1, S10.out.2.2.2.1, S10.out.2.2.2.2.1.grown gv, S10.out.2.2.2.2.2.grown gv (by simp), ho.ops⟩
  clear gv ho S10
  unfold cmdV
  simp only
  go_upto_region 11 with fail
  obtain ⟨v12, hv12, HA⟩ := al1 v11 #[.int .i64 c.kind, .int .i64 c.token, .int .i64 c.session, .int .i64 c.number, .int .i64 c.mark, .slice qx qn qy] 27
  rw [hv12]
  clear hv12
  have G12 : Hid (w1.grownBy v12 none) := grown_trans G11.out HA.out.2.1
  have S12 : Hid (Seg v12 (.slice fx fn fy) FC ∧ Seg v12 (.slice gx gn gy) FD ∧ fn = FC.length ∧ gn = FD.length ∧ Ops v12 (.slice ox on' oy) c.ops ∧ Blk v12 v7.heap.size 27 #[.int .i64 c.kind, .int .i64 c.token, .int .i64 c.session, .int .i64 c.number, .int .i64 c.mark, .slice ox on' oy] ∧ Ops v12 (.slice qx qn qy) c.ops ∧ Blk v12 v11.heap.size 27 #[.int .i64 c.kind, .int .i64 c.token, .int .i64 c.session, .int .i64 c.number, .int .i64 c.mark, .slice qx qn qy]) := ⟨S11.out.1.grown HA.out.2.1, S11.out.2.1.grown HA.out.2.1, S11.out.2.2.1, S11.out.2.2.2.1, S11.out.2.2.2.2.1.grown HA.out.2.1, S11.out.2.2.2.2.2.1.grown HA.out.2.1 (by simp), S11.out.2.2.2.2.2.2.grown HA.out.2.1, HA.out.1⟩
  clear S11 HA
  have HX : Hid (∀ y, v12.grownBy y none → y.cell? ⟨v7.heap.size, 0, none⟩ = some (.int .i64 c.kind) ∧ y.cell? ⟨v7.heap.size, 1, none⟩ = some (.int .i64 c.token) ∧ y.cell? ⟨v7.heap.size, 2, none⟩ = some (.int .i64 c.session) ∧ y.cell? ⟨v7.heap.size, 3, none⟩ = some (.int .i64 c.number) ∧ y.cell? ⟨v7.heap.size, 4, none⟩ = some (.int .i64 c.mark) ∧ y.cell? ⟨v7.heap.size, 5, none⟩ = some (.slice ox on' oy) ∧ y.cell? ⟨v11.heap.size, 0, none⟩ = some (.int .i64 c.kind) ∧ y.cell? ⟨v11.heap.size, 1, none⟩ = some (.int .i64 c.token) ∧ y.cell? ⟨v11.heap.size, 2, none⟩ = some (.int .i64 c.session) ∧ y.cell? ⟨v11.heap.size, 3, none⟩ = some (.int .i64 c.number) ∧ y.cell? ⟨v11.heap.size, 4, none⟩ = some (.int .i64 c.mark) ∧ y.cell? ⟨v11.heap.size, 5, none⟩ = some (.slice qx qn qy)) := fun y hy => by
    have hb := S12.out.2.2.2.2.2.1.grown hy (by simp)
    have hd := S12.out.2.2.2.2.2.2.2.grown hy (by simp)
    exact ⟨hb.cell 0, hb.cell 1, hb.cell 2, hb.cell 3, hb.cell 4, hb.cell 5, hd.cell 0, hd.cell 1, hd.cell 2, hd.cell 3, hd.cell 4, hd.cell 5⟩
  obtain ⟨m0, m1, m2, m3, m4, m5, p0, p1, p2, p3, p4, p5⟩ := HC.out v12 G12.out
  obtain ⟨r0, r1, r2, r3, r4, r5, s0, s1, s2, s3, s4, s5⟩ := HX.out v12 (grown_refl _ _)
  go_wp2_with (go_at_call 12; refine (num12 _ _).mono ?_; rintro e wx ⟨rfl, hx⟩; rw [hx]; clear hx)
  clear m0 m1 m2 m3 m4 m5 p0 p1 p2 p3 p4 p5 r0 r1 r2 r3 r4 r5 s0 s1 s2 s3 s4 s5
  refine (same24 (.slice ox on' oy) (.slice ao n ca) c c v12 S12.out.2.2.2.2.1 (H1.out.2.2.2.1.grown G12.out)).mono ?_
  rintro e v13 ⟨rfl, gv⟩
  rw [show decide (c = c) = true by simp]
  have G13 : Hid (v12.grownBy v13 none) := gv
  clear gv
  obtain ⟨m0, m1, m2, m3, m4, m5, p0, p1, p2, p3, p4, p5⟩ := HC.out v13 (grown_trans G12.out G13.out)
  obtain ⟨r0, r1, r2, r3, r4, r5, s0, s1, s2, s3, s4, s5⟩ := HX.out v13 G13.out
  go_wp2_with fail
  clear m0 m1 m2 m3 m4 m5 p0 p1 p2 p3 p4 p5 r0 r1 r2 r3 r4 r5 s0 s1 s2 s3 s4 s5
  refine (same24 (.slice qx qn qy) (.slice ao n ca) c c v13 (S12.out.2.2.2.2.2.2.1.grown G13.out) (H1.out.2.2.2.1.grown (grown_trans G12.out G13.out))).mono ?_
  rintro e v14 ⟨rfl, gv⟩
  rw [show decide (c = c) = true by simp]
  have G14 : Hid (v12.grownBy v14 none) := grown_trans G13.out gv
  clear gv G13
  obtain ⟨m0, m1, m2, m3, m4, m5, p0, p1, p2, p3, p4, p5⟩ := HC.out v14 (grown_trans G12.out G14.out)
  go_wp2_with fail
  clear m0 m1 m2 m3 m4 m5 p0 p1 p2 p3 p4 p5
  refine (same24 (.slice ao n ca) (.slice bo m cb) c d v14 (H1.out.2.2.2.1.grown (grown_trans G12.out G14.out)) (H1.out.2.2.2.2.1.grown (grown_trans G12.out G14.out))).mono ?_
  rintro e v15 ⟨rfl, gv⟩
  have G15 : Hid (v12.grownBy v15 none) := grown_trans G14.out gv
  clear gv G14
  obtain ⟨m0, m1, m2, m3, m4, m5, p0, p1, p2, p3, p4, p5⟩ := HC.out v15 (grown_trans G12.out G15.out)
  go_wp2_with fail
  clear m0 m1 m2 m3 m4 m5 p0 p1 p2 p3 p4 p5
  refine (same16 (.slice ao n ca) (.slice bo m cb) c d v15 (H1.out.2.2.2.1.grown (grown_trans G12.out G15.out)) (H1.out.2.2.2.2.1.grown (grown_trans G12.out G15.out))).mono ?_
  rintro e v16 ⟨rfl, gv⟩
  have G16 : Hid (v12.grownBy v16 none) := grown_trans G15.out gv
  clear gv G15
  have s1 := seg_str (S12.out.1.grown G16.out)
  have s2 := seg_str (S12.out.2.1.grown G16.out)
  have hfi := form_iff HO.out.1 HI.out.1 HO.out.2 HI.out.2.1
  have hti := text_iff HO.out.1 HI.out.1 HO.out.2 HI.out.2.1
  rw [HF.out.1, HF.out.2] at hfi
  rw [HT.out.1, HT.out.2] at hti
  have GW : Hid (w.grownBy v16 none) := grown_trans H1.out.2.2.1 (grown_trans G12.out G16.out)
  by_cases hcd : c = d
  · have hf := hfi.2 hcd
    have ht := hti.2 hcd
    rw [show decide (c = d) = true by simp [hcd]]
    have qf : (FC == FD) = true := by simp [hf]
    have qt : (TC == TD) = true := by simp [ht]
    clear hfi hti hcd hf ht
    go_wp2_with fail
    go_quiet (fail)
    go_wp2_with fail
    go_ret
    exact ⟨rfl, grown_trans GW.out (grown_drewN _ _ _)⟩
  · have hf : (FC == FD) = false := by simp; exact fun e => hcd (hfi.1 e)
    have ht : (TC == TD) = false := by simp; exact fun e => hcd (hti.1 e)
    rw [show decide (c = d) = false by simp [hcd]]
    have HN : Hid (FD.take FC.length ≠ FC) := by have := form_take HO.out.1 HI.out.1 HO.out.2 HI.out.2.1 hcd; rw [HF.out.1, HF.out.2] at this; exact this
    clear hfi hti hcd
    have hfl : fn = FC.length := S12.out.2.2.1
    have hgl : gn = FD.length := S12.out.2.2.2.1
    by_cases hlen : gn < fn
    · have ql : ((gn : Int) < (fn : Int)) = True := by simp; omega
      have ql2 : (gn < fn) = True := by simp; omega
      clear hfl hgl hlen
      go_wp2_with fail
      go_quiet (fail)
      go_wp2_with fail
      go_ret
      exact ⟨rfl, grown_trans GW.out (grown_drewN _ _ _)⟩
    · have ql : ((gn : Int) < (fn : Int)) = False := by simp; omega
      have ql2 : (gn < fn) = False := by simp; omega
      have HG := S12.out.2.1.grown G16.out
      have hcap : gn ≤ gy := by
        obtain ⟨_, cap', e, h1, _⟩ := HG
        simp at e
        omega
      have i0 : (0 : Int) ≤ (fn : Int) := by omega
      have i1 : (fn : Int) ≤ (gy : Int) := by omega
      have hseg : Seg v16 (.slice gx fn gy) (FD.take fn) := by
        rw [hgl] at HG
        exact seg_take fn (by omega) HG
      have s3 := fun q => seg_str (hseg.grown (grown_drewN v16 q none))
      have s4 := fun q => seg_str ((S12.out.1.grown G16.out).grown (grown_drewN v16 q none))
      have qn : (FD.take fn == FC) = false := by simp; rw [hfl]; exact HN.out
      clear hfl hgl hlen hseg hcap HG
      go_wp2_with fail
      go_quiet (fail)
      go_wp2_with fail
      go_ret
      exact ⟨rfl, grown_trans GW.out (grown_drewN _ _ _)⟩

theorem back5 (u v : Value) (c d : PCmd) (w : World) (hu : Ops w u c.ops) (hv : Ops w v d.ops) (ic : InC c) (id : InC d) (hE : EnvC w) : Calls Tryz.prog 5 #[cmdV u c, cmdV v d] w fun e w' => e = .returned (.bool true) ∧ w.grownBy w' none := by
  cases hb : smallB c
  · exact back5_a u v c d w hu hv ic id hE hb
  · cases hd : smallB d
    · exact back5_b u v c d w hu hv ic id hE hb hd
    · by_cases hx : okC c = true
      · by_cases hy : okC d = true
        · exact back5_d u v c d w hu hv ic id hE hb hd hx hy
        · exact back5_c u v c d w hu hv ic id hE hb hd 0 2 (by rw [chkC, if_pos hx]) (by rw [chkC, if_neg hy]) (.inl ⟨rfl, rfl⟩)
      · by_cases hy : okC d = true
        · exact back5_c u v c d w hu hv ic id hE hb hd 2 0 (by rw [chkC, if_neg hx]) (by rw [chkC, if_pos hy]) (.inr ⟨rfl, .inl rfl⟩)
        · exact back5_c u v c d w hu hv ic id hE hb hd 2 2 (by rw [chkC, if_neg hx]) (by rw [chkC, if_neg hy]) (.inr ⟨rfl, .inr rfl⟩)
end Go.Proofs.YtgjcpjckaopeeaaGreatDoor
