/-
  CallsSame's walk.
-/
import Derived.Test.YtfocmbnhkldnfaaGreatDoorAk
import Derived.Test.YtfocmbnhkldnfaaGreatDoorCq
import Derived.Test.YtfocmbnhkldnfaaGreatDoorKn
namespace Go.Proofs.YtfocmbnhkldnfaaGreatDoor
open Go.RowKit Disk
open Names (Str)

def SmallPost (w : World) (e : Ending) (w' : World) : Prop := ∃ b, e = .returned (.bool b) ∧ w.grownBy w' none
theorem small9' (a : Value) (l : List POp) (w : World) (ha : Ops w a l) : Calls Tryz.prog 9 #[.agg #[a]] w (SmallPost w) := small9 a l w ha
theorem same34_refl (a b : Value) (A : List POp) (w : World) (ha : Ops w a A) (hb : Ops w b A) : Calls Tryz.prog 34 #[.agg #[a], .agg #[b]] w fun e w' => e = .returned (.bool true) ∧ w.grownBy w' none := by simpa using same34 a b A A w ha hb
theorem alike33_refl (a : Value) (A : PRes) (w : World) (ha : Outs w a A.outs) : Calls Tryz.prog 33 #[resV a A, resV a A] w fun e w' => e = .returned (.bool true) ∧ w.grownBy w' none := by simpa using alike33 a a A A w ha ha

set_option maxRecDepth 100000 in
set_option maxHeartbeats 8000000 in
theorem same6 (a b r1 r2 : Value) (A B : List POp) (R1 R2 : PRes) (w : World) (ha : Ops w a A) (hb : Ops w b B) (h1 : Outs w r1 R1.outs) (h2 : Outs w r2 R2.outs) (hf : Fit A) (hE : EnvF w) :
    Calls Tryz.prog 6 #[.agg #[a], .agg #[b], .agg #[.int .i64 R1.abort, .int .i64 R1.place, r1, .int .i64 R2.abort, .int .i64 R2.place, r2]] w fun e w' => e = .returned (.bool true) ∧ w.grownBy w' none := by
  obtain ⟨ao, n, ca, rfl, _, _, HA⟩ := ops_open ha
  obtain ⟨bo, m, cb, rfl, _, _, HB⟩ := ops_open hb
  obtain ⟨po, pn, pc, rfl, _, _, H1⟩ := outs_open h1
  obtain ⟨qo, qn, qc, rfl, _, _, H2⟩ := outs_open h2
  have HF : Hid (Fit A ∧ EnvF w) := ⟨hf, hE⟩
  clear ha hb h1 h2 hf hE
  obtain ⟨d, hd⟩ : ∃ d, decide (A = B) = d := ⟨_, rfl⟩
  obtain ⟨d2, hd2⟩ : ∃ d, decide (R1 = R2) = d := ⟨_, rfl⟩
  have HD : Hid (decide (A = B) = d ∧ decide (R1 = R2) = d2) := ⟨hd, hd2⟩
  clear hd hd2
  go_enter Tryz.func6, Tryz.ntmps6
  go_upto_region 1 with fail
  have S0 : Hid (Blk (((w.alloc (.cells #[.slice ao n ca] 24)).alloc (.cells #[.slice bo m cb] 24)).alloc (.cells #[.int .i64 R1.abort, .int .i64 R1.place, .slice po pn pc, .int .i64 R2.abort, .int .i64 R2.place, .slice qo qn qc] 66)) w.heap.size 24 #[.slice ao n ca] ∧ Blk (((w.alloc (.cells #[.slice ao n ca] 24)).alloc (.cells #[.slice bo m cb] 24)).alloc (.cells #[.int .i64 R1.abort, .int .i64 R1.place, .slice po pn pc, .int .i64 R2.abort, .int .i64 R2.place, .slice qo qn qc] 66)) (w.heap.size + 1) 24 #[.slice bo m cb] ∧ Blk (((w.alloc (.cells #[.slice ao n ca] 24)).alloc (.cells #[.slice bo m cb] 24)).alloc (.cells #[.int .i64 R1.abort, .int .i64 R1.place, .slice po pn pc, .int .i64 R2.abort, .int .i64 R2.place, .slice qo qn qc] 66)) (w.heap.size + 2) 66 #[.int .i64 R1.abort, .int .i64 R1.place, .slice po pn pc, .int .i64 R2.abort, .int .i64 R2.place, .slice qo qn qc] ∧ w.grownBy (((w.alloc (.cells #[.slice ao n ca] 24)).alloc (.cells #[.slice bo m cb] 24)).alloc (.cells #[.int .i64 R1.abort, .int .i64 R1.place, .slice po pn pc, .int .i64 R2.abort, .int .i64 R2.place, .slice qo qn qc] 66)) none) := by
    have g0 := World.grownBy_alloc w (.cells #[.slice ao n ca] 24) none
    have g1 := World.grownBy_alloc (w.alloc (.cells #[.slice ao n ca] 24)) (.cells #[.slice bo m cb] 24) none
    have g2 := World.grownBy_alloc ((w.alloc (.cells #[.slice ao n ca] 24)).alloc (.cells #[.slice bo m cb] 24)) (.cells #[.int .i64 R1.abort, .int .i64 R1.place, .slice po pn pc, .int .i64 R2.abort, .int .i64 R2.place, .slice qo qn qc] 66) none
    have b1 := heap_alloc_new (w.alloc (.cells #[.slice ao n ca] 24)) (.cells #[.slice bo m cb] 24)
    have b2 := heap_alloc_new ((w.alloc (.cells #[.slice ao n ca] 24)).alloc (.cells #[.slice bo m cb] 24)) (.cells #[.int .i64 R1.abort, .int .i64 R1.place, .slice po pn pc, .int .i64 R2.abort, .int .i64 R2.place, .slice qo qn qc] 66)
    refine ⟨Blk.grown (heap_alloc_new w _) (grown_trans g1 g2) (by simp), ?_, ?_, grown_trans g0 (grown_trans g1 g2)⟩
    · have := Blk.grown b1 g2 (by simp)
      simpa using this
    · simpa [Blk] using b2
  generalize (((w.alloc (.cells #[.slice ao n ca] 24)).alloc (.cells #[.slice bo m cb] 24)).alloc (.cells #[.int .i64 R1.abort, .int .i64 R1.place, .slice po pn pc, .int .i64 R2.abort, .int .i64 R2.place, .slice qo qn qc] 66)) = W0 at S0 ⊢
  have c0 := S0.out.1.cell 0
  go_wp2_with (go_at_call 9; refine (small9' _ A _ (HA.out.grown S0.out.2.2.2)).mono ?_)
  intro e w1 h
  obtain ⟨b1, rfl, hg1⟩ := h
  clear c0
  have S1 : Hid (Blk w1 w.heap.size 24 #[.slice ao n ca] ∧ Blk w1 (w.heap.size + 1) 24 #[.slice bo m cb] ∧ Blk w1 (w.heap.size + 2) 66 #[.int .i64 R1.abort, .int .i64 R1.place, .slice po pn pc, .int .i64 R2.abort, .int .i64 R2.place, .slice qo qn qc] ∧ w.grownBy w1 none) := ⟨S0.out.1.grown hg1 (by simp), S0.out.2.1.grown hg1 (by simp), S0.out.2.2.1.grown hg1 (by simp), grown_trans S0.out.2.2.2 hg1⟩
  clear hg1 S0
  cases b1
  case false =>
    go_wp2_with (go_at_call 10; refine (known10 _ (HF.out.2.grown S1.out.2.2.2)).mono ?_)
    rintro e w2 ⟨rfl, hg2⟩
    go_wp2_with fail
    go_ret
    exact ⟨rfl, grown_trans S1.out.2.2.2 hg2⟩
  have c0 := S1.out.2.1.cell 0
  go_wp2_with (go_at_call 9; refine (small9' _ B _ (HB.out.grown S1.out.2.2.2)).mono ?_)
  intro e w2 h
  obtain ⟨b2, rfl, hg2⟩ := h
  clear c0
  have S2 : Hid (Blk w2 w.heap.size 24 #[.slice ao n ca] ∧ Blk w2 (w.heap.size + 1) 24 #[.slice bo m cb] ∧ Blk w2 (w.heap.size + 2) 66 #[.int .i64 R1.abort, .int .i64 R1.place, .slice po pn pc, .int .i64 R2.abort, .int .i64 R2.place, .slice qo qn qc] ∧ w.grownBy w2 none) := ⟨S1.out.1.grown hg2 (by simp), S1.out.2.1.grown hg2 (by simp), S1.out.2.2.1.grown hg2 (by simp), grown_trans S1.out.2.2.2 hg2⟩
  clear hg2 S1
  cases b2
  case false =>
    go_wp2_with (go_at_call 10; refine (known10 _ (HF.out.2.grown S2.out.2.2.2)).mono ?_)
    rintro e w3 ⟨rfl, hg3⟩
    go_wp2_with fail
    go_ret
    exact ⟨rfl, grown_trans S2.out.2.2.2 hg3⟩
  have HC : Hid (∀ x : World, w2.grownBy x none → x.cell? ⟨w.heap.size, 0, none⟩ = some (.slice ao n ca) ∧ x.cell? ⟨w.heap.size + 1, 0, none⟩ = some (.slice bo m cb) ∧ x.cell? ⟨w.heap.size + 2, 0, none⟩ = some (.int .i64 R1.abort) ∧ x.cell? ⟨w.heap.size + 2, 1, none⟩ = some (.int .i64 R1.place) ∧ x.cell? ⟨w.heap.size + 2, 2, none⟩ = some (.slice po pn pc) ∧ x.cell? ⟨w.heap.size + 2, 3, none⟩ = some (.int .i64 R2.abort) ∧ x.cell? ⟨w.heap.size + 2, 4, none⟩ = some (.int .i64 R2.place) ∧ x.cell? ⟨w.heap.size + 2, 5, none⟩ = some (.slice qo qn qc)) := fun x hx => ⟨(S2.out.1.grown hx (by simp)).cell 0, (S2.out.2.1.grown hx (by simp)).cell 0, (S2.out.2.2.1.grown hx (by simp)).cell 0, (S2.out.2.2.1.grown hx (by simp)).cell 1, (S2.out.2.2.1.grown hx (by simp)).cell 2, (S2.out.2.2.1.grown hx (by simp)).cell 3, (S2.out.2.2.1.grown hx (by simp)).cell 4, (S2.out.2.2.1.grown hx (by simp)).cell 5⟩
  go_wp2_with fail
  refine wp_region_noPanic ?_
  refine wp_region_hold 1000 (fun x => w2.grownBy x none) (by kernel_rfl) ?_
  have G0 : Hid (w2.grownBy w2.drew none) := grown_drew _ _
  generalize w2.drew = w3 at G0 ⊢
  refine wpHold_take (i := 0) (v := _) (G0.out) rfl rfl (by kernel_rfl) (by kernel_rfl) (by kernel_rfl) (by kernel_rfl) (by kernel_rfl) (fun _ _ _ h => h) (by rfl) (fun wk hk => by obtain ⟨m0, m1, m2, m3, m4, m5, m6, m7⟩ := HC.out wk hk; go_simp; try rfl) ?_
  try simp only [Act.put, List.setIfInBounds_toArray, List.set_cons_zero, List.set_cons_succ]
  refine wpHold_take (i := 1) (v := _) (G0.out) rfl rfl (by kernel_rfl) (by kernel_rfl) (by kernel_rfl) (by kernel_rfl) (by kernel_rfl) (fun _ _ _ h => h) (by rfl) (fun wk hk => by obtain ⟨m0, m1, m2, m3, m4, m5, m6, m7⟩ := HC.out wk hk; go_simp; try rfl) ?_
  try simp only [Act.put, List.setIfInBounds_toArray, List.set_cons_zero, List.set_cons_succ]
  refine wpHold_take (i := 3) (v := _) (G0.out) rfl rfl (by kernel_rfl) (by kernel_rfl) (by kernel_rfl) (by kernel_rfl) (by kernel_rfl) (fun _ _ _ h => h) (by rfl) (fun wk hk => by obtain ⟨m0, m1, m2, m3, m4, m5, m6, m7⟩ := HC.out wk hk; go_simp; try rfl) ?_
  try simp only [Act.put, List.setIfInBounds_toArray, List.set_cons_zero, List.set_cons_succ]
  refine wpHold_take (i := 4) (v := _) (G0.out) rfl rfl (by kernel_rfl) (by kernel_rfl) (by kernel_rfl) (by kernel_rfl) (by kernel_rfl) (fun _ _ _ h => h) (by rfl) (fun wk hk => by obtain ⟨m0, m1, m2, m3, m4, m5, m6, m7⟩ := HC.out wk hk; go_simp; try rfl) ?_
  try simp only [Act.put, List.setIfInBounds_toArray, List.set_cons_zero, List.set_cons_succ]
  refine wpHold_one (i := 2) rfl (by kernel_rfl) (by rfl) (fun K hK => ?_)
  go_wp2_with (go_at_call 34; refine (same34 _ _ A B _ (HA.out.grown (grown_trans S2.out.2.2.2 G0.out)) (HB.out.grown (grown_trans S2.out.2.2.2 G0.out))).mono ?_)
  rintro e w4 ⟨rfl, hg4⟩
  rw [HD.out.1]
  have G1 : Hid (w2.grownBy w4 none) := grown_trans G0.out hg4
  clear hg4
  go_wp2_with fail
  refine hK.out _ _ (fun _ => G1.out) ?_
  clear hK K
  try simp only [Act.put, List.setIfInBounds_toArray, List.set_cons_zero, List.set_cons_succ]
  refine wpHold_one (i := 5) rfl (by kernel_rfl) (by rfl) (fun K hK => ?_)
  go_wp2_with (go_at_call 19; refine (same19 _ _ A B _ (HA.out.grown (grown_trans S2.out.2.2.2 G1.out)) (HB.out.grown (grown_trans S2.out.2.2.2 G1.out))).mono ?_)
  rintro e w5 ⟨rfl, hg5⟩
  rw [HD.out.1]
  have G2 : Hid (w2.grownBy w5 none) := grown_trans G1.out hg5
  clear hg5
  go_wp2_with fail
  refine hK.out _ _ (fun _ => G2.out) ?_
  clear hK K
  try simp only [Act.put, List.setIfInBounds_toArray, List.set_cons_zero, List.set_cons_succ]
  refine wpHold_take (i := 6) (v := _) (G2.out) rfl rfl (by kernel_rfl) (by kernel_rfl) (by kernel_rfl) (by kernel_rfl) (by kernel_rfl) (fun _ _ _ h => h) (by rfl) (fun wk hk => by obtain ⟨m0, m1, m2, m3, m4, m5, m6, m7⟩ := HC.out wk hk; go_simp; try rfl) ?_
  try simp only [Act.put, List.setIfInBounds_toArray, List.set_cons_zero, List.set_cons_succ]
  refine wpHold_take (i := 7) (v := _) (G2.out) rfl rfl (by kernel_rfl) (by kernel_rfl) (by kernel_rfl) (by kernel_rfl) (by kernel_rfl) (fun _ _ _ h => h) (by rfl) (fun wk hk => by obtain ⟨m0, m1, m2, m3, m4, m5, m6, m7⟩ := HC.out wk hk; go_simp; try rfl) ?_
  try simp only [Act.put, List.setIfInBounds_toArray, List.set_cons_zero, List.set_cons_succ]
  refine wpHold_take (i := 8) (v := _) (G2.out) rfl rfl (by kernel_rfl) (by kernel_rfl) (by kernel_rfl) (by kernel_rfl) (by kernel_rfl) (fun _ _ _ h => h) (by rfl) (fun wk hk => by obtain ⟨m0, m1, m2, m3, m4, m5, m6, m7⟩ := HC.out wk hk; go_simp; try rfl) ?_
  try simp only [Act.put, List.setIfInBounds_toArray, List.set_cons_zero, List.set_cons_succ]
  refine wpHold_take (i := 9) (v := _) (G2.out) rfl rfl (by kernel_rfl) (by kernel_rfl) (by kernel_rfl) (by kernel_rfl) (by kernel_rfl) (fun _ _ _ h => h) (by rfl) (fun wk hk => by obtain ⟨m0, m1, m2, m3, m4, m5, m6, m7⟩ := HC.out wk hk; go_simp; try rfl) ?_
  try simp only [Act.put, List.setIfInBounds_toArray, List.set_cons_zero, List.set_cons_succ]
  refine wpHold_one (i := 10) rfl (by kernel_rfl) (by rfl) (fun K hK => ?_)
  go_wp2_with (go_at_call 11; refine (copy11 _ A _ (HA.out.grown (grown_trans S2.out.2.2.2 G2.out)) HF.out.1).mono ?_)
  rintro e w6 ⟨u, rfl, ho6, hg6⟩
  obtain ⟨xo, xn, xc, rfl, _, _, HX⟩ := ops_open ho6.ops
  have G3 : Hid (w2.grownBy w6 none) := grown_trans G2.out hg6
  clear hg6 ho6
  go_wp2_with fail
  refine hK.out _ _ (fun _ => G3.out) ?_
  clear hK K
  try simp only [Act.put, List.setIfInBounds_toArray, List.set_cons_zero, List.set_cons_succ]
  refine wpHold_one (i := 11) rfl (by kernel_rfl) (by rfl) (fun K hK => ?_)
  go_wp2_with (go_at_call 34; refine (same34_refl _ _ A _ (HA.out.grown (grown_trans S2.out.2.2.2 G3.out)) HX.out).mono ?_)
  rintro e w7 ⟨rfl, hg7⟩
  have G4 : Hid (w2.grownBy w7 none) := grown_trans G3.out hg7
  clear hg7
  go_wp2_with fail
  refine hK.out _ _ (fun _ => G4.out) ?_
  clear hK K
  try simp only [Act.put, List.setIfInBounds_toArray, List.set_cons_zero, List.set_cons_succ]
  refine wpHold_take (i := 12) (v := _) (G4.out) rfl rfl (by kernel_rfl) (by kernel_rfl) (by kernel_rfl) (by kernel_rfl) (by kernel_rfl) (fun _ _ _ h => h) (by rfl) (fun wk hk => by obtain ⟨m0, m1, m2, m3, m4, m5, m6, m7⟩ := HC.out wk hk; go_simp; try rfl) ?_
  try simp only [Act.put, List.setIfInBounds_toArray, List.set_cons_zero, List.set_cons_succ]
  refine wpHold_take (i := 13) (v := _) (G4.out) rfl rfl (by kernel_rfl) (by kernel_rfl) (by kernel_rfl) (by kernel_rfl) (by kernel_rfl) (fun _ _ _ h => h) (by rfl) (fun wk hk => by obtain ⟨m0, m1, m2, m3, m4, m5, m6, m7⟩ := HC.out wk hk; go_simp; try rfl) ?_
  try simp only [Act.put, List.setIfInBounds_toArray, List.set_cons_zero, List.set_cons_succ]
  refine wpHold_take (i := 14) (v := _) (G4.out) rfl rfl (by kernel_rfl) (by kernel_rfl) (by kernel_rfl) (by kernel_rfl) (by kernel_rfl) (fun _ _ _ h => h) (by rfl) (fun wk hk => by obtain ⟨m0, m1, m2, m3, m4, m5, m6, m7⟩ := HC.out wk hk; go_simp; try rfl) ?_
  try simp only [Act.put, List.setIfInBounds_toArray, List.set_cons_zero, List.set_cons_succ]
  refine wpHold_take (i := 15) (v := _) (G4.out) rfl rfl (by kernel_rfl) (by kernel_rfl) (by kernel_rfl) (by kernel_rfl) (by kernel_rfl) (fun _ _ _ h => h) (by rfl) (fun wk hk => by obtain ⟨m0, m1, m2, m3, m4, m5, m6, m7⟩ := HC.out wk hk; go_simp; try rfl) ?_
  try simp only [Act.put, List.setIfInBounds_toArray, List.set_cons_zero, List.set_cons_succ]
  refine wpHold_take (i := 16) (v := _) (G4.out) rfl rfl (by kernel_rfl) (by kernel_rfl) (by kernel_rfl) (by kernel_rfl) (by kernel_rfl) (fun _ _ _ h => h) (by rfl) (fun wk hk => by obtain ⟨m0, m1, m2, m3, m4, m5, m6, m7⟩ := HC.out wk hk; go_simp; try rfl) ?_
  try simp only [Act.put, List.setIfInBounds_toArray, List.set_cons_zero, List.set_cons_succ]
  refine wpHold_take (i := 17) (v := _) (G4.out) rfl rfl (by kernel_rfl) (by kernel_rfl) (by kernel_rfl) (by kernel_rfl) (by kernel_rfl) (fun _ _ _ h => h) (by rfl) (fun wk hk => by obtain ⟨m0, m1, m2, m3, m4, m5, m6, m7⟩ := HC.out wk hk; go_simp; try rfl) ?_
  try simp only [Act.put, List.setIfInBounds_toArray, List.set_cons_zero, List.set_cons_succ]
  refine wpHold_take (i := 19) (v := _) (G4.out) rfl rfl (by kernel_rfl) (by kernel_rfl) (by kernel_rfl) (by kernel_rfl) (by kernel_rfl) (fun _ _ _ h => h) (by rfl) (fun wk hk => by obtain ⟨m0, m1, m2, m3, m4, m5, m6, m7⟩ := HC.out wk hk; go_simp; try rfl) ?_
  try simp only [Act.put, List.setIfInBounds_toArray, List.set_cons_zero, List.set_cons_succ]
  refine wpHold_take (i := 20) (v := _) (G4.out) rfl rfl (by kernel_rfl) (by kernel_rfl) (by kernel_rfl) (by kernel_rfl) (by kernel_rfl) (fun _ _ _ h => h) (by rfl) (fun wk hk => by obtain ⟨m0, m1, m2, m3, m4, m5, m6, m7⟩ := HC.out wk hk; go_simp; try rfl) ?_
  try simp only [Act.put, List.setIfInBounds_toArray, List.set_cons_zero, List.set_cons_succ]
  refine wpHold_take (i := 21) (v := _) (G4.out) rfl rfl (by kernel_rfl) (by kernel_rfl) (by kernel_rfl) (by kernel_rfl) (by kernel_rfl) (fun _ _ _ h => h) (by rfl) (fun wk hk => by obtain ⟨m0, m1, m2, m3, m4, m5, m6, m7⟩ := HC.out wk hk; go_simp; try rfl) ?_
  try simp only [Act.put, List.setIfInBounds_toArray, List.set_cons_zero, List.set_cons_succ]
  refine wpHold_take (i := 22) (v := _) (G4.out) rfl rfl (by kernel_rfl) (by kernel_rfl) (by kernel_rfl) (by kernel_rfl) (by kernel_rfl) (fun _ _ _ h => h) (by rfl) (fun wk hk => by obtain ⟨m0, m1, m2, m3, m4, m5, m6, m7⟩ := HC.out wk hk; go_simp; try rfl) ?_
  try simp only [Act.put, List.setIfInBounds_toArray, List.set_cons_zero, List.set_cons_succ]
  refine wpHold_one (i := 18) rfl (by kernel_rfl) (by rfl) (fun K hK => ?_)
  go_wp2_with (go_at_call 33; refine (alike33 _ _ R1 R2 _ (H1.out.grown (grown_trans S2.out.2.2.2 G4.out)) (H2.out.grown (grown_trans S2.out.2.2.2 G4.out))).mono ?_)
  rintro e w8 ⟨rfl, hg8⟩
  rw [HD.out.2]
  have G5 : Hid (w2.grownBy w8 none) := grown_trans G4.out hg8
  clear hg8
  go_wp2_with fail
  refine hK.out _ _ (fun _ => G5.out) ?_
  clear hK K
  try simp only [Act.put, List.setIfInBounds_toArray, List.set_cons_zero, List.set_cons_succ]
  refine wpHold_one (i := 23) rfl (by kernel_rfl) (by rfl) (fun K hK => ?_)
  go_wp2_with (go_at_call 30; refine (alike30 _ _ R1 R2 _ (H1.out.grown (grown_trans S2.out.2.2.2 G5.out)) (H2.out.grown (grown_trans S2.out.2.2.2 G5.out))).mono ?_)
  rintro e w9 ⟨rfl, hg9⟩
  rw [HD.out.2]
  have G6 : Hid (w2.grownBy w9 none) := grown_trans G5.out hg9
  clear hg9
  go_wp2_with fail
  refine hK.out _ _ (fun _ => G6.out) ?_
  clear hK K
  try simp only [Act.put, List.setIfInBounds_toArray, List.set_cons_zero, List.set_cons_succ]
  refine wpHold_take (i := 24) (v := _) (G6.out) rfl rfl (by kernel_rfl) (by kernel_rfl) (by kernel_rfl) (by kernel_rfl) (by kernel_rfl) (fun _ _ _ h => h) (by rfl) (fun wk hk => by obtain ⟨m0, m1, m2, m3, m4, m5, m6, m7⟩ := HC.out wk hk; go_simp; try rfl) ?_
  try simp only [Act.put, List.setIfInBounds_toArray, List.set_cons_zero, List.set_cons_succ]
  refine wpHold_take (i := 25) (v := _) (G6.out) rfl rfl (by kernel_rfl) (by kernel_rfl) (by kernel_rfl) (by kernel_rfl) (by kernel_rfl) (fun _ _ _ h => h) (by rfl) (fun wk hk => by obtain ⟨m0, m1, m2, m3, m4, m5, m6, m7⟩ := HC.out wk hk; go_simp; try rfl) ?_
  try simp only [Act.put, List.setIfInBounds_toArray, List.set_cons_zero, List.set_cons_succ]
  refine wpHold_take (i := 26) (v := _) (G6.out) rfl rfl (by kernel_rfl) (by kernel_rfl) (by kernel_rfl) (by kernel_rfl) (by kernel_rfl) (fun _ _ _ h => h) (by rfl) (fun wk hk => by obtain ⟨m0, m1, m2, m3, m4, m5, m6, m7⟩ := HC.out wk hk; go_simp; try rfl) ?_
  try simp only [Act.put, List.setIfInBounds_toArray, List.set_cons_zero, List.set_cons_succ]
  refine wpHold_take (i := 27) (v := _) (G6.out) rfl rfl (by kernel_rfl) (by kernel_rfl) (by kernel_rfl) (by kernel_rfl) (by kernel_rfl) (fun _ _ _ h => h) (by rfl) (fun wk hk => by obtain ⟨m0, m1, m2, m3, m4, m5, m6, m7⟩ := HC.out wk hk; go_simp; try rfl) ?_
  try simp only [Act.put, List.setIfInBounds_toArray, List.set_cons_zero, List.set_cons_succ]
  refine wpHold_take (i := 28) (v := _) (G6.out) rfl rfl (by kernel_rfl) (by kernel_rfl) (by kernel_rfl) (by kernel_rfl) (by kernel_rfl) (fun _ _ _ h => h) (by rfl) (fun wk hk => by obtain ⟨m0, m1, m2, m3, m4, m5, m6, m7⟩ := HC.out wk hk; go_simp; try rfl) ?_
  try simp only [Act.put, List.setIfInBounds_toArray, List.set_cons_zero, List.set_cons_succ]
  refine wpHold_take (i := 29) (v := _) (G6.out) rfl rfl (by kernel_rfl) (by kernel_rfl) (by kernel_rfl) (by kernel_rfl) (by kernel_rfl) (fun _ _ _ h => h) (by rfl) (fun wk hk => by obtain ⟨m0, m1, m2, m3, m4, m5, m6, m7⟩ := HC.out wk hk; go_simp; try rfl) ?_
  try simp only [Act.put, List.setIfInBounds_toArray, List.set_cons_zero, List.set_cons_succ]
  refine wpHold_take (i := 30) (v := _) (G6.out) rfl rfl (by kernel_rfl) (by kernel_rfl) (by kernel_rfl) (by kernel_rfl) (by kernel_rfl) (fun _ _ _ h => h) (by rfl) (fun wk hk => by obtain ⟨m0, m1, m2, m3, m4, m5, m6, m7⟩ := HC.out wk hk; go_simp; try rfl) ?_
  try simp only [Act.put, List.setIfInBounds_toArray, List.set_cons_zero, List.set_cons_succ]
  refine wpHold_one (i := 31) rfl (by kernel_rfl) (by rfl) (fun K hK => ?_)
  go_wp2_with (go_at_call 33; refine (alike33_refl _ R1 _ (H1.out.grown (grown_trans S2.out.2.2.2 G6.out))).mono ?_)
  rintro e w10 ⟨rfl, hg10⟩
  have G7 : Hid (w2.grownBy w10 none) := grown_trans G6.out hg10
  clear hg10
  go_wp2_with fail
  refine hK.out _ _ (fun _ => G7.out) ?_
  clear hK K
  try simp only [Act.put, List.setIfInBounds_toArray, List.set_cons_zero, List.set_cons_succ]
  refine wpHold_take (i := 32) (v := _) (G7.out) rfl rfl (by kernel_rfl) (by kernel_rfl) (by kernel_rfl) (by kernel_rfl) (by kernel_rfl) (fun _ _ _ h => h) (by rfl) (fun wk hk => by obtain ⟨m0, m1, m2, m3, m4, m5, m6, m7⟩ := HC.out wk hk; go_simp; try rfl) ?_
  try simp only [Act.put, List.setIfInBounds_toArray, List.set_cons_zero, List.set_cons_succ]
  refine wpHold_take (i := 33) (v := _) (G7.out) rfl rfl (by kernel_rfl) (by kernel_rfl) (by kernel_rfl) (by kernel_rfl) (by kernel_rfl) (fun _ _ _ h => h) (by rfl) (fun wk hk => by obtain ⟨m0, m1, m2, m3, m4, m5, m6, m7⟩ := HC.out wk hk; go_simp; try rfl) ?_
  try simp only [Act.put, List.setIfInBounds_toArray, List.set_cons_zero, List.set_cons_succ]
  refine wpHold_one (i := 34) rfl (by kernel_rfl) (by rfl) (fun K hK => ?_)
  go_wp2_with (go_at_call 10; refine (known10 _ (HF.out.2.grown (grown_trans S2.out.2.2.2 G7.out))).mono ?_)
  rintro e w11 ⟨rfl, hg11⟩
  have G8 : Hid (w2.grownBy w11 none) := grown_trans G7.out hg11
  clear hg11
  go_wp2_with fail
  refine hK.out _ _ (fun _ => G8.out) ?_
  clear hK K
  try simp only [Act.put, List.setIfInBounds_toArray, List.set_cons_zero, List.set_cons_succ]
  refine wpHold_take (i := 35) (v := _) (G8.out) rfl rfl (by kernel_rfl) (by kernel_rfl) (by kernel_rfl) (by kernel_rfl) (by kernel_rfl) (fun _ _ _ h => h) (by rfl) (fun wk hk => by obtain ⟨m0, m1, m2, m3, m4, m5, m6, m7⟩ := HC.out wk hk; go_simp; try rfl) ?_
  try simp only [Act.put, List.setIfInBounds_toArray, List.set_cons_zero, List.set_cons_succ]
  refine wpHold_take (i := 36) (v := _) (G8.out) rfl rfl (by kernel_rfl) (by kernel_rfl) (by kernel_rfl) (by kernel_rfl) (by kernel_rfl) (fun _ _ _ h => h) (by rfl) (fun wk hk => by obtain ⟨m0, m1, m2, m3, m4, m5, m6, m7⟩ := HC.out wk hk; go_simp; try rfl) ?_
  try simp only [Act.put, List.setIfInBounds_toArray, List.set_cons_zero, List.set_cons_succ]
  refine wpHold_done (by kernel_rfl) ?_
  refine (‹∀ (a : Act) (w : World), Code.wp Tryz.prog _ _ a w → _› _ _ ?_)
  go_wp2_with fail
  go_ret
  exact ⟨rfl, grown_trans S2.out.2.2.2 G8.out⟩
end Go.Proofs.YtfocmbnhkldnfaaGreatDoor
