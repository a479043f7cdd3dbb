/-
  'nothing': of a database that is not there.
-/
import Derived.Test.YtakmlhhapegpoaaGreatMy
namespace Go.Proofs.YtakmlhhapegpoaaGreat
open Go.RowKit Disk Table
open Names (Str cmpL keyB valueB tabB)
open _root_.Go.Proofs.YtakmlhhapegpoaaGreat.Calls (POp POut PRes opV OpSeg mayOp Ops OpAt ops_at ops_open chk rds mayCall)

theorem eq_func57 (lb : Array Value) (w : World) : (binOp .eql 57 (.func (.func 53) #[] lb) .nilFunc).run Tryz.prog w = .ok (.bool false) w := by kernel_rfl
set_option maxRecDepth 100000 in
set_option maxHeartbeats 8000000 in
theorem nothing24 (ev : Value) (w : World) (hv : NoEng w ev) : Calls Tryz.prog 24 #[ev] w fun e w' => e = .returned (.bool true) ∧ w.grownBy w' none := by
  have HE : Hid (NoEng w ev) := hv
  obtain ⟨a, ha⟩ := noEng_ptr hv
  have HP : Hid (∃ a, ev = .pointer a) := ⟨a, ha⟩
  have hfn := eq_func57
  clear hv ha
  refine calls_marks Tryz.func24 rfl ?_
  simp only [Tryz.ntmps24, List.size_toArray, List.length_cons, List.length_nil, Nat.reduceAdd, Nat.reduceSub, Array.replicate_succ, Array.replicate_zero, List.push_toArray, List.append_toArray, List.nil_append, List.cons_append]
  go_wp2_with fail
  refine (do17_no ev (.slice none 0 0) [] w HE.out (ops_nil w)).mono ?_
  rintro e w1 ⟨rfl, g1⟩
  have G1 : Hid (w.grownBy w1 none) := g1
  clear g1
  unfold resV3
  go_wp2_with fail
  obtain ⟨w2, hw2, H2⟩ := al w1 #[.int .i64 0, .int .i64 0, .slice none 0 0] 49
  rw [hw2]
  clear hw2
  have G2 : Hid (w.grownBy w2 none) := grown_trans G1.out H2.out.2.1
  clear H2
  refine (look26_no ev (.slice none 0 0) [] w2 (HE.out.grown G2.out) (ops_nil w2)).mono ?_
  rintro e w3 ⟨rfl, g3⟩
  have G3 : Hid (w.grownBy w3 none) := grown_trans G2.out g3
  clear g3
  unfold resV3
  go_wp2_with fail
  obtain ⟨w4, hw4, H4⟩ := al w3 #[.int .i64 0, .int .i64 0, .slice none 0 0] 49
  rw [hw4]
  clear hw4
  have G4 : Hid (w.grownBy w4 none) := grown_trans G3.out H4.out.2.1
  clear H4
  refine (try34_no ev (.slice none 0 0) [] w4 (HE.out.grown G4.out) (ops_nil w4)).mono ?_
  rintro e w5 ⟨rfl, g5⟩
  have G5 : Hid (w.grownBy w5 none) := grown_trans G4.out g5
  clear g5
  unfold resV3
  go_wp2_with fail
  obtain ⟨w6, hw6, H6⟩ := al w5 #[.int .i64 0, .int .i64 0, .slice none 0 0] 49
  rw [hw6]
  clear hw6
  have G6 : Hid (w.grownBy w6 none) := grown_trans G5.out H6.out.2.1
  clear H6
  refine (all23 ev HP.out w6).mono ?_
  rintro e w7 ⟨rfl, hb7, g7⟩
  have H7 : Hid (Blk w7 w6.heap.size 28 #[ev] ∧ w.grownBy w7 none) := ⟨hb7, grown_trans G6.out g7⟩
  clear hb7 g7
  go_wp2_with fail
  obtain ⟨w8, hw8, H8⟩ := al w7 #[.int .i64 0] 3
  rw [hw8]
  clear hw8
  refine wp_range (gf := 53) (lb := #[.pointer (some ⟨w6.heap.size, 0, none⟩)]) rfl (enters_of Tryz.func53 (by kernel_rfl) rfl) (gives53_no w6.heap.size ev (fun _ => False) w8 (H7.out.1.grown H8.out.2.1 (by simp)) (HE.out.grown (grown_trans H7.out.2 H8.out.2.1))) ?hps (fun _ A => Tn (w8.heap.size + 1) w8 A) (fun _ => False) ?hIg ?hXg (Tn.refl _ _) ?hround ?hdone ?hstop
  case hps => rintro k W0 W1 xs h; exact h.elim
  case hIg => exact fun k A B h ht => h.trans ht
  case hXg => exact fun A B h _ => h
  case hround => intro l k W0 W1 xs hk; omega
  case hstop => intro A hA; exact hA.elim
  case hdone =>
    intro A hA hd
    have HA : Hid (Blk A w7.heap.size 3 #[.int .i64 0] ∧ Tn (w8.heap.size + 1) w8 A ∧ A.heap[w8.heap.size]? = some (.deferred (some []))) := ⟨hA.blk H8.out.1, hA, hd⟩
    have HGA : Hid (w.grownBy A none) := grown_trans (grown_trans H7.out.2 H8.out.2.1) (tn_grown hA (Nat.le_succ _))
    clear hA hd
    refine (‹∀ (a : Act) (w : World), Code.wp Tryz.prog _ _ a w → _› _ _ ?_)
    have hqq := run_eqq (0, 0) (0, 0)
    rw [decide_eq_true rfl] at hqq
    go_wp2_with fail
    refine wp_region_noPanic ?_
    refine wp_region_hold 1000 (fun y => A.grownBy y none) (by kernel_rfl) ?_
    have HC : Hid (∀ y, A.grownBy y none → y.cell? ⟨w7.heap.size, 0, none⟩ = some (.int .i64 0)) := fun y hy => by
      have h := HA.out.1.grown hy (by simp)
      exact h.cell 0
    have G0 : Hid (A.grownBy A.drew none) := grown_drew _ _
    generalize A.drew = wd at G0 ⊢
    refine wpHold_take (i := 0) (v := _) (G0.out) rfl rfl (by kernel_rfl) (by kernel_rfl) (by kernel_rfl) (by kernel_rfl) (by kernel_rfl) (fun _ _ _ h => h) (by rfl) (fun wk hk => by have m0 := HC.out wk hk; go_simp; try rfl) ?_
    try simp only [Act.put, List.setIfInBounds_toArray, List.set_cons_zero, List.set_cons_succ]
    refine wpHold_one (i := 1) rfl (by kernel_rfl) (by rfl) (fun K hK => ?_)
    go_wp2_with (go_at_call 16; refine (num16 1 wd).mono ?_; rintro e w3 ⟨rfl, hw⟩; rw [hw]; clear hw)
    refine hK.out _ _ (fun _ => G0.out) ?_
    clear hK K
    try simp only [Act.put, List.setIfInBounds_toArray, List.set_cons_zero, List.set_cons_succ]
    refine wpHold_take (i := 2) (v := _) (G0.out) rfl rfl (by kernel_rfl) (by kernel_rfl) (by kernel_rfl) (by kernel_rfl) (by kernel_rfl) (fun _ _ _ h => h) (by rfl) (fun wk hk => by have m0 := HC.out wk hk; go_simp; try rfl) ?_
    try simp only [Act.put, List.setIfInBounds_toArray, List.set_cons_zero, List.set_cons_succ]
    refine wpHold_take (i := 3) (v := _) (G0.out) rfl rfl (by kernel_rfl) (by kernel_rfl) (by kernel_rfl) (by kernel_rfl) (by kernel_rfl) (fun _ _ _ h => h) (by rfl) (fun wk hk => by have m0 := HC.out wk hk; go_simp; try rfl) ?_
    try simp only [Act.put, List.setIfInBounds_toArray, List.set_cons_zero, List.set_cons_succ]
    refine wpHold_take (i := 4) (v := _) (G0.out) rfl rfl (by kernel_rfl) (by kernel_rfl) (by kernel_rfl) (by kernel_rfl) (by kernel_rfl) (fun _ _ _ h => h) (by rfl) (fun wk hk => by have m0 := HC.out wk hk; go_simp; try rfl) ?_
    try simp only [Act.put, List.setIfInBounds_toArray, List.set_cons_zero, List.set_cons_succ]
    refine wpHold_one (i := 5) rfl (by kernel_rfl) (by rfl) (fun K hK => ?_)
    go_wp2_with (go_at_call 16; refine (num16 1 wd).mono ?_; rintro e w3 ⟨rfl, hw⟩; rw [hw]; clear hw)
    refine hK.out _ _ (fun _ => G0.out) ?_
    clear hK K
    try simp only [Act.put, List.setIfInBounds_toArray, List.set_cons_zero, List.set_cons_succ]
    refine wpHold_take (i := 6) (v := _) (G0.out) rfl rfl (by kernel_rfl) (by kernel_rfl) (by kernel_rfl) (by kernel_rfl) (by kernel_rfl) (fun _ _ _ h => h) (by rfl) (fun wk hk => by have m0 := HC.out wk hk; go_simp; try rfl) ?_
    try simp only [Act.put, List.setIfInBounds_toArray, List.set_cons_zero, List.set_cons_succ]
    refine wpHold_take (i := 7) (v := _) (G0.out) rfl rfl (by kernel_rfl) (by kernel_rfl) (by kernel_rfl) (by kernel_rfl) (by kernel_rfl) (fun _ _ _ h => h) (by rfl) (fun wk hk => by have m0 := HC.out wk hk; go_simp; try rfl) ?_
    try simp only [Act.put, List.setIfInBounds_toArray, List.set_cons_zero, List.set_cons_succ]
    refine wpHold_take (i := 8) (v := _) (G0.out) rfl rfl (by kernel_rfl) (by kernel_rfl) (by kernel_rfl) (by kernel_rfl) (by kernel_rfl) (fun _ _ _ h => h) (by rfl) (fun wk hk => by have m0 := HC.out wk hk; go_simp; try rfl) ?_
    try simp only [Act.put, List.setIfInBounds_toArray, List.set_cons_zero, List.set_cons_succ]
    refine wpHold_take (i := 9) (v := _) (G0.out) rfl rfl (by kernel_rfl) (by kernel_rfl) (by kernel_rfl) (by kernel_rfl) (by kernel_rfl) (fun _ _ _ h => h) (by rfl) (fun wk hk => by have m0 := HC.out wk hk; go_simp; try rfl) ?_
    try simp only [Act.put, List.setIfInBounds_toArray, List.set_cons_zero, List.set_cons_succ]
    refine wpHold_take (i := 10) (v := _) (G0.out) rfl rfl (by kernel_rfl) (by kernel_rfl) (by kernel_rfl) (by kernel_rfl) (by kernel_rfl) (fun _ _ _ h => h) (by rfl) (fun wk hk => by have m0 := HC.out wk hk; go_simp; try rfl) ?_
    try simp only [Act.put, List.setIfInBounds_toArray, List.set_cons_zero, List.set_cons_succ]
    refine wpHold_take (i := 11) (v := _) (G0.out) rfl rfl (by kernel_rfl) (by kernel_rfl) (by kernel_rfl) (by kernel_rfl) (by kernel_rfl) (fun _ _ _ h => h) (by rfl) (fun wk hk => by have m0 := HC.out wk hk; go_simp; try rfl) ?_
    try simp only [Act.put, List.setIfInBounds_toArray, List.set_cons_zero, List.set_cons_succ]
    refine wpHold_take (i := 12) (v := _) (G0.out) rfl rfl (by kernel_rfl) (by kernel_rfl) (by kernel_rfl) (by kernel_rfl) (by kernel_rfl) (fun _ _ _ h => h) (by rfl) (fun wk hk => by have m0 := HC.out wk hk; go_simp; try rfl) ?_
    try simp only [Act.put, List.setIfInBounds_toArray, List.set_cons_zero, List.set_cons_succ]
    refine wpHold_take (i := 13) (v := _) (G0.out) rfl rfl (by kernel_rfl) (by kernel_rfl) (by kernel_rfl) (by kernel_rfl) (by kernel_rfl) (fun _ _ _ h => h) (by rfl) (fun wk hk => by have m0 := HC.out wk hk; go_simp; try rfl) ?_
    try simp only [Act.put, List.setIfInBounds_toArray, List.set_cons_zero, List.set_cons_succ]
    refine wpHold_one (i := 14) rfl (by kernel_rfl) (by rfl) (fun K hK => ?_)
    go_wp2_with (go_at_call 16; refine (num16 1 wd).mono ?_; rintro e w3 ⟨rfl, hw⟩; rw [hw]; clear hw)
    refine hK.out _ _ (fun _ => G0.out) ?_
    clear hK K
    try simp only [Act.put, List.setIfInBounds_toArray, List.set_cons_zero, List.set_cons_succ]
    refine wpHold_take (i := 15) (v := _) (G0.out) rfl rfl (by kernel_rfl) (by kernel_rfl) (by kernel_rfl) (by kernel_rfl) (by kernel_rfl) (fun _ _ _ h => h) (by rfl) (fun wk hk => by have m0 := HC.out wk hk; go_simp; try rfl) ?_
    try simp only [Act.put, List.setIfInBounds_toArray, List.set_cons_zero, List.set_cons_succ]
    refine wpHold_take (i := 16) (v := _) (G0.out) rfl rfl (by kernel_rfl) (by kernel_rfl) (by kernel_rfl) (by kernel_rfl) (by kernel_rfl) (fun _ _ _ h => h) (by rfl) (fun wk hk => by have m0 := HC.out wk hk; go_simp; try rfl) ?_
    try simp only [Act.put, List.setIfInBounds_toArray, List.set_cons_zero, List.set_cons_succ]
    refine wpHold_take (i := 17) (v := _) (G0.out) rfl rfl (by kernel_rfl) (by kernel_rfl) (by kernel_rfl) (by kernel_rfl) (by kernel_rfl) (fun _ _ _ h => h) (by rfl) (fun wk hk => by have m0 := HC.out wk hk; go_simp; try rfl) ?_
    try simp only [Act.put, List.setIfInBounds_toArray, List.set_cons_zero, List.set_cons_succ]
    refine wpHold_take (i := 18) (v := _) (G0.out) rfl rfl (by kernel_rfl) (by kernel_rfl) (by kernel_rfl) (by kernel_rfl) (by kernel_rfl) (fun _ _ _ h => h) (by rfl) (fun wk hk => by have m0 := HC.out wk hk; go_simp; try rfl) ?_
    try simp only [Act.put, List.setIfInBounds_toArray, List.set_cons_zero, List.set_cons_succ]
    refine wpHold_take (i := 19) (v := _) (G0.out) rfl rfl (by kernel_rfl) (by kernel_rfl) (by kernel_rfl) (by kernel_rfl) (by kernel_rfl) (fun _ _ _ h => h) (by rfl) (fun wk hk => by have m0 := HC.out wk hk; go_simp; try rfl) ?_
    try simp only [Act.put, List.setIfInBounds_toArray, List.set_cons_zero, List.set_cons_succ]
    refine wpHold_take (i := 22) (v := _) (G0.out) rfl rfl (by kernel_rfl) (by kernel_rfl) (by kernel_rfl) (by kernel_rfl) (by kernel_rfl) (fun _ _ _ h => h) (by rfl) (fun wk hk => by have m0 := HC.out wk hk; go_simp; try rfl) ?_
    try simp only [Act.put, List.setIfInBounds_toArray, List.set_cons_zero, List.set_cons_succ]
    refine wpHold_take (i := 25) (v := _) (G0.out) rfl rfl (by kernel_rfl) (by kernel_rfl) (by kernel_rfl) (by kernel_rfl) (by kernel_rfl) (fun _ _ _ h => h) (by rfl) (fun wk hk => by have m0 := HC.out wk hk; go_simp; try rfl) ?_
    try simp only [Act.put, List.setIfInBounds_toArray, List.set_cons_zero, List.set_cons_succ]
    refine wpHold_one (i := 20) rfl (by kernel_rfl) (by rfl) (fun K hK => ?_)
    go_wp2_with fail
    refine (len19_no ev wd (HE.out.grown (grown_trans HGA.out G0.out))).mono ?_
    rintro e wa ⟨rfl, ga⟩
    have Ga : Hid (A.grownBy wa none) := grown_trans G0.out ga
    clear ga
    go_wp2_with fail
    refine hK.out _ _ (fun _ => Ga.out) ?_
    clear hK K
    try simp only [Act.put, List.setIfInBounds_toArray, List.set_cons_zero, List.set_cons_succ]
    refine wpHold_take (i := 21) (v := _) (Ga.out) rfl rfl (by kernel_rfl) (by kernel_rfl) (by kernel_rfl) (by kernel_rfl) (by kernel_rfl) (fun _ _ _ h => h) (by rfl) (fun wk hk => by have m0 := HC.out wk hk; go_simp; try rfl) ?_
    try simp only [Act.put, List.setIfInBounds_toArray, List.set_cons_zero, List.set_cons_succ]
    refine wpHold_one (i := 23) rfl (by kernel_rfl) (by rfl) (fun K hK => ?_)
    go_wp2_with fail
    refine (size20_no ev wa (HE.out.grown (grown_trans HGA.out Ga.out))).mono ?_
    rintro e wb ⟨rfl, gb⟩
    have Gb : Hid (A.grownBy wb none) := grown_trans Ga.out gb
    clear gb
    go_wp2_with fail
    refine hK.out _ _ (fun _ => Gb.out) ?_
    clear hK K
    try simp only [Act.put, List.setIfInBounds_toArray, List.set_cons_zero, List.set_cons_succ]
    refine wpHold_take (i := 24) (v := _) (Gb.out) rfl rfl (by kernel_rfl) (by kernel_rfl) (by kernel_rfl) (by kernel_rfl) (by kernel_rfl) (fun _ _ _ h => h) (by rfl) (fun wk hk => by have m0 := HC.out wk hk; go_simp; try rfl) ?_
    try simp only [Act.put, List.setIfInBounds_toArray, List.set_cons_zero, List.set_cons_succ]
    refine wpHold_one (i := 26) rfl (by kernel_rfl) (by rfl) (fun K hK => ?_)
    go_wp2_with fail
    refine (tables40_no ev wb (HE.out.grown (grown_trans HGA.out Gb.out))).mono ?_
    rintro e wc ⟨rfl, gc⟩
    have Gc : Hid (A.grownBy wc none) := grown_trans Gb.out gc
    clear gc
    go_wp2_with fail
    refine hK.out _ _ (fun _ => Gc.out) ?_
    clear hK K
    try simp only [Act.put, List.setIfInBounds_toArray, List.set_cons_zero, List.set_cons_succ]
    refine wpHold_take (i := 27) (v := _) (Gc.out) rfl rfl (by kernel_rfl) (by kernel_rfl) (by kernel_rfl) (by kernel_rfl) (by kernel_rfl) (fun _ _ _ h => h) (by rfl) (fun wk hk => by have m0 := HC.out wk hk; go_simp; try rfl) ?_
    try simp only [Act.put, List.setIfInBounds_toArray, List.set_cons_zero, List.set_cons_succ]
    refine wpHold_take (i := 28) (v := _) (Gc.out) rfl rfl (by kernel_rfl) (by kernel_rfl) (by kernel_rfl) (by kernel_rfl) (by kernel_rfl) (fun _ _ _ h => h) (by rfl) (fun wk hk => by have m0 := HC.out wk hk; go_simp; try rfl) ?_
    try simp only [Act.put, List.setIfInBounds_toArray, List.set_cons_zero, List.set_cons_succ]
    refine wpHold_take (i := 29) (v := _) (Gc.out) rfl rfl (by kernel_rfl) (by kernel_rfl) (by kernel_rfl) (by kernel_rfl) (by kernel_rfl) (fun _ _ _ h => h) (by rfl) (fun wk hk => by have m0 := HC.out wk hk; go_simp; try rfl) ?_
    try simp only [Act.put, List.setIfInBounds_toArray, List.set_cons_zero, List.set_cons_succ]
    refine wpHold_take (i := 30) (v := _) (Gc.out) rfl rfl (by kernel_rfl) (by kernel_rfl) (by kernel_rfl) (by kernel_rfl) (by kernel_rfl) (fun _ _ _ h => h) (by rfl) (fun wk hk => by have m0 := HC.out wk hk; go_simp; try rfl) ?_
    try simp only [Act.put, List.setIfInBounds_toArray, List.set_cons_zero, List.set_cons_succ]
    refine wpHold_take (i := 31) (v := _) (Gc.out) rfl rfl (by kernel_rfl) (by kernel_rfl) (by kernel_rfl) (by kernel_rfl) (by kernel_rfl) (fun _ _ _ h => h) (by rfl) (fun wk hk => by have m0 := HC.out wk hk; go_simp; try rfl) ?_
    try simp only [Act.put, List.setIfInBounds_toArray, List.set_cons_zero, List.set_cons_succ]
    refine wpHold_take (i := 32) (v := _) (Gc.out) rfl rfl (by kernel_rfl) (by kernel_rfl) (by kernel_rfl) (by kernel_rfl) (by kernel_rfl) (fun _ _ _ h => h) (by rfl) (fun wk hk => by have m0 := HC.out wk hk; go_simp; try rfl) ?_
    try simp only [Act.put, List.setIfInBounds_toArray, List.set_cons_zero, List.set_cons_succ]
    refine wpHold_take (i := 34) (v := _) (Gc.out) rfl rfl (by kernel_rfl) (by kernel_rfl) (by kernel_rfl) (by kernel_rfl) (by kernel_rfl) (fun _ _ _ h => h) (by rfl) (fun wk hk => by have m0 := HC.out wk hk; go_simp; try rfl) ?_
    try simp only [Act.put, List.setIfInBounds_toArray, List.set_cons_zero, List.set_cons_succ]
    refine wpHold_one (i := 33) rfl (by kernel_rfl) (by rfl) (fun K hK => ?_)
    go_wp2_with fail
    refine (quota38_no ev wc (HE.out.grown (grown_trans HGA.out Gc.out))).mono ?_
    rintro e wq ⟨rfl, gq⟩
    have Gq : Hid (A.grownBy wq none) := grown_trans Gc.out gq
    clear gq
    unfold quoV
    go_wp2_with fail
    refine hK.out _ _ (fun _ => Gq.out) ?_
    clear hK K
    try simp only [Act.put, List.setIfInBounds_toArray, List.set_cons_zero, List.set_cons_succ]
    refine wpHold_take (i := 35) (v := _) (Gq.out) rfl rfl (by kernel_rfl) (by kernel_rfl) (by kernel_rfl) (by kernel_rfl) (by kernel_rfl) (fun _ _ _ h => h) (by rfl) (fun wk hk => by have m0 := HC.out wk hk; go_simp; try rfl) ?_
    try simp only [Act.put, List.setIfInBounds_toArray, List.set_cons_zero, List.set_cons_succ]
    refine wpHold_take (i := 36) (v := _) (Gq.out) rfl rfl (by kernel_rfl) (by kernel_rfl) (by kernel_rfl) (by kernel_rfl) (by kernel_rfl) (fun _ _ _ h => h) (by rfl) (fun wk hk => by have m0 := HC.out wk hk; go_simp; try rfl) ?_
    try simp only [Act.put, List.setIfInBounds_toArray, List.set_cons_zero, List.set_cons_succ]
    refine wpHold_take (i := 37) (v := _) (Gq.out) rfl rfl (by kernel_rfl) (by kernel_rfl) (by kernel_rfl) (by kernel_rfl) (by kernel_rfl) (fun _ _ _ h => h) (by rfl) (fun wk hk => by have m0 := HC.out wk hk; go_simp; try rfl) ?_
    try simp only [Act.put, List.setIfInBounds_toArray, List.set_cons_zero, List.set_cons_succ]
    refine wpHold_done (by kernel_rfl) ?_
    refine (‹∀ (a : Act) (w : World), Code.wp Tryz.prog _ _ a w → _› _ _ ?_)
    go_wp2_with fail
    have hD2 : wq.heap[w8.heap.size]? = some (.deferred (some [])) := (Gq.out.block _ (Array.getElem?_eq_some_iff.1 HA.out.2.2).1 (by simp)).trans HA.out.2.2
    refine ⟨by simp, .inl ⟨_, _, rfl, run_takeDeferred hD2, ?_⟩⟩
    have hw0 : IntKind.i64.wrap 0 = 0 := by kernel_rfl
    refine ⟨.bool true, by simp [results, Tryz.results24, go_sem, hw0], rfl, ?_⟩
    have gg : w8.grownBy (wq.putObj w8.heap.size (.deferred none)) none := tn_grown (((HA.out.2.1.mono (Nat.le_succ _)).trans (Tn.of_grown Gq.out)).trans (Tn.putD (.deferred none) hD2 (Nat.le_refl _))) (Nat.le_refl _)
    exact grown_trans (grown_trans H7.out.2 H8.out.2.1) gg
end Go.Proofs.YtakmlhhapegpoaaGreat
