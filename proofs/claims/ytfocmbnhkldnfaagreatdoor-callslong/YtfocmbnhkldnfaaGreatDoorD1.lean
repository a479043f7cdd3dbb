/-
  An op's form: kind 1.
-/
import Derived.Test.YtfocmbnhkldnfaaGreatDoorC
import Derived.Test.YtfocmbnhkldnfaaGreatDoorD0
namespace Go.Proofs.YtfocmbnhkldnfaaGreatDoor
open Go.RowKit Disk
open Names (Str)

theorem slice_of {w : World} {B : Nat} {v : Value} {L : Bs} (h : Own w B v L) : ∃ x n y, v = .slice x n y := by obtain ⟨x, y, e⟩ := h.seg.shape; exact ⟨x, _, y, e⟩
theorem own_mono_trans {w w1 w2 : World} {B : Nat} {v : Value} {L : Bs} (h : Own w1 B v L) (hg : w1.grownBy w2 none) (hB : w.heap.size ≤ B) : Own w2 w.heap.size v L := (h.grown hg).mono hB
theorem may120_of (x k v ol t : Value) (a : POp) (w : World) (hx : x = opV k v ol t a) (ha : OpSeg w k v ol t a) : Calls Tryz.prog 120 #[x] w fun e w' => e = .returned (.bool (mayOp a)) ∧ w.grownBy w' none := by subst hx; exact may120 k v ol t a w ha
set_option maxRecDepth 100000 in
set_option maxHeartbeats 40000000 in
theorem opform76_1 (k v ol t : Value) (a : POp) (w : World) (ha : OpSeg w k v ol t a) (hk : a.kind = 1) (hm : mayOp a = true) :
    Calls Tryz.prog 76 #[opV k v ol t a] w fun e w' => ∃ u, e = .returned u ∧ Own w' w.heap.size u (opForm a) ∧ w.grownBy w' none := by
  obtain ⟨a1, a2, a3, a4, b1, b2, b3, b4, rfl, rfl, rfl, rfl⟩ := ha.shapes
  have HM : Hid (May a) := may_of hm
  have HQ : Hid (mayOp a = true) := hm
  have HF : Hid (opForm a = Wire.numForm 1 ++ (bytesForm a.table ++ bytesForm a.key)) := by
    unfold opForm frontForm tailForm
    rw [hk]
    simp [Hid]
  obtain ⟨ms, hms⟩ : ∃ n, n = a.most := ⟨_, rfl⟩
  obtain ⟨F, hF⟩ : ∃ F, F = opForm a := ⟨_, rfl⟩
  rw [← hF] at HF ⊢
  have HS : Hid (ms = a.most) := hms
  have cb := conv_bytes
  have HA : Hid (OpSeg w (.slice a1 a.key.length b1) (.slice a2 a.value.length b2) (.slice a3 a.old.length b3) (.slice a4 a.to.length b4) a) := ha
  have HX : Hid (Value.agg #[.int .i64 1, .string ⟨a.table.toArray⟩, .slice a1 a.key.length b1, .slice a2 a.value.length b2, .bool a.has, .slice a3 a.old.length b3, .slice a4 a.to.length b4, .int .i64 ms] = opV (.slice a1 a.key.length b1) (.slice a2 a.value.length b2) (.slice a3 a.old.length b3) (.slice a4 a.to.length b4) a) := by rw [hms, ← hk]; rfl
  rw [← HX.out]
  clear ha hm hms hk hF
  go_enter Tryz.func76, Tryz.ntmps76
  go_wp2_with (go_at_call 120; refine (may120_of _ _ _ _ _ a _ HX.out (HA.out.grown (World.grownBy_alloc _ _ none))).mono ?_)
  rintro e w1 ⟨rfl, hg1⟩
  rw [HQ.out]
  have hb := heap_alloc_new w (.cells #[.int .i64 1, .string ⟨a.table.toArray⟩, .slice a1 a.key.length b1, .slice a2 a.value.length b2, .bool a.has, .slice a3 a.old.length b3, .slice a4 a.to.length b4, .int .i64 ms] 71)
  have HC : Hid (∀ x : World, w1.grownBy x none → x.cell? ⟨w.heap.size, 0, none⟩ = some (.int .i64 1) ∧ x.cell? ⟨w.heap.size, 1, none⟩ = some (.string ⟨a.table.toArray⟩) ∧ x.cell? ⟨w.heap.size, 2, none⟩ = some (.slice a1 a.key.length b1) ∧ x.cell? ⟨w.heap.size, 3, none⟩ = some (.slice a2 a.value.length b2) ∧ x.cell? ⟨w.heap.size, 4, none⟩ = some (.bool a.has) ∧ x.cell? ⟨w.heap.size, 5, none⟩ = some (.slice a3 a.old.length b3) ∧ x.cell? ⟨w.heap.size, 6, none⟩ = some (.slice a4 a.to.length b4) ∧ x.cell? ⟨w.heap.size, 7, none⟩ = some (.int .i64 ms)) := by
    intro x hx
    have hx := grown_trans hg1 hx
    refine ⟨grown_fun hx ?_, grown_fun hx ?_, grown_fun hx ?_, grown_fun hx ?_, grown_fun hx ?_, grown_fun hx ?_, grown_fun hx ?_, grown_fun hx ?_⟩ <;> (rw [cell_of_row _ _ _ _ _ _ hb]; rfl)
  have HG : Hid (w.grownBy w1 none) := grown_trans (World.grownBy_alloc _ _ none) hg1
  clear hb hg1
  go_wp2_with (go_at_call 55; refine (sure_yes _ _).mono ?_; rintro e w2 ⟨rfl, hw2⟩; rw [hw2]; clear hw2)
  refine wp_region_noPanic ?_
  refine wp_region_hold 1000 (fun x => w1.grownBy x none) (by kernel_rfl) ?_
  refine wpHold_take (i := 0) (v := _) (grown_drew _ _) rfl rfl (by kernel_rfl) (by kernel_rfl) (by kernel_rfl) (by kernel_rfl) (by kernel_rfl) (fun _ _ _ h => h) (by rfl) (fun wk hk => by obtain ⟨q0, q1, q2, q3, q4, q5, q6, q7⟩ := HC.out wk hk; go_simp; try rfl) ?_
  try simp only [Act.put, List.setIfInBounds_toArray, List.set_cons_zero, List.set_cons_succ]
  refine wpHold_take (i := 1) (v := _) (grown_drew _ _) rfl rfl (by kernel_rfl) (by kernel_rfl) (by kernel_rfl) (by kernel_rfl) (by kernel_rfl) (fun _ _ _ h => h) (by rfl) (fun wk hk => by obtain ⟨q0, q1, q2, q3, q4, q5, q6, q7⟩ := HC.out wk hk; go_simp; try rfl) ?_
  try simp only [Act.put, List.setIfInBounds_toArray, List.set_cons_zero, List.set_cons_succ]
  refine wpHold_take (i := 2) (v := _) (grown_drew _ _) rfl rfl (by kernel_rfl) (by kernel_rfl) (by kernel_rfl) (by kernel_rfl) (by kernel_rfl) (fun _ _ _ h => h) (by rfl) (fun wk hk => by obtain ⟨q0, q1, q2, q3, q4, q5, q6, q7⟩ := HC.out wk hk; go_simp; try rfl) ?_
  try simp only [Act.put, List.setIfInBounds_toArray, List.set_cons_zero, List.set_cons_succ]
  refine wpHold_take (i := 4) (v := _) (grown_drew _ _) rfl rfl (by kernel_rfl) (by kernel_rfl) (by kernel_rfl) (by kernel_rfl) (by kernel_rfl) (fun _ _ _ h => h) (by rfl) (fun wk hk => by obtain ⟨q0, q1, q2, q3, q4, q5, q6, q7⟩ := HC.out wk hk; go_simp; try rfl) ?_
  try simp only [Act.put, List.setIfInBounds_toArray, List.set_cons_zero, List.set_cons_succ]
  refine wpHold_take (i := 5) (v := _) (grown_drew _ _) rfl rfl (by kernel_rfl) (by kernel_rfl) (by kernel_rfl) (by kernel_rfl) (by kernel_rfl) (fun _ _ _ h => h) (by rfl) (fun wk hk => by obtain ⟨q0, q1, q2, q3, q4, q5, q6, q7⟩ := HC.out wk hk; go_simp; try rfl) ?_
  try simp only [Act.put, List.setIfInBounds_toArray, List.set_cons_zero, List.set_cons_succ]
  refine wpHold_take (i := 8) (v := _) (grown_drew _ _) rfl rfl (by kernel_rfl) (by kernel_rfl) (by kernel_rfl) (by kernel_rfl) (by kernel_rfl) (fun _ _ _ h => h) (by rfl) (fun wk hk => by obtain ⟨q0, q1, q2, q3, q4, q5, q6, q7⟩ := HC.out wk hk; go_simp; try rfl) ?_
  try simp only [Act.put, List.setIfInBounds_toArray, List.set_cons_zero, List.set_cons_succ]
  refine wpHold_take (i := 9) (v := _) (grown_drew _ _) rfl rfl (by kernel_rfl) (by kernel_rfl) (by kernel_rfl) (by kernel_rfl) (by kernel_rfl) (fun _ _ _ h => h) (by rfl) (fun wk hk => by obtain ⟨q0, q1, q2, q3, q4, q5, q6, q7⟩ := HC.out wk hk; go_simp; try rfl) ?_
  try simp only [Act.put, List.setIfInBounds_toArray, List.set_cons_zero, List.set_cons_succ]
  refine wpHold_two (i := 3) (j := 6) rfl rfl (by kernel_rfl) (by rfl) (by rfl) (fun K hK => ?_) (fun K hK => ?_)
  · go_wp2_with (go_at_call 103; refine (Wire.number9_int _ 1 rfl (by decide) _).mono ?_)
    rintro e w2 ⟨u1, rfl, ho1, hg2⟩
    have H2 : Hid (Own w2 w.heap.size u1 (Wire.numForm 1) ∧ w1.grownBy w2 none) := ⟨own_mono_trans ho1 (grown_refl _ _) HG.out.size, grown_trans (grown_drew _ _) hg2⟩
    clear ho1 hg2
    go_wp2_with fail
    refine hK.out _ _ (fun _ => H2.out.2) ?_
    clear hK K
    try simp only [Act.put, List.setIfInBounds_toArray, List.set_cons_zero, List.set_cons_succ]
    refine wpHold_one (i := 6) rfl (by kernel_rfl) (by rfl) (fun K hK => ?_)
    go_wp2_with fail
    have hx1 := bytes_grown w2 ⟨a.table.toArray⟩
    have hx2 := bytes_seg w2 a.table HA.out.fits.tl
    generalize Lib.bytesWorld w2 5 ⟨a.table.toArray⟩ = w3 at hx1 hx2 ⊢
    generalize Value.slice (some ⟨w2.heap.size, 0, none⟩) a.table.length (grownCap w2 a.table.length 0 5) = va at hx2 ⊢
    have H3 : Hid (Own w3 w.heap.size u1 (Wire.numForm 1) ∧ Seg w3 va a.table ∧ w1.grownBy w3 none) := ⟨H2.out.1.grown hx1, hx2, grown_trans H2.out.2 hx1⟩
    clear hx1 hx2 H2
    refine hK.out _ _ (fun _ => H3.out.2.2) ?_
    clear hK K
    try simp only [Act.put, List.setIfInBounds_toArray, List.set_cons_zero, List.set_cons_succ]
    refine wpHold_one (i := 7) rfl (by kernel_rfl) (by rfl) (fun K hK => ?_)
    go_wp2_with (go_at_call 121; refine (Wire.bytes8 _ a.table _ H3.out.2.1 (by have := tab_len HM.out.tab; omega)).mono ?_)
    rintro e w4 ⟨u2, rfl, ho2, hg4⟩
    have H4 : Hid (Own w4 w.heap.size u2 (bytesForm a.table) ∧ w3.grownBy w4 none ∧ w1.grownBy w4 none) := ⟨own_mono_trans ho2 (grown_refl _ _) (Nat.le_trans HG.out.size H3.out.2.2.size), hg4, grown_trans H3.out.2.2 hg4⟩
    clear ho2 hg4
    go_wp2_with fail
    refine hK.out _ _ (fun _ => H4.out.2.2) ?_
    clear hK K
    try simp only [Act.put, List.setIfInBounds_toArray, List.set_cons_zero, List.set_cons_succ]
    refine wpHold_one (i := 10) rfl (by kernel_rfl) (by rfl) (fun K hK => ?_)
    go_wp2_with (go_at_call 121; refine (Wire.bytes8 _ a.key _ (HA.out.key.grown (grown_trans HG.out H4.out.2.2)) (by have := HM.out.key; omega)).mono ?_)
    rintro e w5 ⟨u3, rfl, ho3, hg5⟩
    have H5 : Hid (Own w5 w.heap.size u3 (bytesForm a.key) ∧ Own w5 w.heap.size u2 (bytesForm a.table) ∧ Own w5 w.heap.size u1 (Wire.numForm 1) ∧ w1.grownBy w5 none) := ⟨own_mono_trans ho3 (grown_refl _ _) (Nat.le_trans HG.out.size H4.out.2.2.size), H4.out.1.grown hg5, (H3.out.1.grown H4.out.2.1).grown hg5, grown_trans H4.out.2.2 hg5⟩
    clear ho3 hg5
    obtain ⟨x1, n1, y1, e1⟩ := slice_of H5.out.2.2.1
    obtain ⟨x2, n2, y2, e2⟩ := slice_of H5.out.2.1
    obtain ⟨x3, n3, y3, e3⟩ := slice_of H5.out.1
    subst e1 e2 e3
    go_wp2_with fail
    refine hK.out _ _ (fun _ => H5.out.2.2.2) ?_
    clear hK K
    try simp only [Act.put, List.setIfInBounds_toArray, List.set_cons_zero, List.set_cons_succ]
    refine wpHold_one (i := 11) rfl (by kernel_rfl) (by rfl) (fun K hK => ?_)
    go_wp2_with fail
    refine hK.out _ _ (fun _ => grown_trans H5.out.2.2.2 (World.grownBy_alloc _ _ none)) ?_
    clear hK K
    try simp only [Act.put, List.setIfInBounds_toArray, List.set_cons_zero, List.set_cons_succ]
    refine wpHold_one (i := 12) rfl (by kernel_rfl) (by rfl) (fun K hK => ?_)
    go_wp2_with (go_at_call 104; refine (Wire.join10 _ [Wire.numForm 1, bytesForm a.table, bytesForm a.key] _ (segs_three H5.out.2.2.1.seg H5.out.2.1.seg H5.out.1.seg) ?g0).mono ?_)
    case g0 =>
      have h1 := Wire.numForm_len10 1 (by decide)
      have h2 := bytesForm_len a.table (by have := tab_len HM.out.tab; omega)
      have h3 := bytesForm_len a.key (by have := HM.out.key; omega)
      simp; omega
    rintro e w6 ⟨u4, rfl, ho6, hg6⟩
    have H6 : Hid (Own w6 w.heap.size u4 (Wire.numForm 1 ++ (bytesForm a.table ++ bytesForm a.key)) ∧ w1.grownBy w6 none) := by
      refine ⟨?_, grown_trans H5.out.2.2.2 (grown_trans (World.grownBy_alloc _ _ none) hg6)⟩
      have := own_mono_trans (w := w) ho6 (grown_refl _ _) (by have := HG.out.size; have := H5.out.2.2.2.size; simp; omega)
      simpa using this
    clear ho6 hg6
    obtain ⟨x4, n4, y4, e4⟩ := slice_of H6.out.1
    subst e4
    go_wp2_with fail
    refine hK.out _ _ (fun _ => H6.out.2) ?_
    clear hK K
    try simp only [Act.put, List.setIfInBounds_toArray, List.set_cons_zero, List.set_cons_succ]
    refine wpHold_take (i := 13) (v := _) (H6.out.2) rfl rfl (by kernel_rfl) (by kernel_rfl) (by kernel_rfl) (by kernel_rfl) (by kernel_rfl) (fun _ _ _ h => h) (by rfl) (fun wk hk => by obtain ⟨q0, q1, q2, q3, q4, q5, q6, q7⟩ := HC.out wk hk; go_simp; try rfl) ?_
    try simp only [Act.put, List.setIfInBounds_toArray, List.set_cons_zero, List.set_cons_succ]
    refine wpHold_done (by kernel_rfl) ?_
    refine (‹∀ (a : Act) (w : World), Code.wp Tryz.prog _ _ a w → _› _ _ ?_)
    obtain ⟨p0, p1, p2, p3, p4, p5, p6, p7⟩ := HC.out w6 H6.out.2
    go_wp2_with fail
    go_ret
    refine ⟨_, rfl, ?_, grown_trans HG.out H6.out.2⟩
    rw [HF.out]
    exact H6.out.1
  · go_wp2_with fail
    have hx1 := bytes_grown w1.drew ⟨a.table.toArray⟩
    have hx2 : Seg (Lib.bytesWorld w1.drew 5 ⟨a.table.toArray⟩) (Value.slice (some ⟨w1.heap.size, 0, none⟩) a.table.length (grownCap w1.drew a.table.length 0 5)) a.table := bytes_seg w1.drew a.table HA.out.fits.tl
    generalize Lib.bytesWorld w1.drew 5 ⟨a.table.toArray⟩ = w2 at hx1 hx2 ⊢
    generalize Value.slice (some ⟨w1.heap.size, 0, none⟩) a.table.length (grownCap w1.drew a.table.length 0 5) = va at hx2 ⊢
    have H2 : Hid (Seg w2 va a.table ∧ w1.grownBy w2 none) := ⟨hx2, grown_trans (grown_drew _ _) hx1⟩
    clear hx1 hx2
    refine hK.out _ _ (fun _ => H2.out.2) ?_
    clear hK K
    try simp only [Act.put, List.setIfInBounds_toArray, List.set_cons_zero, List.set_cons_succ]
    refine wpHold_one (i := 3) rfl (by kernel_rfl) (by rfl) (fun K hK => ?_)
    go_wp2_with (go_at_call 103; refine (Wire.number9_int _ 1 rfl (by decide) _).mono ?_)
    rintro e w3 ⟨u1, rfl, ho1, hg2⟩
    have H3 : Hid (Own w3 w.heap.size u1 (Wire.numForm 1) ∧ Seg w3 va a.table ∧ w1.grownBy w3 none) := ⟨own_mono_trans ho1 (grown_refl _ _) (Nat.le_trans HG.out.size H2.out.2.size), H2.out.1.grown hg2, grown_trans H2.out.2 hg2⟩
    clear ho1 hg2 H2
    go_wp2_with fail
    refine hK.out _ _ (fun _ => H3.out.2.2) ?_
    clear hK K
    try simp only [Act.put, List.setIfInBounds_toArray, List.set_cons_zero, List.set_cons_succ]
    refine wpHold_one (i := 7) rfl (by kernel_rfl) (by rfl) (fun K hK => ?_)
    go_wp2_with (go_at_call 121; refine (Wire.bytes8 _ a.table _ H3.out.2.1 (by have := tab_len HM.out.tab; omega)).mono ?_)
    rintro e w4 ⟨u2, rfl, ho2, hg4⟩
    have H4 : Hid (Own w4 w.heap.size u2 (bytesForm a.table) ∧ w3.grownBy w4 none ∧ w1.grownBy w4 none) := ⟨own_mono_trans ho2 (grown_refl _ _) (Nat.le_trans HG.out.size H3.out.2.2.size), hg4, grown_trans H3.out.2.2 hg4⟩
    clear ho2 hg4
    go_wp2_with fail
    refine hK.out _ _ (fun _ => H4.out.2.2) ?_
    clear hK K
    try simp only [Act.put, List.setIfInBounds_toArray, List.set_cons_zero, List.set_cons_succ]
    refine wpHold_one (i := 10) rfl (by kernel_rfl) (by rfl) (fun K hK => ?_)
    go_wp2_with (go_at_call 121; refine (Wire.bytes8 _ a.key _ (HA.out.key.grown (grown_trans HG.out H4.out.2.2)) (by have := HM.out.key; omega)).mono ?_)
    rintro e w5 ⟨u3, rfl, ho3, hg5⟩
    have H5 : Hid (Own w5 w.heap.size u3 (bytesForm a.key) ∧ Own w5 w.heap.size u2 (bytesForm a.table) ∧ Own w5 w.heap.size u1 (Wire.numForm 1) ∧ w1.grownBy w5 none) := ⟨own_mono_trans ho3 (grown_refl _ _) (Nat.le_trans HG.out.size H4.out.2.2.size), H4.out.1.grown hg5, (H3.out.1.grown H4.out.2.1).grown hg5, grown_trans H4.out.2.2 hg5⟩
    clear ho3 hg5
    obtain ⟨x1, n1, y1, e1⟩ := slice_of H5.out.2.2.1
    obtain ⟨x2, n2, y2, e2⟩ := slice_of H5.out.2.1
    obtain ⟨x3, n3, y3, e3⟩ := slice_of H5.out.1
    subst e1 e2 e3
    go_wp2_with fail
    refine hK.out _ _ (fun _ => H5.out.2.2.2) ?_
    clear hK K
    try simp only [Act.put, List.setIfInBounds_toArray, List.set_cons_zero, List.set_cons_succ]
    refine wpHold_one (i := 11) rfl (by kernel_rfl) (by rfl) (fun K hK => ?_)
    go_wp2_with fail
    refine hK.out _ _ (fun _ => grown_trans H5.out.2.2.2 (World.grownBy_alloc _ _ none)) ?_
    clear hK K
    try simp only [Act.put, List.setIfInBounds_toArray, List.set_cons_zero, List.set_cons_succ]
    refine wpHold_one (i := 12) rfl (by kernel_rfl) (by rfl) (fun K hK => ?_)
    go_wp2_with (go_at_call 104; refine (Wire.join10 _ [Wire.numForm 1, bytesForm a.table, bytesForm a.key] _ (segs_three H5.out.2.2.1.seg H5.out.2.1.seg H5.out.1.seg) ?g0).mono ?_)
    case g0 =>
      have h1 := Wire.numForm_len10 1 (by decide)
      have h2 := bytesForm_len a.table (by have := tab_len HM.out.tab; omega)
      have h3 := bytesForm_len a.key (by have := HM.out.key; omega)
      simp; omega
    rintro e w6 ⟨u4, rfl, ho6, hg6⟩
    have H6 : Hid (Own w6 w.heap.size u4 (Wire.numForm 1 ++ (bytesForm a.table ++ bytesForm a.key)) ∧ w1.grownBy w6 none) := by
      refine ⟨?_, grown_trans H5.out.2.2.2 (grown_trans (World.grownBy_alloc _ _ none) hg6)⟩
      have := own_mono_trans (w := w) ho6 (grown_refl _ _) (by have := HG.out.size; have := H5.out.2.2.2.size; simp; omega)
      simpa using this
    clear ho6 hg6
    obtain ⟨x4, n4, y4, e4⟩ := slice_of H6.out.1
    subst e4
    go_wp2_with fail
    refine hK.out _ _ (fun _ => H6.out.2) ?_
    clear hK K
    try simp only [Act.put, List.setIfInBounds_toArray, List.set_cons_zero, List.set_cons_succ]
    refine wpHold_take (i := 13) (v := _) (H6.out.2) rfl rfl (by kernel_rfl) (by kernel_rfl) (by kernel_rfl) (by kernel_rfl) (by kernel_rfl) (fun _ _ _ h => h) (by rfl) (fun wk hk => by obtain ⟨q0, q1, q2, q3, q4, q5, q6, q7⟩ := HC.out wk hk; go_simp; try rfl) ?_
    try simp only [Act.put, List.setIfInBounds_toArray, List.set_cons_zero, List.set_cons_succ]
    refine wpHold_done (by kernel_rfl) ?_
    refine (‹∀ (a : Act) (w : World), Code.wp Tryz.prog _ _ a w → _› _ _ ?_)
    obtain ⟨p0, p1, p2, p3, p4, p5, p6, p7⟩ := HC.out w6 H6.out.2
    go_wp2_with fail
    go_ret
    refine ⟨_, rfl, ?_, grown_trans HG.out H6.out.2⟩
    rw [HF.out]
    exact H6.out.1
end Go.Proofs.YtfocmbnhkldnfaaGreatDoor
