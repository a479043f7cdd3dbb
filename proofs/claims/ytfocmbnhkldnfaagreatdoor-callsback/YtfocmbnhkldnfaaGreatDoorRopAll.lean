/-
  Texts of Rop, put together.
-/
import Derived.Test.YtfocmbnhkldnfaaGreatDoorQ
/-
  The text of an op that may be.
-/
namespace Go.Proofs.YtfocmbnhkldnfaaGreatDoor
open Go.RowKit Disk
open Names (Str)

set_option maxRecDepth 100000 in
set_option maxHeartbeats 40000000 in
theorem optext39_2 (k v ol t : Value) (a : POp) (w : World) (ha : OpSeg w k v ol t a) (hk : a.kind = 2) (hm : mayOp a = true) (hkw : KW w) :
    Calls Tryz.prog 39 #[opV k v ol t a] w fun e w' => e = .returned (Str (opTxt a)) ∧ w.grownBy w' none := by
  obtain ⟨a1, a2, a3, a4, b1, b2, b3, b4, rfl, rfl, rfl, rfl⟩ := ha.shapes
  have HM : Hid (May a) := may_of hm
  have HF : Hid (opTxt a = Lib.join [[112, 117, 116], a.table, Names.txt a.key, Names.txt a.value] [32]) := by
    unfold opTxt opWords tailWords kindWord
    rw [hk]
    rfl
  obtain ⟨ms, hms⟩ : ∃ n, n = a.most := ⟨_, rfl⟩
  obtain ⟨F, hF⟩ : ∃ F, F = opTxt a := ⟨_, rfl⟩
  rw [← hF] at HF ⊢
  have HS : Hid (ms = a.most) := hms
  have HA : Hid (OpSeg w (.slice a1 a.key.length b1) (.slice a2 a.value.length b2) (.slice a3 a.old.length b3) (.slice a4 a.to.length b4) a) := ha
  have HX : Hid (Value.agg #[.int .i64 2, .string ⟨a.table.toArray⟩, .slice a1 a.key.length b1, .slice a2 a.value.length b2, .bool a.has, .slice a3 a.old.length b3, .slice a4 a.to.length b4, .int .i64 ms] = opV (.slice a1 a.key.length b1) (.slice a2 a.value.length b2) (.slice a3 a.old.length b3) (.slice a4 a.to.length b4) a) := by rw [hms, ← hk]; rfl
  rw [← HX.out]
  obtain ⟨W1, hW1⟩ : ∃ x, x = w.alloc (.cells #[.int .i64 2, .string ⟨a.table.toArray⟩, .slice a1 a.key.length b1, .slice a2 a.value.length b2, .bool a.has, .slice a3 a.old.length b3, .slice a4 a.to.length b4, .int .i64 ms] 71) := ⟨_, rfl⟩
  have HG : Hid (w.grownBy W1 none) := by rw [hW1]; exact World.grownBy_alloc _ _ none
  have HC : Hid (∀ x : World, W1.grownBy x none → x.cell? ⟨w.heap.size, 0, none⟩ = some (.int .i64 2) ∧ x.cell? ⟨w.heap.size, 1, none⟩ = some (.string ⟨a.table.toArray⟩) ∧ x.cell? ⟨w.heap.size, 2, none⟩ = some (.slice a1 a.key.length b1) ∧ x.cell? ⟨w.heap.size, 3, none⟩ = some (.slice a2 a.value.length b2) ∧ x.cell? ⟨w.heap.size, 4, none⟩ = some (.bool a.has) ∧ x.cell? ⟨w.heap.size, 5, none⟩ = some (.slice a3 a.old.length b3) ∧ x.cell? ⟨w.heap.size, 6, none⟩ = some (.slice a4 a.to.length b4) ∧ x.cell? ⟨w.heap.size, 7, none⟩ = some (.int .i64 ms) ∧ x.cell? ⟨0, 2, none⟩ = some (.string ⟨#[112, 117, 116]⟩)) := by
    intro x hx
    have hb := heap_alloc_new w (.cells #[.int .i64 2, .string ⟨a.table.toArray⟩, .slice a1 a.key.length b1, .slice a2 a.value.length b2, .bool a.has, .slice a3 a.old.length b3, .slice a4 a.to.length b4, .int .i64 ms] 71)
    rw [← hW1] at hb
    have hkx := (hkw.grown HG.out).grown hx
    refine ⟨grown_fun hx ?_, grown_fun hx ?_, grown_fun hx ?_, grown_fun hx ?_, grown_fun hx ?_, grown_fun hx ?_, grown_fun hx ?_, grown_fun hx ?_, hkx.2.2.1⟩ <;> (rw [cell_of_row _ _ _ _ _ _ hb]; rfl)
  have HL : Hid ((Names.txt a.key).length ≤ 800 ∧ (Names.txt a.value).length ≤ 800 ∧ (Names.txt a.old).length ≤ 800 ∧ (Names.txt a.to).length ≤ 800 ∧ a.table.length ≤ 16) := by
    have := Names.txt_len a.key; have := Names.txt_len a.value; have := Names.txt_len a.old; have := Names.txt_len a.to
    have := HM.out.key; have := HM.out.value; have := HM.out.old; have := HM.out.to; have := tab_len HM.out.tab
    unfold Hid; omega
  clear ha hm hms hk hF hkw
  go_enter Tryz.func39, Tryz.ntmps39
  go_wp2_with fail
  rw [← hW1]
  have HE1 : Hid (W1 = _) := hW1
  clear hW1
  refine wp_region_noPanic ?_
  refine wp_region_hold 1000 (fun x => W1.grownBy x none) (by kernel_rfl) ?_
  refine wpHold_take (i := 0) (v := _) (grown_drew _ _) rfl rfl (by kernel_rfl) (by kernel_rfl) (by kernel_rfl) (by kernel_rfl) (by kernel_rfl) (fun _ _ _ h => h) (by rfl) (fun wk hk => by obtain ⟨q0, q1, q2, q3, q4, q5, q6, q7, q8⟩ := HC.out wk hk; go_simp; try rfl) ?_
  try simp only [Act.put, List.setIfInBounds_toArray, List.set_cons_zero, List.set_cons_succ]
  refine wpHold_take (i := 1) (v := _) (grown_drew _ _) rfl rfl (by kernel_rfl) (by kernel_rfl) (by kernel_rfl) (by kernel_rfl) (by kernel_rfl) (fun _ _ _ h => h) (by rfl) (fun wk hk => by obtain ⟨q0, q1, q2, q3, q4, q5, q6, q7, q8⟩ := HC.out wk hk; go_simp; try rfl) ?_
  try simp only [Act.put, List.setIfInBounds_toArray, List.set_cons_zero, List.set_cons_succ]
  refine wpHold_take (i := 2) (v := _) (grown_drew _ _) rfl rfl (by kernel_rfl) (by kernel_rfl) (by kernel_rfl) (by kernel_rfl) (by kernel_rfl) (fun _ _ _ h => h) (by rfl) (fun wk hk => by obtain ⟨q0, q1, q2, q3, q4, q5, q6, q7, q8⟩ := HC.out wk hk; go_simp; try rfl) ?_
  try simp only [Act.put, List.setIfInBounds_toArray, List.set_cons_zero, List.set_cons_succ]
  refine wpHold_take (i := 3) (v := _) (grown_drew _ _) rfl rfl (by kernel_rfl) (by kernel_rfl) (by kernel_rfl) (by kernel_rfl) (by kernel_rfl) (fun _ _ _ h => h) (by rfl) (fun wk hk => by obtain ⟨q0, q1, q2, q3, q4, q5, q6, q7, q8⟩ := HC.out wk hk; go_simp; try rfl) ?_
  try simp only [Act.put, List.setIfInBounds_toArray, List.set_cons_zero, List.set_cons_succ]
  refine wpHold_take (i := 4) (v := _) (grown_drew _ _) rfl rfl (by kernel_rfl) (by kernel_rfl) (by kernel_rfl) (by kernel_rfl) (by kernel_rfl) (fun _ _ _ h => h) (by rfl) (fun wk hk => by obtain ⟨q0, q1, q2, q3, q4, q5, q6, q7, q8⟩ := HC.out wk hk; go_simp; try rfl) ?_
  try simp only [Act.put, List.setIfInBounds_toArray, List.set_cons_zero, List.set_cons_succ]
  refine wpHold_take (i := 5) (v := _) (grown_drew _ _) rfl rfl (by kernel_rfl) (by kernel_rfl) (by kernel_rfl) (by kernel_rfl) (by kernel_rfl) (fun _ _ _ h => h) (by rfl) (fun wk hk => by obtain ⟨q0, q1, q2, q3, q4, q5, q6, q7, q8⟩ := HC.out wk hk; go_simp; try rfl) ?_
  try simp only [Act.put, List.setIfInBounds_toArray, List.set_cons_zero, List.set_cons_succ]
  refine wpHold_take (i := 6) (v := _) (grown_drew _ _) rfl rfl (by kernel_rfl) (by kernel_rfl) (by kernel_rfl) (by kernel_rfl) (by kernel_rfl) (fun _ _ _ h => h) (by rfl) (fun wk hk => by obtain ⟨q0, q1, q2, q3, q4, q5, q6, q7, q8⟩ := HC.out wk hk; go_simp; try rfl) ?_
  try simp only [Act.put, List.setIfInBounds_toArray, List.set_cons_zero, List.set_cons_succ]
  refine wpHold_take (i := 7) (v := _) (grown_drew _ _) rfl rfl (by kernel_rfl) (by kernel_rfl) (by kernel_rfl) (by kernel_rfl) (by kernel_rfl) (fun _ _ _ h => h) (by rfl) (fun wk hk => by obtain ⟨q0, q1, q2, q3, q4, q5, q6, q7, q8⟩ := HC.out wk hk; go_simp; try rfl) ?_
  try simp only [Act.put, List.setIfInBounds_toArray, List.set_cons_zero, List.set_cons_succ]
  refine wpHold_one (i := 8) rfl (by kernel_rfl) (by rfl) (fun K hK => ?_)
  go_wp2_with (go_at_call 77; refine (Names.text15 _ a.key _ (HA.out.key.grown (grown_trans HG.out (grown_drew _ _))) (by have := HM.out.key; omega)).mono ?_)
  rintro e w2 ⟨rfl, hg2⟩
  have H2 : Hid (W1.grownBy w2 none) := grown_trans (grown_drew _ _) hg2
  clear hg2
  unfold Str
  go_wp2_with fail
  refine hK.out _ _ (fun _ => H2.out) ?_
  clear hK K
  try simp only [Act.put, List.setIfInBounds_toArray, List.set_cons_zero, List.set_cons_succ]
  refine wpHold_one (i := 9) rfl (by kernel_rfl) (by rfl) (fun K hK => ?_)
  go_wp2_with fail
  refine hK.out _ _ (fun _ => grown_trans H2.out (World.grownBy_alloc _ _ none)) ?_
  clear hK K
  try simp only [Act.put, List.setIfInBounds_toArray, List.set_cons_zero, List.set_cons_succ]
  refine wpHold_take (i := 10) (v := _) (grown_trans H2.out (World.grownBy_alloc _ _ none)) rfl rfl (by kernel_rfl) (by kernel_rfl) (by kernel_rfl) (by kernel_rfl) (by kernel_rfl) (fun _ _ _ h => h) (by rfl) (fun wk hk => by obtain ⟨q0, q1, q2, q3, q4, q5, q6, q7, q8⟩ := HC.out wk hk; go_simp; try rfl) ?_
  try simp only [Act.put, List.setIfInBounds_toArray, List.set_cons_zero, List.set_cons_succ]
  refine wpHold_done (by kernel_rfl) ?_
  refine (‹∀ (a : Act) (w : World), Code.wp Tryz.prog _ _ a w → _› _ _ ?_)
  have H3 : Hid (SRow (w2.alloc (.cells #[.string ⟨#[112, 117, 116]⟩, .string ⟨a.table.toArray⟩, .string ⟨(Names.txt a.key).toArray⟩] 9)) w.heap.size (.slice (some ⟨w2.heap.size, 0, none⟩) 3 3) [[112, 117, 116], a.table, Names.txt a.key] ∧ W1.grownBy (w2.alloc (.cells #[.string ⟨#[112, 117, 116]⟩, .string ⟨a.table.toArray⟩, .string ⟨(Names.txt a.key).toArray⟩] 9)) none) := ⟨srow_lit w2 [[112, 117, 116], a.table, Names.txt a.key] w.heap.size 3 rfl (Nat.le_trans HG.out.size H2.out.size) (by decide), grown_trans H2.out (World.grownBy_alloc _ _ none)⟩
  obtain ⟨p0, p1, p2, p3, p4, p5, p6, p7, p8⟩ := HC.out _ H3.out.2
  generalize (w2.alloc (.cells #[.string ⟨#[112, 117, 116]⟩, .string ⟨a.table.toArray⟩, .string ⟨(Names.txt a.key).toArray⟩] 9)) = w3 at H3 p0 p1 p2 p3 p4 p5 p6 p7 p8 ⊢
  have HL2 : Hid True := trivial
  clear p1 p2 p4 p5 p6 p7 p8
  go_wp2_with (go_at_call 77; refine (Names.text15 _ a.value _ (HA.out.value.grown (grown_trans HG.out H3.out.2)) (by have := HM.out.value; omega)).mono ?_)
  rintro e w4 ⟨rfl, hg4⟩
  unfold Str
  have H4 : Hid (SRow (w4.alloc (.cells #[.string ⟨(Names.txt a.value).toArray⟩] 9)) w.heap.size (.slice (some ⟨w2.heap.size, 0, none⟩) 3 3) [[112, 117, 116], a.table, Names.txt a.key] ∧ Blk (w4.alloc (.cells #[.string ⟨(Names.txt a.value).toArray⟩] 9)) w4.heap.size 9 #[.string ⟨(Names.txt a.value).toArray⟩] ∧ W1.grownBy (w4.alloc (.cells #[.string ⟨(Names.txt a.value).toArray⟩] 9)) none) := ⟨(H3.out.1.grown hg4).grown (World.grownBy_alloc _ _ none), heap_alloc_new _ _, grown_trans (grown_trans H3.out.2 hg4) (World.grownBy_alloc _ _ none)⟩
  clear hg4
  go_wp2_with (at_builtin; refine app9 _ rfl (.tmp 18) (.tmp 22) rfl w.heap.size _ [[112, 117, 116], a.table, Names.txt a.key] [Names.txt a.value] 1 _ rfl rfl rfl H4.out.1 H4.out.2.1 (by decide) (by simp) (Nat.le_trans HG.out.size H4.out.2.2.size) ?_; intro g' cap' w6 o3 g3 l3)
  have H6 : Hid (SRow w6 w.heap.size (.slice (some ⟨g', 0, none⟩) 4 cap') [[112, 117, 116], a.table, Names.txt a.key, Names.txt a.value] ∧ w.grownBy w6 none) := ⟨o3, grown_new (grown_trans HG.out H4.out.2.2) g3 (fun x hx => (World.ownsRow.lt H4.out.1 x hx).1)⟩
  clear o3 g3 l3 H4
  obtain ⟨v6, hv6⟩ : ∃ v, v = Value.slice (some ⟨g', 0, none⟩) 4 cap' := ⟨_, rfl⟩
  go_wp2_with fail
  rw [← hv6] at H6
  rw [show Value.slice (some ⟨g', 0, none⟩) 4 cap' = v6 from hv6.symm]
  have HV : Hid (SRow w6 w.heap.size v6 [[112, 117, 116], a.table, Names.txt a.key, Names.txt a.value] ∧ w.grownBy w6 none) := H6
  go_wp2_with (go_at_call 40; refine (join40 _ [[112, 117, 116], a.table, Names.txt a.key, Names.txt a.value] [32] w.heap.size _ HV.out.1 (by simp) (by have := HL.out; have := HL2.out; simp [Lib.join, List.intercalate]; omega)).mono ?_)
  rintro e w7 ⟨rfl, hg7⟩
  have H7 : Hid (w.grownBy w7 none) := grown_trans HV.out.2 hg7
  clear hg7
  unfold Str
  go_wp2_with fail
  go_ret
  exact ⟨by rw [HF.out]; rfl, H7.out⟩
end Go.Proofs.YtfocmbnhkldnfaaGreatDoor
/-
  The text of an op that may be.
-/
namespace Go.Proofs.YtfocmbnhkldnfaaGreatDoor
open Go.RowKit Disk
open Names (Str)

set_option maxRecDepth 100000 in
set_option maxHeartbeats 40000000 in
theorem optext39_3 (k v ol t : Value) (a : POp) (w : World) (ha : OpSeg w k v ol t a) (hk : a.kind = 3) (hm : mayOp a = true) (hkw : KW w) :
    Calls Tryz.prog 39 #[opV k v ol t a] w fun e w' => e = .returned (Str (opTxt a)) ∧ w.grownBy w' none := by
  obtain ⟨a1, a2, a3, a4, b1, b2, b3, b4, rfl, rfl, rfl, rfl⟩ := ha.shapes
  have HM : Hid (May a) := may_of hm
  have HF : Hid (opTxt a = Lib.join [[100, 101, 108, 101, 116, 101], a.table, Names.txt a.key] [32]) := by
    unfold opTxt opWords tailWords kindWord
    rw [hk]
    rfl
  obtain ⟨ms, hms⟩ : ∃ n, n = a.most := ⟨_, rfl⟩
  obtain ⟨F, hF⟩ : ∃ F, F = opTxt a := ⟨_, rfl⟩
  rw [← hF] at HF ⊢
  have HS : Hid (ms = a.most) := hms
  have HA : Hid (OpSeg w (.slice a1 a.key.length b1) (.slice a2 a.value.length b2) (.slice a3 a.old.length b3) (.slice a4 a.to.length b4) a) := ha
  have HX : Hid (Value.agg #[.int .i64 3, .string ⟨a.table.toArray⟩, .slice a1 a.key.length b1, .slice a2 a.value.length b2, .bool a.has, .slice a3 a.old.length b3, .slice a4 a.to.length b4, .int .i64 ms] = opV (.slice a1 a.key.length b1) (.slice a2 a.value.length b2) (.slice a3 a.old.length b3) (.slice a4 a.to.length b4) a) := by rw [hms, ← hk]; rfl
  rw [← HX.out]
  obtain ⟨W1, hW1⟩ : ∃ x, x = w.alloc (.cells #[.int .i64 3, .string ⟨a.table.toArray⟩, .slice a1 a.key.length b1, .slice a2 a.value.length b2, .bool a.has, .slice a3 a.old.length b3, .slice a4 a.to.length b4, .int .i64 ms] 71) := ⟨_, rfl⟩
  have HG : Hid (w.grownBy W1 none) := by rw [hW1]; exact World.grownBy_alloc _ _ none
  have HC : Hid (∀ x : World, W1.grownBy x none → x.cell? ⟨w.heap.size, 0, none⟩ = some (.int .i64 3) ∧ x.cell? ⟨w.heap.size, 1, none⟩ = some (.string ⟨a.table.toArray⟩) ∧ x.cell? ⟨w.heap.size, 2, none⟩ = some (.slice a1 a.key.length b1) ∧ x.cell? ⟨w.heap.size, 3, none⟩ = some (.slice a2 a.value.length b2) ∧ x.cell? ⟨w.heap.size, 4, none⟩ = some (.bool a.has) ∧ x.cell? ⟨w.heap.size, 5, none⟩ = some (.slice a3 a.old.length b3) ∧ x.cell? ⟨w.heap.size, 6, none⟩ = some (.slice a4 a.to.length b4) ∧ x.cell? ⟨w.heap.size, 7, none⟩ = some (.int .i64 ms) ∧ x.cell? ⟨0, 3, none⟩ = some (.string ⟨#[100, 101, 108, 101, 116, 101]⟩)) := by
    intro x hx
    have hb := heap_alloc_new w (.cells #[.int .i64 3, .string ⟨a.table.toArray⟩, .slice a1 a.key.length b1, .slice a2 a.value.length b2, .bool a.has, .slice a3 a.old.length b3, .slice a4 a.to.length b4, .int .i64 ms] 71)
    rw [← hW1] at hb
    have hkx := (hkw.grown HG.out).grown hx
    refine ⟨grown_fun hx ?_, grown_fun hx ?_, grown_fun hx ?_, grown_fun hx ?_, grown_fun hx ?_, grown_fun hx ?_, grown_fun hx ?_, grown_fun hx ?_, hkx.2.2.2.1⟩ <;> (rw [cell_of_row _ _ _ _ _ _ hb]; rfl)
  have HL : Hid ((Names.txt a.key).length ≤ 800 ∧ (Names.txt a.value).length ≤ 800 ∧ (Names.txt a.old).length ≤ 800 ∧ (Names.txt a.to).length ≤ 800 ∧ a.table.length ≤ 16) := by
    have := Names.txt_len a.key; have := Names.txt_len a.value; have := Names.txt_len a.old; have := Names.txt_len a.to
    have := HM.out.key; have := HM.out.value; have := HM.out.old; have := HM.out.to; have := tab_len HM.out.tab
    unfold Hid; omega
  clear ha hm hms hk hF hkw
  go_enter Tryz.func39, Tryz.ntmps39
  go_wp2_with fail
  rw [← hW1]
  have HE1 : Hid (W1 = _) := hW1
  clear hW1
  refine wp_region_noPanic ?_
  refine wp_region_hold 1000 (fun x => W1.grownBy x none) (by kernel_rfl) ?_
  refine wpHold_take (i := 0) (v := _) (grown_drew _ _) rfl rfl (by kernel_rfl) (by kernel_rfl) (by kernel_rfl) (by kernel_rfl) (by kernel_rfl) (fun _ _ _ h => h) (by rfl) (fun wk hk => by obtain ⟨q0, q1, q2, q3, q4, q5, q6, q7, q8⟩ := HC.out wk hk; go_simp; try rfl) ?_
  try simp only [Act.put, List.setIfInBounds_toArray, List.set_cons_zero, List.set_cons_succ]
  refine wpHold_take (i := 1) (v := _) (grown_drew _ _) rfl rfl (by kernel_rfl) (by kernel_rfl) (by kernel_rfl) (by kernel_rfl) (by kernel_rfl) (fun _ _ _ h => h) (by rfl) (fun wk hk => by obtain ⟨q0, q1, q2, q3, q4, q5, q6, q7, q8⟩ := HC.out wk hk; go_simp; try rfl) ?_
  try simp only [Act.put, List.setIfInBounds_toArray, List.set_cons_zero, List.set_cons_succ]
  refine wpHold_take (i := 2) (v := _) (grown_drew _ _) rfl rfl (by kernel_rfl) (by kernel_rfl) (by kernel_rfl) (by kernel_rfl) (by kernel_rfl) (fun _ _ _ h => h) (by rfl) (fun wk hk => by obtain ⟨q0, q1, q2, q3, q4, q5, q6, q7, q8⟩ := HC.out wk hk; go_simp; try rfl) ?_
  try simp only [Act.put, List.setIfInBounds_toArray, List.set_cons_zero, List.set_cons_succ]
  refine wpHold_take (i := 3) (v := _) (grown_drew _ _) rfl rfl (by kernel_rfl) (by kernel_rfl) (by kernel_rfl) (by kernel_rfl) (by kernel_rfl) (fun _ _ _ h => h) (by rfl) (fun wk hk => by obtain ⟨q0, q1, q2, q3, q4, q5, q6, q7, q8⟩ := HC.out wk hk; go_simp; try rfl) ?_
  try simp only [Act.put, List.setIfInBounds_toArray, List.set_cons_zero, List.set_cons_succ]
  refine wpHold_take (i := 4) (v := _) (grown_drew _ _) rfl rfl (by kernel_rfl) (by kernel_rfl) (by kernel_rfl) (by kernel_rfl) (by kernel_rfl) (fun _ _ _ h => h) (by rfl) (fun wk hk => by obtain ⟨q0, q1, q2, q3, q4, q5, q6, q7, q8⟩ := HC.out wk hk; go_simp; try rfl) ?_
  try simp only [Act.put, List.setIfInBounds_toArray, List.set_cons_zero, List.set_cons_succ]
  refine wpHold_take (i := 5) (v := _) (grown_drew _ _) rfl rfl (by kernel_rfl) (by kernel_rfl) (by kernel_rfl) (by kernel_rfl) (by kernel_rfl) (fun _ _ _ h => h) (by rfl) (fun wk hk => by obtain ⟨q0, q1, q2, q3, q4, q5, q6, q7, q8⟩ := HC.out wk hk; go_simp; try rfl) ?_
  try simp only [Act.put, List.setIfInBounds_toArray, List.set_cons_zero, List.set_cons_succ]
  refine wpHold_take (i := 6) (v := _) (grown_drew _ _) rfl rfl (by kernel_rfl) (by kernel_rfl) (by kernel_rfl) (by kernel_rfl) (by kernel_rfl) (fun _ _ _ h => h) (by rfl) (fun wk hk => by obtain ⟨q0, q1, q2, q3, q4, q5, q6, q7, q8⟩ := HC.out wk hk; go_simp; try rfl) ?_
  try simp only [Act.put, List.setIfInBounds_toArray, List.set_cons_zero, List.set_cons_succ]
  refine wpHold_take (i := 7) (v := _) (grown_drew _ _) rfl rfl (by kernel_rfl) (by kernel_rfl) (by kernel_rfl) (by kernel_rfl) (by kernel_rfl) (fun _ _ _ h => h) (by rfl) (fun wk hk => by obtain ⟨q0, q1, q2, q3, q4, q5, q6, q7, q8⟩ := HC.out wk hk; go_simp; try rfl) ?_
  try simp only [Act.put, List.setIfInBounds_toArray, List.set_cons_zero, List.set_cons_succ]
  refine wpHold_one (i := 8) rfl (by kernel_rfl) (by rfl) (fun K hK => ?_)
  go_wp2_with (go_at_call 77; refine (Names.text15 _ a.key _ (HA.out.key.grown (grown_trans HG.out (grown_drew _ _))) (by have := HM.out.key; omega)).mono ?_)
  rintro e w2 ⟨rfl, hg2⟩
  have H2 : Hid (W1.grownBy w2 none) := grown_trans (grown_drew _ _) hg2
  clear hg2
  unfold Str
  go_wp2_with fail
  refine hK.out _ _ (fun _ => H2.out) ?_
  clear hK K
  try simp only [Act.put, List.setIfInBounds_toArray, List.set_cons_zero, List.set_cons_succ]
  refine wpHold_one (i := 9) rfl (by kernel_rfl) (by rfl) (fun K hK => ?_)
  go_wp2_with fail
  refine hK.out _ _ (fun _ => grown_trans H2.out (World.grownBy_alloc _ _ none)) ?_
  clear hK K
  try simp only [Act.put, List.setIfInBounds_toArray, List.set_cons_zero, List.set_cons_succ]
  refine wpHold_take (i := 10) (v := _) (grown_trans H2.out (World.grownBy_alloc _ _ none)) rfl rfl (by kernel_rfl) (by kernel_rfl) (by kernel_rfl) (by kernel_rfl) (by kernel_rfl) (fun _ _ _ h => h) (by rfl) (fun wk hk => by obtain ⟨q0, q1, q2, q3, q4, q5, q6, q7, q8⟩ := HC.out wk hk; go_simp; try rfl) ?_
  try simp only [Act.put, List.setIfInBounds_toArray, List.set_cons_zero, List.set_cons_succ]
  refine wpHold_done (by kernel_rfl) ?_
  refine (‹∀ (a : Act) (w : World), Code.wp Tryz.prog _ _ a w → _› _ _ ?_)
  have H3 : Hid (SRow (w2.alloc (.cells #[.string ⟨#[100, 101, 108, 101, 116, 101]⟩, .string ⟨a.table.toArray⟩, .string ⟨(Names.txt a.key).toArray⟩] 9)) w.heap.size (.slice (some ⟨w2.heap.size, 0, none⟩) 3 3) [[100, 101, 108, 101, 116, 101], a.table, Names.txt a.key] ∧ W1.grownBy (w2.alloc (.cells #[.string ⟨#[100, 101, 108, 101, 116, 101]⟩, .string ⟨a.table.toArray⟩, .string ⟨(Names.txt a.key).toArray⟩] 9)) none) := ⟨srow_lit w2 [[100, 101, 108, 101, 116, 101], a.table, Names.txt a.key] w.heap.size 3 rfl (Nat.le_trans HG.out.size H2.out.size) (by decide), grown_trans H2.out (World.grownBy_alloc _ _ none)⟩
  obtain ⟨p0, p1, p2, p3, p4, p5, p6, p7, p8⟩ := HC.out _ H3.out.2
  generalize (w2.alloc (.cells #[.string ⟨#[100, 101, 108, 101, 116, 101]⟩, .string ⟨a.table.toArray⟩, .string ⟨(Names.txt a.key).toArray⟩] 9)) = w3 at H3 p0 p1 p2 p3 p4 p5 p6 p7 p8 ⊢
  go_wp2_with (go_at_call 40; refine (join40 _ [[100, 101, 108, 101, 116, 101], a.table, Names.txt a.key] [32] w.heap.size _ H3.out.1 (by simp) (by have := HL.out; simp [Lib.join, List.intercalate]; omega)).mono ?_)
  rintro e w4 ⟨rfl, hg4⟩
  have H4 : Hid (w.grownBy w4 none) := grown_trans (grown_trans HG.out H3.out.2) hg4
  clear hg4
  unfold Str
  go_wp2_with fail
  go_ret
  exact ⟨by rw [HF.out]; rfl, H4.out⟩
end Go.Proofs.YtfocmbnhkldnfaaGreatDoor
/-
  The text of an op that may be.
-/
namespace Go.Proofs.YtfocmbnhkldnfaaGreatDoor
open Go.RowKit Disk
open Names (Str)

theorem dec_all : ((List.range 65).all fun n => decide ((Lib.decDigits n).length ≤ 10)) = true := by kernel_rfl
theorem dec_len (n : Nat) (h : n ≤ 64) : (Lib.decDigits n).length ≤ 10 := of_decide_eq_true (List.all_eq_true.1 dec_all n (List.mem_range.2 (by omega)))
theorem itoa79 (x : Int) (w : World) (h0 : 0 ≤ x) (h1 : x < 100) : Calls Tryz.prog 79 #[.int .i64 x] w fun e w' => e = .returned (.string ⟨(Lib.decDigits x.toNat).toArray⟩) ∧ w' = w := by
  obtain ⟨n, rfl⟩ := Int.eq_ofNat_of_zero_le h0
  have := Tryz.strconv_Itoa_small n (by omega) w
  simpa using this

theorem old78_of (x k v ol t : Value) (a : POp) (w : World) (hx : x = opV k v ol t a) (ha : OpSeg w k v ol t a) (hl : a.old.length ≤ 256) :
    Calls Tryz.prog 78 #[x] w fun e w' => e = .returned (Str (oldW a)) ∧ w.grownBy w' none := by subst hx; exact old78 k v ol t a w ha hl

set_option maxRecDepth 100000 in
set_option maxHeartbeats 40000000 in
theorem optext39_1 (k v ol t : Value) (a : POp) (w : World) (ha : OpSeg w k v ol t a) (hk : a.kind = 1) (hm : mayOp a = true) (hkw : KW w) :
    Calls Tryz.prog 39 #[opV k v ol t a] w fun e w' => e = .returned (Str (opTxt a)) ∧ w.grownBy w' none := by
  obtain ⟨a1, a2, a3, a4, b1, b2, b3, b4, rfl, rfl, rfl, rfl⟩ := ha.shapes
  have HM : Hid (May a) := may_of hm
  have HF : Hid (opTxt a = Lib.join [[103, 101, 116], a.table, Names.txt a.key] [32]) := by
    unfold opTxt opWords tailWords kindWord
    rw [hk]
    rfl
  obtain ⟨ms, hms⟩ : ∃ n, n = a.most := ⟨_, rfl⟩
  obtain ⟨F, hF⟩ : ∃ F, F = opTxt a := ⟨_, rfl⟩
  rw [← hF] at HF ⊢
  have HS : Hid (ms = a.most) := hms
  have HA : Hid (OpSeg w (.slice a1 a.key.length b1) (.slice a2 a.value.length b2) (.slice a3 a.old.length b3) (.slice a4 a.to.length b4) a) := ha
  have HX : Hid (Value.agg #[.int .i64 1, .string ⟨a.table.toArray⟩, .slice a1 a.key.length b1, .slice a2 a.value.length b2, .bool a.has, .slice a3 a.old.length b3, .slice a4 a.to.length b4, .int .i64 ms] = opV (.slice a1 a.key.length b1) (.slice a2 a.value.length b2) (.slice a3 a.old.length b3) (.slice a4 a.to.length b4) a) := by rw [hms, ← hk]; rfl
  rw [← HX.out]
  obtain ⟨W1, hW1⟩ : ∃ x, x = w.alloc (.cells #[.int .i64 1, .string ⟨a.table.toArray⟩, .slice a1 a.key.length b1, .slice a2 a.value.length b2, .bool a.has, .slice a3 a.old.length b3, .slice a4 a.to.length b4, .int .i64 ms] 71) := ⟨_, rfl⟩
  have HG : Hid (w.grownBy W1 none) := by rw [hW1]; exact World.grownBy_alloc _ _ none
  have HC : Hid (∀ x : World, W1.grownBy x none → x.cell? ⟨w.heap.size, 0, none⟩ = some (.int .i64 1) ∧ x.cell? ⟨w.heap.size, 1, none⟩ = some (.string ⟨a.table.toArray⟩) ∧ x.cell? ⟨w.heap.size, 2, none⟩ = some (.slice a1 a.key.length b1) ∧ x.cell? ⟨w.heap.size, 3, none⟩ = some (.slice a2 a.value.length b2) ∧ x.cell? ⟨w.heap.size, 4, none⟩ = some (.bool a.has) ∧ x.cell? ⟨w.heap.size, 5, none⟩ = some (.slice a3 a.old.length b3) ∧ x.cell? ⟨w.heap.size, 6, none⟩ = some (.slice a4 a.to.length b4) ∧ x.cell? ⟨w.heap.size, 7, none⟩ = some (.int .i64 ms) ∧ x.cell? ⟨0, 1, none⟩ = some (.string ⟨#[103, 101, 116]⟩)) := by
    intro x hx
    have hb := heap_alloc_new w (.cells #[.int .i64 1, .string ⟨a.table.toArray⟩, .slice a1 a.key.length b1, .slice a2 a.value.length b2, .bool a.has, .slice a3 a.old.length b3, .slice a4 a.to.length b4, .int .i64 ms] 71)
    rw [← hW1] at hb
    have hkx := (hkw.grown HG.out).grown hx
    refine ⟨grown_fun hx ?_, grown_fun hx ?_, grown_fun hx ?_, grown_fun hx ?_, grown_fun hx ?_, grown_fun hx ?_, grown_fun hx ?_, grown_fun hx ?_, hkx.2.1⟩ <;> (rw [cell_of_row _ _ _ _ _ _ hb]; rfl)
  have HL : Hid ((Names.txt a.key).length ≤ 800 ∧ (Names.txt a.value).length ≤ 800 ∧ (Names.txt a.old).length ≤ 800 ∧ (Names.txt a.to).length ≤ 800 ∧ a.table.length ≤ 16) := by
    have := Names.txt_len a.key; have := Names.txt_len a.value; have := Names.txt_len a.old; have := Names.txt_len a.to
    have := HM.out.key; have := HM.out.value; have := HM.out.old; have := HM.out.to; have := tab_len HM.out.tab
    unfold Hid; omega
  clear ha hm hms hk hF hkw
  go_enter Tryz.func39, Tryz.ntmps39
  go_wp2_with fail
  rw [← hW1]
  have HE1 : Hid (W1 = _) := hW1
  clear hW1
  refine wp_region_noPanic ?_
  refine wp_region_hold 1000 (fun x => W1.grownBy x none) (by kernel_rfl) ?_
  refine wpHold_take (i := 0) (v := _) (grown_drew _ _) rfl rfl (by kernel_rfl) (by kernel_rfl) (by kernel_rfl) (by kernel_rfl) (by kernel_rfl) (fun _ _ _ h => h) (by rfl) (fun wk hk => by obtain ⟨q0, q1, q2, q3, q4, q5, q6, q7, q8⟩ := HC.out wk hk; go_simp; try rfl) ?_
  try simp only [Act.put, List.setIfInBounds_toArray, List.set_cons_zero, List.set_cons_succ]
  refine wpHold_take (i := 1) (v := _) (grown_drew _ _) rfl rfl (by kernel_rfl) (by kernel_rfl) (by kernel_rfl) (by kernel_rfl) (by kernel_rfl) (fun _ _ _ h => h) (by rfl) (fun wk hk => by obtain ⟨q0, q1, q2, q3, q4, q5, q6, q7, q8⟩ := HC.out wk hk; go_simp; try rfl) ?_
  try simp only [Act.put, List.setIfInBounds_toArray, List.set_cons_zero, List.set_cons_succ]
  refine wpHold_take (i := 2) (v := _) (grown_drew _ _) rfl rfl (by kernel_rfl) (by kernel_rfl) (by kernel_rfl) (by kernel_rfl) (by kernel_rfl) (fun _ _ _ h => h) (by rfl) (fun wk hk => by obtain ⟨q0, q1, q2, q3, q4, q5, q6, q7, q8⟩ := HC.out wk hk; go_simp; try rfl) ?_
  try simp only [Act.put, List.setIfInBounds_toArray, List.set_cons_zero, List.set_cons_succ]
  refine wpHold_take (i := 3) (v := _) (grown_drew _ _) rfl rfl (by kernel_rfl) (by kernel_rfl) (by kernel_rfl) (by kernel_rfl) (by kernel_rfl) (fun _ _ _ h => h) (by rfl) (fun wk hk => by obtain ⟨q0, q1, q2, q3, q4, q5, q6, q7, q8⟩ := HC.out wk hk; go_simp; try rfl) ?_
  try simp only [Act.put, List.setIfInBounds_toArray, List.set_cons_zero, List.set_cons_succ]
  refine wpHold_take (i := 4) (v := _) (grown_drew _ _) rfl rfl (by kernel_rfl) (by kernel_rfl) (by kernel_rfl) (by kernel_rfl) (by kernel_rfl) (fun _ _ _ h => h) (by rfl) (fun wk hk => by obtain ⟨q0, q1, q2, q3, q4, q5, q6, q7, q8⟩ := HC.out wk hk; go_simp; try rfl) ?_
  try simp only [Act.put, List.setIfInBounds_toArray, List.set_cons_zero, List.set_cons_succ]
  refine wpHold_take (i := 5) (v := _) (grown_drew _ _) rfl rfl (by kernel_rfl) (by kernel_rfl) (by kernel_rfl) (by kernel_rfl) (by kernel_rfl) (fun _ _ _ h => h) (by rfl) (fun wk hk => by obtain ⟨q0, q1, q2, q3, q4, q5, q6, q7, q8⟩ := HC.out wk hk; go_simp; try rfl) ?_
  try simp only [Act.put, List.setIfInBounds_toArray, List.set_cons_zero, List.set_cons_succ]
  refine wpHold_take (i := 6) (v := _) (grown_drew _ _) rfl rfl (by kernel_rfl) (by kernel_rfl) (by kernel_rfl) (by kernel_rfl) (by kernel_rfl) (fun _ _ _ h => h) (by rfl) (fun wk hk => by obtain ⟨q0, q1, q2, q3, q4, q5, q6, q7, q8⟩ := HC.out wk hk; go_simp; try rfl) ?_
  try simp only [Act.put, List.setIfInBounds_toArray, List.set_cons_zero, List.set_cons_succ]
  refine wpHold_take (i := 7) (v := _) (grown_drew _ _) rfl rfl (by kernel_rfl) (by kernel_rfl) (by kernel_rfl) (by kernel_rfl) (by kernel_rfl) (fun _ _ _ h => h) (by rfl) (fun wk hk => by obtain ⟨q0, q1, q2, q3, q4, q5, q6, q7, q8⟩ := HC.out wk hk; go_simp; try rfl) ?_
  try simp only [Act.put, List.setIfInBounds_toArray, List.set_cons_zero, List.set_cons_succ]
  refine wpHold_one (i := 8) rfl (by kernel_rfl) (by rfl) (fun K hK => ?_)
  go_wp2_with (go_at_call 77; refine (Names.text15 _ a.key _ (HA.out.key.grown (grown_trans HG.out (grown_drew _ _))) (by have := HM.out.key; omega)).mono ?_)
  rintro e w2 ⟨rfl, hg2⟩
  have H2 : Hid (W1.grownBy w2 none) := grown_trans (grown_drew _ _) hg2
  clear hg2
  unfold Str
  go_wp2_with fail
  refine hK.out _ _ (fun _ => H2.out) ?_
  clear hK K
  try simp only [Act.put, List.setIfInBounds_toArray, List.set_cons_zero, List.set_cons_succ]
  refine wpHold_one (i := 9) rfl (by kernel_rfl) (by rfl) (fun K hK => ?_)
  go_wp2_with fail
  refine hK.out _ _ (fun _ => grown_trans H2.out (World.grownBy_alloc _ _ none)) ?_
  clear hK K
  try simp only [Act.put, List.setIfInBounds_toArray, List.set_cons_zero, List.set_cons_succ]
  refine wpHold_take (i := 10) (v := _) (grown_trans H2.out (World.grownBy_alloc _ _ none)) rfl rfl (by kernel_rfl) (by kernel_rfl) (by kernel_rfl) (by kernel_rfl) (by kernel_rfl) (fun _ _ _ h => h) (by rfl) (fun wk hk => by obtain ⟨q0, q1, q2, q3, q4, q5, q6, q7, q8⟩ := HC.out wk hk; go_simp; try rfl) ?_
  try simp only [Act.put, List.setIfInBounds_toArray, List.set_cons_zero, List.set_cons_succ]
  refine wpHold_done (by kernel_rfl) ?_
  refine (‹∀ (a : Act) (w : World), Code.wp Tryz.prog _ _ a w → _› _ _ ?_)
  have H3 : Hid (SRow (w2.alloc (.cells #[.string ⟨#[103, 101, 116]⟩, .string ⟨a.table.toArray⟩, .string ⟨(Names.txt a.key).toArray⟩] 9)) w.heap.size (.slice (some ⟨w2.heap.size, 0, none⟩) 3 3) [[103, 101, 116], a.table, Names.txt a.key] ∧ W1.grownBy (w2.alloc (.cells #[.string ⟨#[103, 101, 116]⟩, .string ⟨a.table.toArray⟩, .string ⟨(Names.txt a.key).toArray⟩] 9)) none) := ⟨srow_lit w2 [[103, 101, 116], a.table, Names.txt a.key] w.heap.size 3 rfl (Nat.le_trans HG.out.size H2.out.size) (by decide), grown_trans H2.out (World.grownBy_alloc _ _ none)⟩
  obtain ⟨p0, p1, p2, p3, p4, p5, p6, p7, p8⟩ := HC.out _ H3.out.2
  generalize (w2.alloc (.cells #[.string ⟨#[103, 101, 116]⟩, .string ⟨a.table.toArray⟩, .string ⟨(Names.txt a.key).toArray⟩] 9)) = w3 at H3 p0 p1 p2 p3 p4 p5 p6 p7 p8 ⊢
  go_wp2_with (go_at_call 40; refine (join40 _ [[103, 101, 116], a.table, Names.txt a.key] [32] w.heap.size _ H3.out.1 (by simp) (by have := HL.out; simp [Lib.join, List.intercalate]; omega)).mono ?_)
  rintro e w4 ⟨rfl, hg4⟩
  have H4 : Hid (w.grownBy w4 none) := grown_trans (grown_trans HG.out H3.out.2) hg4
  clear hg4
  unfold Str
  go_wp2_with fail
  go_ret
  exact ⟨by rw [HF.out]; rfl, H4.out⟩
end Go.Proofs.YtfocmbnhkldnfaaGreatDoor
/-
  The text of an op that may be.
-/
namespace Go.Proofs.YtfocmbnhkldnfaaGreatDoor
open Go.RowKit Disk
open Names (Str)

set_option maxRecDepth 100000 in
set_option maxHeartbeats 40000000 in
theorem optext39_4 (k v ol t : Value) (a : POp) (w : World) (ha : OpSeg w k v ol t a) (hk : a.kind = 4) (hm : mayOp a = true) (hkw : KW w) :
    Calls Tryz.prog 39 #[opV k v ol t a] w fun e w' => e = .returned (Str (opTxt a)) ∧ w.grownBy w' none := by
  obtain ⟨a1, a2, a3, a4, b1, b2, b3, b4, rfl, rfl, rfl, rfl⟩ := ha.shapes
  have HM : Hid (May a) := may_of hm
  have HF : Hid (opTxt a = Lib.join [[115, 119, 97, 112], a.table, Names.txt a.key, oldW a, Names.txt a.value] [32]) := by
    unfold opTxt opWords tailWords kindWord
    rw [hk]
    rfl
  obtain ⟨ms, hms⟩ : ∃ n, n = a.most := ⟨_, rfl⟩
  obtain ⟨F, hF⟩ : ∃ F, F = opTxt a := ⟨_, rfl⟩
  rw [← hF] at HF ⊢
  have HS : Hid (ms = a.most) := hms
  have HA : Hid (OpSeg w (.slice a1 a.key.length b1) (.slice a2 a.value.length b2) (.slice a3 a.old.length b3) (.slice a4 a.to.length b4) a) := ha
  have HX : Hid (Value.agg #[.int .i64 4, .string ⟨a.table.toArray⟩, .slice a1 a.key.length b1, .slice a2 a.value.length b2, .bool a.has, .slice a3 a.old.length b3, .slice a4 a.to.length b4, .int .i64 ms] = opV (.slice a1 a.key.length b1) (.slice a2 a.value.length b2) (.slice a3 a.old.length b3) (.slice a4 a.to.length b4) a) := by rw [hms, ← hk]; rfl
  rw [← HX.out]
  obtain ⟨W1, hW1⟩ : ∃ x, x = w.alloc (.cells #[.int .i64 4, .string ⟨a.table.toArray⟩, .slice a1 a.key.length b1, .slice a2 a.value.length b2, .bool a.has, .slice a3 a.old.length b3, .slice a4 a.to.length b4, .int .i64 ms] 71) := ⟨_, rfl⟩
  have HG : Hid (w.grownBy W1 none) := by rw [hW1]; exact World.grownBy_alloc _ _ none
  have HC : Hid (∀ x : World, W1.grownBy x none → x.cell? ⟨w.heap.size, 0, none⟩ = some (.int .i64 4) ∧ x.cell? ⟨w.heap.size, 1, none⟩ = some (.string ⟨a.table.toArray⟩) ∧ x.cell? ⟨w.heap.size, 2, none⟩ = some (.slice a1 a.key.length b1) ∧ x.cell? ⟨w.heap.size, 3, none⟩ = some (.slice a2 a.value.length b2) ∧ x.cell? ⟨w.heap.size, 4, none⟩ = some (.bool a.has) ∧ x.cell? ⟨w.heap.size, 5, none⟩ = some (.slice a3 a.old.length b3) ∧ x.cell? ⟨w.heap.size, 6, none⟩ = some (.slice a4 a.to.length b4) ∧ x.cell? ⟨w.heap.size, 7, none⟩ = some (.int .i64 ms) ∧ x.cell? ⟨0, 4, none⟩ = some (.string ⟨#[115, 119, 97, 112]⟩)) := by
    intro x hx
    have hb := heap_alloc_new w (.cells #[.int .i64 4, .string ⟨a.table.toArray⟩, .slice a1 a.key.length b1, .slice a2 a.value.length b2, .bool a.has, .slice a3 a.old.length b3, .slice a4 a.to.length b4, .int .i64 ms] 71)
    rw [← hW1] at hb
    have hkx := (hkw.grown HG.out).grown hx
    refine ⟨grown_fun hx ?_, grown_fun hx ?_, grown_fun hx ?_, grown_fun hx ?_, grown_fun hx ?_, grown_fun hx ?_, grown_fun hx ?_, grown_fun hx ?_, hkx.2.2.2.2.1⟩ <;> (rw [cell_of_row _ _ _ _ _ _ hb]; rfl)
  have HC3 : Hid (∀ x : World, w.grownBy x none → x.heap[w.heap.size]? = W1.heap[w.heap.size]? → x.cell? ⟨w.heap.size, 0, none⟩ = some (.int .i64 4) ∧ x.cell? ⟨w.heap.size, 1, none⟩ = some (.string ⟨a.table.toArray⟩) ∧ x.cell? ⟨w.heap.size, 2, none⟩ = some (.slice a1 a.key.length b1) ∧ x.cell? ⟨w.heap.size, 3, none⟩ = some (.slice a2 a.value.length b2) ∧ x.cell? ⟨w.heap.size, 4, none⟩ = some (.bool a.has) ∧ x.cell? ⟨w.heap.size, 5, none⟩ = some (.slice a3 a.old.length b3) ∧ x.cell? ⟨w.heap.size, 6, none⟩ = some (.slice a4 a.to.length b4) ∧ x.cell? ⟨w.heap.size, 7, none⟩ = some (.int .i64 ms) ∧ x.cell? ⟨0, 4, none⟩ = some (.string ⟨#[115, 119, 97, 112]⟩)) := by
    intro x hx he
    have hb := heap_alloc_new w (.cells #[.int .i64 4, .string ⟨a.table.toArray⟩, .slice a1 a.key.length b1, .slice a2 a.value.length b2, .bool a.has, .slice a3 a.old.length b3, .slice a4 a.to.length b4, .int .i64 ms] 71)
    rw [← hW1, ← he] at hb
    have hkx := hkw.grown hx
    refine ⟨?_, ?_, ?_, ?_, ?_, ?_, ?_, ?_, hkx.2.2.2.2.1⟩ <;> (rw [cell_of_row _ _ _ _ _ _ hb]; rfl)
  have HL : Hid ((Names.txt a.key).length ≤ 800 ∧ (Names.txt a.value).length ≤ 800 ∧ (Names.txt a.old).length ≤ 800 ∧ (Names.txt a.to).length ≤ 800 ∧ a.table.length ≤ 16) := by
    have := Names.txt_len a.key; have := Names.txt_len a.value; have := Names.txt_len a.old; have := Names.txt_len a.to
    have := HM.out.key; have := HM.out.value; have := HM.out.old; have := HM.out.to; have := tab_len HM.out.tab
    unfold Hid; omega
  clear ha hm hms hk hF hkw
  go_enter Tryz.func39, Tryz.ntmps39
  go_wp2_with fail
  rw [← hW1]
  have HE1 : Hid (W1 = _) := hW1
  clear hW1
  refine wp_region_noPanic ?_
  refine wp_region_hold 1000 (fun x => W1.grownBy x none) (by kernel_rfl) ?_
  refine wpHold_take (i := 0) (v := _) (grown_drew _ _) rfl rfl (by kernel_rfl) (by kernel_rfl) (by kernel_rfl) (by kernel_rfl) (by kernel_rfl) (fun _ _ _ h => h) (by rfl) (fun wk hk => by obtain ⟨q0, q1, q2, q3, q4, q5, q6, q7, q8⟩ := HC.out wk hk; go_simp; try rfl) ?_
  try simp only [Act.put, List.setIfInBounds_toArray, List.set_cons_zero, List.set_cons_succ]
  refine wpHold_take (i := 1) (v := _) (grown_drew _ _) rfl rfl (by kernel_rfl) (by kernel_rfl) (by kernel_rfl) (by kernel_rfl) (by kernel_rfl) (fun _ _ _ h => h) (by rfl) (fun wk hk => by obtain ⟨q0, q1, q2, q3, q4, q5, q6, q7, q8⟩ := HC.out wk hk; go_simp; try rfl) ?_
  try simp only [Act.put, List.setIfInBounds_toArray, List.set_cons_zero, List.set_cons_succ]
  refine wpHold_take (i := 2) (v := _) (grown_drew _ _) rfl rfl (by kernel_rfl) (by kernel_rfl) (by kernel_rfl) (by kernel_rfl) (by kernel_rfl) (fun _ _ _ h => h) (by rfl) (fun wk hk => by obtain ⟨q0, q1, q2, q3, q4, q5, q6, q7, q8⟩ := HC.out wk hk; go_simp; try rfl) ?_
  try simp only [Act.put, List.setIfInBounds_toArray, List.set_cons_zero, List.set_cons_succ]
  refine wpHold_take (i := 3) (v := _) (grown_drew _ _) rfl rfl (by kernel_rfl) (by kernel_rfl) (by kernel_rfl) (by kernel_rfl) (by kernel_rfl) (fun _ _ _ h => h) (by rfl) (fun wk hk => by obtain ⟨q0, q1, q2, q3, q4, q5, q6, q7, q8⟩ := HC.out wk hk; go_simp; try rfl) ?_
  try simp only [Act.put, List.setIfInBounds_toArray, List.set_cons_zero, List.set_cons_succ]
  refine wpHold_take (i := 4) (v := _) (grown_drew _ _) rfl rfl (by kernel_rfl) (by kernel_rfl) (by kernel_rfl) (by kernel_rfl) (by kernel_rfl) (fun _ _ _ h => h) (by rfl) (fun wk hk => by obtain ⟨q0, q1, q2, q3, q4, q5, q6, q7, q8⟩ := HC.out wk hk; go_simp; try rfl) ?_
  try simp only [Act.put, List.setIfInBounds_toArray, List.set_cons_zero, List.set_cons_succ]
  refine wpHold_take (i := 5) (v := _) (grown_drew _ _) rfl rfl (by kernel_rfl) (by kernel_rfl) (by kernel_rfl) (by kernel_rfl) (by kernel_rfl) (fun _ _ _ h => h) (by rfl) (fun wk hk => by obtain ⟨q0, q1, q2, q3, q4, q5, q6, q7, q8⟩ := HC.out wk hk; go_simp; try rfl) ?_
  try simp only [Act.put, List.setIfInBounds_toArray, List.set_cons_zero, List.set_cons_succ]
  refine wpHold_take (i := 6) (v := _) (grown_drew _ _) rfl rfl (by kernel_rfl) (by kernel_rfl) (by kernel_rfl) (by kernel_rfl) (by kernel_rfl) (fun _ _ _ h => h) (by rfl) (fun wk hk => by obtain ⟨q0, q1, q2, q3, q4, q5, q6, q7, q8⟩ := HC.out wk hk; go_simp; try rfl) ?_
  try simp only [Act.put, List.setIfInBounds_toArray, List.set_cons_zero, List.set_cons_succ]
  refine wpHold_take (i := 7) (v := _) (grown_drew _ _) rfl rfl (by kernel_rfl) (by kernel_rfl) (by kernel_rfl) (by kernel_rfl) (by kernel_rfl) (fun _ _ _ h => h) (by rfl) (fun wk hk => by obtain ⟨q0, q1, q2, q3, q4, q5, q6, q7, q8⟩ := HC.out wk hk; go_simp; try rfl) ?_
  try simp only [Act.put, List.setIfInBounds_toArray, List.set_cons_zero, List.set_cons_succ]
  refine wpHold_one (i := 8) rfl (by kernel_rfl) (by rfl) (fun K hK => ?_)
  go_wp2_with (go_at_call 77; refine (Names.text15 _ a.key _ (HA.out.key.grown (grown_trans HG.out (grown_drew _ _))) (by have := HM.out.key; omega)).mono ?_)
  rintro e w2 ⟨rfl, hg2⟩
  have H2 : Hid (W1.grownBy w2 none) := grown_trans (grown_drew _ _) hg2
  clear hg2
  unfold Str
  go_wp2_with fail
  refine hK.out _ _ (fun _ => H2.out) ?_
  clear hK K
  try simp only [Act.put, List.setIfInBounds_toArray, List.set_cons_zero, List.set_cons_succ]
  refine wpHold_one (i := 9) rfl (by kernel_rfl) (by rfl) (fun K hK => ?_)
  go_wp2_with fail
  refine hK.out _ _ (fun _ => grown_trans H2.out (World.grownBy_alloc _ _ none)) ?_
  clear hK K
  try simp only [Act.put, List.setIfInBounds_toArray, List.set_cons_zero, List.set_cons_succ]
  refine wpHold_take (i := 10) (v := _) (grown_trans H2.out (World.grownBy_alloc _ _ none)) rfl rfl (by kernel_rfl) (by kernel_rfl) (by kernel_rfl) (by kernel_rfl) (by kernel_rfl) (fun _ _ _ h => h) (by rfl) (fun wk hk => by obtain ⟨q0, q1, q2, q3, q4, q5, q6, q7, q8⟩ := HC.out wk hk; go_simp; try rfl) ?_
  try simp only [Act.put, List.setIfInBounds_toArray, List.set_cons_zero, List.set_cons_succ]
  refine wpHold_done (by kernel_rfl) ?_
  refine (‹∀ (a : Act) (w : World), Code.wp Tryz.prog _ _ a w → _› _ _ ?_)
  have H3 : Hid (SRow (w2.alloc (.cells #[.string ⟨#[115, 119, 97, 112]⟩, .string ⟨a.table.toArray⟩, .string ⟨(Names.txt a.key).toArray⟩] 9)) w.heap.size (.slice (some ⟨w2.heap.size, 0, none⟩) 3 3) [[115, 119, 97, 112], a.table, Names.txt a.key] ∧ W1.grownBy (w2.alloc (.cells #[.string ⟨#[115, 119, 97, 112]⟩, .string ⟨a.table.toArray⟩, .string ⟨(Names.txt a.key).toArray⟩] 9)) none) := ⟨srow_lit w2 [[115, 119, 97, 112], a.table, Names.txt a.key] w.heap.size 3 rfl (Nat.le_trans HG.out.size H2.out.size) (by decide), grown_trans H2.out (World.grownBy_alloc _ _ none)⟩
  obtain ⟨p0, p1, p2, p3, p4, p5, p6, p7, p8⟩ := HC.out _ H3.out.2
  generalize (w2.alloc (.cells #[.string ⟨#[115, 119, 97, 112]⟩, .string ⟨a.table.toArray⟩, .string ⟨(Names.txt a.key).toArray⟩] 9)) = w3 at H3 p0 p1 p2 p3 p4 p5 p6 p7 p8 ⊢
  have HL2 : Hid ((oldW a).length ≤ 801) := by have := HL.out; unfold Hid oldW; split <;> simp <;> omega
  clear p1 p2 p3 p4 p5 p6 p7 p8
  have HC2 : Hid (∀ x : World, (w.grownBy x none ∧ x.heap[w.heap.size]? = W1.heap[w.heap.size]?) → _) := fun x hx => HC3.out x hx.1 hx.2
  have HH : Hid (∀ x : World, w3.grownBy x none → (w.grownBy x none ∧ x.heap[w.heap.size]? = W1.heap[w.heap.size]?)) := fun x hx => ⟨grown_trans (grown_trans HG.out H3.out.2) hx, (grown_trans H3.out.2 hx).block _ (by rw [HE1.out]; simp) (by simp)⟩
  go_wp2_with fail
  refine wp_region_noPanic ?_
  refine wp_region_hold 1000 (fun x => w.grownBy x none ∧ x.heap[w.heap.size]? = W1.heap[w.heap.size]?) (by kernel_rfl) ?_
  refine wpHold_take (i := 0) (v := _) (HH.out _ (grown_drew _ _)) rfl rfl (by kernel_rfl) (by kernel_rfl) (by kernel_rfl) (by kernel_rfl) (by kernel_rfl) (fun _ _ _ h => h) (by rfl) (fun wk hk => by obtain ⟨q0, q1, q2, q3, q4, q5, q6, q7, q8⟩ := HC2.out wk hk; clear hk; go_simp; try rfl) ?_
  try simp only [Act.put, List.setIfInBounds_toArray, List.set_cons_zero, List.set_cons_succ]
  refine wpHold_take (i := 1) (v := _) (HH.out _ (grown_drew _ _)) rfl rfl (by kernel_rfl) (by kernel_rfl) (by kernel_rfl) (by kernel_rfl) (by kernel_rfl) (fun _ _ _ h => h) (by rfl) (fun wk hk => by obtain ⟨q0, q1, q2, q3, q4, q5, q6, q7, q8⟩ := HC2.out wk hk; clear hk; go_simp; try rfl) ?_
  try simp only [Act.put, List.setIfInBounds_toArray, List.set_cons_zero, List.set_cons_succ]
  refine wpHold_take (i := 3) (v := _) (HH.out _ (grown_drew _ _)) rfl rfl (by kernel_rfl) (by kernel_rfl) (by kernel_rfl) (by kernel_rfl) (by kernel_rfl) (fun _ _ _ h => h) (by rfl) (fun wk hk => by obtain ⟨q0, q1, q2, q3, q4, q5, q6, q7, q8⟩ := HC2.out wk hk; clear hk; go_simp; try rfl) ?_
  try simp only [Act.put, List.setIfInBounds_toArray, List.set_cons_zero, List.set_cons_succ]
  refine wpHold_take (i := 4) (v := _) (HH.out _ (grown_drew _ _)) rfl rfl (by kernel_rfl) (by kernel_rfl) (by kernel_rfl) (by kernel_rfl) (by kernel_rfl) (fun _ _ _ h => h) (by rfl) (fun wk hk => by obtain ⟨q0, q1, q2, q3, q4, q5, q6, q7, q8⟩ := HC2.out wk hk; clear hk; go_simp; try rfl) ?_
  try simp only [Act.put, List.setIfInBounds_toArray, List.set_cons_zero, List.set_cons_succ]
  refine wpHold_one (i := 2) rfl (by kernel_rfl) (by rfl) (fun K hK => ?_)
  go_wp2_with (go_at_call 78; refine (old78_of _ _ _ _ _ a _ HX.out (HA.out.grown (grown_trans (grown_trans HG.out H3.out.2) (grown_drew _ _))) HM.out.old).mono ?_)
  rintro e w4 ⟨rfl, hg4⟩
  have H4 : Hid (w3.grownBy w4 none) := grown_trans (grown_drew _ _) hg4
  clear hg4
  unfold Str
  go_wp2_with fail
  refine hK.out _ _ (fun _ => HH.out _ H4.out) ?_
  clear hK K
  try simp only [Act.put, List.setIfInBounds_toArray, List.set_cons_zero, List.set_cons_succ]
  refine wpHold_one (i := 5) rfl (by kernel_rfl) (by rfl) (fun K hK => ?_)
  go_wp2_with (go_at_call 77; refine (Names.text15 _ a.value _ (HA.out.value.grown (grown_trans (grown_trans HG.out H3.out.2) H4.out)) (by have := HM.out.value; omega)).mono ?_)
  rintro e w5 ⟨rfl, hg5⟩
  have H5 : Hid (w3.grownBy w5 none) := grown_trans H4.out hg5
  clear hg5
  unfold Str
  go_wp2_with fail
  refine hK.out _ _ (fun _ => HH.out _ H5.out) ?_
  clear hK K
  try simp only [Act.put, List.setIfInBounds_toArray, List.set_cons_zero, List.set_cons_succ]
  refine wpHold_one (i := 6) rfl (by kernel_rfl) (by rfl) (fun K hK => ?_)
  go_wp2_with fail
  have H51 : Hid (SRow (w5.alloc (.cells #[.string ⟨(oldW a).toArray⟩, .string ⟨(Names.txt a.value).toArray⟩] 9)) w.heap.size (.slice (some ⟨w2.heap.size, 0, none⟩) 3 3) [[115, 119, 97, 112], a.table, Names.txt a.key] ∧ Blk (w5.alloc (.cells #[.string ⟨(oldW a).toArray⟩, .string ⟨(Names.txt a.value).toArray⟩] 9)) w5.heap.size 9 #[.string ⟨(oldW a).toArray⟩, .string ⟨(Names.txt a.value).toArray⟩] ∧ w3.grownBy (w5.alloc (.cells #[.string ⟨(oldW a).toArray⟩, .string ⟨(Names.txt a.value).toArray⟩] 9)) none) := ⟨(H3.out.1.grown H5.out).grown (World.grownBy_alloc _ _ none), heap_alloc_new _ _, grown_trans H5.out (World.grownBy_alloc _ _ none)⟩
  refine hK.out _ _ (fun _ => HH.out _ H51.out.2.2) ?_
  clear hK K
  try simp only [Act.put, List.setIfInBounds_toArray, List.set_cons_zero, List.set_cons_succ]
  refine wpHold_one (i := 7) rfl (by kernel_rfl) (by rfl) (fun K hK => ?_)
  refine app9_wp _ (.tmp 26) (.tmp 32) rfl w.heap.size (.slice (some ⟨w2.heap.size, 0, none⟩) 3 3) [[115, 119, 97, 112], a.table, Names.txt a.key] [oldW a, Names.txt a.value] 2 _ rfl rfl rfl H51.out.1 H51.out.2.1 (by decide) (by simp) (Nat.le_trans (Nat.le_trans HG.out.size H3.out.2.size) H51.out.2.2.size) ?_
  intro g' cap' w6 o3 g3 l3
  have H6 : Hid (SRow w6 w.heap.size (.slice (some ⟨g', 0, none⟩) 5 cap') [[115, 119, 97, 112], a.table, Names.txt a.key, oldW a, Names.txt a.value] ∧ w.grownBy w6 none ∧ w3.heap.size ≤ w6.heap.size) := ⟨o3, grown_new (grown_trans (grown_trans HG.out H3.out.2) H51.out.2.2) g3 (fun x hx => (World.ownsRow.lt H51.out.1 x hx).1), Nat.le_trans H51.out.2.2.size g3.size⟩
  have H7 : Hid (w.grownBy w6 none ∧ w6.heap[w.heap.size]? = W1.heap[w.heap.size]?) := ⟨H6.out.2.1, by
    have q1 : W1.heap.size ≤ w2.heap.size := H2.out.size
    have q2 : w.heap.size < W1.heap.size := by rw [HE1.out]; simp
    have q3 := H51.out.2.2.size
    have q4 := H3.out.2.size
    rw [g3.block w.heap.size (by omega) (by simp [Value.ownBlock]; omega)]
    exact (HH.out _ H51.out.2.2).2⟩
  clear o3 g3 l3 H51
  refine hK.out _ _ (fun _ => H7.out) ?_
  clear hK K
  try simp only [Act.put, List.setIfInBounds_toArray, List.set_cons_zero, List.set_cons_succ]
  refine wpHold_take (i := 8) (v := _) (H7.out) rfl rfl (by kernel_rfl) (by kernel_rfl) (by kernel_rfl) (by kernel_rfl) (by kernel_rfl) (fun _ _ _ h => h) (by rfl) (fun wk hk => by obtain ⟨q0, q1, q2, q3, q4, q5, q6, q7, q8⟩ := HC2.out wk hk; clear hk; go_simp; try rfl) ?_
  try simp only [Act.put, List.setIfInBounds_toArray, List.set_cons_zero, List.set_cons_succ]
  refine wpHold_done (by kernel_rfl) ?_
  refine (‹∀ (a : Act) (w : World), Code.wp Tryz.prog _ _ a w → _› _ _ ?_)
  have H6 : Hid (SRow w6 w.heap.size (.slice (some ⟨g', 0, none⟩) 5 cap') [[115, 119, 97, 112], a.table, Names.txt a.key, oldW a, Names.txt a.value] ∧ w.grownBy w6 none) := ⟨H6.out.1, H6.out.2.1⟩
  have HV : Hid (SRow w6 w.heap.size _ [[115, 119, 97, 112], a.table, Names.txt a.key, oldW a, Names.txt a.value] ∧ w.grownBy w6 none) := H6
  go_wp2_with (go_at_call 40; refine (join40 _ [[115, 119, 97, 112], a.table, Names.txt a.key, oldW a, Names.txt a.value] [32] w.heap.size _ HV.out.1 (by simp) (by have := HL.out; have := HL2.out; simp [Lib.join, List.intercalate]; omega)).mono ?_)
  rintro e w7 ⟨rfl, hg7⟩
  have H7 : Hid (w.grownBy w7 none) := grown_trans HV.out.2 hg7
  clear hg7
  unfold Str
  go_wp2_with fail
  go_ret
  exact ⟨by rw [HF.out]; rfl, H7.out⟩
end Go.Proofs.YtfocmbnhkldnfaaGreatDoor
/-
  The text of an op that may be.
-/
namespace Go.Proofs.YtfocmbnhkldnfaaGreatDoor
open Go.RowKit Disk
open Names (Str)

set_option maxRecDepth 100000 in
set_option maxHeartbeats 40000000 in
theorem optext39_5 (k v ol t : Value) (a : POp) (w : World) (ha : OpSeg w k v ol t a) (hk : a.kind = 5) (hm : mayOp a = true) (hkw : KW w) :
    Calls Tryz.prog 39 #[opV k v ol t a] w fun e w' => e = .returned (Str (opTxt a)) ∧ w.grownBy w' none := by
  obtain ⟨a1, a2, a3, a4, b1, b2, b3, b4, rfl, rfl, rfl, rfl⟩ := ha.shapes
  have HM : Hid (May a) := may_of hm
  have HF : Hid (opTxt a = Lib.join [[115, 99, 97, 110], a.table, Names.txt a.key, Names.txt a.to, Lib.decDigits a.most.toNat] [32]) := by
    unfold opTxt opWords tailWords kindWord
    rw [hk]
    rfl
  obtain ⟨ms, hms⟩ : ∃ n, n = a.most := ⟨_, rfl⟩
  obtain ⟨F, hF⟩ : ∃ F, F = opTxt a := ⟨_, rfl⟩
  rw [← hF] at HF ⊢
  have HS : Hid (ms = a.most ∧ 1 ≤ ms ∧ ms ≤ 64) := ⟨hms, by have := (may_of hm).most hk; omega, by have := (may_of hm).most hk; omega⟩
  have HA : Hid (OpSeg w (.slice a1 a.key.length b1) (.slice a2 a.value.length b2) (.slice a3 a.old.length b3) (.slice a4 a.to.length b4) a) := ha
  have HX : Hid (Value.agg #[.int .i64 5, .string ⟨a.table.toArray⟩, .slice a1 a.key.length b1, .slice a2 a.value.length b2, .bool a.has, .slice a3 a.old.length b3, .slice a4 a.to.length b4, .int .i64 ms] = opV (.slice a1 a.key.length b1) (.slice a2 a.value.length b2) (.slice a3 a.old.length b3) (.slice a4 a.to.length b4) a) := by rw [hms, ← hk]; rfl
  rw [← HX.out]
  obtain ⟨W1, hW1⟩ : ∃ x, x = w.alloc (.cells #[.int .i64 5, .string ⟨a.table.toArray⟩, .slice a1 a.key.length b1, .slice a2 a.value.length b2, .bool a.has, .slice a3 a.old.length b3, .slice a4 a.to.length b4, .int .i64 ms] 71) := ⟨_, rfl⟩
  have HG : Hid (w.grownBy W1 none) := by rw [hW1]; exact World.grownBy_alloc _ _ none
  have HC : Hid (∀ x : World, W1.grownBy x none → x.cell? ⟨w.heap.size, 0, none⟩ = some (.int .i64 5) ∧ x.cell? ⟨w.heap.size, 1, none⟩ = some (.string ⟨a.table.toArray⟩) ∧ x.cell? ⟨w.heap.size, 2, none⟩ = some (.slice a1 a.key.length b1) ∧ x.cell? ⟨w.heap.size, 3, none⟩ = some (.slice a2 a.value.length b2) ∧ x.cell? ⟨w.heap.size, 4, none⟩ = some (.bool a.has) ∧ x.cell? ⟨w.heap.size, 5, none⟩ = some (.slice a3 a.old.length b3) ∧ x.cell? ⟨w.heap.size, 6, none⟩ = some (.slice a4 a.to.length b4) ∧ x.cell? ⟨w.heap.size, 7, none⟩ = some (.int .i64 ms) ∧ x.cell? ⟨0, 5, none⟩ = some (.string ⟨#[115, 99, 97, 110]⟩)) := by
    intro x hx
    have hb := heap_alloc_new w (.cells #[.int .i64 5, .string ⟨a.table.toArray⟩, .slice a1 a.key.length b1, .slice a2 a.value.length b2, .bool a.has, .slice a3 a.old.length b3, .slice a4 a.to.length b4, .int .i64 ms] 71)
    rw [← hW1] at hb
    have hkx := (hkw.grown HG.out).grown hx
    refine ⟨grown_fun hx ?_, grown_fun hx ?_, grown_fun hx ?_, grown_fun hx ?_, grown_fun hx ?_, grown_fun hx ?_, grown_fun hx ?_, grown_fun hx ?_, hkx.2.2.2.2.2⟩ <;> (rw [cell_of_row _ _ _ _ _ _ hb]; rfl)
  have HC3 : Hid (∀ x : World, w.grownBy x none → x.heap[w.heap.size]? = W1.heap[w.heap.size]? → x.cell? ⟨w.heap.size, 0, none⟩ = some (.int .i64 5) ∧ x.cell? ⟨w.heap.size, 1, none⟩ = some (.string ⟨a.table.toArray⟩) ∧ x.cell? ⟨w.heap.size, 2, none⟩ = some (.slice a1 a.key.length b1) ∧ x.cell? ⟨w.heap.size, 3, none⟩ = some (.slice a2 a.value.length b2) ∧ x.cell? ⟨w.heap.size, 4, none⟩ = some (.bool a.has) ∧ x.cell? ⟨w.heap.size, 5, none⟩ = some (.slice a3 a.old.length b3) ∧ x.cell? ⟨w.heap.size, 6, none⟩ = some (.slice a4 a.to.length b4) ∧ x.cell? ⟨w.heap.size, 7, none⟩ = some (.int .i64 ms) ∧ x.cell? ⟨0, 5, none⟩ = some (.string ⟨#[115, 99, 97, 110]⟩)) := by
    intro x hx he
    have hb := heap_alloc_new w (.cells #[.int .i64 5, .string ⟨a.table.toArray⟩, .slice a1 a.key.length b1, .slice a2 a.value.length b2, .bool a.has, .slice a3 a.old.length b3, .slice a4 a.to.length b4, .int .i64 ms] 71)
    rw [← hW1, ← he] at hb
    have hkx := hkw.grown hx
    refine ⟨?_, ?_, ?_, ?_, ?_, ?_, ?_, ?_, hkx.2.2.2.2.2⟩ <;> (rw [cell_of_row _ _ _ _ _ _ hb]; rfl)
  have HL : Hid ((Names.txt a.key).length ≤ 800 ∧ (Names.txt a.value).length ≤ 800 ∧ (Names.txt a.old).length ≤ 800 ∧ (Names.txt a.to).length ≤ 800 ∧ a.table.length ≤ 16) := by
    have := Names.txt_len a.key; have := Names.txt_len a.value; have := Names.txt_len a.old; have := Names.txt_len a.to
    have := HM.out.key; have := HM.out.value; have := HM.out.old; have := HM.out.to; have := tab_len HM.out.tab
    unfold Hid; omega
  clear ha hm hms hk hF hkw
  go_enter Tryz.func39, Tryz.ntmps39
  go_wp2_with fail
  rw [← hW1]
  have HE1 : Hid (W1 = _) := hW1
  clear hW1
  refine wp_region_noPanic ?_
  refine wp_region_hold 1000 (fun x => W1.grownBy x none) (by kernel_rfl) ?_
  refine wpHold_take (i := 0) (v := _) (grown_drew _ _) rfl rfl (by kernel_rfl) (by kernel_rfl) (by kernel_rfl) (by kernel_rfl) (by kernel_rfl) (fun _ _ _ h => h) (by rfl) (fun wk hk => by obtain ⟨q0, q1, q2, q3, q4, q5, q6, q7, q8⟩ := HC.out wk hk; go_simp; try rfl) ?_
  try simp only [Act.put, List.setIfInBounds_toArray, List.set_cons_zero, List.set_cons_succ]
  refine wpHold_take (i := 1) (v := _) (grown_drew _ _) rfl rfl (by kernel_rfl) (by kernel_rfl) (by kernel_rfl) (by kernel_rfl) (by kernel_rfl) (fun _ _ _ h => h) (by rfl) (fun wk hk => by obtain ⟨q0, q1, q2, q3, q4, q5, q6, q7, q8⟩ := HC.out wk hk; go_simp; try rfl) ?_
  try simp only [Act.put, List.setIfInBounds_toArray, List.set_cons_zero, List.set_cons_succ]
  refine wpHold_take (i := 2) (v := _) (grown_drew _ _) rfl rfl (by kernel_rfl) (by kernel_rfl) (by kernel_rfl) (by kernel_rfl) (by kernel_rfl) (fun _ _ _ h => h) (by rfl) (fun wk hk => by obtain ⟨q0, q1, q2, q3, q4, q5, q6, q7, q8⟩ := HC.out wk hk; go_simp; try rfl) ?_
  try simp only [Act.put, List.setIfInBounds_toArray, List.set_cons_zero, List.set_cons_succ]
  refine wpHold_take (i := 3) (v := _) (grown_drew _ _) rfl rfl (by kernel_rfl) (by kernel_rfl) (by kernel_rfl) (by kernel_rfl) (by kernel_rfl) (fun _ _ _ h => h) (by rfl) (fun wk hk => by obtain ⟨q0, q1, q2, q3, q4, q5, q6, q7, q8⟩ := HC.out wk hk; go_simp; try rfl) ?_
  try simp only [Act.put, List.setIfInBounds_toArray, List.set_cons_zero, List.set_cons_succ]
  refine wpHold_take (i := 4) (v := _) (grown_drew _ _) rfl rfl (by kernel_rfl) (by kernel_rfl) (by kernel_rfl) (by kernel_rfl) (by kernel_rfl) (fun _ _ _ h => h) (by rfl) (fun wk hk => by obtain ⟨q0, q1, q2, q3, q4, q5, q6, q7, q8⟩ := HC.out wk hk; go_simp; try rfl) ?_
  try simp only [Act.put, List.setIfInBounds_toArray, List.set_cons_zero, List.set_cons_succ]
  refine wpHold_take (i := 5) (v := _) (grown_drew _ _) rfl rfl (by kernel_rfl) (by kernel_rfl) (by kernel_rfl) (by kernel_rfl) (by kernel_rfl) (fun _ _ _ h => h) (by rfl) (fun wk hk => by obtain ⟨q0, q1, q2, q3, q4, q5, q6, q7, q8⟩ := HC.out wk hk; go_simp; try rfl) ?_
  try simp only [Act.put, List.setIfInBounds_toArray, List.set_cons_zero, List.set_cons_succ]
  refine wpHold_take (i := 6) (v := _) (grown_drew _ _) rfl rfl (by kernel_rfl) (by kernel_rfl) (by kernel_rfl) (by kernel_rfl) (by kernel_rfl) (fun _ _ _ h => h) (by rfl) (fun wk hk => by obtain ⟨q0, q1, q2, q3, q4, q5, q6, q7, q8⟩ := HC.out wk hk; go_simp; try rfl) ?_
  try simp only [Act.put, List.setIfInBounds_toArray, List.set_cons_zero, List.set_cons_succ]
  refine wpHold_take (i := 7) (v := _) (grown_drew _ _) rfl rfl (by kernel_rfl) (by kernel_rfl) (by kernel_rfl) (by kernel_rfl) (by kernel_rfl) (fun _ _ _ h => h) (by rfl) (fun wk hk => by obtain ⟨q0, q1, q2, q3, q4, q5, q6, q7, q8⟩ := HC.out wk hk; go_simp; try rfl) ?_
  try simp only [Act.put, List.setIfInBounds_toArray, List.set_cons_zero, List.set_cons_succ]
  refine wpHold_one (i := 8) rfl (by kernel_rfl) (by rfl) (fun K hK => ?_)
  go_wp2_with (go_at_call 77; refine (Names.text15 _ a.key _ (HA.out.key.grown (grown_trans HG.out (grown_drew _ _))) (by have := HM.out.key; omega)).mono ?_)
  rintro e w2 ⟨rfl, hg2⟩
  have H2 : Hid (W1.grownBy w2 none) := grown_trans (grown_drew _ _) hg2
  clear hg2
  unfold Str
  go_wp2_with fail
  refine hK.out _ _ (fun _ => H2.out) ?_
  clear hK K
  try simp only [Act.put, List.setIfInBounds_toArray, List.set_cons_zero, List.set_cons_succ]
  refine wpHold_one (i := 9) rfl (by kernel_rfl) (by rfl) (fun K hK => ?_)
  go_wp2_with fail
  refine hK.out _ _ (fun _ => grown_trans H2.out (World.grownBy_alloc _ _ none)) ?_
  clear hK K
  try simp only [Act.put, List.setIfInBounds_toArray, List.set_cons_zero, List.set_cons_succ]
  refine wpHold_take (i := 10) (v := _) (grown_trans H2.out (World.grownBy_alloc _ _ none)) rfl rfl (by kernel_rfl) (by kernel_rfl) (by kernel_rfl) (by kernel_rfl) (by kernel_rfl) (fun _ _ _ h => h) (by rfl) (fun wk hk => by obtain ⟨q0, q1, q2, q3, q4, q5, q6, q7, q8⟩ := HC.out wk hk; go_simp; try rfl) ?_
  try simp only [Act.put, List.setIfInBounds_toArray, List.set_cons_zero, List.set_cons_succ]
  refine wpHold_done (by kernel_rfl) ?_
  refine (‹∀ (a : Act) (w : World), Code.wp Tryz.prog _ _ a w → _› _ _ ?_)
  have H3 : Hid (SRow (w2.alloc (.cells #[.string ⟨#[115, 99, 97, 110]⟩, .string ⟨a.table.toArray⟩, .string ⟨(Names.txt a.key).toArray⟩] 9)) w.heap.size (.slice (some ⟨w2.heap.size, 0, none⟩) 3 3) [[115, 99, 97, 110], a.table, Names.txt a.key] ∧ W1.grownBy (w2.alloc (.cells #[.string ⟨#[115, 99, 97, 110]⟩, .string ⟨a.table.toArray⟩, .string ⟨(Names.txt a.key).toArray⟩] 9)) none) := ⟨srow_lit w2 [[115, 99, 97, 110], a.table, Names.txt a.key] w.heap.size 3 rfl (Nat.le_trans HG.out.size H2.out.size) (by decide), grown_trans H2.out (World.grownBy_alloc _ _ none)⟩
  obtain ⟨p0, p1, p2, p3, p4, p5, p6, p7, p8⟩ := HC.out _ H3.out.2
  generalize (w2.alloc (.cells #[.string ⟨#[115, 99, 97, 110]⟩, .string ⟨a.table.toArray⟩, .string ⟨(Names.txt a.key).toArray⟩] 9)) = w3 at H3 p0 p1 p2 p3 p4 p5 p6 p7 p8 ⊢
  have HL2 : Hid ((Lib.decDigits ms.toNat).length ≤ 10) := by unfold Hid; have h64 : ms.toNat ≤ 64 := by have := HS.out.2; omega
                                                              exact dec_len ms.toNat h64
  clear p1 p2 p3 p4 p5 p6 p7 p8
  have HC2 : Hid (∀ x : World, (w.grownBy x none ∧ x.heap[w.heap.size]? = W1.heap[w.heap.size]?) → _) := fun x hx => HC3.out x hx.1 hx.2
  have HH : Hid (∀ x : World, w3.grownBy x none → (w.grownBy x none ∧ x.heap[w.heap.size]? = W1.heap[w.heap.size]?)) := fun x hx => ⟨grown_trans (grown_trans HG.out H3.out.2) hx, (grown_trans H3.out.2 hx).block _ (by rw [HE1.out]; simp) (by simp)⟩
  go_wp2_with fail
  refine wp_region_noPanic ?_
  refine wp_region_hold 1000 (fun x => w.grownBy x none ∧ x.heap[w.heap.size]? = W1.heap[w.heap.size]?) (by kernel_rfl) ?_
  refine wpHold_take (i := 0) (v := _) (HH.out _ (grown_drew _ _)) rfl rfl (by kernel_rfl) (by kernel_rfl) (by kernel_rfl) (by kernel_rfl) (by kernel_rfl) (fun _ _ _ h => h) (by rfl) (fun wk hk => by obtain ⟨q0, q1, q2, q3, q4, q5, q6, q7, q8⟩ := HC2.out wk hk; clear hk; go_simp; try rfl) ?_
  try simp only [Act.put, List.setIfInBounds_toArray, List.set_cons_zero, List.set_cons_succ]
  refine wpHold_take (i := 1) (v := _) (HH.out _ (grown_drew _ _)) rfl rfl (by kernel_rfl) (by kernel_rfl) (by kernel_rfl) (by kernel_rfl) (by kernel_rfl) (fun _ _ _ h => h) (by rfl) (fun wk hk => by obtain ⟨q0, q1, q2, q3, q4, q5, q6, q7, q8⟩ := HC2.out wk hk; clear hk; go_simp; try rfl) ?_
  try simp only [Act.put, List.setIfInBounds_toArray, List.set_cons_zero, List.set_cons_succ]
  refine wpHold_take (i := 2) (v := _) (HH.out _ (grown_drew _ _)) rfl rfl (by kernel_rfl) (by kernel_rfl) (by kernel_rfl) (by kernel_rfl) (by kernel_rfl) (fun _ _ _ h => h) (by rfl) (fun wk hk => by obtain ⟨q0, q1, q2, q3, q4, q5, q6, q7, q8⟩ := HC2.out wk hk; clear hk; go_simp; try rfl) ?_
  try simp only [Act.put, List.setIfInBounds_toArray, List.set_cons_zero, List.set_cons_succ]
  refine wpHold_take (i := 4) (v := _) (HH.out _ (grown_drew _ _)) rfl rfl (by kernel_rfl) (by kernel_rfl) (by kernel_rfl) (by kernel_rfl) (by kernel_rfl) (fun _ _ _ h => h) (by rfl) (fun wk hk => by obtain ⟨q0, q1, q2, q3, q4, q5, q6, q7, q8⟩ := HC2.out wk hk; clear hk; go_simp; try rfl) ?_
  try simp only [Act.put, List.setIfInBounds_toArray, List.set_cons_zero, List.set_cons_succ]
  refine wpHold_take (i := 5) (v := _) (HH.out _ (grown_drew _ _)) rfl rfl (by kernel_rfl) (by kernel_rfl) (by kernel_rfl) (by kernel_rfl) (by kernel_rfl) (fun _ _ _ h => h) (by rfl) (fun wk hk => by obtain ⟨q0, q1, q2, q3, q4, q5, q6, q7, q8⟩ := HC2.out wk hk; clear hk; go_simp; try rfl) ?_
  try simp only [Act.put, List.setIfInBounds_toArray, List.set_cons_zero, List.set_cons_succ]
  refine wpHold_one (i := 3) rfl (by kernel_rfl) (by rfl) (fun K hK => ?_)
  go_wp2_with (go_at_call 77; refine (Names.text15 _ a.to _ (HA.out.to.grown (grown_trans (grown_trans HG.out H3.out.2) (grown_drew _ _))) (by have := HM.out.to; omega)).mono ?_)
  rintro e w5 ⟨rfl, hg5⟩
  have H5 : Hid (w3.grownBy w5 none) := grown_trans (grown_drew _ _) hg5
  clear hg5
  unfold Str
  go_wp2_with fail
  refine hK.out _ _ (fun _ => HH.out _ H5.out) ?_
  clear hK K
  try simp only [Act.put, List.setIfInBounds_toArray, List.set_cons_zero, List.set_cons_succ]
  refine wpHold_one (i := 6) rfl (by kernel_rfl) (by rfl) (fun K hK => ?_)
  go_wp2_with (go_at_call 79; refine (itoa79 ms _ (by have := HS.out.2; omega) (by have := HS.out.2; omega)).mono ?_; rintro e w4 ⟨rfl, hw4⟩; rw [hw4]; clear hw4)
  refine hK.out _ _ (fun _ => HH.out _ H5.out) ?_
  clear hK K
  try simp only [Act.put, List.setIfInBounds_toArray, List.set_cons_zero, List.set_cons_succ]
  refine wpHold_one (i := 7) rfl (by kernel_rfl) (by rfl) (fun K hK => ?_)
  go_wp2_with fail
  have H51 : Hid (SRow (w5.alloc (.cells #[.string ⟨(Names.txt a.to).toArray⟩, .string ⟨(Lib.decDigits ms.toNat).toArray⟩] 9)) w.heap.size (.slice (some ⟨w2.heap.size, 0, none⟩) 3 3) [[115, 99, 97, 110], a.table, Names.txt a.key] ∧ Blk (w5.alloc (.cells #[.string ⟨(Names.txt a.to).toArray⟩, .string ⟨(Lib.decDigits ms.toNat).toArray⟩] 9)) w5.heap.size 9 #[.string ⟨(Names.txt a.to).toArray⟩, .string ⟨(Lib.decDigits ms.toNat).toArray⟩] ∧ w3.grownBy (w5.alloc (.cells #[.string ⟨(Names.txt a.to).toArray⟩, .string ⟨(Lib.decDigits ms.toNat).toArray⟩] 9)) none) := ⟨(H3.out.1.grown H5.out).grown (World.grownBy_alloc _ _ none), heap_alloc_new _ _, grown_trans H5.out (World.grownBy_alloc _ _ none)⟩
  refine hK.out _ _ (fun _ => HH.out _ H51.out.2.2) ?_
  clear hK K
  try simp only [Act.put, List.setIfInBounds_toArray, List.set_cons_zero, List.set_cons_succ]
  refine wpHold_one (i := 8) rfl (by kernel_rfl) (by rfl) (fun K hK => ?_)
  refine app9_wp _ (.tmp 36) (.tmp 43) rfl w.heap.size (.slice (some ⟨w2.heap.size, 0, none⟩) 3 3) [[115, 99, 97, 110], a.table, Names.txt a.key] [Names.txt a.to, Lib.decDigits ms.toNat] 2 _ rfl rfl rfl H51.out.1 H51.out.2.1 (by decide) (by simp) (Nat.le_trans (Nat.le_trans HG.out.size H3.out.2.size) H51.out.2.2.size) ?_
  intro g' cap' w6 o3 g3 l3
  have H6 : Hid (SRow w6 w.heap.size (.slice (some ⟨g', 0, none⟩) 5 cap') [[115, 99, 97, 110], a.table, Names.txt a.key, Names.txt a.to, Lib.decDigits ms.toNat] ∧ w.grownBy w6 none ∧ w3.heap.size ≤ w6.heap.size) := ⟨o3, grown_new (grown_trans (grown_trans HG.out H3.out.2) H51.out.2.2) g3 (fun x hx => (World.ownsRow.lt H51.out.1 x hx).1), Nat.le_trans H51.out.2.2.size g3.size⟩
  have H7 : Hid (w.grownBy w6 none ∧ w6.heap[w.heap.size]? = W1.heap[w.heap.size]?) := ⟨H6.out.2.1, by
    have q1 : W1.heap.size ≤ w2.heap.size := H2.out.size
    have q2 : w.heap.size < W1.heap.size := by rw [HE1.out]; simp
    have q3 := H51.out.2.2.size
    have q4 := H3.out.2.size
    rw [g3.block w.heap.size (by omega) (by simp [Value.ownBlock]; omega)]
    exact (HH.out _ H51.out.2.2).2⟩
  clear o3 g3 l3 H51
  refine hK.out _ _ (fun _ => H7.out) ?_
  clear hK K
  try simp only [Act.put, List.setIfInBounds_toArray, List.set_cons_zero, List.set_cons_succ]
  refine wpHold_take (i := 9) (v := _) (H7.out) rfl rfl (by kernel_rfl) (by kernel_rfl) (by kernel_rfl) (by kernel_rfl) (by kernel_rfl) (fun _ _ _ h => h) (by rfl) (fun wk hk => by obtain ⟨q0, q1, q2, q3, q4, q5, q6, q7, q8⟩ := HC2.out wk hk; clear hk; go_simp; try rfl) ?_
  try simp only [Act.put, List.setIfInBounds_toArray, List.set_cons_zero, List.set_cons_succ]
  refine wpHold_done (by kernel_rfl) ?_
  refine (‹∀ (a : Act) (w : World), Code.wp Tryz.prog _ _ a w → _› _ _ ?_)
  have H6 : Hid (SRow w6 w.heap.size (.slice (some ⟨g', 0, none⟩) 5 cap') [[115, 99, 97, 110], a.table, Names.txt a.key, Names.txt a.to, Lib.decDigits ms.toNat] ∧ w.grownBy w6 none) := ⟨H6.out.1, H6.out.2.1⟩
  rw [← HS.out.1] at HF
  have HV : Hid (SRow w6 w.heap.size _ [[115, 99, 97, 110], a.table, Names.txt a.key, Names.txt a.to, Lib.decDigits ms.toNat] ∧ w.grownBy w6 none) := H6
  go_wp2_with (go_at_call 40; refine (join40 _ [[115, 99, 97, 110], a.table, Names.txt a.key, Names.txt a.to, Lib.decDigits ms.toNat] [32] w.heap.size _ HV.out.1 (by simp) (by have := HL.out; have := HL2.out; simp [Lib.join, List.intercalate]; omega)).mono ?_)
  rintro e w7 ⟨rfl, hg7⟩
  have H7 : Hid (w.grownBy w7 none) := grown_trans HV.out.2 hg7
  clear hg7
  unfold Str
  go_wp2_with fail
  go_ret
  exact ⟨by rw [HF.out]; rfl, H7.out⟩
end Go.Proofs.YtfocmbnhkldnfaaGreatDoor
