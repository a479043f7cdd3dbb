/-
  The text of an op that may be.
-/
import Derived.Test.YtfocmbnhkldnfaaGreatDoorQ
namespace Go.Proofs.YtfocmbnhkldnfaaGreatDoor
open Go.RowKit Disk
open Names (Str)

set_option maxRecDepth 100000 in
set_option maxHeartbeats 40000000 in
theorem optext39_3 (k v ol t : Value) (a : POp) (w : World) (ha : OpSeg w k v ol t a) (hk : a.kind = 3) (hm : mayOp a = true) (hkw : KW w) :
    Calls Tryz.prog 39 #[opV k v ol t a] w fun e w' => e = .returned (Str (opTxt a)) ∧ w.grownBy w' none := by
  obtain ⟨a1, a2, a3, a4, b1, b2, b3, b4, rfl, rfl, rfl, rfl⟩ := ha.shapes
  have HM : Hid (May a) := may_of hm
  have HF : Hid (opTxt a = Lib.join [[100, 101, 108, 101, 116, 101], a.table, Names.txt a.key] [32]) := by
    unfold opTxt opWords tailWords kindWord
    rw [hk]
    rfl
  obtain ⟨ms, hms⟩ : ∃ n, n = a.most := ⟨_, rfl⟩
  obtain ⟨F, hF⟩ : ∃ F, F = opTxt a := ⟨_, rfl⟩
  rw [← hF] at HF ⊢
  have HS : Hid (ms = a.most) := hms
  have HA : Hid (OpSeg w (.slice a1 a.key.length b1) (.slice a2 a.value.length b2) (.slice a3 a.old.length b3) (.slice a4 a.to.length b4) a) := ha
  have HX : Hid (Value.agg #[.int .i64 3, .string ⟨a.table.toArray⟩, .slice a1 a.key.length b1, .slice a2 a.value.length b2, .bool a.has, .slice a3 a.old.length b3, .slice a4 a.to.length b4, .int .i64 ms] = opV (.slice a1 a.key.length b1) (.slice a2 a.value.length b2) (.slice a3 a.old.length b3) (.slice a4 a.to.length b4) a) := by rw [hms, ← hk]; rfl
  rw [← HX.out]
  obtain ⟨W1, hW1⟩ : ∃ x, x = w.alloc (.cells #[.int .i64 3, .string ⟨a.table.toArray⟩, .slice a1 a.key.length b1, .slice a2 a.value.length b2, .bool a.has, .slice a3 a.old.length b3, .slice a4 a.to.length b4, .int .i64 ms] 71) := ⟨_, rfl⟩
  have HG : Hid (w.grownBy W1 none) := by rw [hW1]; exact World.grownBy_alloc _ _ none
  have HC : Hid (∀ x : World, W1.grownBy x none → x.cell? ⟨w.heap.size, 0, none⟩ = some (.int .i64 3) ∧ x.cell? ⟨w.heap.size, 1, none⟩ = some (.string ⟨a.table.toArray⟩) ∧ x.cell? ⟨w.heap.size, 2, none⟩ = some (.slice a1 a.key.length b1) ∧ x.cell? ⟨w.heap.size, 3, none⟩ = some (.slice a2 a.value.length b2) ∧ x.cell? ⟨w.heap.size, 4, none⟩ = some (.bool a.has) ∧ x.cell? ⟨w.heap.size, 5, none⟩ = some (.slice a3 a.old.length b3) ∧ x.cell? ⟨w.heap.size, 6, none⟩ = some (.slice a4 a.to.length b4) ∧ x.cell? ⟨w.heap.size, 7, none⟩ = some (.int .i64 ms) ∧ x.cell? ⟨0, 3, none⟩ = some (.string ⟨#[100, 101, 108, 101, 116, 101]⟩)) := by
    intro x hx
    have hb := heap_alloc_new w (.cells #[.int .i64 3, .string ⟨a.table.toArray⟩, .slice a1 a.key.length b1, .slice a2 a.value.length b2, .bool a.has, .slice a3 a.old.length b3, .slice a4 a.to.length b4, .int .i64 ms] 71)
    rw [← hW1] at hb
    have hkx := (hkw.grown HG.out).grown hx
    refine ⟨grown_fun hx ?_, grown_fun hx ?_, grown_fun hx ?_, grown_fun hx ?_, grown_fun hx ?_, grown_fun hx ?_, grown_fun hx ?_, grown_fun hx ?_, hkx.2.2.2.1⟩ <;> (rw [cell_of_row _ _ _ _ _ _ hb]; rfl)
  have HL : Hid ((Names.txt a.key).length ≤ 800 ∧ (Names.txt a.value).length ≤ 800 ∧ (Names.txt a.old).length ≤ 800 ∧ (Names.txt a.to).length ≤ 800 ∧ a.table.length ≤ 16) := by
    have := Names.txt_len a.key; have := Names.txt_len a.value; have := Names.txt_len a.old; have := Names.txt_len a.to
    have := HM.out.key; have := HM.out.value; have := HM.out.old; have := HM.out.to; have := tab_len HM.out.tab
    unfold Hid; omega
  clear ha hm hms hk hF hkw
  go_enter Tryz.func39, Tryz.ntmps39
  go_wp2_with fail
  rw [← hW1]
  have HE1 : Hid (W1 = _) := hW1
  clear hW1
  refine wp_region_noPanic ?_
  refine wp_region_hold 1000 (fun x => W1.grownBy x none) (by kernel_rfl) ?_
  refine wpHold_take (i := 0) (v := _) (grown_drew _ _) rfl rfl (by kernel_rfl) (by kernel_rfl) (by kernel_rfl) (by kernel_rfl) (by kernel_rfl) (fun _ _ _ h => h) (by rfl) (fun wk hk => by obtain ⟨q0, q1, q2, q3, q4, q5, q6, q7, q8⟩ := HC.out wk hk; go_simp; try rfl) ?_
  try simp only [Act.put, List.setIfInBounds_toArray, List.set_cons_zero, List.set_cons_succ]
  refine wpHold_take (i := 1) (v := _) (grown_drew _ _) rfl rfl (by kernel_rfl) (by kernel_rfl) (by kernel_rfl) (by kernel_rfl) (by kernel_rfl) (fun _ _ _ h => h) (by rfl) (fun wk hk => by obtain ⟨q0, q1, q2, q3, q4, q5, q6, q7, q8⟩ := HC.out wk hk; go_simp; try rfl) ?_
  try simp only [Act.put, List.setIfInBounds_toArray, List.set_cons_zero, List.set_cons_succ]
  refine wpHold_take (i := 2) (v := _) (grown_drew _ _) rfl rfl (by kernel_rfl) (by kernel_rfl) (by kernel_rfl) (by kernel_rfl) (by kernel_rfl) (fun _ _ _ h => h) (by rfl) (fun wk hk => by obtain ⟨q0, q1, q2, q3, q4, q5, q6, q7, q8⟩ := HC.out wk hk; go_simp; try rfl) ?_
  try simp only [Act.put, List.setIfInBounds_toArray, List.set_cons_zero, List.set_cons_succ]
  refine wpHold_take (i := 3) (v := _) (grown_drew _ _) rfl rfl (by kernel_rfl) (by kernel_rfl) (by kernel_rfl) (by kernel_rfl) (by kernel_rfl) (fun _ _ _ h => h) (by rfl) (fun wk hk => by obtain ⟨q0, q1, q2, q3, q4, q5, q6, q7, q8⟩ := HC.out wk hk; go_simp; try rfl) ?_
  try simp only [Act.put, List.setIfInBounds_toArray, List.set_cons_zero, List.set_cons_succ]
  refine wpHold_take (i := 4) (v := _) (grown_drew _ _) rfl rfl (by kernel_rfl) (by kernel_rfl) (by kernel_rfl) (by kernel_rfl) (by kernel_rfl) (fun _ _ _ h => h) (by rfl) (fun wk hk => by obtain ⟨q0, q1, q2, q3, q4, q5, q6, q7, q8⟩ := HC.out wk hk; go_simp; try rfl) ?_
  try simp only [Act.put, List.setIfInBounds_toArray, List.set_cons_zero, List.set_cons_succ]
  refine wpHold_take (i := 5) (v := _) (grown_drew _ _) rfl rfl (by kernel_rfl) (by kernel_rfl) (by kernel_rfl) (by kernel_rfl) (by kernel_rfl) (fun _ _ _ h => h) (by rfl) (fun wk hk => by obtain ⟨q0, q1, q2, q3, q4, q5, q6, q7, q8⟩ := HC.out wk hk; go_simp; try rfl) ?_
  try simp only [Act.put, List.setIfInBounds_toArray, List.set_cons_zero, List.set_cons_succ]
  refine wpHold_take (i := 6) (v := _) (grown_drew _ _) rfl rfl (by kernel_rfl) (by kernel_rfl) (by kernel_rfl) (by kernel_rfl) (by kernel_rfl) (fun _ _ _ h => h) (by rfl) (fun wk hk => by obtain ⟨q0, q1, q2, q3, q4, q5, q6, q7, q8⟩ := HC.out wk hk; go_simp; try rfl) ?_
  try simp only [Act.put, List.setIfInBounds_toArray, List.set_cons_zero, List.set_cons_succ]
  refine wpHold_take (i := 7) (v := _) (grown_drew _ _) rfl rfl (by kernel_rfl) (by kernel_rfl) (by kernel_rfl) (by kernel_rfl) (by kernel_rfl) (fun _ _ _ h => h) (by rfl) (fun wk hk => by obtain ⟨q0, q1, q2, q3, q4, q5, q6, q7, q8⟩ := HC.out wk hk; go_simp; try rfl) ?_
  try simp only [Act.put, List.setIfInBounds_toArray, List.set_cons_zero, List.set_cons_succ]
  refine wpHold_one (i := 8) rfl (by kernel_rfl) (by rfl) (fun K hK => ?_)
  go_wp2_with (go_at_call 77; refine (Names.text15 _ a.key _ (HA.out.key.grown (grown_trans HG.out (grown_drew _ _))) (by have := HM.out.key; omega)).mono ?_)
  rintro e w2 ⟨rfl, hg2⟩
  have H2 : Hid (W1.grownBy w2 none) := grown_trans (grown_drew _ _) hg2
  clear hg2
  unfold Str
  go_wp2_with fail
  refine hK.out _ _ (fun _ => H2.out) ?_
  clear hK K
  try simp only [Act.put, List.setIfInBounds_toArray, List.set_cons_zero, List.set_cons_succ]
  refine wpHold_one (i := 9) rfl (by kernel_rfl) (by rfl) (fun K hK => ?_)
  go_wp2_with fail
  refine hK.out _ _ (fun _ => grown_trans H2.out (World.grownBy_alloc _ _ none)) ?_
  clear hK K
  try simp only [Act.put, List.setIfInBounds_toArray, List.set_cons_zero, List.set_cons_succ]
  refine wpHold_take (i := 10) (v := _) (grown_trans H2.out (World.grownBy_alloc _ _ none)) rfl rfl (by kernel_rfl) (by kernel_rfl) (by kernel_rfl) (by kernel_rfl) (by kernel_rfl) (fun _ _ _ h => h) (by rfl) (fun wk hk => by obtain ⟨q0, q1, q2, q3, q4, q5, q6, q7, q8⟩ := HC.out wk hk; go_simp; try rfl) ?_
  try simp only [Act.put, List.setIfInBounds_toArray, List.set_cons_zero, List.set_cons_succ]
  refine wpHold_done (by kernel_rfl) ?_
  refine (‹∀ (a : Act) (w : World), Code.wp Tryz.prog _ _ a w → _› _ _ ?_)
  have H3 : Hid (SRow (w2.alloc (.cells #[.string ⟨#[100, 101, 108, 101, 116, 101]⟩, .string ⟨a.table.toArray⟩, .string ⟨(Names.txt a.key).toArray⟩] 9)) w.heap.size (.slice (some ⟨w2.heap.size, 0, none⟩) 3 3) [[100, 101, 108, 101, 116, 101], a.table, Names.txt a.key] ∧ W1.grownBy (w2.alloc (.cells #[.string ⟨#[100, 101, 108, 101, 116, 101]⟩, .string ⟨a.table.toArray⟩, .string ⟨(Names.txt a.key).toArray⟩] 9)) none) := ⟨srow_lit w2 [[100, 101, 108, 101, 116, 101], a.table, Names.txt a.key] w.heap.size 3 rfl (Nat.le_trans HG.out.size H2.out.size) (by decide), grown_trans H2.out (World.grownBy_alloc _ _ none)⟩
  obtain ⟨p0, p1, p2, p3, p4, p5, p6, p7, p8⟩ := HC.out _ H3.out.2
  generalize (w2.alloc (.cells #[.string ⟨#[100, 101, 108, 101, 116, 101]⟩, .string ⟨a.table.toArray⟩, .string ⟨(Names.txt a.key).toArray⟩] 9)) = w3 at H3 p0 p1 p2 p3 p4 p5 p6 p7 p8 ⊢
  go_wp2_with (go_at_call 40; refine (join40 _ [[100, 101, 108, 101, 116, 101], a.table, Names.txt a.key] [32] w.heap.size _ H3.out.1 (by simp) (by have := HL.out; simp [Lib.join, List.intercalate]; omega)).mono ?_)
  rintro e w4 ⟨rfl, hg4⟩
  have H4 : Hid (w.grownBy w4 none) := grown_trans (grown_trans HG.out H3.out.2) hg4
  clear hg4
  unfold Str
  go_wp2_with fail
  go_ret
  exact ⟨by rw [HF.out]; rfl, H4.out⟩
end Go.Proofs.YtfocmbnhkldnfaaGreatDoor
