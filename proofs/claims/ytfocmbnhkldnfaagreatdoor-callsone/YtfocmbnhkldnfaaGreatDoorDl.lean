/-
  The document's text of an op, of a call.
-/
import Derived.Test.YtfocmbnhkldnfaaGreatDoorDg
import Derived.Test.YtfocmbnhkldnfaaGreatDoorT
import Derived.Test.YtfocmbnhkldnfaaGreatDoorNamesAll
namespace Go.Proofs.YtfocmbnhkldnfaaGreatDoor
open Go.RowKit Disk
open Names (Str)

theorem dTxt (v : Value) (L : Bs) (w : World) (hs : Seg w v L) (hl : L.length ≤ 100000) : Calls Tryz.prog 84 #[v] w fun e w' => e = .returned (.string ⟨(Names.txt L).toArray⟩) ∧ w.grownBy w' none := (Names.text16 v L w hs (by omega)).mono fun _ _ h => h
theorem addS (L M X : Bs) (n : Nat) (e : L ++ M = X) (h : L.length + M.length ≤ n) (hn : n ≤ 100000) : (∀ wk, (Op.stringOp .add ⟨L.toArray⟩ ⟨M.toArray⟩).run Tryz.prog wk = .ok (.string ⟨X.toArray⟩) wk) ∧ X.length ≤ n := by
  subst e
  exact ⟨fun wk => Names.str_add L M wk (by omega), by rw [List.length_append]; exact h⟩

set_option maxRecDepth 100000 in
set_option maxHeartbeats 8000000 in
theorem line46_1 (k v ol t : Value) (a : POp) (w : World) (ha : OpSeg w k v ol t a) (hk : a.kind = 1) (hm : mayOp a = true) : Calls Tryz.prog 46 #[opV k v ol t a] w fun e w' => e = .returned (Str (opTxt a)) ∧ w.grownBy w' none := by
  have hM := may_of hm
  have L1 : Hid (a.table.length ≤ 16 ∧ a.key.length ≤ 64 ∧ a.value.length ≤ 256 ∧ a.old.length ≤ 256 ∧ a.to.length ≤ 64) := ⟨tab_len hM.tab, hM.key, hM.value, hM.old, hM.to⟩
  have l0 : a.table.length ≤ 16 := L1.out.1
  have l1 : (Names.txt a.key).length ≤ 193 := by have := Names.txt_len a.key; have := L1.out.2.1; omega
  have l2 : (Names.txt a.value).length ≤ 769 := by have := Names.txt_len a.value; have := L1.out.2.2.1; omega
  have l3 : (Names.txt a.old).length ≤ 769 := by have := Names.txt_len a.old; have := L1.out.2.2.2.1; omega
  have l4 : (Names.txt a.to).length ≤ 193 := by have := Names.txt_len a.to; have := L1.out.2.2.2.2; omega
  have HA : Hid (OpSeg w k v ol t a) := ha
  obtain ⟨p1, p2, p3, p4, r1, r2, r3, r4, rfl, rfl, rfl, rfl⟩ := ha.shapes
  obtain ⟨ms, hms⟩ : ∃ n, a.most = n := ⟨_, rfl⟩
  obtain ⟨X0, hX0⟩ : ∃ X, [32] ++ a.table = X := ⟨_, rfl⟩
  have EX0 : Hid ([32] ++ a.table = X0) := hX0
  obtain ⟨sX0, bX0⟩ := addS [32] a.table X0 17 hX0 (by (try simp only [List.length_cons, List.length_nil]); omega) (by decide)
  have sX0 : ∀ wk, (Op.stringOp .add ⟨#[32]⟩ ⟨a.table.toArray⟩).run Tryz.prog wk = .ok (.string ⟨X0.toArray⟩) wk := sX0
  clear hX0
  obtain ⟨X1, hX1⟩ : ∃ X, X0 ++ [32] = X := ⟨_, rfl⟩
  have EX1 : Hid (X0 ++ [32] = X1) := hX1
  obtain ⟨sX1, bX1⟩ := addS X0 [32] X1 18 hX1 (by (try simp only [List.length_cons, List.length_nil]); omega) (by decide)
  have sX1 : ∀ wk, (Op.stringOp .add ⟨X0.toArray⟩ ⟨#[32]⟩).run Tryz.prog wk = .ok (.string ⟨X1.toArray⟩) wk := sX1
  clear hX1
  obtain ⟨X2, hX2⟩ : ∃ X, X1 ++ Names.txt a.key = X := ⟨_, rfl⟩
  have EX2 : Hid (X1 ++ Names.txt a.key = X2) := hX2
  obtain ⟨sX2, bX2⟩ := addS X1 (Names.txt a.key) X2 211 hX2 (by (try simp only [List.length_cons, List.length_nil]); omega) (by decide)
  have sX2 : ∀ wk, (Op.stringOp .add ⟨X1.toArray⟩ ⟨(Names.txt a.key).toArray⟩).run Tryz.prog wk = .ok (.string ⟨X2.toArray⟩) wk := sX2
  clear hX2
  obtain ⟨X3, hX3⟩ : ∃ X, [103, 101, 116] ++ X2 = X := ⟨_, rfl⟩
  have EX3 : Hid ([103, 101, 116] ++ X2 = X3) := hX3
  obtain ⟨sX3, bX3⟩ := addS [103, 101, 116] X2 X3 217 hX3 (by (try simp only [List.length_cons, List.length_nil]); omega) (by decide)
  have sX3 : ∀ wk, (Op.stringOp .add ⟨#[103, 101, 116]⟩ ⟨X2.toArray⟩).run Tryz.prog wk = .ok (.string ⟨X3.toArray⟩) wk := sX3
  clear hX3
  have HF : Hid (opTxt a = X3) := by
    unfold Hid
    rw [← EX3.out, ← EX2.out, ← EX1.out, ← EX0.out]
    unfold opTxt opWords tailWords kindWord
    rw [hk]
    simp [Lib.join, List.intercalate]
  unfold opV
  rw [HF.out, hk, hms]
  unfold Str
  clear ha hm hms hk hM l0 l1 l2 l3 l4
  go_enter Tryz.func46, Tryz.ntmps46
  go_upto_region 1 with fail
  have HC : Hid (∀ x : World, (w.alloc (.cells #[.int .i64 1, .string ⟨a.table.toArray⟩, .slice p1 a.key.length r1, .slice p2 a.value.length r2, .bool a.has, .slice p3 a.old.length r3, .slice p4 a.to.length r4, .int .i64 ms] 71)).grownBy x none → x.cell? ⟨w.heap.size, 0, none⟩ = some (.int .i64 1) ∧ x.cell? ⟨w.heap.size, 1, none⟩ = some (.string ⟨a.table.toArray⟩) ∧ x.cell? ⟨w.heap.size, 2, none⟩ = some (.slice p1 a.key.length r1) ∧ x.cell? ⟨w.heap.size, 3, none⟩ = some (.slice p2 a.value.length r2) ∧ x.cell? ⟨w.heap.size, 4, none⟩ = some (.bool a.has) ∧ x.cell? ⟨w.heap.size, 5, none⟩ = some (.slice p3 a.old.length r3) ∧ x.cell? ⟨w.heap.size, 6, none⟩ = some (.slice p4 a.to.length r4) ∧ x.cell? ⟨w.heap.size, 7, none⟩ = some (.int .i64 ms)) := by
    intro x hx
    have hb := heap_alloc_new w (.cells #[.int .i64 1, .string ⟨a.table.toArray⟩, .slice p1 a.key.length r1, .slice p2 a.value.length r2, .bool a.has, .slice p3 a.old.length r3, .slice p4 a.to.length r4, .int .i64 ms] 71)
    refine ⟨grown_fun hx ?_, grown_fun hx ?_, grown_fun hx ?_, grown_fun hx ?_, grown_fun hx ?_, grown_fun hx ?_, grown_fun hx ?_, grown_fun hx ?_⟩ <;> (rw [cell_of_row _ _ _ _ _ _ hb]; rfl)
  have HG0 : Hid (w.grownBy (w.alloc (.cells #[.int .i64 1, .string ⟨a.table.toArray⟩, .slice p1 a.key.length r1, .slice p2 a.value.length r2, .bool a.has, .slice p3 a.old.length r3, .slice p4 a.to.length r4, .int .i64 ms] 71)) none) := World.grownBy_alloc _ _ none
  generalize (w.alloc (.cells #[.int .i64 1, .string ⟨a.table.toArray⟩, .slice p1 a.key.length r1, .slice p2 a.value.length r2, .bool a.has, .slice p3 a.old.length r3, .slice p4 a.to.length r4, .int .i64 ms] 71)) = W0 at HC HG0 ⊢
  go_wp2_with fail
  refine wp_region_noPanic ?_
  refine wp_region_hold 1000 (fun x => W0.grownBy x none) (by kernel_rfl) ?_
  have G0 : Hid (W0.grownBy W0.drew none) := grown_drew _ _
  generalize W0.drew = w1 at G0 ⊢
  refine wpHold_take (i := 0) (v := _) (G0.out) rfl rfl (by kernel_rfl) (by kernel_rfl) (by kernel_rfl) (by kernel_rfl) (by kernel_rfl) (fun _ _ _ h => h) (by rfl) (fun wk hk => by obtain ⟨m0, m1, m2, m3, m4, m5, m6, m7⟩ := HC.out wk hk; go_simp; try rfl) ?_
  try simp only [Act.put, List.setIfInBounds_toArray, List.set_cons_zero, List.set_cons_succ]
  refine wpHold_take (i := 1) (v := _) (G0.out) rfl rfl (by kernel_rfl) (by kernel_rfl) (by kernel_rfl) (by kernel_rfl) (by kernel_rfl) (fun _ _ _ h => h) (by rfl) (fun wk hk => by obtain ⟨m0, m1, m2, m3, m4, m5, m6, m7⟩ := HC.out wk hk; go_simp; try rfl) ?_
  try simp only [Act.put, List.setIfInBounds_toArray, List.set_cons_zero, List.set_cons_succ]
  refine wpHold_take (i := 2) (v := _) (G0.out) rfl rfl (by kernel_rfl) (by kernel_rfl) (by kernel_rfl) (by kernel_rfl) (by kernel_rfl) (fun _ _ _ h => h) (by rfl) (fun wk hk => by obtain ⟨m0, m1, m2, m3, m4, m5, m6, m7⟩ := HC.out wk hk; go_simp; try rfl) ?_
  try simp only [Act.put, List.setIfInBounds_toArray, List.set_cons_zero, List.set_cons_succ]
  refine wpHold_take (i := 3) (v := _) (G0.out) rfl rfl (by kernel_rfl) (by kernel_rfl) (by kernel_rfl) (by kernel_rfl) (by kernel_rfl) (fun _ _ _ h => h) (by rfl) (fun wk hk => by obtain ⟨m0, m1, m2, m3, m4, m5, m6, m7⟩ := HC.out wk hk; go_simp; try rfl) ?_
  try simp only [Act.put, List.setIfInBounds_toArray, List.set_cons_zero, List.set_cons_succ]
  refine wpHold_take (i := 4) (v := _) (G0.out) rfl rfl (by kernel_rfl) (by kernel_rfl) (by kernel_rfl) (by kernel_rfl) (by kernel_rfl) (fun _ _ _ h => h) (by rfl) (fun wk hk => by obtain ⟨m0, m1, m2, m3, m4, m5, m6, m7⟩ := HC.out wk hk; go_simp; try rfl) ?_
  try simp only [Act.put, List.setIfInBounds_toArray, List.set_cons_zero, List.set_cons_succ]
  refine wpHold_take (i := 5) (v := _) (G0.out) rfl rfl (by kernel_rfl) (by kernel_rfl) (by kernel_rfl) (by kernel_rfl) (by kernel_rfl) (fun _ _ _ h => h) (by rfl) (fun wk hk => by obtain ⟨m0, m1, m2, m3, m4, m5, m6, m7⟩ := HC.out wk hk; go_simp; try rfl) ?_
  try simp only [Act.put, List.setIfInBounds_toArray, List.set_cons_zero, List.set_cons_succ]
  refine wpHold_one (i := 6) rfl (by kernel_rfl) (by rfl) (fun K hK => ?_)
  go_wp2_with (go_at_call 84; refine (dTxt _ a.key _ (HA.out.key.grown (grown_trans HG0.out G0.out)) (by have := L1.out.2.1; omega)).mono ?_)
  rintro e w2 ⟨rfl, hg⟩
  have G1 : Hid (W0.grownBy w2 none) := grown_trans G0.out hg
  clear hg
  go_wp2_with fail
  refine hK.out _ _ (fun _ => G1.out) ?_
  clear hK K
  try simp only [Act.put, List.setIfInBounds_toArray, List.set_cons_zero, List.set_cons_succ]
  refine wpHold_take (i := 7) (v := _) (G1.out) rfl rfl (by kernel_rfl) (by kernel_rfl) (by kernel_rfl) (by kernel_rfl) (by kernel_rfl) (fun _ _ _ h => h) (by rfl) (fun wk hk => by obtain ⟨m0, m1, m2, m3, m4, m5, m6, m7⟩ := HC.out wk hk; go_simp; try rfl) ?_
  try simp only [Act.put, List.setIfInBounds_toArray, List.set_cons_zero, List.set_cons_succ]
  refine wpHold_take (i := 8) (v := _) (G1.out) rfl rfl (by kernel_rfl) (by kernel_rfl) (by kernel_rfl) (by kernel_rfl) (by kernel_rfl) (fun _ _ _ h => h) (by rfl) (fun wk hk => by obtain ⟨m0, m1, m2, m3, m4, m5, m6, m7⟩ := HC.out wk hk; go_simp; try rfl) ?_
  try simp only [Act.put, List.setIfInBounds_toArray, List.set_cons_zero, List.set_cons_succ]
  refine wpHold_done (by kernel_rfl) ?_
  refine (‹∀ (a : Act) (w : World), Code.wp Tryz.prog _ _ a w → _› _ _ ?_)
  obtain ⟨m0, m1, m2, m3, m4, m5, m6, m7⟩ := HC.out w2 G1.out
  go_wp2_with fail
  go_ret
  exact ⟨rfl, grown_trans HG0.out G1.out⟩
set_option maxRecDepth 100000 in
set_option maxHeartbeats 8000000 in
theorem line46_3 (k v ol t : Value) (a : POp) (w : World) (ha : OpSeg w k v ol t a) (hk : a.kind = 3) (hm : mayOp a = true) : Calls Tryz.prog 46 #[opV k v ol t a] w fun e w' => e = .returned (Str (opTxt a)) ∧ w.grownBy w' none := by
  have hM := may_of hm
  have L1 : Hid (a.table.length ≤ 16 ∧ a.key.length ≤ 64 ∧ a.value.length ≤ 256 ∧ a.old.length ≤ 256 ∧ a.to.length ≤ 64) := ⟨tab_len hM.tab, hM.key, hM.value, hM.old, hM.to⟩
  have l0 : a.table.length ≤ 16 := L1.out.1
  have l1 : (Names.txt a.key).length ≤ 193 := by have := Names.txt_len a.key; have := L1.out.2.1; omega
  have l2 : (Names.txt a.value).length ≤ 769 := by have := Names.txt_len a.value; have := L1.out.2.2.1; omega
  have l3 : (Names.txt a.old).length ≤ 769 := by have := Names.txt_len a.old; have := L1.out.2.2.2.1; omega
  have l4 : (Names.txt a.to).length ≤ 193 := by have := Names.txt_len a.to; have := L1.out.2.2.2.2; omega
  have HA : Hid (OpSeg w k v ol t a) := ha
  obtain ⟨p1, p2, p3, p4, r1, r2, r3, r4, rfl, rfl, rfl, rfl⟩ := ha.shapes
  obtain ⟨ms, hms⟩ : ∃ n, a.most = n := ⟨_, rfl⟩
  obtain ⟨X0, hX0⟩ : ∃ X, [32] ++ a.table = X := ⟨_, rfl⟩
  have EX0 : Hid ([32] ++ a.table = X0) := hX0
  obtain ⟨sX0, bX0⟩ := addS [32] a.table X0 17 hX0 (by (try simp only [List.length_cons, List.length_nil]); omega) (by decide)
  have sX0 : ∀ wk, (Op.stringOp .add ⟨#[32]⟩ ⟨a.table.toArray⟩).run Tryz.prog wk = .ok (.string ⟨X0.toArray⟩) wk := sX0
  clear hX0
  obtain ⟨X1, hX1⟩ : ∃ X, X0 ++ [32] = X := ⟨_, rfl⟩
  have EX1 : Hid (X0 ++ [32] = X1) := hX1
  obtain ⟨sX1, bX1⟩ := addS X0 [32] X1 18 hX1 (by (try simp only [List.length_cons, List.length_nil]); omega) (by decide)
  have sX1 : ∀ wk, (Op.stringOp .add ⟨X0.toArray⟩ ⟨#[32]⟩).run Tryz.prog wk = .ok (.string ⟨X1.toArray⟩) wk := sX1
  clear hX1
  obtain ⟨X2, hX2⟩ : ∃ X, X1 ++ Names.txt a.key = X := ⟨_, rfl⟩
  have EX2 : Hid (X1 ++ Names.txt a.key = X2) := hX2
  obtain ⟨sX2, bX2⟩ := addS X1 (Names.txt a.key) X2 211 hX2 (by (try simp only [List.length_cons, List.length_nil]); omega) (by decide)
  have sX2 : ∀ wk, (Op.stringOp .add ⟨X1.toArray⟩ ⟨(Names.txt a.key).toArray⟩).run Tryz.prog wk = .ok (.string ⟨X2.toArray⟩) wk := sX2
  clear hX2
  obtain ⟨X3, hX3⟩ : ∃ X, [100, 101, 108, 101, 116, 101] ++ X2 = X := ⟨_, rfl⟩
  have EX3 : Hid ([100, 101, 108, 101, 116, 101] ++ X2 = X3) := hX3
  obtain ⟨sX3, bX3⟩ := addS [100, 101, 108, 101, 116, 101] X2 X3 217 hX3 (by (try simp only [List.length_cons, List.length_nil]); omega) (by decide)
  have sX3 : ∀ wk, (Op.stringOp .add ⟨#[100, 101, 108, 101, 116, 101]⟩ ⟨X2.toArray⟩).run Tryz.prog wk = .ok (.string ⟨X3.toArray⟩) wk := sX3
  clear hX3
  have HF : Hid (opTxt a = X3) := by
    unfold Hid
    rw [← EX3.out, ← EX2.out, ← EX1.out, ← EX0.out]
    unfold opTxt opWords tailWords kindWord
    rw [hk]
    simp [Lib.join, List.intercalate]
  unfold opV
  rw [HF.out, hk, hms]
  unfold Str
  clear ha hm hms hk hM l0 l1 l2 l3 l4
  go_enter Tryz.func46, Tryz.ntmps46
  go_upto_region 1 with fail
  have HC : Hid (∀ x : World, (w.alloc (.cells #[.int .i64 3, .string ⟨a.table.toArray⟩, .slice p1 a.key.length r1, .slice p2 a.value.length r2, .bool a.has, .slice p3 a.old.length r3, .slice p4 a.to.length r4, .int .i64 ms] 71)).grownBy x none → x.cell? ⟨w.heap.size, 0, none⟩ = some (.int .i64 3) ∧ x.cell? ⟨w.heap.size, 1, none⟩ = some (.string ⟨a.table.toArray⟩) ∧ x.cell? ⟨w.heap.size, 2, none⟩ = some (.slice p1 a.key.length r1) ∧ x.cell? ⟨w.heap.size, 3, none⟩ = some (.slice p2 a.value.length r2) ∧ x.cell? ⟨w.heap.size, 4, none⟩ = some (.bool a.has) ∧ x.cell? ⟨w.heap.size, 5, none⟩ = some (.slice p3 a.old.length r3) ∧ x.cell? ⟨w.heap.size, 6, none⟩ = some (.slice p4 a.to.length r4) ∧ x.cell? ⟨w.heap.size, 7, none⟩ = some (.int .i64 ms)) := by
    intro x hx
    have hb := heap_alloc_new w (.cells #[.int .i64 3, .string ⟨a.table.toArray⟩, .slice p1 a.key.length r1, .slice p2 a.value.length r2, .bool a.has, .slice p3 a.old.length r3, .slice p4 a.to.length r4, .int .i64 ms] 71)
    refine ⟨grown_fun hx ?_, grown_fun hx ?_, grown_fun hx ?_, grown_fun hx ?_, grown_fun hx ?_, grown_fun hx ?_, grown_fun hx ?_, grown_fun hx ?_⟩ <;> (rw [cell_of_row _ _ _ _ _ _ hb]; rfl)
  have HG0 : Hid (w.grownBy (w.alloc (.cells #[.int .i64 3, .string ⟨a.table.toArray⟩, .slice p1 a.key.length r1, .slice p2 a.value.length r2, .bool a.has, .slice p3 a.old.length r3, .slice p4 a.to.length r4, .int .i64 ms] 71)) none) := World.grownBy_alloc _ _ none
  generalize (w.alloc (.cells #[.int .i64 3, .string ⟨a.table.toArray⟩, .slice p1 a.key.length r1, .slice p2 a.value.length r2, .bool a.has, .slice p3 a.old.length r3, .slice p4 a.to.length r4, .int .i64 ms] 71)) = W0 at HC HG0 ⊢
  go_wp2_with fail
  refine wp_region_noPanic ?_
  refine wp_region_hold 1000 (fun x => W0.grownBy x none) (by kernel_rfl) ?_
  have G0 : Hid (W0.grownBy W0.drew none) := grown_drew _ _
  generalize W0.drew = w1 at G0 ⊢
  refine wpHold_take (i := 0) (v := _) (G0.out) rfl rfl (by kernel_rfl) (by kernel_rfl) (by kernel_rfl) (by kernel_rfl) (by kernel_rfl) (fun _ _ _ h => h) (by rfl) (fun wk hk => by obtain ⟨m0, m1, m2, m3, m4, m5, m6, m7⟩ := HC.out wk hk; go_simp; try rfl) ?_
  try simp only [Act.put, List.setIfInBounds_toArray, List.set_cons_zero, List.set_cons_succ]
  refine wpHold_take (i := 1) (v := _) (G0.out) rfl rfl (by kernel_rfl) (by kernel_rfl) (by kernel_rfl) (by kernel_rfl) (by kernel_rfl) (fun _ _ _ h => h) (by rfl) (fun wk hk => by obtain ⟨m0, m1, m2, m3, m4, m5, m6, m7⟩ := HC.out wk hk; go_simp; try rfl) ?_
  try simp only [Act.put, List.setIfInBounds_toArray, List.set_cons_zero, List.set_cons_succ]
  refine wpHold_take (i := 2) (v := _) (G0.out) rfl rfl (by kernel_rfl) (by kernel_rfl) (by kernel_rfl) (by kernel_rfl) (by kernel_rfl) (fun _ _ _ h => h) (by rfl) (fun wk hk => by obtain ⟨m0, m1, m2, m3, m4, m5, m6, m7⟩ := HC.out wk hk; go_simp; try rfl) ?_
  try simp only [Act.put, List.setIfInBounds_toArray, List.set_cons_zero, List.set_cons_succ]
  refine wpHold_take (i := 3) (v := _) (G0.out) rfl rfl (by kernel_rfl) (by kernel_rfl) (by kernel_rfl) (by kernel_rfl) (by kernel_rfl) (fun _ _ _ h => h) (by rfl) (fun wk hk => by obtain ⟨m0, m1, m2, m3, m4, m5, m6, m7⟩ := HC.out wk hk; go_simp; try rfl) ?_
  try simp only [Act.put, List.setIfInBounds_toArray, List.set_cons_zero, List.set_cons_succ]
  refine wpHold_take (i := 4) (v := _) (G0.out) rfl rfl (by kernel_rfl) (by kernel_rfl) (by kernel_rfl) (by kernel_rfl) (by kernel_rfl) (fun _ _ _ h => h) (by rfl) (fun wk hk => by obtain ⟨m0, m1, m2, m3, m4, m5, m6, m7⟩ := HC.out wk hk; go_simp; try rfl) ?_
  try simp only [Act.put, List.setIfInBounds_toArray, List.set_cons_zero, List.set_cons_succ]
  refine wpHold_take (i := 5) (v := _) (G0.out) rfl rfl (by kernel_rfl) (by kernel_rfl) (by kernel_rfl) (by kernel_rfl) (by kernel_rfl) (fun _ _ _ h => h) (by rfl) (fun wk hk => by obtain ⟨m0, m1, m2, m3, m4, m5, m6, m7⟩ := HC.out wk hk; go_simp; try rfl) ?_
  try simp only [Act.put, List.setIfInBounds_toArray, List.set_cons_zero, List.set_cons_succ]
  refine wpHold_one (i := 6) rfl (by kernel_rfl) (by rfl) (fun K hK => ?_)
  go_wp2_with (go_at_call 84; refine (dTxt _ a.key _ (HA.out.key.grown (grown_trans HG0.out G0.out)) (by have := L1.out.2.1; omega)).mono ?_)
  rintro e w2 ⟨rfl, hg⟩
  have G1 : Hid (W0.grownBy w2 none) := grown_trans G0.out hg
  clear hg
  go_wp2_with fail
  refine hK.out _ _ (fun _ => G1.out) ?_
  clear hK K
  try simp only [Act.put, List.setIfInBounds_toArray, List.set_cons_zero, List.set_cons_succ]
  refine wpHold_take (i := 7) (v := _) (G1.out) rfl rfl (by kernel_rfl) (by kernel_rfl) (by kernel_rfl) (by kernel_rfl) (by kernel_rfl) (fun _ _ _ h => h) (by rfl) (fun wk hk => by obtain ⟨m0, m1, m2, m3, m4, m5, m6, m7⟩ := HC.out wk hk; go_simp; try rfl) ?_
  try simp only [Act.put, List.setIfInBounds_toArray, List.set_cons_zero, List.set_cons_succ]
  refine wpHold_take (i := 8) (v := _) (G1.out) rfl rfl (by kernel_rfl) (by kernel_rfl) (by kernel_rfl) (by kernel_rfl) (by kernel_rfl) (fun _ _ _ h => h) (by rfl) (fun wk hk => by obtain ⟨m0, m1, m2, m3, m4, m5, m6, m7⟩ := HC.out wk hk; go_simp; try rfl) ?_
  try simp only [Act.put, List.setIfInBounds_toArray, List.set_cons_zero, List.set_cons_succ]
  refine wpHold_done (by kernel_rfl) ?_
  refine (‹∀ (a : Act) (w : World), Code.wp Tryz.prog _ _ a w → _› _ _ ?_)
  obtain ⟨m0, m1, m2, m3, m4, m5, m6, m7⟩ := HC.out w2 G1.out
  go_wp2_with fail
  go_ret
  exact ⟨rfl, grown_trans HG0.out G1.out⟩
set_option maxRecDepth 100000 in
set_option maxHeartbeats 8000000 in
theorem line46_2 (k v ol t : Value) (a : POp) (w : World) (ha : OpSeg w k v ol t a) (hk : a.kind = 2) (hm : mayOp a = true) : Calls Tryz.prog 46 #[opV k v ol t a] w fun e w' => e = .returned (Str (opTxt a)) ∧ w.grownBy w' none := by
  have hM := may_of hm
  have L1 : Hid (a.table.length ≤ 16 ∧ a.key.length ≤ 64 ∧ a.value.length ≤ 256 ∧ a.old.length ≤ 256 ∧ a.to.length ≤ 64) := ⟨tab_len hM.tab, hM.key, hM.value, hM.old, hM.to⟩
  have l0 : a.table.length ≤ 16 := L1.out.1
  have l1 : (Names.txt a.key).length ≤ 193 := by have := Names.txt_len a.key; have := L1.out.2.1; omega
  have l2 : (Names.txt a.value).length ≤ 769 := by have := Names.txt_len a.value; have := L1.out.2.2.1; omega
  have l3 : (Names.txt a.old).length ≤ 769 := by have := Names.txt_len a.old; have := L1.out.2.2.2.1; omega
  have l4 : (Names.txt a.to).length ≤ 193 := by have := Names.txt_len a.to; have := L1.out.2.2.2.2; omega
  have HA : Hid (OpSeg w k v ol t a) := ha
  obtain ⟨p1, p2, p3, p4, r1, r2, r3, r4, rfl, rfl, rfl, rfl⟩ := ha.shapes
  obtain ⟨ms, hms⟩ : ∃ n, a.most = n := ⟨_, rfl⟩
  obtain ⟨X0, hX0⟩ : ∃ X, [32] ++ a.table = X := ⟨_, rfl⟩
  have EX0 : Hid ([32] ++ a.table = X0) := hX0
  obtain ⟨sX0, bX0⟩ := addS [32] a.table X0 17 hX0 (by (try simp only [List.length_cons, List.length_nil]); omega) (by decide)
  have sX0 : ∀ wk, (Op.stringOp .add ⟨#[32]⟩ ⟨a.table.toArray⟩).run Tryz.prog wk = .ok (.string ⟨X0.toArray⟩) wk := sX0
  clear hX0
  obtain ⟨X1, hX1⟩ : ∃ X, X0 ++ [32] = X := ⟨_, rfl⟩
  have EX1 : Hid (X0 ++ [32] = X1) := hX1
  obtain ⟨sX1, bX1⟩ := addS X0 [32] X1 18 hX1 (by (try simp only [List.length_cons, List.length_nil]); omega) (by decide)
  have sX1 : ∀ wk, (Op.stringOp .add ⟨X0.toArray⟩ ⟨#[32]⟩).run Tryz.prog wk = .ok (.string ⟨X1.toArray⟩) wk := sX1
  clear hX1
  obtain ⟨X2, hX2⟩ : ∃ X, X1 ++ Names.txt a.key = X := ⟨_, rfl⟩
  have EX2 : Hid (X1 ++ Names.txt a.key = X2) := hX2
  obtain ⟨sX2, bX2⟩ := addS X1 (Names.txt a.key) X2 211 hX2 (by (try simp only [List.length_cons, List.length_nil]); omega) (by decide)
  have sX2 : ∀ wk, (Op.stringOp .add ⟨X1.toArray⟩ ⟨(Names.txt a.key).toArray⟩).run Tryz.prog wk = .ok (.string ⟨X2.toArray⟩) wk := sX2
  clear hX2
  obtain ⟨X3, hX3⟩ : ∃ X, [112, 117, 116] ++ X2 = X := ⟨_, rfl⟩
  have EX3 : Hid ([112, 117, 116] ++ X2 = X3) := hX3
  obtain ⟨sX3, bX3⟩ := addS [112, 117, 116] X2 X3 217 hX3 (by (try simp only [List.length_cons, List.length_nil]); omega) (by decide)
  have sX3 : ∀ wk, (Op.stringOp .add ⟨#[112, 117, 116]⟩ ⟨X2.toArray⟩).run Tryz.prog wk = .ok (.string ⟨X3.toArray⟩) wk := sX3
  clear hX3
  obtain ⟨X4, hX4⟩ : ∃ X, X3 ++ [32] = X := ⟨_, rfl⟩
  have EX4 : Hid (X3 ++ [32] = X4) := hX4
  obtain ⟨sX4, bX4⟩ := addS X3 [32] X4 218 hX4 (by (try simp only [List.length_cons, List.length_nil]); omega) (by decide)
  have sX4 : ∀ wk, (Op.stringOp .add ⟨X3.toArray⟩ ⟨#[32]⟩).run Tryz.prog wk = .ok (.string ⟨X4.toArray⟩) wk := sX4
  clear hX4
  obtain ⟨X5, hX5⟩ : ∃ X, X4 ++ Names.txt a.value = X := ⟨_, rfl⟩
  have EX5 : Hid (X4 ++ Names.txt a.value = X5) := hX5
  obtain ⟨sX5, bX5⟩ := addS X4 (Names.txt a.value) X5 987 hX5 (by (try simp only [List.length_cons, List.length_nil]); omega) (by decide)
  have sX5 : ∀ wk, (Op.stringOp .add ⟨X4.toArray⟩ ⟨(Names.txt a.value).toArray⟩).run Tryz.prog wk = .ok (.string ⟨X5.toArray⟩) wk := sX5
  clear hX5
  have HF : Hid (opTxt a = X5) := by
    unfold Hid
    rw [← EX5.out, ← EX4.out, ← EX3.out, ← EX2.out, ← EX1.out, ← EX0.out]
    unfold opTxt opWords tailWords kindWord
    rw [hk]
    simp [Lib.join, List.intercalate]
  unfold opV
  rw [HF.out, hk, hms]
  unfold Str
  clear ha hm hms hk hM l0 l1 l2 l3 l4
  go_enter Tryz.func46, Tryz.ntmps46
  go_upto_region 1 with fail
  have HC : Hid (∀ x : World, (w.alloc (.cells #[.int .i64 2, .string ⟨a.table.toArray⟩, .slice p1 a.key.length r1, .slice p2 a.value.length r2, .bool a.has, .slice p3 a.old.length r3, .slice p4 a.to.length r4, .int .i64 ms] 71)).grownBy x none → x.cell? ⟨w.heap.size, 0, none⟩ = some (.int .i64 2) ∧ x.cell? ⟨w.heap.size, 1, none⟩ = some (.string ⟨a.table.toArray⟩) ∧ x.cell? ⟨w.heap.size, 2, none⟩ = some (.slice p1 a.key.length r1) ∧ x.cell? ⟨w.heap.size, 3, none⟩ = some (.slice p2 a.value.length r2) ∧ x.cell? ⟨w.heap.size, 4, none⟩ = some (.bool a.has) ∧ x.cell? ⟨w.heap.size, 5, none⟩ = some (.slice p3 a.old.length r3) ∧ x.cell? ⟨w.heap.size, 6, none⟩ = some (.slice p4 a.to.length r4) ∧ x.cell? ⟨w.heap.size, 7, none⟩ = some (.int .i64 ms)) := by
    intro x hx
    have hb := heap_alloc_new w (.cells #[.int .i64 2, .string ⟨a.table.toArray⟩, .slice p1 a.key.length r1, .slice p2 a.value.length r2, .bool a.has, .slice p3 a.old.length r3, .slice p4 a.to.length r4, .int .i64 ms] 71)
    refine ⟨grown_fun hx ?_, grown_fun hx ?_, grown_fun hx ?_, grown_fun hx ?_, grown_fun hx ?_, grown_fun hx ?_, grown_fun hx ?_, grown_fun hx ?_⟩ <;> (rw [cell_of_row _ _ _ _ _ _ hb]; rfl)
  have HG0 : Hid (w.grownBy (w.alloc (.cells #[.int .i64 2, .string ⟨a.table.toArray⟩, .slice p1 a.key.length r1, .slice p2 a.value.length r2, .bool a.has, .slice p3 a.old.length r3, .slice p4 a.to.length r4, .int .i64 ms] 71)) none) := World.grownBy_alloc _ _ none
  generalize (w.alloc (.cells #[.int .i64 2, .string ⟨a.table.toArray⟩, .slice p1 a.key.length r1, .slice p2 a.value.length r2, .bool a.has, .slice p3 a.old.length r3, .slice p4 a.to.length r4, .int .i64 ms] 71)) = W0 at HC HG0 ⊢
  go_wp2_with fail
  refine wp_region_noPanic ?_
  refine wp_region_hold 1000 (fun x => W0.grownBy x none) (by kernel_rfl) ?_
  have G0 : Hid (W0.grownBy W0.drew none) := grown_drew _ _
  generalize W0.drew = w1 at G0 ⊢
  refine wpHold_take (i := 0) (v := _) (G0.out) rfl rfl (by kernel_rfl) (by kernel_rfl) (by kernel_rfl) (by kernel_rfl) (by kernel_rfl) (fun _ _ _ h => h) (by rfl) (fun wk hk => by obtain ⟨m0, m1, m2, m3, m4, m5, m6, m7⟩ := HC.out wk hk; go_simp; try rfl) ?_
  try simp only [Act.put, List.setIfInBounds_toArray, List.set_cons_zero, List.set_cons_succ]
  refine wpHold_take (i := 1) (v := _) (G0.out) rfl rfl (by kernel_rfl) (by kernel_rfl) (by kernel_rfl) (by kernel_rfl) (by kernel_rfl) (fun _ _ _ h => h) (by rfl) (fun wk hk => by obtain ⟨m0, m1, m2, m3, m4, m5, m6, m7⟩ := HC.out wk hk; go_simp; try rfl) ?_
  try simp only [Act.put, List.setIfInBounds_toArray, List.set_cons_zero, List.set_cons_succ]
  refine wpHold_take (i := 2) (v := _) (G0.out) rfl rfl (by kernel_rfl) (by kernel_rfl) (by kernel_rfl) (by kernel_rfl) (by kernel_rfl) (fun _ _ _ h => h) (by rfl) (fun wk hk => by obtain ⟨m0, m1, m2, m3, m4, m5, m6, m7⟩ := HC.out wk hk; go_simp; try rfl) ?_
  try simp only [Act.put, List.setIfInBounds_toArray, List.set_cons_zero, List.set_cons_succ]
  refine wpHold_take (i := 3) (v := _) (G0.out) rfl rfl (by kernel_rfl) (by kernel_rfl) (by kernel_rfl) (by kernel_rfl) (by kernel_rfl) (fun _ _ _ h => h) (by rfl) (fun wk hk => by obtain ⟨m0, m1, m2, m3, m4, m5, m6, m7⟩ := HC.out wk hk; go_simp; try rfl) ?_
  try simp only [Act.put, List.setIfInBounds_toArray, List.set_cons_zero, List.set_cons_succ]
  refine wpHold_take (i := 4) (v := _) (G0.out) rfl rfl (by kernel_rfl) (by kernel_rfl) (by kernel_rfl) (by kernel_rfl) (by kernel_rfl) (fun _ _ _ h => h) (by rfl) (fun wk hk => by obtain ⟨m0, m1, m2, m3, m4, m5, m6, m7⟩ := HC.out wk hk; go_simp; try rfl) ?_
  try simp only [Act.put, List.setIfInBounds_toArray, List.set_cons_zero, List.set_cons_succ]
  refine wpHold_take (i := 5) (v := _) (G0.out) rfl rfl (by kernel_rfl) (by kernel_rfl) (by kernel_rfl) (by kernel_rfl) (by kernel_rfl) (fun _ _ _ h => h) (by rfl) (fun wk hk => by obtain ⟨m0, m1, m2, m3, m4, m5, m6, m7⟩ := HC.out wk hk; go_simp; try rfl) ?_
  try simp only [Act.put, List.setIfInBounds_toArray, List.set_cons_zero, List.set_cons_succ]
  refine wpHold_one (i := 6) rfl (by kernel_rfl) (by rfl) (fun K hK => ?_)
  go_wp2_with (go_at_call 84; refine (dTxt _ a.key _ (HA.out.key.grown (grown_trans HG0.out G0.out)) (by have := L1.out.2.1; omega)).mono ?_)
  rintro e w2 ⟨rfl, hg⟩
  have G1 : Hid (W0.grownBy w2 none) := grown_trans G0.out hg
  clear hg
  go_wp2_with fail
  refine hK.out _ _ (fun _ => G1.out) ?_
  clear hK K
  try simp only [Act.put, List.setIfInBounds_toArray, List.set_cons_zero, List.set_cons_succ]
  refine wpHold_take (i := 7) (v := _) (G1.out) rfl rfl (by kernel_rfl) (by kernel_rfl) (by kernel_rfl) (by kernel_rfl) (by kernel_rfl) (fun _ _ _ h => h) (by rfl) (fun wk hk => by obtain ⟨m0, m1, m2, m3, m4, m5, m6, m7⟩ := HC.out wk hk; go_simp; try rfl) ?_
  try simp only [Act.put, List.setIfInBounds_toArray, List.set_cons_zero, List.set_cons_succ]
  refine wpHold_take (i := 8) (v := _) (G1.out) rfl rfl (by kernel_rfl) (by kernel_rfl) (by kernel_rfl) (by kernel_rfl) (by kernel_rfl) (fun _ _ _ h => h) (by rfl) (fun wk hk => by obtain ⟨m0, m1, m2, m3, m4, m5, m6, m7⟩ := HC.out wk hk; go_simp; try rfl) ?_
  try simp only [Act.put, List.setIfInBounds_toArray, List.set_cons_zero, List.set_cons_succ]
  refine wpHold_done (by kernel_rfl) ?_
  refine (‹∀ (a : Act) (w : World), Code.wp Tryz.prog _ _ a w → _› _ _ ?_)
  obtain ⟨m0, m1, m2, m3, m4, m5, m6, m7⟩ := HC.out w2 G1.out
  go_wp2_with (go_at_call 84; refine (dTxt _ a.value _ (HA.out.value.grown (grown_trans HG0.out G1.out)) (by have := L1.out.2.2.1; omega)).mono ?_)
  rintro e w3 ⟨rfl, hg⟩
  have G2 : Hid (W0.grownBy w3 none) := grown_trans G1.out hg
  clear hg m0 m1 m2 m3 m4 m5 m6 m7
  go_wp2_with fail
  go_ret
  exact ⟨rfl, grown_trans HG0.out G2.out⟩
set_option maxRecDepth 100000 in
set_option maxHeartbeats 8000000 in
theorem line46_4t (k v ol t : Value) (a : POp) (w : World) (ha : OpSeg w k v ol t a) (hk : a.kind = 4) (hh : a.has = true) (hm : mayOp a = true) : Calls Tryz.prog 46 #[opV k v ol t a] w fun e w' => e = .returned (Str (opTxt a)) ∧ w.grownBy w' none := by
  have hM := may_of hm
  have L1 : Hid (a.table.length ≤ 16 ∧ a.key.length ≤ 64 ∧ a.value.length ≤ 256 ∧ a.old.length ≤ 256 ∧ a.to.length ≤ 64) := ⟨tab_len hM.tab, hM.key, hM.value, hM.old, hM.to⟩
  have l0 : a.table.length ≤ 16 := L1.out.1
  have l1 : (Names.txt a.key).length ≤ 193 := by have := Names.txt_len a.key; have := L1.out.2.1; omega
  have l2 : (Names.txt a.value).length ≤ 769 := by have := Names.txt_len a.value; have := L1.out.2.2.1; omega
  have l3 : (Names.txt a.old).length ≤ 769 := by have := Names.txt_len a.old; have := L1.out.2.2.2.1; omega
  have l4 : (Names.txt a.to).length ≤ 193 := by have := Names.txt_len a.to; have := L1.out.2.2.2.2; omega
  have HA : Hid (OpSeg w k v ol t a) := ha
  obtain ⟨p1, p2, p3, p4, r1, r2, r3, r4, rfl, rfl, rfl, rfl⟩ := ha.shapes
  obtain ⟨ms, hms⟩ : ∃ n, a.most = n := ⟨_, rfl⟩
  obtain ⟨X0, hX0⟩ : ∃ X, [32] ++ a.table = X := ⟨_, rfl⟩
  have EX0 : Hid ([32] ++ a.table = X0) := hX0
  obtain ⟨sX0, bX0⟩ := addS [32] a.table X0 17 hX0 (by (try simp only [List.length_cons, List.length_nil]); omega) (by decide)
  have sX0 : ∀ wk, (Op.stringOp .add ⟨#[32]⟩ ⟨a.table.toArray⟩).run Tryz.prog wk = .ok (.string ⟨X0.toArray⟩) wk := sX0
  clear hX0
  obtain ⟨X1, hX1⟩ : ∃ X, X0 ++ [32] = X := ⟨_, rfl⟩
  have EX1 : Hid (X0 ++ [32] = X1) := hX1
  obtain ⟨sX1, bX1⟩ := addS X0 [32] X1 18 hX1 (by (try simp only [List.length_cons, List.length_nil]); omega) (by decide)
  have sX1 : ∀ wk, (Op.stringOp .add ⟨X0.toArray⟩ ⟨#[32]⟩).run Tryz.prog wk = .ok (.string ⟨X1.toArray⟩) wk := sX1
  clear hX1
  obtain ⟨X2, hX2⟩ : ∃ X, X1 ++ Names.txt a.key = X := ⟨_, rfl⟩
  have EX2 : Hid (X1 ++ Names.txt a.key = X2) := hX2
  obtain ⟨sX2, bX2⟩ := addS X1 (Names.txt a.key) X2 211 hX2 (by (try simp only [List.length_cons, List.length_nil]); omega) (by decide)
  have sX2 : ∀ wk, (Op.stringOp .add ⟨X1.toArray⟩ ⟨(Names.txt a.key).toArray⟩).run Tryz.prog wk = .ok (.string ⟨X2.toArray⟩) wk := sX2
  clear hX2
  obtain ⟨X3, hX3⟩ : ∃ X, [115, 119, 97, 112] ++ X2 = X := ⟨_, rfl⟩
  have EX3 : Hid ([115, 119, 97, 112] ++ X2 = X3) := hX3
  obtain ⟨sX3, bX3⟩ := addS [115, 119, 97, 112] X2 X3 217 hX3 (by (try simp only [List.length_cons, List.length_nil]); omega) (by decide)
  have sX3 : ∀ wk, (Op.stringOp .add ⟨#[115, 119, 97, 112]⟩ ⟨X2.toArray⟩).run Tryz.prog wk = .ok (.string ⟨X3.toArray⟩) wk := sX3
  clear hX3
  obtain ⟨X4, hX4⟩ : ∃ X, X3 ++ [32] = X := ⟨_, rfl⟩
  have EX4 : Hid (X3 ++ [32] = X4) := hX4
  obtain ⟨sX4, bX4⟩ := addS X3 [32] X4 218 hX4 (by (try simp only [List.length_cons, List.length_nil]); omega) (by decide)
  have sX4 : ∀ wk, (Op.stringOp .add ⟨X3.toArray⟩ ⟨#[32]⟩).run Tryz.prog wk = .ok (.string ⟨X4.toArray⟩) wk := sX4
  clear hX4
  obtain ⟨X5, hX5⟩ : ∃ X, [43] ++ Names.txt a.old = X := ⟨_, rfl⟩
  have EX5 : Hid ([43] ++ Names.txt a.old = X5) := hX5
  obtain ⟨sX5, bX5⟩ := addS [43] (Names.txt a.old) X5 770 hX5 (by (try simp only [List.length_cons, List.length_nil]); omega) (by decide)
  have sX5 : ∀ wk, (Op.stringOp .add ⟨#[43]⟩ ⟨(Names.txt a.old).toArray⟩).run Tryz.prog wk = .ok (.string ⟨X5.toArray⟩) wk := sX5
  clear hX5
  obtain ⟨X6, hX6⟩ : ∃ X, X4 ++ X5 = X := ⟨_, rfl⟩
  have EX6 : Hid (X4 ++ X5 = X6) := hX6
  obtain ⟨sX6, bX6⟩ := addS X4 X5 X6 988 hX6 (by (try simp only [List.length_cons, List.length_nil]); omega) (by decide)
  have sX6 : ∀ wk, (Op.stringOp .add ⟨X4.toArray⟩ ⟨X5.toArray⟩).run Tryz.prog wk = .ok (.string ⟨X6.toArray⟩) wk := sX6
  clear hX6
  obtain ⟨X7, hX7⟩ : ∃ X, X6 ++ [32] = X := ⟨_, rfl⟩
  have EX7 : Hid (X6 ++ [32] = X7) := hX7
  obtain ⟨sX7, bX7⟩ := addS X6 [32] X7 989 hX7 (by (try simp only [List.length_cons, List.length_nil]); omega) (by decide)
  have sX7 : ∀ wk, (Op.stringOp .add ⟨X6.toArray⟩ ⟨#[32]⟩).run Tryz.prog wk = .ok (.string ⟨X7.toArray⟩) wk := sX7
  clear hX7
  obtain ⟨X8, hX8⟩ : ∃ X, X7 ++ Names.txt a.value = X := ⟨_, rfl⟩
  have EX8 : Hid (X7 ++ Names.txt a.value = X8) := hX8
  obtain ⟨sX8, bX8⟩ := addS X7 (Names.txt a.value) X8 1758 hX8 (by (try simp only [List.length_cons, List.length_nil]); omega) (by decide)
  have sX8 : ∀ wk, (Op.stringOp .add ⟨X7.toArray⟩ ⟨(Names.txt a.value).toArray⟩).run Tryz.prog wk = .ok (.string ⟨X8.toArray⟩) wk := sX8
  clear hX8
  have HF : Hid (opTxt a = X8) := by
    unfold Hid
    rw [← EX8.out, ← EX7.out, ← EX6.out, ← EX5.out, ← EX4.out, ← EX3.out, ← EX2.out, ← EX1.out, ← EX0.out]
    unfold opTxt opWords tailWords kindWord oldW
    rw [hk, hh]
    simp [Lib.join, List.intercalate]
  unfold opV
  rw [HF.out, hk, hms, hh]
  unfold Str
  clear ha hm hms hk hM hh l0 l1 l2 l3 l4
  go_enter Tryz.func46, Tryz.ntmps46
  go_upto_region 1 with fail
  have HC : Hid (∀ x : World, (w.alloc (.cells #[.int .i64 4, .string ⟨a.table.toArray⟩, .slice p1 a.key.length r1, .slice p2 a.value.length r2, .bool true, .slice p3 a.old.length r3, .slice p4 a.to.length r4, .int .i64 ms] 71)).grownBy x none → x.cell? ⟨w.heap.size, 0, none⟩ = some (.int .i64 4) ∧ x.cell? ⟨w.heap.size, 1, none⟩ = some (.string ⟨a.table.toArray⟩) ∧ x.cell? ⟨w.heap.size, 2, none⟩ = some (.slice p1 a.key.length r1) ∧ x.cell? ⟨w.heap.size, 3, none⟩ = some (.slice p2 a.value.length r2) ∧ x.cell? ⟨w.heap.size, 4, none⟩ = some (.bool true) ∧ x.cell? ⟨w.heap.size, 5, none⟩ = some (.slice p3 a.old.length r3) ∧ x.cell? ⟨w.heap.size, 6, none⟩ = some (.slice p4 a.to.length r4) ∧ x.cell? ⟨w.heap.size, 7, none⟩ = some (.int .i64 ms)) := by
    intro x hx
    have hb := heap_alloc_new w (.cells #[.int .i64 4, .string ⟨a.table.toArray⟩, .slice p1 a.key.length r1, .slice p2 a.value.length r2, .bool true, .slice p3 a.old.length r3, .slice p4 a.to.length r4, .int .i64 ms] 71)
    refine ⟨grown_fun hx ?_, grown_fun hx ?_, grown_fun hx ?_, grown_fun hx ?_, grown_fun hx ?_, grown_fun hx ?_, grown_fun hx ?_, grown_fun hx ?_⟩ <;> (rw [cell_of_row _ _ _ _ _ _ hb]; rfl)
  have HG0 : Hid (w.grownBy (w.alloc (.cells #[.int .i64 4, .string ⟨a.table.toArray⟩, .slice p1 a.key.length r1, .slice p2 a.value.length r2, .bool true, .slice p3 a.old.length r3, .slice p4 a.to.length r4, .int .i64 ms] 71)) none) := World.grownBy_alloc _ _ none
  generalize (w.alloc (.cells #[.int .i64 4, .string ⟨a.table.toArray⟩, .slice p1 a.key.length r1, .slice p2 a.value.length r2, .bool true, .slice p3 a.old.length r3, .slice p4 a.to.length r4, .int .i64 ms] 71)) = W0 at HC HG0 ⊢
  go_wp2_with fail
  refine wp_region_noPanic ?_
  refine wp_region_hold 1000 (fun x => W0.grownBy x none) (by kernel_rfl) ?_
  have G0 : Hid (W0.grownBy W0.drew none) := grown_drew _ _
  generalize W0.drew = w1 at G0 ⊢
  refine wpHold_take (i := 0) (v := _) (G0.out) rfl rfl (by kernel_rfl) (by kernel_rfl) (by kernel_rfl) (by kernel_rfl) (by kernel_rfl) (fun _ _ _ h => h) (by rfl) (fun wk hk => by obtain ⟨m0, m1, m2, m3, m4, m5, m6, m7⟩ := HC.out wk hk; go_simp; try rfl) ?_
  try simp only [Act.put, List.setIfInBounds_toArray, List.set_cons_zero, List.set_cons_succ]
  refine wpHold_take (i := 1) (v := _) (G0.out) rfl rfl (by kernel_rfl) (by kernel_rfl) (by kernel_rfl) (by kernel_rfl) (by kernel_rfl) (fun _ _ _ h => h) (by rfl) (fun wk hk => by obtain ⟨m0, m1, m2, m3, m4, m5, m6, m7⟩ := HC.out wk hk; go_simp; try rfl) ?_
  try simp only [Act.put, List.setIfInBounds_toArray, List.set_cons_zero, List.set_cons_succ]
  refine wpHold_take (i := 2) (v := _) (G0.out) rfl rfl (by kernel_rfl) (by kernel_rfl) (by kernel_rfl) (by kernel_rfl) (by kernel_rfl) (fun _ _ _ h => h) (by rfl) (fun wk hk => by obtain ⟨m0, m1, m2, m3, m4, m5, m6, m7⟩ := HC.out wk hk; go_simp; try rfl) ?_
  try simp only [Act.put, List.setIfInBounds_toArray, List.set_cons_zero, List.set_cons_succ]
  refine wpHold_take (i := 3) (v := _) (G0.out) rfl rfl (by kernel_rfl) (by kernel_rfl) (by kernel_rfl) (by kernel_rfl) (by kernel_rfl) (fun _ _ _ h => h) (by rfl) (fun wk hk => by obtain ⟨m0, m1, m2, m3, m4, m5, m6, m7⟩ := HC.out wk hk; go_simp; try rfl) ?_
  try simp only [Act.put, List.setIfInBounds_toArray, List.set_cons_zero, List.set_cons_succ]
  refine wpHold_take (i := 4) (v := _) (G0.out) rfl rfl (by kernel_rfl) (by kernel_rfl) (by kernel_rfl) (by kernel_rfl) (by kernel_rfl) (fun _ _ _ h => h) (by rfl) (fun wk hk => by obtain ⟨m0, m1, m2, m3, m4, m5, m6, m7⟩ := HC.out wk hk; go_simp; try rfl) ?_
  try simp only [Act.put, List.setIfInBounds_toArray, List.set_cons_zero, List.set_cons_succ]
  refine wpHold_take (i := 5) (v := _) (G0.out) rfl rfl (by kernel_rfl) (by kernel_rfl) (by kernel_rfl) (by kernel_rfl) (by kernel_rfl) (fun _ _ _ h => h) (by rfl) (fun wk hk => by obtain ⟨m0, m1, m2, m3, m4, m5, m6, m7⟩ := HC.out wk hk; go_simp; try rfl) ?_
  try simp only [Act.put, List.setIfInBounds_toArray, List.set_cons_zero, List.set_cons_succ]
  refine wpHold_one (i := 6) rfl (by kernel_rfl) (by rfl) (fun K hK => ?_)
  go_wp2_with (go_at_call 84; refine (dTxt _ a.key _ (HA.out.key.grown (grown_trans HG0.out G0.out)) (by have := L1.out.2.1; omega)).mono ?_)
  rintro e w2 ⟨rfl, hg⟩
  have G1 : Hid (W0.grownBy w2 none) := grown_trans G0.out hg
  clear hg
  go_wp2_with fail
  refine hK.out _ _ (fun _ => G1.out) ?_
  clear hK K
  try simp only [Act.put, List.setIfInBounds_toArray, List.set_cons_zero, List.set_cons_succ]
  refine wpHold_take (i := 7) (v := _) (G1.out) rfl rfl (by kernel_rfl) (by kernel_rfl) (by kernel_rfl) (by kernel_rfl) (by kernel_rfl) (fun _ _ _ h => h) (by rfl) (fun wk hk => by obtain ⟨m0, m1, m2, m3, m4, m5, m6, m7⟩ := HC.out wk hk; go_simp; try rfl) ?_
  try simp only [Act.put, List.setIfInBounds_toArray, List.set_cons_zero, List.set_cons_succ]
  refine wpHold_take (i := 8) (v := _) (G1.out) rfl rfl (by kernel_rfl) (by kernel_rfl) (by kernel_rfl) (by kernel_rfl) (by kernel_rfl) (fun _ _ _ h => h) (by rfl) (fun wk hk => by obtain ⟨m0, m1, m2, m3, m4, m5, m6, m7⟩ := HC.out wk hk; go_simp; try rfl) ?_
  try simp only [Act.put, List.setIfInBounds_toArray, List.set_cons_zero, List.set_cons_succ]
  refine wpHold_done (by kernel_rfl) ?_
  refine (‹∀ (a : Act) (w : World), Code.wp Tryz.prog _ _ a w → _› _ _ ?_)
  obtain ⟨m0, m1, m2, m3, m4, m5, m6, m7⟩ := HC.out w2 G1.out
  go_wp2_with (go_at_call 84; refine (dTxt _ a.old _ (HA.out.old.grown (grown_trans HG0.out G1.out)) (by have := L1.out.2.2.2.1; omega)).mono ?_)
  rintro e w3 ⟨rfl, hg⟩
  have G2 : Hid (W0.grownBy w3 none) := grown_trans G1.out hg
  clear hg m0 m1 m2 m3 m4 m5 m6 m7
  obtain ⟨m0, m1, m2, m3, m4, m5, m6, m7⟩ := HC.out w3 G2.out
  go_wp2_with (go_at_call 84; refine (dTxt _ a.value _ (HA.out.value.grown (grown_trans HG0.out G2.out)) (by have := L1.out.2.2.1; omega)).mono ?_)
  rintro e w4 ⟨rfl, hg⟩
  have G3 : Hid (W0.grownBy w4 none) := grown_trans G2.out hg
  clear hg m0 m1 m2 m3 m4 m5 m6 m7
  go_wp2_with fail
  go_ret
  exact ⟨rfl, grown_trans HG0.out G3.out⟩
set_option maxRecDepth 100000 in
set_option maxHeartbeats 8000000 in
theorem line46_4f (k v ol t : Value) (a : POp) (w : World) (ha : OpSeg w k v ol t a) (hk : a.kind = 4) (hh : a.has = false) (hm : mayOp a = true) : Calls Tryz.prog 46 #[opV k v ol t a] w fun e w' => e = .returned (Str (opTxt a)) ∧ w.grownBy w' none := by
  have hM := may_of hm
  have L1 : Hid (a.table.length ≤ 16 ∧ a.key.length ≤ 64 ∧ a.value.length ≤ 256 ∧ a.old.length ≤ 256 ∧ a.to.length ≤ 64) := ⟨tab_len hM.tab, hM.key, hM.value, hM.old, hM.to⟩
  have l0 : a.table.length ≤ 16 := L1.out.1
  have l1 : (Names.txt a.key).length ≤ 193 := by have := Names.txt_len a.key; have := L1.out.2.1; omega
  have l2 : (Names.txt a.value).length ≤ 769 := by have := Names.txt_len a.value; have := L1.out.2.2.1; omega
  have l3 : (Names.txt a.old).length ≤ 769 := by have := Names.txt_len a.old; have := L1.out.2.2.2.1; omega
  have l4 : (Names.txt a.to).length ≤ 193 := by have := Names.txt_len a.to; have := L1.out.2.2.2.2; omega
  have HA : Hid (OpSeg w k v ol t a) := ha
  obtain ⟨p1, p2, p3, p4, r1, r2, r3, r4, rfl, rfl, rfl, rfl⟩ := ha.shapes
  obtain ⟨ms, hms⟩ : ∃ n, a.most = n := ⟨_, rfl⟩
  obtain ⟨X0, hX0⟩ : ∃ X, [32] ++ a.table = X := ⟨_, rfl⟩
  have EX0 : Hid ([32] ++ a.table = X0) := hX0
  obtain ⟨sX0, bX0⟩ := addS [32] a.table X0 17 hX0 (by (try simp only [List.length_cons, List.length_nil]); omega) (by decide)
  have sX0 : ∀ wk, (Op.stringOp .add ⟨#[32]⟩ ⟨a.table.toArray⟩).run Tryz.prog wk = .ok (.string ⟨X0.toArray⟩) wk := sX0
  clear hX0
  obtain ⟨X1, hX1⟩ : ∃ X, X0 ++ [32] = X := ⟨_, rfl⟩
  have EX1 : Hid (X0 ++ [32] = X1) := hX1
  obtain ⟨sX1, bX1⟩ := addS X0 [32] X1 18 hX1 (by (try simp only [List.length_cons, List.length_nil]); omega) (by decide)
  have sX1 : ∀ wk, (Op.stringOp .add ⟨X0.toArray⟩ ⟨#[32]⟩).run Tryz.prog wk = .ok (.string ⟨X1.toArray⟩) wk := sX1
  clear hX1
  obtain ⟨X2, hX2⟩ : ∃ X, X1 ++ Names.txt a.key = X := ⟨_, rfl⟩
  have EX2 : Hid (X1 ++ Names.txt a.key = X2) := hX2
  obtain ⟨sX2, bX2⟩ := addS X1 (Names.txt a.key) X2 211 hX2 (by (try simp only [List.length_cons, List.length_nil]); omega) (by decide)
  have sX2 : ∀ wk, (Op.stringOp .add ⟨X1.toArray⟩ ⟨(Names.txt a.key).toArray⟩).run Tryz.prog wk = .ok (.string ⟨X2.toArray⟩) wk := sX2
  clear hX2
  obtain ⟨X3, hX3⟩ : ∃ X, [115, 119, 97, 112] ++ X2 = X := ⟨_, rfl⟩
  have EX3 : Hid ([115, 119, 97, 112] ++ X2 = X3) := hX3
  obtain ⟨sX3, bX3⟩ := addS [115, 119, 97, 112] X2 X3 217 hX3 (by (try simp only [List.length_cons, List.length_nil]); omega) (by decide)
  have sX3 : ∀ wk, (Op.stringOp .add ⟨#[115, 119, 97, 112]⟩ ⟨X2.toArray⟩).run Tryz.prog wk = .ok (.string ⟨X3.toArray⟩) wk := sX3
  clear hX3
  obtain ⟨X4, hX4⟩ : ∃ X, X3 ++ [32] = X := ⟨_, rfl⟩
  have EX4 : Hid (X3 ++ [32] = X4) := hX4
  obtain ⟨sX4, bX4⟩ := addS X3 [32] X4 218 hX4 (by (try simp only [List.length_cons, List.length_nil]); omega) (by decide)
  have sX4 : ∀ wk, (Op.stringOp .add ⟨X3.toArray⟩ ⟨#[32]⟩).run Tryz.prog wk = .ok (.string ⟨X4.toArray⟩) wk := sX4
  clear hX4
  obtain ⟨X5, hX5⟩ : ∃ X, X4 ++ [45] = X := ⟨_, rfl⟩
  have EX5 : Hid (X4 ++ [45] = X5) := hX5
  obtain ⟨sX5, bX5⟩ := addS X4 [45] X5 988 hX5 (by (try simp only [List.length_cons, List.length_nil]); omega) (by decide)
  have sX5 : ∀ wk, (Op.stringOp .add ⟨X4.toArray⟩ ⟨#[45]⟩).run Tryz.prog wk = .ok (.string ⟨X5.toArray⟩) wk := sX5
  clear hX5
  obtain ⟨X6, hX6⟩ : ∃ X, X5 ++ [32] = X := ⟨_, rfl⟩
  have EX6 : Hid (X5 ++ [32] = X6) := hX6
  obtain ⟨sX6, bX6⟩ := addS X5 [32] X6 989 hX6 (by (try simp only [List.length_cons, List.length_nil]); omega) (by decide)
  have sX6 : ∀ wk, (Op.stringOp .add ⟨X5.toArray⟩ ⟨#[32]⟩).run Tryz.prog wk = .ok (.string ⟨X6.toArray⟩) wk := sX6
  clear hX6
  obtain ⟨X7, hX7⟩ : ∃ X, X6 ++ Names.txt a.value = X := ⟨_, rfl⟩
  have EX7 : Hid (X6 ++ Names.txt a.value = X7) := hX7
  obtain ⟨sX7, bX7⟩ := addS X6 (Names.txt a.value) X7 1758 hX7 (by (try simp only [List.length_cons, List.length_nil]); omega) (by decide)
  have sX7 : ∀ wk, (Op.stringOp .add ⟨X6.toArray⟩ ⟨(Names.txt a.value).toArray⟩).run Tryz.prog wk = .ok (.string ⟨X7.toArray⟩) wk := sX7
  clear hX7
  have HF : Hid (opTxt a = X7) := by
    unfold Hid
    rw [← EX7.out, ← EX6.out, ← EX5.out, ← EX4.out, ← EX3.out, ← EX2.out, ← EX1.out, ← EX0.out]
    unfold opTxt opWords tailWords kindWord oldW
    rw [hk, hh]
    simp [Lib.join, List.intercalate]
  unfold opV
  rw [HF.out, hk, hms, hh]
  unfold Str
  clear ha hm hms hk hM hh l0 l1 l2 l3 l4
  go_enter Tryz.func46, Tryz.ntmps46
  go_upto_region 1 with fail
  have HC : Hid (∀ x : World, (w.alloc (.cells #[.int .i64 4, .string ⟨a.table.toArray⟩, .slice p1 a.key.length r1, .slice p2 a.value.length r2, .bool false, .slice p3 a.old.length r3, .slice p4 a.to.length r4, .int .i64 ms] 71)).grownBy x none → x.cell? ⟨w.heap.size, 0, none⟩ = some (.int .i64 4) ∧ x.cell? ⟨w.heap.size, 1, none⟩ = some (.string ⟨a.table.toArray⟩) ∧ x.cell? ⟨w.heap.size, 2, none⟩ = some (.slice p1 a.key.length r1) ∧ x.cell? ⟨w.heap.size, 3, none⟩ = some (.slice p2 a.value.length r2) ∧ x.cell? ⟨w.heap.size, 4, none⟩ = some (.bool false) ∧ x.cell? ⟨w.heap.size, 5, none⟩ = some (.slice p3 a.old.length r3) ∧ x.cell? ⟨w.heap.size, 6, none⟩ = some (.slice p4 a.to.length r4) ∧ x.cell? ⟨w.heap.size, 7, none⟩ = some (.int .i64 ms)) := by
    intro x hx
    have hb := heap_alloc_new w (.cells #[.int .i64 4, .string ⟨a.table.toArray⟩, .slice p1 a.key.length r1, .slice p2 a.value.length r2, .bool false, .slice p3 a.old.length r3, .slice p4 a.to.length r4, .int .i64 ms] 71)
    refine ⟨grown_fun hx ?_, grown_fun hx ?_, grown_fun hx ?_, grown_fun hx ?_, grown_fun hx ?_, grown_fun hx ?_, grown_fun hx ?_, grown_fun hx ?_⟩ <;> (rw [cell_of_row _ _ _ _ _ _ hb]; rfl)
  have HG0 : Hid (w.grownBy (w.alloc (.cells #[.int .i64 4, .string ⟨a.table.toArray⟩, .slice p1 a.key.length r1, .slice p2 a.value.length r2, .bool false, .slice p3 a.old.length r3, .slice p4 a.to.length r4, .int .i64 ms] 71)) none) := World.grownBy_alloc _ _ none
  generalize (w.alloc (.cells #[.int .i64 4, .string ⟨a.table.toArray⟩, .slice p1 a.key.length r1, .slice p2 a.value.length r2, .bool false, .slice p3 a.old.length r3, .slice p4 a.to.length r4, .int .i64 ms] 71)) = W0 at HC HG0 ⊢
  go_wp2_with fail
  refine wp_region_noPanic ?_
  refine wp_region_hold 1000 (fun x => W0.grownBy x none) (by kernel_rfl) ?_
  have G0 : Hid (W0.grownBy W0.drew none) := grown_drew _ _
  generalize W0.drew = w1 at G0 ⊢
  refine wpHold_take (i := 0) (v := _) (G0.out) rfl rfl (by kernel_rfl) (by kernel_rfl) (by kernel_rfl) (by kernel_rfl) (by kernel_rfl) (fun _ _ _ h => h) (by rfl) (fun wk hk => by obtain ⟨m0, m1, m2, m3, m4, m5, m6, m7⟩ := HC.out wk hk; go_simp; try rfl) ?_
  try simp only [Act.put, List.setIfInBounds_toArray, List.set_cons_zero, List.set_cons_succ]
  refine wpHold_take (i := 1) (v := _) (G0.out) rfl rfl (by kernel_rfl) (by kernel_rfl) (by kernel_rfl) (by kernel_rfl) (by kernel_rfl) (fun _ _ _ h => h) (by rfl) (fun wk hk => by obtain ⟨m0, m1, m2, m3, m4, m5, m6, m7⟩ := HC.out wk hk; go_simp; try rfl) ?_
  try simp only [Act.put, List.setIfInBounds_toArray, List.set_cons_zero, List.set_cons_succ]
  refine wpHold_take (i := 2) (v := _) (G0.out) rfl rfl (by kernel_rfl) (by kernel_rfl) (by kernel_rfl) (by kernel_rfl) (by kernel_rfl) (fun _ _ _ h => h) (by rfl) (fun wk hk => by obtain ⟨m0, m1, m2, m3, m4, m5, m6, m7⟩ := HC.out wk hk; go_simp; try rfl) ?_
  try simp only [Act.put, List.setIfInBounds_toArray, List.set_cons_zero, List.set_cons_succ]
  refine wpHold_take (i := 3) (v := _) (G0.out) rfl rfl (by kernel_rfl) (by kernel_rfl) (by kernel_rfl) (by kernel_rfl) (by kernel_rfl) (fun _ _ _ h => h) (by rfl) (fun wk hk => by obtain ⟨m0, m1, m2, m3, m4, m5, m6, m7⟩ := HC.out wk hk; go_simp; try rfl) ?_
  try simp only [Act.put, List.setIfInBounds_toArray, List.set_cons_zero, List.set_cons_succ]
  refine wpHold_take (i := 4) (v := _) (G0.out) rfl rfl (by kernel_rfl) (by kernel_rfl) (by kernel_rfl) (by kernel_rfl) (by kernel_rfl) (fun _ _ _ h => h) (by rfl) (fun wk hk => by obtain ⟨m0, m1, m2, m3, m4, m5, m6, m7⟩ := HC.out wk hk; go_simp; try rfl) ?_
  try simp only [Act.put, List.setIfInBounds_toArray, List.set_cons_zero, List.set_cons_succ]
  refine wpHold_take (i := 5) (v := _) (G0.out) rfl rfl (by kernel_rfl) (by kernel_rfl) (by kernel_rfl) (by kernel_rfl) (by kernel_rfl) (fun _ _ _ h => h) (by rfl) (fun wk hk => by obtain ⟨m0, m1, m2, m3, m4, m5, m6, m7⟩ := HC.out wk hk; go_simp; try rfl) ?_
  try simp only [Act.put, List.setIfInBounds_toArray, List.set_cons_zero, List.set_cons_succ]
  refine wpHold_one (i := 6) rfl (by kernel_rfl) (by rfl) (fun K hK => ?_)
  go_wp2_with (go_at_call 84; refine (dTxt _ a.key _ (HA.out.key.grown (grown_trans HG0.out G0.out)) (by have := L1.out.2.1; omega)).mono ?_)
  rintro e w2 ⟨rfl, hg⟩
  have G1 : Hid (W0.grownBy w2 none) := grown_trans G0.out hg
  clear hg
  go_wp2_with fail
  refine hK.out _ _ (fun _ => G1.out) ?_
  clear hK K
  try simp only [Act.put, List.setIfInBounds_toArray, List.set_cons_zero, List.set_cons_succ]
  refine wpHold_take (i := 7) (v := _) (G1.out) rfl rfl (by kernel_rfl) (by kernel_rfl) (by kernel_rfl) (by kernel_rfl) (by kernel_rfl) (fun _ _ _ h => h) (by rfl) (fun wk hk => by obtain ⟨m0, m1, m2, m3, m4, m5, m6, m7⟩ := HC.out wk hk; go_simp; try rfl) ?_
  try simp only [Act.put, List.setIfInBounds_toArray, List.set_cons_zero, List.set_cons_succ]
  refine wpHold_take (i := 8) (v := _) (G1.out) rfl rfl (by kernel_rfl) (by kernel_rfl) (by kernel_rfl) (by kernel_rfl) (by kernel_rfl) (fun _ _ _ h => h) (by rfl) (fun wk hk => by obtain ⟨m0, m1, m2, m3, m4, m5, m6, m7⟩ := HC.out wk hk; go_simp; try rfl) ?_
  try simp only [Act.put, List.setIfInBounds_toArray, List.set_cons_zero, List.set_cons_succ]
  refine wpHold_done (by kernel_rfl) ?_
  refine (‹∀ (a : Act) (w : World), Code.wp Tryz.prog _ _ a w → _› _ _ ?_)
  obtain ⟨m0, m1, m2, m3, m4, m5, m6, m7⟩ := HC.out w2 G1.out
  go_wp2_with (go_at_call 84; refine (dTxt _ a.value _ (HA.out.value.grown (grown_trans HG0.out G1.out)) (by have := L1.out.2.2.1; omega)).mono ?_)
  rintro e w4 ⟨rfl, hg⟩
  have G3 : Hid (W0.grownBy w4 none) := grown_trans G1.out hg
  clear hg m0 m1 m2 m3 m4 m5 m6 m7
  go_wp2_with fail
  go_ret
  exact ⟨rfl, grown_trans HG0.out G3.out⟩
set_option maxRecDepth 100000 in
set_option maxHeartbeats 8000000 in
theorem line46_5 (k v ol t : Value) (a : POp) (w : World) (ha : OpSeg w k v ol t a) (hk : a.kind = 5) (hm : mayOp a = true) : Calls Tryz.prog 46 #[opV k v ol t a] w fun e w' => e = .returned (Str (opTxt a)) ∧ w.grownBy w' none := by
  have hM := may_of hm
  have L1 : Hid (a.table.length ≤ 16 ∧ a.key.length ≤ 64 ∧ a.value.length ≤ 256 ∧ a.old.length ≤ 256 ∧ a.to.length ≤ 64) := ⟨tab_len hM.tab, hM.key, hM.value, hM.old, hM.to⟩
  have l0 : a.table.length ≤ 16 := L1.out.1
  have l1 : (Names.txt a.key).length ≤ 193 := by have := Names.txt_len a.key; have := L1.out.2.1; omega
  have l2 : (Names.txt a.value).length ≤ 769 := by have := Names.txt_len a.value; have := L1.out.2.2.1; omega
  have l3 : (Names.txt a.old).length ≤ 769 := by have := Names.txt_len a.old; have := L1.out.2.2.2.1; omega
  have l4 : (Names.txt a.to).length ≤ 193 := by have := Names.txt_len a.to; have := L1.out.2.2.2.2; omega
  have HA : Hid (OpSeg w k v ol t a) := ha
  obtain ⟨p1, p2, p3, p4, r1, r2, r3, r4, rfl, rfl, rfl, rfl⟩ := ha.shapes
  obtain ⟨ms, hms⟩ : ∃ n, a.most = n := ⟨_, rfl⟩
  have hms5 : 1 ≤ ms ∧ ms ≤ 64 := by rw [← hms]; exact hM.most hk
  have l5 : (Lib.decDigits ms.toNat).length ≤ 10 := dec_len _ (by omega)
  obtain ⟨X0, hX0⟩ : ∃ X, [32] ++ a.table = X := ⟨_, rfl⟩
  have EX0 : Hid ([32] ++ a.table = X0) := hX0
  obtain ⟨sX0, bX0⟩ := addS [32] a.table X0 17 hX0 (by (try simp only [List.length_cons, List.length_nil]); omega) (by decide)
  have sX0 : ∀ wk, (Op.stringOp .add ⟨#[32]⟩ ⟨a.table.toArray⟩).run Tryz.prog wk = .ok (.string ⟨X0.toArray⟩) wk := sX0
  clear hX0
  obtain ⟨X1, hX1⟩ : ∃ X, X0 ++ [32] = X := ⟨_, rfl⟩
  have EX1 : Hid (X0 ++ [32] = X1) := hX1
  obtain ⟨sX1, bX1⟩ := addS X0 [32] X1 18 hX1 (by (try simp only [List.length_cons, List.length_nil]); omega) (by decide)
  have sX1 : ∀ wk, (Op.stringOp .add ⟨X0.toArray⟩ ⟨#[32]⟩).run Tryz.prog wk = .ok (.string ⟨X1.toArray⟩) wk := sX1
  clear hX1
  obtain ⟨X2, hX2⟩ : ∃ X, X1 ++ Names.txt a.key = X := ⟨_, rfl⟩
  have EX2 : Hid (X1 ++ Names.txt a.key = X2) := hX2
  obtain ⟨sX2, bX2⟩ := addS X1 (Names.txt a.key) X2 211 hX2 (by (try simp only [List.length_cons, List.length_nil]); omega) (by decide)
  have sX2 : ∀ wk, (Op.stringOp .add ⟨X1.toArray⟩ ⟨(Names.txt a.key).toArray⟩).run Tryz.prog wk = .ok (.string ⟨X2.toArray⟩) wk := sX2
  clear hX2
  obtain ⟨X3, hX3⟩ : ∃ X, [115, 99, 97, 110] ++ X2 = X := ⟨_, rfl⟩
  have EX3 : Hid ([115, 99, 97, 110] ++ X2 = X3) := hX3
  obtain ⟨sX3, bX3⟩ := addS [115, 99, 97, 110] X2 X3 217 hX3 (by (try simp only [List.length_cons, List.length_nil]); omega) (by decide)
  have sX3 : ∀ wk, (Op.stringOp .add ⟨#[115, 99, 97, 110]⟩ ⟨X2.toArray⟩).run Tryz.prog wk = .ok (.string ⟨X3.toArray⟩) wk := sX3
  clear hX3
  obtain ⟨X4, hX4⟩ : ∃ X, X3 ++ [32] = X := ⟨_, rfl⟩
  have EX4 : Hid (X3 ++ [32] = X4) := hX4
  obtain ⟨sX4, bX4⟩ := addS X3 [32] X4 218 hX4 (by (try simp only [List.length_cons, List.length_nil]); omega) (by decide)
  have sX4 : ∀ wk, (Op.stringOp .add ⟨X3.toArray⟩ ⟨#[32]⟩).run Tryz.prog wk = .ok (.string ⟨X4.toArray⟩) wk := sX4
  clear hX4
  obtain ⟨X5, hX5⟩ : ∃ X, X4 ++ Names.txt a.to = X := ⟨_, rfl⟩
  have EX5 : Hid (X4 ++ Names.txt a.to = X5) := hX5
  obtain ⟨sX5, bX5⟩ := addS X4 (Names.txt a.to) X5 411 hX5 (by (try simp only [List.length_cons, List.length_nil]); omega) (by decide)
  have sX5 : ∀ wk, (Op.stringOp .add ⟨X4.toArray⟩ ⟨(Names.txt a.to).toArray⟩).run Tryz.prog wk = .ok (.string ⟨X5.toArray⟩) wk := sX5
  clear hX5
  obtain ⟨X6, hX6⟩ : ∃ X, X5 ++ [32] = X := ⟨_, rfl⟩
  have EX6 : Hid (X5 ++ [32] = X6) := hX6
  obtain ⟨sX6, bX6⟩ := addS X5 [32] X6 412 hX6 (by (try simp only [List.length_cons, List.length_nil]); omega) (by decide)
  have sX6 : ∀ wk, (Op.stringOp .add ⟨X5.toArray⟩ ⟨#[32]⟩).run Tryz.prog wk = .ok (.string ⟨X6.toArray⟩) wk := sX6
  clear hX6
  obtain ⟨X7, hX7⟩ : ∃ X, X6 ++ Lib.decDigits ms.toNat = X := ⟨_, rfl⟩
  have EX7 : Hid (X6 ++ Lib.decDigits ms.toNat = X7) := hX7
  obtain ⟨sX7, bX7⟩ := addS X6 (Lib.decDigits ms.toNat) X7 422 hX7 (by (try simp only [List.length_cons, List.length_nil]); omega) (by decide)
  have sX7 : ∀ wk, (Op.stringOp .add ⟨X6.toArray⟩ ⟨(Lib.decDigits ms.toNat).toArray⟩).run Tryz.prog wk = .ok (.string ⟨X7.toArray⟩) wk := sX7
  clear hX7
  have HF : Hid (opTxt a = X7) := by
    unfold Hid
    rw [← EX7.out, ← EX6.out, ← EX5.out, ← EX4.out, ← EX3.out, ← EX2.out, ← EX1.out, ← EX0.out]
    unfold opTxt opWords tailWords kindWord
    rw [hk, hms]
    simp [Lib.join, List.intercalate]
  unfold opV
  rw [HF.out, hk, hms]
  unfold Str
  clear ha hm hms hk hM l0 l1 l2 l3 l4 l5
  go_enter Tryz.func46, Tryz.ntmps46
  go_upto_region 1 with fail
  have HC : Hid (∀ x : World, (w.alloc (.cells #[.int .i64 5, .string ⟨a.table.toArray⟩, .slice p1 a.key.length r1, .slice p2 a.value.length r2, .bool a.has, .slice p3 a.old.length r3, .slice p4 a.to.length r4, .int .i64 ms] 71)).grownBy x none → x.cell? ⟨w.heap.size, 0, none⟩ = some (.int .i64 5) ∧ x.cell? ⟨w.heap.size, 1, none⟩ = some (.string ⟨a.table.toArray⟩) ∧ x.cell? ⟨w.heap.size, 2, none⟩ = some (.slice p1 a.key.length r1) ∧ x.cell? ⟨w.heap.size, 3, none⟩ = some (.slice p2 a.value.length r2) ∧ x.cell? ⟨w.heap.size, 4, none⟩ = some (.bool a.has) ∧ x.cell? ⟨w.heap.size, 5, none⟩ = some (.slice p3 a.old.length r3) ∧ x.cell? ⟨w.heap.size, 6, none⟩ = some (.slice p4 a.to.length r4) ∧ x.cell? ⟨w.heap.size, 7, none⟩ = some (.int .i64 ms)) := by
    intro x hx
    have hb := heap_alloc_new w (.cells #[.int .i64 5, .string ⟨a.table.toArray⟩, .slice p1 a.key.length r1, .slice p2 a.value.length r2, .bool a.has, .slice p3 a.old.length r3, .slice p4 a.to.length r4, .int .i64 ms] 71)
    refine ⟨grown_fun hx ?_, grown_fun hx ?_, grown_fun hx ?_, grown_fun hx ?_, grown_fun hx ?_, grown_fun hx ?_, grown_fun hx ?_, grown_fun hx ?_⟩ <;> (rw [cell_of_row _ _ _ _ _ _ hb]; rfl)
  have HG0 : Hid (w.grownBy (w.alloc (.cells #[.int .i64 5, .string ⟨a.table.toArray⟩, .slice p1 a.key.length r1, .slice p2 a.value.length r2, .bool a.has, .slice p3 a.old.length r3, .slice p4 a.to.length r4, .int .i64 ms] 71)) none) := World.grownBy_alloc _ _ none
  generalize (w.alloc (.cells #[.int .i64 5, .string ⟨a.table.toArray⟩, .slice p1 a.key.length r1, .slice p2 a.value.length r2, .bool a.has, .slice p3 a.old.length r3, .slice p4 a.to.length r4, .int .i64 ms] 71)) = W0 at HC HG0 ⊢
  go_wp2_with fail
  refine wp_region_noPanic ?_
  refine wp_region_hold 1000 (fun x => W0.grownBy x none) (by kernel_rfl) ?_
  have G0 : Hid (W0.grownBy W0.drew none) := grown_drew _ _
  generalize W0.drew = w1 at G0 ⊢
  refine wpHold_take (i := 0) (v := _) (G0.out) rfl rfl (by kernel_rfl) (by kernel_rfl) (by kernel_rfl) (by kernel_rfl) (by kernel_rfl) (fun _ _ _ h => h) (by rfl) (fun wk hk => by obtain ⟨m0, m1, m2, m3, m4, m5, m6, m7⟩ := HC.out wk hk; go_simp; try rfl) ?_
  try simp only [Act.put, List.setIfInBounds_toArray, List.set_cons_zero, List.set_cons_succ]
  refine wpHold_take (i := 1) (v := _) (G0.out) rfl rfl (by kernel_rfl) (by kernel_rfl) (by kernel_rfl) (by kernel_rfl) (by kernel_rfl) (fun _ _ _ h => h) (by rfl) (fun wk hk => by obtain ⟨m0, m1, m2, m3, m4, m5, m6, m7⟩ := HC.out wk hk; go_simp; try rfl) ?_
  try simp only [Act.put, List.setIfInBounds_toArray, List.set_cons_zero, List.set_cons_succ]
  refine wpHold_take (i := 2) (v := _) (G0.out) rfl rfl (by kernel_rfl) (by kernel_rfl) (by kernel_rfl) (by kernel_rfl) (by kernel_rfl) (fun _ _ _ h => h) (by rfl) (fun wk hk => by obtain ⟨m0, m1, m2, m3, m4, m5, m6, m7⟩ := HC.out wk hk; go_simp; try rfl) ?_
  try simp only [Act.put, List.setIfInBounds_toArray, List.set_cons_zero, List.set_cons_succ]
  refine wpHold_take (i := 3) (v := _) (G0.out) rfl rfl (by kernel_rfl) (by kernel_rfl) (by kernel_rfl) (by kernel_rfl) (by kernel_rfl) (fun _ _ _ h => h) (by rfl) (fun wk hk => by obtain ⟨m0, m1, m2, m3, m4, m5, m6, m7⟩ := HC.out wk hk; go_simp; try rfl) ?_
  try simp only [Act.put, List.setIfInBounds_toArray, List.set_cons_zero, List.set_cons_succ]
  refine wpHold_take (i := 4) (v := _) (G0.out) rfl rfl (by kernel_rfl) (by kernel_rfl) (by kernel_rfl) (by kernel_rfl) (by kernel_rfl) (fun _ _ _ h => h) (by rfl) (fun wk hk => by obtain ⟨m0, m1, m2, m3, m4, m5, m6, m7⟩ := HC.out wk hk; go_simp; try rfl) ?_
  try simp only [Act.put, List.setIfInBounds_toArray, List.set_cons_zero, List.set_cons_succ]
  refine wpHold_take (i := 5) (v := _) (G0.out) rfl rfl (by kernel_rfl) (by kernel_rfl) (by kernel_rfl) (by kernel_rfl) (by kernel_rfl) (fun _ _ _ h => h) (by rfl) (fun wk hk => by obtain ⟨m0, m1, m2, m3, m4, m5, m6, m7⟩ := HC.out wk hk; go_simp; try rfl) ?_
  try simp only [Act.put, List.setIfInBounds_toArray, List.set_cons_zero, List.set_cons_succ]
  refine wpHold_one (i := 6) rfl (by kernel_rfl) (by rfl) (fun K hK => ?_)
  go_wp2_with (go_at_call 84; refine (dTxt _ a.key _ (HA.out.key.grown (grown_trans HG0.out G0.out)) (by have := L1.out.2.1; omega)).mono ?_)
  rintro e w2 ⟨rfl, hg⟩
  have G1 : Hid (W0.grownBy w2 none) := grown_trans G0.out hg
  clear hg
  go_wp2_with fail
  refine hK.out _ _ (fun _ => G1.out) ?_
  clear hK K
  try simp only [Act.put, List.setIfInBounds_toArray, List.set_cons_zero, List.set_cons_succ]
  refine wpHold_take (i := 7) (v := _) (G1.out) rfl rfl (by kernel_rfl) (by kernel_rfl) (by kernel_rfl) (by kernel_rfl) (by kernel_rfl) (fun _ _ _ h => h) (by rfl) (fun wk hk => by obtain ⟨m0, m1, m2, m3, m4, m5, m6, m7⟩ := HC.out wk hk; go_simp; try rfl) ?_
  try simp only [Act.put, List.setIfInBounds_toArray, List.set_cons_zero, List.set_cons_succ]
  refine wpHold_take (i := 8) (v := _) (G1.out) rfl rfl (by kernel_rfl) (by kernel_rfl) (by kernel_rfl) (by kernel_rfl) (by kernel_rfl) (fun _ _ _ h => h) (by rfl) (fun wk hk => by obtain ⟨m0, m1, m2, m3, m4, m5, m6, m7⟩ := HC.out wk hk; go_simp; try rfl) ?_
  try simp only [Act.put, List.setIfInBounds_toArray, List.set_cons_zero, List.set_cons_succ]
  refine wpHold_done (by kernel_rfl) ?_
  refine (‹∀ (a : Act) (w : World), Code.wp Tryz.prog _ _ a w → _› _ _ ?_)
  obtain ⟨m0, m1, m2, m3, m4, m5, m6, m7⟩ := HC.out w2 G1.out
  go_upto_region 14 with fail
  clear m0 m1 m2 m3 m4 m5 m6 m7
  go_wp2_with fail
  refine wp_region_noPanic ?_
  refine wp_region_hold 1000 (fun x => W0.grownBy x none) (by kernel_rfl) ?_
  have G2 : Hid (W0.grownBy w2.drew none) := grown_trans G1.out (grown_drew _ _)
  generalize w2.drew = w3 at G2 ⊢
  refine wpHold_take (i := 0) (v := _) (G2.out) rfl rfl (by kernel_rfl) (by kernel_rfl) (by kernel_rfl) (by kernel_rfl) (by kernel_rfl) (fun _ _ _ h => h) (by rfl) (fun wk hk => by obtain ⟨m0, m1, m2, m3, m4, m5, m6, m7⟩ := HC.out wk hk; go_simp; try rfl) ?_
  try simp only [Act.put, List.setIfInBounds_toArray, List.set_cons_zero, List.set_cons_succ]
  refine wpHold_take (i := 1) (v := _) (G2.out) rfl rfl (by kernel_rfl) (by kernel_rfl) (by kernel_rfl) (by kernel_rfl) (by kernel_rfl) (fun _ _ _ h => h) (by rfl) (fun wk hk => by obtain ⟨m0, m1, m2, m3, m4, m5, m6, m7⟩ := HC.out wk hk; go_simp; try rfl) ?_
  try simp only [Act.put, List.setIfInBounds_toArray, List.set_cons_zero, List.set_cons_succ]
  refine wpHold_take (i := 2) (v := _) (G2.out) rfl rfl (by kernel_rfl) (by kernel_rfl) (by kernel_rfl) (by kernel_rfl) (by kernel_rfl) (fun _ _ _ h => h) (by rfl) (fun wk hk => by obtain ⟨m0, m1, m2, m3, m4, m5, m6, m7⟩ := HC.out wk hk; go_simp; try rfl) ?_
  try simp only [Act.put, List.setIfInBounds_toArray, List.set_cons_zero, List.set_cons_succ]
  refine wpHold_take (i := 3) (v := _) (G2.out) rfl rfl (by kernel_rfl) (by kernel_rfl) (by kernel_rfl) (by kernel_rfl) (by kernel_rfl) (fun _ _ _ h => h) (by rfl) (fun wk hk => by obtain ⟨m0, m1, m2, m3, m4, m5, m6, m7⟩ := HC.out wk hk; go_simp; try rfl) ?_
  try simp only [Act.put, List.setIfInBounds_toArray, List.set_cons_zero, List.set_cons_succ]
  refine wpHold_take (i := 4) (v := _) (G2.out) rfl rfl (by kernel_rfl) (by kernel_rfl) (by kernel_rfl) (by kernel_rfl) (by kernel_rfl) (fun _ _ _ h => h) (by rfl) (fun wk hk => by obtain ⟨m0, m1, m2, m3, m4, m5, m6, m7⟩ := HC.out wk hk; go_simp; try rfl) ?_
  try simp only [Act.put, List.setIfInBounds_toArray, List.set_cons_zero, List.set_cons_succ]
  refine wpHold_take (i := 8) (v := _) (G2.out) rfl rfl (by kernel_rfl) (by kernel_rfl) (by kernel_rfl) (by kernel_rfl) (by kernel_rfl) (fun _ _ _ h => h) (by rfl) (fun wk hk => by obtain ⟨m0, m1, m2, m3, m4, m5, m6, m7⟩ := HC.out wk hk; go_simp; try rfl) ?_
  try simp only [Act.put, List.setIfInBounds_toArray, List.set_cons_zero, List.set_cons_succ]
  refine wpHold_take (i := 9) (v := _) (G2.out) rfl rfl (by kernel_rfl) (by kernel_rfl) (by kernel_rfl) (by kernel_rfl) (by kernel_rfl) (fun _ _ _ h => h) (by rfl) (fun wk hk => by obtain ⟨m0, m1, m2, m3, m4, m5, m6, m7⟩ := HC.out wk hk; go_simp; try rfl) ?_
  try simp only [Act.put, List.setIfInBounds_toArray, List.set_cons_zero, List.set_cons_succ]
  refine wpHold_one (i := 5) rfl (by kernel_rfl) (by rfl) (fun K hK => ?_)
  go_wp2_with (go_at_call 84; refine (dTxt _ a.to _ (HA.out.to.grown (grown_trans HG0.out G2.out)) (by have := L1.out.2.2.2.2; omega)).mono ?_)
  rintro e w4 ⟨rfl, hg⟩
  have G3 : Hid (W0.grownBy w4 none) := grown_trans G2.out hg
  clear hg
  go_wp2_with fail
  refine hK.out _ _ (fun _ => G3.out) ?_
  clear hK K
  try simp only [Act.put, List.setIfInBounds_toArray, List.set_cons_zero, List.set_cons_succ]
  refine wpHold_take (i := 6) (v := _) (G3.out) rfl rfl (by kernel_rfl) (by kernel_rfl) (by kernel_rfl) (by kernel_rfl) (by kernel_rfl) (fun _ _ _ h => h) (by rfl) (fun wk hk => by obtain ⟨m0, m1, m2, m3, m4, m5, m6, m7⟩ := HC.out wk hk; go_simp; try rfl) ?_
  try simp only [Act.put, List.setIfInBounds_toArray, List.set_cons_zero, List.set_cons_succ]
  refine wpHold_take (i := 7) (v := _) (G3.out) rfl rfl (by kernel_rfl) (by kernel_rfl) (by kernel_rfl) (by kernel_rfl) (by kernel_rfl) (fun _ _ _ h => h) (by rfl) (fun wk hk => by obtain ⟨m0, m1, m2, m3, m4, m5, m6, m7⟩ := HC.out wk hk; go_simp; try rfl) ?_
  try simp only [Act.put, List.setIfInBounds_toArray, List.set_cons_zero, List.set_cons_succ]
  refine wpHold_one (i := 10) rfl (by kernel_rfl) (by rfl) (fun K hK => ?_)
  go_wp2_with (go_at_call 79; refine (itoa79 _ _ (by omega) (by omega)).mono ?_; rintro e w5 ⟨rfl, hw⟩; rw [hw]; clear hw)
  refine hK.out _ _ (fun _ => G3.out) ?_
  clear hK K
  try simp only [Act.put, List.setIfInBounds_toArray, List.set_cons_zero, List.set_cons_succ]
  refine wpHold_take (i := 11) (v := _) (G3.out) rfl rfl (by kernel_rfl) (by kernel_rfl) (by kernel_rfl) (by kernel_rfl) (by kernel_rfl) (fun _ _ _ h => h) (by rfl) (fun wk hk => by obtain ⟨m0, m1, m2, m3, m4, m5, m6, m7⟩ := HC.out wk hk; go_simp; try rfl) ?_
  try simp only [Act.put, List.setIfInBounds_toArray, List.set_cons_zero, List.set_cons_succ]
  refine wpHold_take (i := 12) (v := _) (G3.out) rfl rfl (by kernel_rfl) (by kernel_rfl) (by kernel_rfl) (by kernel_rfl) (by kernel_rfl) (fun _ _ _ h => h) (by rfl) (fun wk hk => by obtain ⟨m0, m1, m2, m3, m4, m5, m6, m7⟩ := HC.out wk hk; go_simp; try rfl) ?_
  try simp only [Act.put, List.setIfInBounds_toArray, List.set_cons_zero, List.set_cons_succ]
  refine wpHold_done (by kernel_rfl) ?_
  refine (‹∀ (a : Act) (w : World), Code.wp Tryz.prog _ _ a w → _› _ _ ?_)
  go_wp2_with fail
  go_ret
  exact ⟨rfl, grown_trans HG0.out G3.out⟩
theorem line46 (k v ol t : Value) (a : POp) (w : World) (ha : OpSeg w k v ol t a) (hm : mayOp a = true) : Calls Tryz.prog 46 #[opV k v ol t a] w fun e w' => e = .returned (Str (opTxt a)) ∧ w.grownBy w' none := by
  have := (may_of hm).kind
  have : a.kind = 1 ∨ a.kind = 2 ∨ a.kind = 3 ∨ a.kind = 4 ∨ a.kind = 5 := by omega
  rcases this with h | h | h | h | h
  · exact line46_1 k v ol t a w ha h hm
  · exact line46_2 k v ol t a w ha h hm
  · exact line46_3 k v ol t a w ha h hm
  · cases hh : a.has
    · exact line46_4f k v ol t a w ha h hh hm
    · exact line46_4t k v ol t a w ha h hh hm
  · exact line46_5 k v ol t a w ha h hm
theorem line46_of (x k v ol t : Value) (a : POp) (w : World) (hx : x = opV k v ol t a) (ha : OpSeg w k v ol t a) (hm : mayOp a = true) : Calls Tryz.prog 46 #[x] w fun e w' => e = .returned (Str (opTxt a)) ∧ w.grownBy w' none := by subst hx; exact line46 k v ol t a w ha hm

theorem callTxt_snoc (A : List POp) (o : POp) : callTxt (A ++ [o]) = (if A = [] then [] else callTxt A ++ [59, 32]) ++ opTxt o := by
  unfold callTxt
  induction A with
  | nil => simp [Lib.join, List.intercalate]
  | cons x A ih =>
    cases A with
    | nil => simp [Lib.join, List.intercalate]
    | cons y B =>
      simp only [List.cons_append, List.map_cons] at ih ⊢
      have e : ∀ (p q : Bs) (L : List Bs), Lib.join (p :: q :: L) [59, 32] = p ++ ([59, 32] ++ Lib.join (q :: L) [59, 32]) := fun p q L => by simp [Lib.join, List.intercalate]
      rw [e, ih, e]
      simp

set_option maxRecDepth 100000 in
set_option maxHeartbeats 4000000 in
theorem text21 (a : Value) (l : List POp) (w : World) (ha : Ops w a l) (hm : mayCall l = true) : Calls Tryz.prog 21 #[.agg #[a]] w fun e w' => e = .returned (Str (callTxt l)) ∧ w.grownBy w' none := by
  obtain ⟨ao, n, ca, rfl, hna, la, HA⟩ := ops_open ha
  unfold mayCall at hm
  simp only [Bool.and_eq_true, decide_eq_true_eq] at hm
  have HM : Hid (l.all mayOp = true) := hm.2
  have n16 : n ≤ 16 := by rw [← hna]; exact hm.1.2
  have HN : Hid (l.length = n) := hna
  clear ha hna hm
  go_enter Tryz.func21, Tryz.ntmps21
  go_wp2_with fail
  go_loopw [3, 4] (fun x i wr => ∃ (k : Nat) (X : Bs), k ≤ n ∧ i = .int .i64 k ∧ x = .string ⟨X.toArray⟩ ∧ Hid (X = callTxt (l.take k) ∧ X.length ≤ 6000 * k) ∧ Hid (Blk wr w.heap.size 24 #[.slice ao n ca] ∧ w.grownBy wr none)) (fun _ i _ => n - (intOf i).toNat)
  case atStart => exact ⟨0, [], by omega, rfl, rfl, ⟨rfl, by simp⟩, heap_alloc_new w _, World.grownBy_alloc _ _ none⟩
  case round =>
    obtain ⟨k, X, hk, rfl, rfl, HX, HR⟩ := hrel
    have c0 := HR.out.1.cell 0
    by_cases hlt : k < n
    · have i3 : (k : Int) < (n : Int) := by omega
      have i0 : (0 : Int) ≤ (k : Int) := by omega
      have hkl : k < l.length := by rw [HN.out]; omega
      obtain ⟨b1, o1, k1, x1, ol1, t1, rfl, h1, s1⟩ := ops_at (HA.out.grown HR.out.2) k hkl
      have HQ : Hid (callTxt (l.take (k + 1)) = (if l.take k = [] then [] else callTxt (l.take k) ++ [59, 32]) ++ opTxt l[k]) := by
        unfold Hid
        rw [List.take_succ_eq_append_getElem hkl]
        exact callTxt_snoc _ _
      have HO : Hid (mayOp l[k] = true) := List.all_eq_true.1 HM.out _ (List.getElem_mem hkl)
      have HE : Hid (l.take k = [] ↔ k = 0) := by
        unfold Hid
        rw [← List.length_eq_zero_iff, List.length_take]; omega
      obtain ⟨o, ho⟩ : ∃ o, l[k] = o := ⟨_, rfl⟩
      rw [ho] at h1 s1 HQ HO
      clear ho hkl
      have lo : (opTxt o).length ≤ 5100 := opTxt_len HO.out
      have lx : X.length ≤ 96000 := by have := HX.out.2; have : 6000 * k ≤ 6000 * 16 := Nat.mul_le_mul_left _ (by omega); omega
      obtain ⟨p1, p2, p3, p4, r1, r2, r3, r4, rfl, rfl, rfl, rfl⟩ := s1.shapes
      have HS : Hid (OpSeg wr (.slice p1 o.key.length r1) (.slice p2 o.value.length r2) (.slice p3 o.old.length r3) (.slice p4 o.to.length r4) o) := s1
      clear s1
      obtain ⟨a0, a1, a2, a3, a4, a5, a6, a7⟩ := h1
      unfold Str at a1
      by_cases hz : k = 0
      · have HZ : Hid (X = []) := by
          have h := HX.out.1
          rw [HE.out.2 hz] at h
          exact h
        have j1 : ((0 : Int) < (k : Int)) = False := eq_false (by omega)
        have j2 : (0 < k) = False := eq_false (by omega)
        obtain ⟨Y, hY⟩ : ∃ Y, X ++ opTxt o = Y := ⟨_, rfl⟩
        obtain ⟨sY, bY⟩ := addS X (opTxt o) Y (X.length + 5100) hY (by omega) (by rw [HZ.out]; decide)
        have HY : Hid (Y = callTxt (l.take (k + 1)) ∧ Y.length ≤ 6000 * (k + 1)) := by
          refine ⟨?_, by have := HX.out.2; omega⟩
          rw [HQ.out, if_pos (HE.out.2 hz), ← hY, HZ.out]
        clear hY bY hz HZ
        go_wp2_with (go_at_call 46; refine (line46_of _ _ _ _ _ o _ rfl HS.out HO.out).mono ?_)
        rintro e w2 ⟨rfl, hg2⟩
        clear c0 a0 a1 a2 a3 a4 a5 a6 a7
        have HR2 : Hid (Blk w2 w.heap.size 24 #[.slice (some ⟨b1, o1, none⟩) n ca] ∧ w.grownBy w2 none) := ⟨HR.out.1.grown hg2 (by simp), grown_trans HR.out.2 hg2⟩
        clear hg2 HR
        unfold Str
        go_wp2_with fail
        go_roundw
        case rel => exact ⟨k + 1, Y, by omega, by go_num, rfl, HY, HR2⟩
        case measure => simp [intOf]; omega
      · have j1 : (0 : Int) < (k : Int) := by omega
        have j2 : 0 < k := by omega
        obtain ⟨Z, hZ⟩ : ∃ Z, X ++ [59, 32] = Z := ⟨_, rfl⟩
        obtain ⟨sZ, bZ⟩ := addS X [59, 32] Z (X.length + 2) hZ (by simp) (by omega)
        have sZ : ∀ wk, (Op.stringOp .add ⟨X.toArray⟩ ⟨#[59, 32]⟩).run Tryz.prog wk = .ok (.string ⟨Z.toArray⟩) wk := sZ
        obtain ⟨Y, hY⟩ : ∃ Y, Z ++ opTxt o = Y := ⟨_, rfl⟩
        have HY : Hid (Y = callTxt (l.take (k + 1)) ∧ Y.length ≤ 6000 * (k + 1)) := by
          refine ⟨?_, by rw [← hY, List.length_append]; have := HX.out.2; omega⟩
          rw [HQ.out, if_neg (fun h => hz (HE.out.1 h)), ← hY, ← hZ, ← HX.out.1]
        have sY : ∀ wk, (Op.stringOp .add ⟨Z.toArray⟩ ⟨(opTxt o).toArray⟩).run Tryz.prog wk = .ok (.string ⟨Y.toArray⟩) wk := fun wk => by rw [← hY]; exact Names.str_add Z (opTxt o) wk (by omega)
        have HV : Hid (((⟨X.toArray⟩ : ByteArray) ++ ⟨#[59, 32]⟩ ++ ⟨(opTxt o).toArray⟩) = ⟨Y.toArray⟩) := by
          unfold Hid
          rw [← hY, ← hZ]
          apply ByteArray.ext
          simp
        clear hY hZ bZ hz
        go_wp2_with (go_at_call 46; refine (line46_of _ _ _ _ _ o _ rfl HS.out HO.out).mono ?_)
        rintro e w2 ⟨rfl, hg2⟩
        clear c0 a0 a1 a2 a3 a4 a5 a6 a7
        have HR2 : Hid (Blk w2 w.heap.size 24 #[.slice (some ⟨b1, o1, none⟩) n ca] ∧ w.grownBy w2 none) := ⟨HR.out.1.grown hg2 (by simp), grown_trans HR.out.2 hg2⟩
        clear hg2 HR
        unfold Str
        go_wp2_with fail
        go_roundw
        case rel => exact ⟨k + 1, Y, by omega, by go_num, by first | rfl | rw [HV.out], HY, HR2⟩
        case measure => simp [intOf]; omega
    · have i3 : ((k : Int) < (n : Int)) = False := eq_false (by omega)
      have HZ : Hid (X = callTxt l) := by
        have h := HX.out.1
        rw [List.take_of_length_le (by rw [HN.out]; omega)] at h
        exact h
      go_wp2_with fail
      go_ret
      exact ⟨by rw [← HZ.out]; rfl, HR.out.2⟩
end Go.Proofs.YtfocmbnhkldnfaaGreatDoor
