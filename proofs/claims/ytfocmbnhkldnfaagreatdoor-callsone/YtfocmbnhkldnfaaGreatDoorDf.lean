/-
  The document's form of an op, of a call.
-/
import Derived.Test.YtfocmbnhkldnfaaGreatDoorDm
import Derived.Test.YtfocmbnhkldnfaaGreatDoorDopAll
namespace Go.Proofs.YtfocmbnhkldnfaaGreatDoor
open Go.RowKit Disk
open Names (Str)

def FormIs (F : Bs) (w : World) (e : Ending) (w' : World) : Prop := ∃ u, e = .returned u ∧ Own w' w.heap.size u F ∧ w.grownBy w' none
theorem formIs_wire {F : Bs} {w w' : World} {e : Ending} (h : Wire.FormPost F w e w') : FormIs F w e w' := h
theorem dNum (x : Int) (n : Nat) (hx : x = n) (hn : n < 2 ^ 64) (w : World) : Calls Tryz.prog 44 #[.int .u64 x] w (FormIs (Wire.numForm n) w) := (Wire.number12_int x n hx hn w).mono fun _ _ h => formIs_wire h
theorem dBytes (v : Value) (L : Bs) (w : World) (hs : Seg w v L) (hl : L.length ≤ 100000) : Calls Tryz.prog 68 #[v] w (FormIs (bytesForm L) w) := (Wire.bytes11 v L w hs (by omega)).mono fun _ _ h => formIs_wire h
theorem dFlag (is : Bool) (w : World) : Calls Tryz.prog 67 #[.bool is] w (FormIs (flagForm is) w) := (Wire.flag16 is w).mono fun _ _ h => formIs_wire h
theorem num_short (n : Nat) (h : n < 2 ^ 64) : (Wire.numForm n).length ≤ 10 := Wire.numForm_len10 n h

set_option maxRecDepth 100000 in
set_option maxHeartbeats 8000000 in
theorem form45_1 (k v ol t : Value) (a : POp) (w : World) (ha : OpSeg w k v ol t a) (hk : a.kind = 1) (hm : mayOp a = true) : Calls Tryz.prog 45 #[opV k v ol t a] w (FormIs (opForm a) w) := by
  have hM := may_of hm
  have HM : Hid (May a) := hM
  have HF : Hid (opForm a = Wire.numForm 1 ++ bytesForm a.table ++ bytesForm a.key) := by
    unfold Hid opForm frontForm tailForm
    rw [hk]
    simp
  unfold opV Str
  have HA : Hid (OpSeg w k v ol t a) := ha
  obtain ⟨p1, p2, p3, p4, r1, r2, r3, r4, rfl, rfl, rfl, rfl⟩ := ha.shapes
  obtain ⟨ms, hms⟩ : ∃ n, a.most = n := ⟨_, rfl⟩
  skip
  have HMS : Hid (a.most = ms) := hms
  rw [hk, hms]
  clear HMS
  obtain ⟨F, hF⟩ : ∃ F, opForm a = F := ⟨_, rfl⟩
  rw [hF] at HF ⊢
  clear ha hm hms hk hM hF
  have L1 : Hid (a.table.length ≤ 16 ∧ a.key.length ≤ 64 ∧ a.value.length ≤ 256 ∧ a.old.length ≤ 256 ∧ a.to.length ≤ 64) := ⟨tab_len HM.out.tab, HM.out.key, HM.out.value, HM.out.old, HM.out.to⟩
  have L2 : Hid ((bytesForm a.table).length ≤ 266 ∧ (bytesForm a.key).length ≤ 266 ∧ (bytesForm a.value).length ≤ 266 ∧ (bytesForm a.old).length ≤ 266 ∧ (bytesForm a.to).length ≤ 266 ∧ (flagForm a.has).length ≤ 1) := ⟨bytesForm_len _ (by have := L1.out.1; omega), bytesForm_len _ (by have := L1.out.2.1; omega), bytesForm_len _ L1.out.2.2.1, bytesForm_len _ L1.out.2.2.2.1, bytesForm_len _ (by have := L1.out.2.2.2.2; omega), by unfold flagForm; split <;> simp⟩
  have cb := conv_bytes
  go_enter Tryz.func45, Tryz.ntmps45
  go_upto_region 1 with fail
  have HC : Hid (∀ x : World, (w.alloc (.cells #[.int .i64 1, .string ⟨a.table.toArray⟩, .slice p1 a.key.length r1, .slice p2 a.value.length r2, .bool a.has, .slice p3 a.old.length r3, .slice p4 a.to.length r4, .int .i64 ms] 71)).grownBy x none → x.cell? ⟨w.heap.size, 0, none⟩ = some (.int .i64 1) ∧ x.cell? ⟨w.heap.size, 1, none⟩ = some (.string ⟨a.table.toArray⟩) ∧ x.cell? ⟨w.heap.size, 2, none⟩ = some (.slice p1 a.key.length r1) ∧ x.cell? ⟨w.heap.size, 3, none⟩ = some (.slice p2 a.value.length r2) ∧ x.cell? ⟨w.heap.size, 4, none⟩ = some (.bool a.has) ∧ x.cell? ⟨w.heap.size, 5, none⟩ = some (.slice p3 a.old.length r3) ∧ x.cell? ⟨w.heap.size, 6, none⟩ = some (.slice p4 a.to.length r4) ∧ x.cell? ⟨w.heap.size, 7, none⟩ = some (.int .i64 ms)) := by
    intro x hx
    have hb := heap_alloc_new w (.cells #[.int .i64 1, .string ⟨a.table.toArray⟩, .slice p1 a.key.length r1, .slice p2 a.value.length r2, .bool a.has, .slice p3 a.old.length r3, .slice p4 a.to.length r4, .int .i64 ms] 71)
    refine ⟨grown_fun hx ?_, grown_fun hx ?_, grown_fun hx ?_, grown_fun hx ?_, grown_fun hx ?_, grown_fun hx ?_, grown_fun hx ?_, grown_fun hx ?_⟩ <;> (rw [cell_of_row _ _ _ _ _ _ hb]; rfl)
  have HG0 : Hid (w.grownBy (w.alloc (.cells #[.int .i64 1, .string ⟨a.table.toArray⟩, .slice p1 a.key.length r1, .slice p2 a.value.length r2, .bool a.has, .slice p3 a.old.length r3, .slice p4 a.to.length r4, .int .i64 ms] 71)) none) := World.grownBy_alloc _ _ none
  generalize (w.alloc (.cells #[.int .i64 1, .string ⟨a.table.toArray⟩, .slice p1 a.key.length r1, .slice p2 a.value.length r2, .bool a.has, .slice p3 a.old.length r3, .slice p4 a.to.length r4, .int .i64 ms] 71)) = W0 at HC HG0 ⊢
  obtain ⟨m0, m1, m2, m3, m4, m5, m6, m7⟩ := HC.out W0 (grown_refl _ _)
  go_wp2_with (go_at_call 44; refine (dNum _ 1 rfl (by decide) _).mono ?_)
  rintro e w1 ⟨u1, rfl, o1, g1⟩
  obtain ⟨f1, q1, e1⟩ := o1.seg.shape
  obtain ⟨n1, hn1⟩ : ∃ n, (Wire.numForm 1).length = n := ⟨_, rfl⟩
  rw [hn1] at e1
  subst e1
  obtain ⟨A1, hA1⟩ : ∃ A, Wire.numForm 1 = A := ⟨_, rfl⟩
  have E1 : Hid (Wire.numForm 1 = A1) := hA1
  have T1 : Hid (Own w1 W0.heap.size (.slice f1 n1 q1) A1 ∧ W0.grownBy w1 none ∧ A1.length ≤ 10) := by rw [← hA1]; exact ⟨o1, g1, num_short _ (by decide)⟩
  clear o1 g1 hn1 hA1 m0 m1 m2 m3 m4 m5 m6 m7
  obtain ⟨m0, m1, m2, m3, m4, m5, m6, m7⟩ := HC.out w1 T1.out.2.1
  have X1 : Hid (Seg (Lib.bytesWorld w1 5 ⟨a.table.toArray⟩) (.slice (some ⟨w1.heap.size, 0, none⟩) a.table.length (grownCap w1 a.table.length 0 5)) a.table ∧ w1.grownBy (Lib.bytesWorld w1 5 ⟨a.table.toArray⟩) none) := ⟨bytes_seg w1 a.table HA.out.fits.tl, bytes_grown _ _⟩
  go_wp2_with (go_at_call 68; refine (dBytes _ a.table _ X1.out.1 (by have := L1.out.1; omega)).mono ?_)
  rintro e w6 ⟨v2, rfl, oo, gg⟩
  have Y2 : Hid (Seg w6 v2 (bytesForm a.table) ∧ w1.grownBy w6 none) := ⟨oo.seg, grown_trans X1.out.2 gg⟩
  clear oo gg X1
  go_wp2_with (at_builtin; refine app22 _ rfl _ _ rfl W0.heap.size (.slice f1 n1 q1) (A1) _ (bytesForm a.table) rfl rfl (T1.out.1.grown Y2.out.2) Y2.out.1 ?c0 ?c1 ?_)
  case c0 => have h1 := T1.out.2.2; have h2 := L2.out.1; omega
  case c1 => have h1 := (grown_trans T1.out.2.1 Y2.out.2).size; omega
  intro x2 w7 oo gg _
  obtain ⟨f2, q2, e2⟩ := oo.seg.shape
  obtain ⟨n2, hn2⟩ : ∃ n, (A1 ++ bytesForm a.table).length = n := ⟨_, rfl⟩
  rw [hn2] at e2
  subst e2
  obtain ⟨A2, hA2⟩ : ∃ A, A1 ++ bytesForm a.table = A := ⟨_, rfl⟩
  have E2 : Hid (A1 ++ bytesForm a.table = A2) := hA2
  have T2 : Hid (Own w7 W0.heap.size (.slice f2 n2 q2) A2 ∧ W0.grownBy w7 none ∧ A2.length ≤ 276) := by rw [← hA2]; exact ⟨oo, grown_new (grown_trans T1.out.2.1 Y2.out.2) gg (fun x hx => (T1.out.1.lt x hx).1), by have h1 := T1.out.2.2; have h2 := L2.out.1; rw [List.length_append]; omega⟩
  clear oo gg hn2 hA2 Y2 m0 m1 m2 m3 m4 m5 m6 m7 T1
  obtain ⟨m0, m1, m2, m3, m4, m5, m6, m7⟩ := HC.out w7 T2.out.2.1
  go_wp2_with (go_at_call 68; refine (dBytes _ a.key _ (HA.out.key.grown (grown_trans HG0.out T2.out.2.1)) (by have := L1.out.2.1; omega)).mono ?_)
  rintro e w9 ⟨v3, rfl, oo, gg⟩
  have Y3 : Hid (Seg w9 v3 (bytesForm a.key) ∧ w7.grownBy w9 none) := ⟨oo.seg, gg⟩
  clear oo gg
  go_wp2_with (at_builtin; refine app22 _ rfl _ _ rfl W0.heap.size (.slice f2 n2 q2) (A2) _ (bytesForm a.key) rfl rfl (T2.out.1.grown Y3.out.2) Y3.out.1 ?c0 ?c1 ?_)
  case c0 => have h1 := T2.out.2.2; have h2 := L2.out.2.1; omega
  case c1 => have h1 := (grown_trans T2.out.2.1 Y3.out.2).size; omega
  intro x3 w10 oo gg _
  obtain ⟨f3, q3, e3⟩ := oo.seg.shape
  obtain ⟨n3, hn3⟩ : ∃ n, (A2 ++ bytesForm a.key).length = n := ⟨_, rfl⟩
  rw [hn3] at e3
  subst e3
  obtain ⟨A3, hA3⟩ : ∃ A, A2 ++ bytesForm a.key = A := ⟨_, rfl⟩
  have E3 : Hid (A2 ++ bytesForm a.key = A3) := hA3
  have T3 : Hid (Own w10 W0.heap.size (.slice f3 n3 q3) A3 ∧ W0.grownBy w10 none ∧ A3.length ≤ 542) := by rw [← hA3]; exact ⟨oo, grown_new (grown_trans T2.out.2.1 Y3.out.2) gg (fun x hx => (T2.out.1.lt x hx).1), by have h1 := T2.out.2.2; have h2 := L2.out.2.1; rw [List.length_append]; omega⟩
  clear oo gg hn3 hA3 Y3 m0 m1 m2 m3 m4 m5 m6 m7 T2
  obtain ⟨m0, m1, m2, m3, m4, m5, m6, m7⟩ := HC.out w10 T3.out.2.1
  go_wp2_with fail
  go_ret
  exact ⟨_, rfl, by rw [HF.out, E1.out, E2.out, E3.out]; exact T3.out.1.mono HG0.out.size, grown_trans HG0.out T3.out.2.1⟩
set_option maxRecDepth 100000 in
set_option maxHeartbeats 8000000 in
theorem form45_3 (k v ol t : Value) (a : POp) (w : World) (ha : OpSeg w k v ol t a) (hk : a.kind = 3) (hm : mayOp a = true) : Calls Tryz.prog 45 #[opV k v ol t a] w (FormIs (opForm a) w) := by
  have hM := may_of hm
  have HM : Hid (May a) := hM
  have HF : Hid (opForm a = Wire.numForm 3 ++ bytesForm a.table ++ bytesForm a.key) := by
    unfold Hid opForm frontForm tailForm
    rw [hk]
    simp
  unfold opV Str
  have HA : Hid (OpSeg w k v ol t a) := ha
  obtain ⟨p1, p2, p3, p4, r1, r2, r3, r4, rfl, rfl, rfl, rfl⟩ := ha.shapes
  obtain ⟨ms, hms⟩ : ∃ n, a.most = n := ⟨_, rfl⟩
  skip
  have HMS : Hid (a.most = ms) := hms
  rw [hk, hms]
  clear HMS
  obtain ⟨F, hF⟩ : ∃ F, opForm a = F := ⟨_, rfl⟩
  rw [hF] at HF ⊢
  clear ha hm hms hk hM hF
  have L1 : Hid (a.table.length ≤ 16 ∧ a.key.length ≤ 64 ∧ a.value.length ≤ 256 ∧ a.old.length ≤ 256 ∧ a.to.length ≤ 64) := ⟨tab_len HM.out.tab, HM.out.key, HM.out.value, HM.out.old, HM.out.to⟩
  have L2 : Hid ((bytesForm a.table).length ≤ 266 ∧ (bytesForm a.key).length ≤ 266 ∧ (bytesForm a.value).length ≤ 266 ∧ (bytesForm a.old).length ≤ 266 ∧ (bytesForm a.to).length ≤ 266 ∧ (flagForm a.has).length ≤ 1) := ⟨bytesForm_len _ (by have := L1.out.1; omega), bytesForm_len _ (by have := L1.out.2.1; omega), bytesForm_len _ L1.out.2.2.1, bytesForm_len _ L1.out.2.2.2.1, bytesForm_len _ (by have := L1.out.2.2.2.2; omega), by unfold flagForm; split <;> simp⟩
  have cb := conv_bytes
  go_enter Tryz.func45, Tryz.ntmps45
  go_upto_region 1 with fail
  have HC : Hid (∀ x : World, (w.alloc (.cells #[.int .i64 3, .string ⟨a.table.toArray⟩, .slice p1 a.key.length r1, .slice p2 a.value.length r2, .bool a.has, .slice p3 a.old.length r3, .slice p4 a.to.length r4, .int .i64 ms] 71)).grownBy x none → x.cell? ⟨w.heap.size, 0, none⟩ = some (.int .i64 3) ∧ x.cell? ⟨w.heap.size, 1, none⟩ = some (.string ⟨a.table.toArray⟩) ∧ x.cell? ⟨w.heap.size, 2, none⟩ = some (.slice p1 a.key.length r1) ∧ x.cell? ⟨w.heap.size, 3, none⟩ = some (.slice p2 a.value.length r2) ∧ x.cell? ⟨w.heap.size, 4, none⟩ = some (.bool a.has) ∧ x.cell? ⟨w.heap.size, 5, none⟩ = some (.slice p3 a.old.length r3) ∧ x.cell? ⟨w.heap.size, 6, none⟩ = some (.slice p4 a.to.length r4) ∧ x.cell? ⟨w.heap.size, 7, none⟩ = some (.int .i64 ms)) := by
    intro x hx
    have hb := heap_alloc_new w (.cells #[.int .i64 3, .string ⟨a.table.toArray⟩, .slice p1 a.key.length r1, .slice p2 a.value.length r2, .bool a.has, .slice p3 a.old.length r3, .slice p4 a.to.length r4, .int .i64 ms] 71)
    refine ⟨grown_fun hx ?_, grown_fun hx ?_, grown_fun hx ?_, grown_fun hx ?_, grown_fun hx ?_, grown_fun hx ?_, grown_fun hx ?_, grown_fun hx ?_⟩ <;> (rw [cell_of_row _ _ _ _ _ _ hb]; rfl)
  have HG0 : Hid (w.grownBy (w.alloc (.cells #[.int .i64 3, .string ⟨a.table.toArray⟩, .slice p1 a.key.length r1, .slice p2 a.value.length r2, .bool a.has, .slice p3 a.old.length r3, .slice p4 a.to.length r4, .int .i64 ms] 71)) none) := World.grownBy_alloc _ _ none
  generalize (w.alloc (.cells #[.int .i64 3, .string ⟨a.table.toArray⟩, .slice p1 a.key.length r1, .slice p2 a.value.length r2, .bool a.has, .slice p3 a.old.length r3, .slice p4 a.to.length r4, .int .i64 ms] 71)) = W0 at HC HG0 ⊢
  obtain ⟨m0, m1, m2, m3, m4, m5, m6, m7⟩ := HC.out W0 (grown_refl _ _)
  go_wp2_with (go_at_call 44; refine (dNum _ 3 rfl (by decide) _).mono ?_)
  rintro e w1 ⟨u1, rfl, o1, g1⟩
  obtain ⟨f1, q1, e1⟩ := o1.seg.shape
  obtain ⟨n1, hn1⟩ : ∃ n, (Wire.numForm 3).length = n := ⟨_, rfl⟩
  rw [hn1] at e1
  subst e1
  obtain ⟨A1, hA1⟩ : ∃ A, Wire.numForm 3 = A := ⟨_, rfl⟩
  have E1 : Hid (Wire.numForm 3 = A1) := hA1
  have T1 : Hid (Own w1 W0.heap.size (.slice f1 n1 q1) A1 ∧ W0.grownBy w1 none ∧ A1.length ≤ 10) := by rw [← hA1]; exact ⟨o1, g1, num_short _ (by decide)⟩
  clear o1 g1 hn1 hA1 m0 m1 m2 m3 m4 m5 m6 m7
  obtain ⟨m0, m1, m2, m3, m4, m5, m6, m7⟩ := HC.out w1 T1.out.2.1
  have X1 : Hid (Seg (Lib.bytesWorld w1 5 ⟨a.table.toArray⟩) (.slice (some ⟨w1.heap.size, 0, none⟩) a.table.length (grownCap w1 a.table.length 0 5)) a.table ∧ w1.grownBy (Lib.bytesWorld w1 5 ⟨a.table.toArray⟩) none) := ⟨bytes_seg w1 a.table HA.out.fits.tl, bytes_grown _ _⟩
  go_wp2_with (go_at_call 68; refine (dBytes _ a.table _ X1.out.1 (by have := L1.out.1; omega)).mono ?_)
  rintro e w6 ⟨v2, rfl, oo, gg⟩
  have Y2 : Hid (Seg w6 v2 (bytesForm a.table) ∧ w1.grownBy w6 none) := ⟨oo.seg, grown_trans X1.out.2 gg⟩
  clear oo gg X1
  go_wp2_with (at_builtin; refine app22 _ rfl _ _ rfl W0.heap.size (.slice f1 n1 q1) (A1) _ (bytesForm a.table) rfl rfl (T1.out.1.grown Y2.out.2) Y2.out.1 ?c0 ?c1 ?_)
  case c0 => have h1 := T1.out.2.2; have h2 := L2.out.1; omega
  case c1 => have h1 := (grown_trans T1.out.2.1 Y2.out.2).size; omega
  intro x2 w7 oo gg _
  obtain ⟨f2, q2, e2⟩ := oo.seg.shape
  obtain ⟨n2, hn2⟩ : ∃ n, (A1 ++ bytesForm a.table).length = n := ⟨_, rfl⟩
  rw [hn2] at e2
  subst e2
  obtain ⟨A2, hA2⟩ : ∃ A, A1 ++ bytesForm a.table = A := ⟨_, rfl⟩
  have E2 : Hid (A1 ++ bytesForm a.table = A2) := hA2
  have T2 : Hid (Own w7 W0.heap.size (.slice f2 n2 q2) A2 ∧ W0.grownBy w7 none ∧ A2.length ≤ 276) := by rw [← hA2]; exact ⟨oo, grown_new (grown_trans T1.out.2.1 Y2.out.2) gg (fun x hx => (T1.out.1.lt x hx).1), by have h1 := T1.out.2.2; have h2 := L2.out.1; rw [List.length_append]; omega⟩
  clear oo gg hn2 hA2 Y2 m0 m1 m2 m3 m4 m5 m6 m7 T1
  obtain ⟨m0, m1, m2, m3, m4, m5, m6, m7⟩ := HC.out w7 T2.out.2.1
  go_wp2_with (go_at_call 68; refine (dBytes _ a.key _ (HA.out.key.grown (grown_trans HG0.out T2.out.2.1)) (by have := L1.out.2.1; omega)).mono ?_)
  rintro e w9 ⟨v3, rfl, oo, gg⟩
  have Y3 : Hid (Seg w9 v3 (bytesForm a.key) ∧ w7.grownBy w9 none) := ⟨oo.seg, gg⟩
  clear oo gg
  go_wp2_with (at_builtin; refine app22 _ rfl _ _ rfl W0.heap.size (.slice f2 n2 q2) (A2) _ (bytesForm a.key) rfl rfl (T2.out.1.grown Y3.out.2) Y3.out.1 ?c0 ?c1 ?_)
  case c0 => have h1 := T2.out.2.2; have h2 := L2.out.2.1; omega
  case c1 => have h1 := (grown_trans T2.out.2.1 Y3.out.2).size; omega
  intro x3 w10 oo gg _
  obtain ⟨f3, q3, e3⟩ := oo.seg.shape
  obtain ⟨n3, hn3⟩ : ∃ n, (A2 ++ bytesForm a.key).length = n := ⟨_, rfl⟩
  rw [hn3] at e3
  subst e3
  obtain ⟨A3, hA3⟩ : ∃ A, A2 ++ bytesForm a.key = A := ⟨_, rfl⟩
  have E3 : Hid (A2 ++ bytesForm a.key = A3) := hA3
  have T3 : Hid (Own w10 W0.heap.size (.slice f3 n3 q3) A3 ∧ W0.grownBy w10 none ∧ A3.length ≤ 542) := by rw [← hA3]; exact ⟨oo, grown_new (grown_trans T2.out.2.1 Y3.out.2) gg (fun x hx => (T2.out.1.lt x hx).1), by have h1 := T2.out.2.2; have h2 := L2.out.2.1; rw [List.length_append]; omega⟩
  clear oo gg hn3 hA3 Y3 m0 m1 m2 m3 m4 m5 m6 m7 T2
  obtain ⟨m0, m1, m2, m3, m4, m5, m6, m7⟩ := HC.out w10 T3.out.2.1
  go_wp2_with fail
  go_ret
  exact ⟨_, rfl, by rw [HF.out, E1.out, E2.out, E3.out]; exact T3.out.1.mono HG0.out.size, grown_trans HG0.out T3.out.2.1⟩
set_option maxRecDepth 100000 in
set_option maxHeartbeats 8000000 in
theorem form45_2 (k v ol t : Value) (a : POp) (w : World) (ha : OpSeg w k v ol t a) (hk : a.kind = 2) (hm : mayOp a = true) : Calls Tryz.prog 45 #[opV k v ol t a] w (FormIs (opForm a) w) := by
  have hM := may_of hm
  have HM : Hid (May a) := hM
  have HF : Hid (opForm a = Wire.numForm 2 ++ bytesForm a.table ++ bytesForm a.key ++ bytesForm a.value) := by
    unfold Hid opForm frontForm tailForm
    rw [hk]
    simp
  unfold opV Str
  have HA : Hid (OpSeg w k v ol t a) := ha
  obtain ⟨p1, p2, p3, p4, r1, r2, r3, r4, rfl, rfl, rfl, rfl⟩ := ha.shapes
  obtain ⟨ms, hms⟩ : ∃ n, a.most = n := ⟨_, rfl⟩
  skip
  have HMS : Hid (a.most = ms) := hms
  rw [hk, hms]
  clear HMS
  obtain ⟨F, hF⟩ : ∃ F, opForm a = F := ⟨_, rfl⟩
  rw [hF] at HF ⊢
  clear ha hm hms hk hM hF
  have L1 : Hid (a.table.length ≤ 16 ∧ a.key.length ≤ 64 ∧ a.value.length ≤ 256 ∧ a.old.length ≤ 256 ∧ a.to.length ≤ 64) := ⟨tab_len HM.out.tab, HM.out.key, HM.out.value, HM.out.old, HM.out.to⟩
  have L2 : Hid ((bytesForm a.table).length ≤ 266 ∧ (bytesForm a.key).length ≤ 266 ∧ (bytesForm a.value).length ≤ 266 ∧ (bytesForm a.old).length ≤ 266 ∧ (bytesForm a.to).length ≤ 266 ∧ (flagForm a.has).length ≤ 1) := ⟨bytesForm_len _ (by have := L1.out.1; omega), bytesForm_len _ (by have := L1.out.2.1; omega), bytesForm_len _ L1.out.2.2.1, bytesForm_len _ L1.out.2.2.2.1, bytesForm_len _ (by have := L1.out.2.2.2.2; omega), by unfold flagForm; split <;> simp⟩
  have cb := conv_bytes
  go_enter Tryz.func45, Tryz.ntmps45
  go_upto_region 1 with fail
  have HC : Hid (∀ x : World, (w.alloc (.cells #[.int .i64 2, .string ⟨a.table.toArray⟩, .slice p1 a.key.length r1, .slice p2 a.value.length r2, .bool a.has, .slice p3 a.old.length r3, .slice p4 a.to.length r4, .int .i64 ms] 71)).grownBy x none → x.cell? ⟨w.heap.size, 0, none⟩ = some (.int .i64 2) ∧ x.cell? ⟨w.heap.size, 1, none⟩ = some (.string ⟨a.table.toArray⟩) ∧ x.cell? ⟨w.heap.size, 2, none⟩ = some (.slice p1 a.key.length r1) ∧ x.cell? ⟨w.heap.size, 3, none⟩ = some (.slice p2 a.value.length r2) ∧ x.cell? ⟨w.heap.size, 4, none⟩ = some (.bool a.has) ∧ x.cell? ⟨w.heap.size, 5, none⟩ = some (.slice p3 a.old.length r3) ∧ x.cell? ⟨w.heap.size, 6, none⟩ = some (.slice p4 a.to.length r4) ∧ x.cell? ⟨w.heap.size, 7, none⟩ = some (.int .i64 ms)) := by
    intro x hx
    have hb := heap_alloc_new w (.cells #[.int .i64 2, .string ⟨a.table.toArray⟩, .slice p1 a.key.length r1, .slice p2 a.value.length r2, .bool a.has, .slice p3 a.old.length r3, .slice p4 a.to.length r4, .int .i64 ms] 71)
    refine ⟨grown_fun hx ?_, grown_fun hx ?_, grown_fun hx ?_, grown_fun hx ?_, grown_fun hx ?_, grown_fun hx ?_, grown_fun hx ?_, grown_fun hx ?_⟩ <;> (rw [cell_of_row _ _ _ _ _ _ hb]; rfl)
  have HG0 : Hid (w.grownBy (w.alloc (.cells #[.int .i64 2, .string ⟨a.table.toArray⟩, .slice p1 a.key.length r1, .slice p2 a.value.length r2, .bool a.has, .slice p3 a.old.length r3, .slice p4 a.to.length r4, .int .i64 ms] 71)) none) := World.grownBy_alloc _ _ none
  generalize (w.alloc (.cells #[.int .i64 2, .string ⟨a.table.toArray⟩, .slice p1 a.key.length r1, .slice p2 a.value.length r2, .bool a.has, .slice p3 a.old.length r3, .slice p4 a.to.length r4, .int .i64 ms] 71)) = W0 at HC HG0 ⊢
  obtain ⟨m0, m1, m2, m3, m4, m5, m6, m7⟩ := HC.out W0 (grown_refl _ _)
  go_wp2_with (go_at_call 44; refine (dNum _ 2 rfl (by decide) _).mono ?_)
  rintro e w1 ⟨u1, rfl, o1, g1⟩
  obtain ⟨f1, q1, e1⟩ := o1.seg.shape
  obtain ⟨n1, hn1⟩ : ∃ n, (Wire.numForm 2).length = n := ⟨_, rfl⟩
  rw [hn1] at e1
  subst e1
  obtain ⟨A1, hA1⟩ : ∃ A, Wire.numForm 2 = A := ⟨_, rfl⟩
  have E1 : Hid (Wire.numForm 2 = A1) := hA1
  have T1 : Hid (Own w1 W0.heap.size (.slice f1 n1 q1) A1 ∧ W0.grownBy w1 none ∧ A1.length ≤ 10) := by rw [← hA1]; exact ⟨o1, g1, num_short _ (by decide)⟩
  clear o1 g1 hn1 hA1 m0 m1 m2 m3 m4 m5 m6 m7
  obtain ⟨m0, m1, m2, m3, m4, m5, m6, m7⟩ := HC.out w1 T1.out.2.1
  have X1 : Hid (Seg (Lib.bytesWorld w1 5 ⟨a.table.toArray⟩) (.slice (some ⟨w1.heap.size, 0, none⟩) a.table.length (grownCap w1 a.table.length 0 5)) a.table ∧ w1.grownBy (Lib.bytesWorld w1 5 ⟨a.table.toArray⟩) none) := ⟨bytes_seg w1 a.table HA.out.fits.tl, bytes_grown _ _⟩
  go_wp2_with (go_at_call 68; refine (dBytes _ a.table _ X1.out.1 (by have := L1.out.1; omega)).mono ?_)
  rintro e w6 ⟨v2, rfl, oo, gg⟩
  have Y2 : Hid (Seg w6 v2 (bytesForm a.table) ∧ w1.grownBy w6 none) := ⟨oo.seg, grown_trans X1.out.2 gg⟩
  clear oo gg X1
  go_wp2_with (at_builtin; refine app22 _ rfl _ _ rfl W0.heap.size (.slice f1 n1 q1) (A1) _ (bytesForm a.table) rfl rfl (T1.out.1.grown Y2.out.2) Y2.out.1 ?c0 ?c1 ?_)
  case c0 => have h1 := T1.out.2.2; have h2 := L2.out.1; omega
  case c1 => have h1 := (grown_trans T1.out.2.1 Y2.out.2).size; omega
  intro x2 w7 oo gg _
  obtain ⟨f2, q2, e2⟩ := oo.seg.shape
  obtain ⟨n2, hn2⟩ : ∃ n, (A1 ++ bytesForm a.table).length = n := ⟨_, rfl⟩
  rw [hn2] at e2
  subst e2
  obtain ⟨A2, hA2⟩ : ∃ A, A1 ++ bytesForm a.table = A := ⟨_, rfl⟩
  have E2 : Hid (A1 ++ bytesForm a.table = A2) := hA2
  have T2 : Hid (Own w7 W0.heap.size (.slice f2 n2 q2) A2 ∧ W0.grownBy w7 none ∧ A2.length ≤ 276) := by rw [← hA2]; exact ⟨oo, grown_new (grown_trans T1.out.2.1 Y2.out.2) gg (fun x hx => (T1.out.1.lt x hx).1), by have h1 := T1.out.2.2; have h2 := L2.out.1; rw [List.length_append]; omega⟩
  clear oo gg hn2 hA2 Y2 m0 m1 m2 m3 m4 m5 m6 m7 T1
  obtain ⟨m0, m1, m2, m3, m4, m5, m6, m7⟩ := HC.out w7 T2.out.2.1
  go_wp2_with (go_at_call 68; refine (dBytes _ a.key _ (HA.out.key.grown (grown_trans HG0.out T2.out.2.1)) (by have := L1.out.2.1; omega)).mono ?_)
  rintro e w9 ⟨v3, rfl, oo, gg⟩
  have Y3 : Hid (Seg w9 v3 (bytesForm a.key) ∧ w7.grownBy w9 none) := ⟨oo.seg, gg⟩
  clear oo gg
  go_wp2_with (at_builtin; refine app22 _ rfl _ _ rfl W0.heap.size (.slice f2 n2 q2) (A2) _ (bytesForm a.key) rfl rfl (T2.out.1.grown Y3.out.2) Y3.out.1 ?c0 ?c1 ?_)
  case c0 => have h1 := T2.out.2.2; have h2 := L2.out.2.1; omega
  case c1 => have h1 := (grown_trans T2.out.2.1 Y3.out.2).size; omega
  intro x3 w10 oo gg _
  obtain ⟨f3, q3, e3⟩ := oo.seg.shape
  obtain ⟨n3, hn3⟩ : ∃ n, (A2 ++ bytesForm a.key).length = n := ⟨_, rfl⟩
  rw [hn3] at e3
  subst e3
  obtain ⟨A3, hA3⟩ : ∃ A, A2 ++ bytesForm a.key = A := ⟨_, rfl⟩
  have E3 : Hid (A2 ++ bytesForm a.key = A3) := hA3
  have T3 : Hid (Own w10 W0.heap.size (.slice f3 n3 q3) A3 ∧ W0.grownBy w10 none ∧ A3.length ≤ 542) := by rw [← hA3]; exact ⟨oo, grown_new (grown_trans T2.out.2.1 Y3.out.2) gg (fun x hx => (T2.out.1.lt x hx).1), by have h1 := T2.out.2.2; have h2 := L2.out.2.1; rw [List.length_append]; omega⟩
  clear oo gg hn3 hA3 Y3 m0 m1 m2 m3 m4 m5 m6 m7 T2
  obtain ⟨m0, m1, m2, m3, m4, m5, m6, m7⟩ := HC.out w10 T3.out.2.1
  go_wp2_with (go_at_call 68; refine (dBytes _ a.value _ (HA.out.value.grown (grown_trans HG0.out T3.out.2.1)) (by have := L1.out.2.2.1; omega)).mono ?_)
  rintro e w12 ⟨v4, rfl, oo, gg⟩
  have Y4 : Hid (Seg w12 v4 (bytesForm a.value) ∧ w10.grownBy w12 none) := ⟨oo.seg, gg⟩
  clear oo gg
  go_wp2_with (at_builtin; refine app22 _ rfl _ _ rfl W0.heap.size (.slice f3 n3 q3) (A3) _ (bytesForm a.value) rfl rfl (T3.out.1.grown Y4.out.2) Y4.out.1 ?c0 ?c1 ?_)
  case c0 => have h1 := T3.out.2.2; have h2 := L2.out.2.2.1; omega
  case c1 => have h1 := (grown_trans T3.out.2.1 Y4.out.2).size; omega
  intro x4 w13 oo gg _
  obtain ⟨f4, q4, e4⟩ := oo.seg.shape
  obtain ⟨n4, hn4⟩ : ∃ n, (A3 ++ bytesForm a.value).length = n := ⟨_, rfl⟩
  rw [hn4] at e4
  subst e4
  obtain ⟨A4, hA4⟩ : ∃ A, A3 ++ bytesForm a.value = A := ⟨_, rfl⟩
  have E4 : Hid (A3 ++ bytesForm a.value = A4) := hA4
  have T4 : Hid (Own w13 W0.heap.size (.slice f4 n4 q4) A4 ∧ W0.grownBy w13 none ∧ A4.length ≤ 808) := by rw [← hA4]; exact ⟨oo, grown_new (grown_trans T3.out.2.1 Y4.out.2) gg (fun x hx => (T3.out.1.lt x hx).1), by have h1 := T3.out.2.2; have h2 := L2.out.2.2.1; rw [List.length_append]; omega⟩
  clear oo gg hn4 hA4 Y4 m0 m1 m2 m3 m4 m5 m6 m7 T3
  obtain ⟨m0, m1, m2, m3, m4, m5, m6, m7⟩ := HC.out w13 T4.out.2.1
  go_wp2_with fail
  go_ret
  exact ⟨_, rfl, by rw [HF.out, E1.out, E2.out, E3.out, E4.out]; exact T4.out.1.mono HG0.out.size, grown_trans HG0.out T4.out.2.1⟩
set_option maxRecDepth 100000 in
set_option maxHeartbeats 8000000 in
theorem form45_4 (k v ol t : Value) (a : POp) (w : World) (ha : OpSeg w k v ol t a) (hk : a.kind = 4) (hm : mayOp a = true) : Calls Tryz.prog 45 #[opV k v ol t a] w (FormIs (opForm a) w) := by
  have hM := may_of hm
  have HM : Hid (May a) := hM
  have HF : Hid (opForm a = Wire.numForm 4 ++ bytesForm a.table ++ bytesForm a.key ++ flagForm a.has ++ bytesForm a.old ++ bytesForm a.value) := by
    unfold Hid opForm frontForm tailForm
    rw [hk]
    simp
  unfold opV Str
  have HA : Hid (OpSeg w k v ol t a) := ha
  obtain ⟨p1, p2, p3, p4, r1, r2, r3, r4, rfl, rfl, rfl, rfl⟩ := ha.shapes
  obtain ⟨ms, hms⟩ : ∃ n, a.most = n := ⟨_, rfl⟩
  skip
  have HMS : Hid (a.most = ms) := hms
  rw [hk, hms]
  clear HMS
  obtain ⟨F, hF⟩ : ∃ F, opForm a = F := ⟨_, rfl⟩
  rw [hF] at HF ⊢
  clear ha hm hms hk hM hF
  have L1 : Hid (a.table.length ≤ 16 ∧ a.key.length ≤ 64 ∧ a.value.length ≤ 256 ∧ a.old.length ≤ 256 ∧ a.to.length ≤ 64) := ⟨tab_len HM.out.tab, HM.out.key, HM.out.value, HM.out.old, HM.out.to⟩
  have L2 : Hid ((bytesForm a.table).length ≤ 266 ∧ (bytesForm a.key).length ≤ 266 ∧ (bytesForm a.value).length ≤ 266 ∧ (bytesForm a.old).length ≤ 266 ∧ (bytesForm a.to).length ≤ 266 ∧ (flagForm a.has).length ≤ 1) := ⟨bytesForm_len _ (by have := L1.out.1; omega), bytesForm_len _ (by have := L1.out.2.1; omega), bytesForm_len _ L1.out.2.2.1, bytesForm_len _ L1.out.2.2.2.1, bytesForm_len _ (by have := L1.out.2.2.2.2; omega), by unfold flagForm; split <;> simp⟩
  have cb := conv_bytes
  go_enter Tryz.func45, Tryz.ntmps45
  go_upto_region 1 with fail
  have HC : Hid (∀ x : World, (w.alloc (.cells #[.int .i64 4, .string ⟨a.table.toArray⟩, .slice p1 a.key.length r1, .slice p2 a.value.length r2, .bool a.has, .slice p3 a.old.length r3, .slice p4 a.to.length r4, .int .i64 ms] 71)).grownBy x none → x.cell? ⟨w.heap.size, 0, none⟩ = some (.int .i64 4) ∧ x.cell? ⟨w.heap.size, 1, none⟩ = some (.string ⟨a.table.toArray⟩) ∧ x.cell? ⟨w.heap.size, 2, none⟩ = some (.slice p1 a.key.length r1) ∧ x.cell? ⟨w.heap.size, 3, none⟩ = some (.slice p2 a.value.length r2) ∧ x.cell? ⟨w.heap.size, 4, none⟩ = some (.bool a.has) ∧ x.cell? ⟨w.heap.size, 5, none⟩ = some (.slice p3 a.old.length r3) ∧ x.cell? ⟨w.heap.size, 6, none⟩ = some (.slice p4 a.to.length r4) ∧ x.cell? ⟨w.heap.size, 7, none⟩ = some (.int .i64 ms)) := by
    intro x hx
    have hb := heap_alloc_new w (.cells #[.int .i64 4, .string ⟨a.table.toArray⟩, .slice p1 a.key.length r1, .slice p2 a.value.length r2, .bool a.has, .slice p3 a.old.length r3, .slice p4 a.to.length r4, .int .i64 ms] 71)
    refine ⟨grown_fun hx ?_, grown_fun hx ?_, grown_fun hx ?_, grown_fun hx ?_, grown_fun hx ?_, grown_fun hx ?_, grown_fun hx ?_, grown_fun hx ?_⟩ <;> (rw [cell_of_row _ _ _ _ _ _ hb]; rfl)
  have HG0 : Hid (w.grownBy (w.alloc (.cells #[.int .i64 4, .string ⟨a.table.toArray⟩, .slice p1 a.key.length r1, .slice p2 a.value.length r2, .bool a.has, .slice p3 a.old.length r3, .slice p4 a.to.length r4, .int .i64 ms] 71)) none) := World.grownBy_alloc _ _ none
  generalize (w.alloc (.cells #[.int .i64 4, .string ⟨a.table.toArray⟩, .slice p1 a.key.length r1, .slice p2 a.value.length r2, .bool a.has, .slice p3 a.old.length r3, .slice p4 a.to.length r4, .int .i64 ms] 71)) = W0 at HC HG0 ⊢
  obtain ⟨m0, m1, m2, m3, m4, m5, m6, m7⟩ := HC.out W0 (grown_refl _ _)
  go_wp2_with (go_at_call 44; refine (dNum _ 4 rfl (by decide) _).mono ?_)
  rintro e w1 ⟨u1, rfl, o1, g1⟩
  obtain ⟨f1, q1, e1⟩ := o1.seg.shape
  obtain ⟨n1, hn1⟩ : ∃ n, (Wire.numForm 4).length = n := ⟨_, rfl⟩
  rw [hn1] at e1
  subst e1
  obtain ⟨A1, hA1⟩ : ∃ A, Wire.numForm 4 = A := ⟨_, rfl⟩
  have E1 : Hid (Wire.numForm 4 = A1) := hA1
  have T1 : Hid (Own w1 W0.heap.size (.slice f1 n1 q1) A1 ∧ W0.grownBy w1 none ∧ A1.length ≤ 10) := by rw [← hA1]; exact ⟨o1, g1, num_short _ (by decide)⟩
  clear o1 g1 hn1 hA1 m0 m1 m2 m3 m4 m5 m6 m7
  obtain ⟨m0, m1, m2, m3, m4, m5, m6, m7⟩ := HC.out w1 T1.out.2.1
  have X1 : Hid (Seg (Lib.bytesWorld w1 5 ⟨a.table.toArray⟩) (.slice (some ⟨w1.heap.size, 0, none⟩) a.table.length (grownCap w1 a.table.length 0 5)) a.table ∧ w1.grownBy (Lib.bytesWorld w1 5 ⟨a.table.toArray⟩) none) := ⟨bytes_seg w1 a.table HA.out.fits.tl, bytes_grown _ _⟩
  go_wp2_with (go_at_call 68; refine (dBytes _ a.table _ X1.out.1 (by have := L1.out.1; omega)).mono ?_)
  rintro e w6 ⟨v2, rfl, oo, gg⟩
  have Y2 : Hid (Seg w6 v2 (bytesForm a.table) ∧ w1.grownBy w6 none) := ⟨oo.seg, grown_trans X1.out.2 gg⟩
  clear oo gg X1
  go_wp2_with (at_builtin; refine app22 _ rfl _ _ rfl W0.heap.size (.slice f1 n1 q1) (A1) _ (bytesForm a.table) rfl rfl (T1.out.1.grown Y2.out.2) Y2.out.1 ?c0 ?c1 ?_)
  case c0 => have h1 := T1.out.2.2; have h2 := L2.out.1; omega
  case c1 => have h1 := (grown_trans T1.out.2.1 Y2.out.2).size; omega
  intro x2 w7 oo gg _
  obtain ⟨f2, q2, e2⟩ := oo.seg.shape
  obtain ⟨n2, hn2⟩ : ∃ n, (A1 ++ bytesForm a.table).length = n := ⟨_, rfl⟩
  rw [hn2] at e2
  subst e2
  obtain ⟨A2, hA2⟩ : ∃ A, A1 ++ bytesForm a.table = A := ⟨_, rfl⟩
  have E2 : Hid (A1 ++ bytesForm a.table = A2) := hA2
  have T2 : Hid (Own w7 W0.heap.size (.slice f2 n2 q2) A2 ∧ W0.grownBy w7 none ∧ A2.length ≤ 276) := by rw [← hA2]; exact ⟨oo, grown_new (grown_trans T1.out.2.1 Y2.out.2) gg (fun x hx => (T1.out.1.lt x hx).1), by have h1 := T1.out.2.2; have h2 := L2.out.1; rw [List.length_append]; omega⟩
  clear oo gg hn2 hA2 Y2 m0 m1 m2 m3 m4 m5 m6 m7 T1
  obtain ⟨m0, m1, m2, m3, m4, m5, m6, m7⟩ := HC.out w7 T2.out.2.1
  go_wp2_with (go_at_call 68; refine (dBytes _ a.key _ (HA.out.key.grown (grown_trans HG0.out T2.out.2.1)) (by have := L1.out.2.1; omega)).mono ?_)
  rintro e w9 ⟨v3, rfl, oo, gg⟩
  have Y3 : Hid (Seg w9 v3 (bytesForm a.key) ∧ w7.grownBy w9 none) := ⟨oo.seg, gg⟩
  clear oo gg
  go_wp2_with (at_builtin; refine app22 _ rfl _ _ rfl W0.heap.size (.slice f2 n2 q2) (A2) _ (bytesForm a.key) rfl rfl (T2.out.1.grown Y3.out.2) Y3.out.1 ?c0 ?c1 ?_)
  case c0 => have h1 := T2.out.2.2; have h2 := L2.out.2.1; omega
  case c1 => have h1 := (grown_trans T2.out.2.1 Y3.out.2).size; omega
  intro x3 w10 oo gg _
  obtain ⟨f3, q3, e3⟩ := oo.seg.shape
  obtain ⟨n3, hn3⟩ : ∃ n, (A2 ++ bytesForm a.key).length = n := ⟨_, rfl⟩
  rw [hn3] at e3
  subst e3
  obtain ⟨A3, hA3⟩ : ∃ A, A2 ++ bytesForm a.key = A := ⟨_, rfl⟩
  have E3 : Hid (A2 ++ bytesForm a.key = A3) := hA3
  have T3 : Hid (Own w10 W0.heap.size (.slice f3 n3 q3) A3 ∧ W0.grownBy w10 none ∧ A3.length ≤ 542) := by rw [← hA3]; exact ⟨oo, grown_new (grown_trans T2.out.2.1 Y3.out.2) gg (fun x hx => (T2.out.1.lt x hx).1), by have h1 := T2.out.2.2; have h2 := L2.out.2.1; rw [List.length_append]; omega⟩
  clear oo gg hn3 hA3 Y3 m0 m1 m2 m3 m4 m5 m6 m7 T2
  obtain ⟨m0, m1, m2, m3, m4, m5, m6, m7⟩ := HC.out w10 T3.out.2.1
  go_wp2_with (go_at_call 67; refine (dFlag a.has _).mono ?_)
  rintro e w12 ⟨v4, rfl, oo, gg⟩
  have Y4 : Hid (Seg w12 v4 (flagForm a.has) ∧ w10.grownBy w12 none) := ⟨oo.seg, gg⟩
  clear oo gg
  go_wp2_with (at_builtin; refine app22 _ rfl _ _ rfl W0.heap.size (.slice f3 n3 q3) (A3) _ (flagForm a.has) rfl rfl (T3.out.1.grown Y4.out.2) Y4.out.1 ?c0 ?c1 ?_)
  case c0 => have h1 := T3.out.2.2; have h2 := L2.out.2.2.2.2.2; omega
  case c1 => have h1 := (grown_trans T3.out.2.1 Y4.out.2).size; omega
  intro x4 w13 oo gg _
  obtain ⟨f4, q4, e4⟩ := oo.seg.shape
  obtain ⟨n4, hn4⟩ : ∃ n, (A3 ++ flagForm a.has).length = n := ⟨_, rfl⟩
  rw [hn4] at e4
  subst e4
  obtain ⟨A4, hA4⟩ : ∃ A, A3 ++ flagForm a.has = A := ⟨_, rfl⟩
  have E4 : Hid (A3 ++ flagForm a.has = A4) := hA4
  have T4 : Hid (Own w13 W0.heap.size (.slice f4 n4 q4) A4 ∧ W0.grownBy w13 none ∧ A4.length ≤ 543) := by rw [← hA4]; exact ⟨oo, grown_new (grown_trans T3.out.2.1 Y4.out.2) gg (fun x hx => (T3.out.1.lt x hx).1), by have h1 := T3.out.2.2; have h2 := L2.out.2.2.2.2.2; rw [List.length_append]; omega⟩
  clear oo gg hn4 hA4 Y4 m0 m1 m2 m3 m4 m5 m6 m7 T3
  obtain ⟨m0, m1, m2, m3, m4, m5, m6, m7⟩ := HC.out w13 T4.out.2.1
  go_wp2_with (go_at_call 68; refine (dBytes _ a.old _ (HA.out.old.grown (grown_trans HG0.out T4.out.2.1)) (by have := L1.out.2.2.2.1; omega)).mono ?_)
  rintro e w15 ⟨v5, rfl, oo, gg⟩
  have Y5 : Hid (Seg w15 v5 (bytesForm a.old) ∧ w13.grownBy w15 none) := ⟨oo.seg, gg⟩
  clear oo gg
  go_wp2_with (at_builtin; refine app22 _ rfl _ _ rfl W0.heap.size (.slice f4 n4 q4) (A4) _ (bytesForm a.old) rfl rfl (T4.out.1.grown Y5.out.2) Y5.out.1 ?c0 ?c1 ?_)
  case c0 => have h1 := T4.out.2.2; have h2 := L2.out.2.2.2.1; omega
  case c1 => have h1 := (grown_trans T4.out.2.1 Y5.out.2).size; omega
  intro x5 w16 oo gg _
  obtain ⟨f5, q5, e5⟩ := oo.seg.shape
  obtain ⟨n5, hn5⟩ : ∃ n, (A4 ++ bytesForm a.old).length = n := ⟨_, rfl⟩
  rw [hn5] at e5
  subst e5
  obtain ⟨A5, hA5⟩ : ∃ A, A4 ++ bytesForm a.old = A := ⟨_, rfl⟩
  have E5 : Hid (A4 ++ bytesForm a.old = A5) := hA5
  have T5 : Hid (Own w16 W0.heap.size (.slice f5 n5 q5) A5 ∧ W0.grownBy w16 none ∧ A5.length ≤ 809) := by rw [← hA5]; exact ⟨oo, grown_new (grown_trans T4.out.2.1 Y5.out.2) gg (fun x hx => (T4.out.1.lt x hx).1), by have h1 := T4.out.2.2; have h2 := L2.out.2.2.2.1; rw [List.length_append]; omega⟩
  clear oo gg hn5 hA5 Y5 m0 m1 m2 m3 m4 m5 m6 m7 T4
  obtain ⟨m0, m1, m2, m3, m4, m5, m6, m7⟩ := HC.out w16 T5.out.2.1
  go_wp2_with (go_at_call 68; refine (dBytes _ a.value _ (HA.out.value.grown (grown_trans HG0.out T5.out.2.1)) (by have := L1.out.2.2.1; omega)).mono ?_)
  rintro e w18 ⟨v6, rfl, oo, gg⟩
  have Y6 : Hid (Seg w18 v6 (bytesForm a.value) ∧ w16.grownBy w18 none) := ⟨oo.seg, gg⟩
  clear oo gg
  go_wp2_with (at_builtin; refine app22 _ rfl _ _ rfl W0.heap.size (.slice f5 n5 q5) (A5) _ (bytesForm a.value) rfl rfl (T5.out.1.grown Y6.out.2) Y6.out.1 ?c0 ?c1 ?_)
  case c0 => have h1 := T5.out.2.2; have h2 := L2.out.2.2.1; omega
  case c1 => have h1 := (grown_trans T5.out.2.1 Y6.out.2).size; omega
  intro x6 w19 oo gg _
  obtain ⟨f6, q6, e6⟩ := oo.seg.shape
  obtain ⟨n6, hn6⟩ : ∃ n, (A5 ++ bytesForm a.value).length = n := ⟨_, rfl⟩
  rw [hn6] at e6
  subst e6
  obtain ⟨A6, hA6⟩ : ∃ A, A5 ++ bytesForm a.value = A := ⟨_, rfl⟩
  have E6 : Hid (A5 ++ bytesForm a.value = A6) := hA6
  have T6 : Hid (Own w19 W0.heap.size (.slice f6 n6 q6) A6 ∧ W0.grownBy w19 none ∧ A6.length ≤ 1075) := by rw [← hA6]; exact ⟨oo, grown_new (grown_trans T5.out.2.1 Y6.out.2) gg (fun x hx => (T5.out.1.lt x hx).1), by have h1 := T5.out.2.2; have h2 := L2.out.2.2.1; rw [List.length_append]; omega⟩
  clear oo gg hn6 hA6 Y6 m0 m1 m2 m3 m4 m5 m6 m7 T5
  obtain ⟨m0, m1, m2, m3, m4, m5, m6, m7⟩ := HC.out w19 T6.out.2.1
  go_wp2_with fail
  go_ret
  exact ⟨_, rfl, by rw [HF.out, E1.out, E2.out, E3.out, E4.out, E5.out, E6.out]; exact T6.out.1.mono HG0.out.size, grown_trans HG0.out T6.out.2.1⟩
set_option maxRecDepth 100000 in
set_option maxHeartbeats 8000000 in
theorem form45_5 (k v ol t : Value) (a : POp) (w : World) (ha : OpSeg w k v ol t a) (hk : a.kind = 5) (hm : mayOp a = true) : Calls Tryz.prog 45 #[opV k v ol t a] w (FormIs (opForm a) w) := by
  have hM := may_of hm
  have HM : Hid (May a) := hM
  have HF : Hid (opForm a = Wire.numForm 5 ++ bytesForm a.table ++ bytesForm a.key ++ bytesForm a.to ++ Wire.numForm a.most.toNat) := by
    unfold Hid opForm frontForm tailForm
    rw [hk]
    simp
  unfold opV Str
  have HA : Hid (OpSeg w k v ol t a) := ha
  obtain ⟨p1, p2, p3, p4, r1, r2, r3, r4, rfl, rfl, rfl, rfl⟩ := ha.shapes
  obtain ⟨ms, hms⟩ : ∃ n, a.most = n := ⟨_, rfl⟩
  have hms5 : 1 ≤ ms ∧ ms ≤ 64 := by rw [← hms]; exact hM.most hk
  have HMS : Hid (a.most = ms) := hms
  rw [hk, hms]
  rw [hms] at HF
  obtain ⟨F, hF⟩ : ∃ F, opForm a = F := ⟨_, rfl⟩
  rw [hF] at HF ⊢
  clear ha hm hms hk hM hF
  have L1 : Hid (a.table.length ≤ 16 ∧ a.key.length ≤ 64 ∧ a.value.length ≤ 256 ∧ a.old.length ≤ 256 ∧ a.to.length ≤ 64) := ⟨tab_len HM.out.tab, HM.out.key, HM.out.value, HM.out.old, HM.out.to⟩
  have L2 : Hid ((bytesForm a.table).length ≤ 266 ∧ (bytesForm a.key).length ≤ 266 ∧ (bytesForm a.value).length ≤ 266 ∧ (bytesForm a.old).length ≤ 266 ∧ (bytesForm a.to).length ≤ 266 ∧ (flagForm a.has).length ≤ 1) := ⟨bytesForm_len _ (by have := L1.out.1; omega), bytesForm_len _ (by have := L1.out.2.1; omega), bytesForm_len _ L1.out.2.2.1, bytesForm_len _ L1.out.2.2.2.1, bytesForm_len _ (by have := L1.out.2.2.2.2; omega), by unfold flagForm; split <;> simp⟩
  have cb := conv_bytes
  go_enter Tryz.func45, Tryz.ntmps45
  go_upto_region 1 with fail
  have HC : Hid (∀ x : World, (w.alloc (.cells #[.int .i64 5, .string ⟨a.table.toArray⟩, .slice p1 a.key.length r1, .slice p2 a.value.length r2, .bool a.has, .slice p3 a.old.length r3, .slice p4 a.to.length r4, .int .i64 ms] 71)).grownBy x none → x.cell? ⟨w.heap.size, 0, none⟩ = some (.int .i64 5) ∧ x.cell? ⟨w.heap.size, 1, none⟩ = some (.string ⟨a.table.toArray⟩) ∧ x.cell? ⟨w.heap.size, 2, none⟩ = some (.slice p1 a.key.length r1) ∧ x.cell? ⟨w.heap.size, 3, none⟩ = some (.slice p2 a.value.length r2) ∧ x.cell? ⟨w.heap.size, 4, none⟩ = some (.bool a.has) ∧ x.cell? ⟨w.heap.size, 5, none⟩ = some (.slice p3 a.old.length r3) ∧ x.cell? ⟨w.heap.size, 6, none⟩ = some (.slice p4 a.to.length r4) ∧ x.cell? ⟨w.heap.size, 7, none⟩ = some (.int .i64 ms)) := by
    intro x hx
    have hb := heap_alloc_new w (.cells #[.int .i64 5, .string ⟨a.table.toArray⟩, .slice p1 a.key.length r1, .slice p2 a.value.length r2, .bool a.has, .slice p3 a.old.length r3, .slice p4 a.to.length r4, .int .i64 ms] 71)
    refine ⟨grown_fun hx ?_, grown_fun hx ?_, grown_fun hx ?_, grown_fun hx ?_, grown_fun hx ?_, grown_fun hx ?_, grown_fun hx ?_, grown_fun hx ?_⟩ <;> (rw [cell_of_row _ _ _ _ _ _ hb]; rfl)
  have HG0 : Hid (w.grownBy (w.alloc (.cells #[.int .i64 5, .string ⟨a.table.toArray⟩, .slice p1 a.key.length r1, .slice p2 a.value.length r2, .bool a.has, .slice p3 a.old.length r3, .slice p4 a.to.length r4, .int .i64 ms] 71)) none) := World.grownBy_alloc _ _ none
  generalize (w.alloc (.cells #[.int .i64 5, .string ⟨a.table.toArray⟩, .slice p1 a.key.length r1, .slice p2 a.value.length r2, .bool a.has, .slice p3 a.old.length r3, .slice p4 a.to.length r4, .int .i64 ms] 71)) = W0 at HC HG0 ⊢
  obtain ⟨m0, m1, m2, m3, m4, m5, m6, m7⟩ := HC.out W0 (grown_refl _ _)
  go_wp2_with (go_at_call 44; refine (dNum _ 5 rfl (by decide) _).mono ?_)
  rintro e w1 ⟨u1, rfl, o1, g1⟩
  obtain ⟨f1, q1, e1⟩ := o1.seg.shape
  obtain ⟨n1, hn1⟩ : ∃ n, (Wire.numForm 5).length = n := ⟨_, rfl⟩
  rw [hn1] at e1
  subst e1
  obtain ⟨A1, hA1⟩ : ∃ A, Wire.numForm 5 = A := ⟨_, rfl⟩
  have E1 : Hid (Wire.numForm 5 = A1) := hA1
  have T1 : Hid (Own w1 W0.heap.size (.slice f1 n1 q1) A1 ∧ W0.grownBy w1 none ∧ A1.length ≤ 10) := by rw [← hA1]; exact ⟨o1, g1, num_short _ (by decide)⟩
  clear o1 g1 hn1 hA1 m0 m1 m2 m3 m4 m5 m6 m7
  obtain ⟨m0, m1, m2, m3, m4, m5, m6, m7⟩ := HC.out w1 T1.out.2.1
  have X1 : Hid (Seg (Lib.bytesWorld w1 5 ⟨a.table.toArray⟩) (.slice (some ⟨w1.heap.size, 0, none⟩) a.table.length (grownCap w1 a.table.length 0 5)) a.table ∧ w1.grownBy (Lib.bytesWorld w1 5 ⟨a.table.toArray⟩) none) := ⟨bytes_seg w1 a.table HA.out.fits.tl, bytes_grown _ _⟩
  go_wp2_with (go_at_call 68; refine (dBytes _ a.table _ X1.out.1 (by have := L1.out.1; omega)).mono ?_)
  rintro e w6 ⟨v2, rfl, oo, gg⟩
  have Y2 : Hid (Seg w6 v2 (bytesForm a.table) ∧ w1.grownBy w6 none) := ⟨oo.seg, grown_trans X1.out.2 gg⟩
  clear oo gg X1
  go_wp2_with (at_builtin; refine app22 _ rfl _ _ rfl W0.heap.size (.slice f1 n1 q1) (A1) _ (bytesForm a.table) rfl rfl (T1.out.1.grown Y2.out.2) Y2.out.1 ?c0 ?c1 ?_)
  case c0 => have h1 := T1.out.2.2; have h2 := L2.out.1; omega
  case c1 => have h1 := (grown_trans T1.out.2.1 Y2.out.2).size; omega
  intro x2 w7 oo gg _
  obtain ⟨f2, q2, e2⟩ := oo.seg.shape
  obtain ⟨n2, hn2⟩ : ∃ n, (A1 ++ bytesForm a.table).length = n := ⟨_, rfl⟩
  rw [hn2] at e2
  subst e2
  obtain ⟨A2, hA2⟩ : ∃ A, A1 ++ bytesForm a.table = A := ⟨_, rfl⟩
  have E2 : Hid (A1 ++ bytesForm a.table = A2) := hA2
  have T2 : Hid (Own w7 W0.heap.size (.slice f2 n2 q2) A2 ∧ W0.grownBy w7 none ∧ A2.length ≤ 276) := by rw [← hA2]; exact ⟨oo, grown_new (grown_trans T1.out.2.1 Y2.out.2) gg (fun x hx => (T1.out.1.lt x hx).1), by have h1 := T1.out.2.2; have h2 := L2.out.1; rw [List.length_append]; omega⟩
  clear oo gg hn2 hA2 Y2 m0 m1 m2 m3 m4 m5 m6 m7 T1
  obtain ⟨m0, m1, m2, m3, m4, m5, m6, m7⟩ := HC.out w7 T2.out.2.1
  go_wp2_with (go_at_call 68; refine (dBytes _ a.key _ (HA.out.key.grown (grown_trans HG0.out T2.out.2.1)) (by have := L1.out.2.1; omega)).mono ?_)
  rintro e w9 ⟨v3, rfl, oo, gg⟩
  have Y3 : Hid (Seg w9 v3 (bytesForm a.key) ∧ w7.grownBy w9 none) := ⟨oo.seg, gg⟩
  clear oo gg
  go_wp2_with (at_builtin; refine app22 _ rfl _ _ rfl W0.heap.size (.slice f2 n2 q2) (A2) _ (bytesForm a.key) rfl rfl (T2.out.1.grown Y3.out.2) Y3.out.1 ?c0 ?c1 ?_)
  case c0 => have h1 := T2.out.2.2; have h2 := L2.out.2.1; omega
  case c1 => have h1 := (grown_trans T2.out.2.1 Y3.out.2).size; omega
  intro x3 w10 oo gg _
  obtain ⟨f3, q3, e3⟩ := oo.seg.shape
  obtain ⟨n3, hn3⟩ : ∃ n, (A2 ++ bytesForm a.key).length = n := ⟨_, rfl⟩
  rw [hn3] at e3
  subst e3
  obtain ⟨A3, hA3⟩ : ∃ A, A2 ++ bytesForm a.key = A := ⟨_, rfl⟩
  have E3 : Hid (A2 ++ bytesForm a.key = A3) := hA3
  have T3 : Hid (Own w10 W0.heap.size (.slice f3 n3 q3) A3 ∧ W0.grownBy w10 none ∧ A3.length ≤ 542) := by rw [← hA3]; exact ⟨oo, grown_new (grown_trans T2.out.2.1 Y3.out.2) gg (fun x hx => (T2.out.1.lt x hx).1), by have h1 := T2.out.2.2; have h2 := L2.out.2.1; rw [List.length_append]; omega⟩
  clear oo gg hn3 hA3 Y3 m0 m1 m2 m3 m4 m5 m6 m7 T2
  obtain ⟨m0, m1, m2, m3, m4, m5, m6, m7⟩ := HC.out w10 T3.out.2.1
  go_wp2_with (go_at_call 68; refine (dBytes _ a.to _ (HA.out.to.grown (grown_trans HG0.out T3.out.2.1)) (by have := L1.out.2.2.2.2; omega)).mono ?_)
  rintro e w12 ⟨v4, rfl, oo, gg⟩
  have Y4 : Hid (Seg w12 v4 (bytesForm a.to) ∧ w10.grownBy w12 none) := ⟨oo.seg, gg⟩
  clear oo gg
  go_wp2_with (at_builtin; refine app22 _ rfl _ _ rfl W0.heap.size (.slice f3 n3 q3) (A3) _ (bytesForm a.to) rfl rfl (T3.out.1.grown Y4.out.2) Y4.out.1 ?c0 ?c1 ?_)
  case c0 => have h1 := T3.out.2.2; have h2 := L2.out.2.2.2.2.1; omega
  case c1 => have h1 := (grown_trans T3.out.2.1 Y4.out.2).size; omega
  intro x4 w13 oo gg _
  obtain ⟨f4, q4, e4⟩ := oo.seg.shape
  obtain ⟨n4, hn4⟩ : ∃ n, (A3 ++ bytesForm a.to).length = n := ⟨_, rfl⟩
  rw [hn4] at e4
  subst e4
  obtain ⟨A4, hA4⟩ : ∃ A, A3 ++ bytesForm a.to = A := ⟨_, rfl⟩
  have E4 : Hid (A3 ++ bytesForm a.to = A4) := hA4
  have T4 : Hid (Own w13 W0.heap.size (.slice f4 n4 q4) A4 ∧ W0.grownBy w13 none ∧ A4.length ≤ 808) := by rw [← hA4]; exact ⟨oo, grown_new (grown_trans T3.out.2.1 Y4.out.2) gg (fun x hx => (T3.out.1.lt x hx).1), by have h1 := T3.out.2.2; have h2 := L2.out.2.2.2.2.1; rw [List.length_append]; omega⟩
  clear oo gg hn4 hA4 Y4 m0 m1 m2 m3 m4 m5 m6 m7 T3
  obtain ⟨m0, m1, m2, m3, m4, m5, m6, m7⟩ := HC.out w13 T4.out.2.1
  have wu : IntKind.u64.wrap ms = ms := by have := hms5; rw [IntKind.wrap_u64]; omega
  go_wp2_with (go_at_call 44; refine (dNum _ ms.toNat (by have := hms5; omega) (by have := hms5; omega) _).mono ?_)
  rintro e w15 ⟨v5, rfl, oo, gg⟩
  have Y5 : Hid (Seg w15 v5 (Wire.numForm ms.toNat) ∧ w13.grownBy w15 none) := ⟨oo.seg, gg⟩
  clear oo gg wu
  go_wp2_with (at_builtin; refine app22 _ rfl _ _ rfl W0.heap.size (.slice f4 n4 q4) (A4) _ (Wire.numForm ms.toNat) rfl rfl (T4.out.1.grown Y5.out.2) Y5.out.1 ?c0 ?c1 ?_)
  case c0 => have h1 := T4.out.2.2; have h2 := (num_short ms.toNat (by have := hms5; omega)); omega
  case c1 => have h1 := (grown_trans T4.out.2.1 Y5.out.2).size; omega
  intro x5 w16 oo gg _
  obtain ⟨f5, q5, e5⟩ := oo.seg.shape
  obtain ⟨n5, hn5⟩ : ∃ n, (A4 ++ Wire.numForm ms.toNat).length = n := ⟨_, rfl⟩
  rw [hn5] at e5
  subst e5
  obtain ⟨A5, hA5⟩ : ∃ A, A4 ++ Wire.numForm ms.toNat = A := ⟨_, rfl⟩
  have E5 : Hid (A4 ++ Wire.numForm ms.toNat = A5) := hA5
  have T5 : Hid (Own w16 W0.heap.size (.slice f5 n5 q5) A5 ∧ W0.grownBy w16 none ∧ A5.length ≤ 818) := by rw [← hA5]; exact ⟨oo, grown_new (grown_trans T4.out.2.1 Y5.out.2) gg (fun x hx => (T4.out.1.lt x hx).1), by have h1 := T4.out.2.2; have h2 := (num_short ms.toNat (by have := hms5; omega)); rw [List.length_append]; omega⟩
  clear oo gg hn5 hA5 Y5 m0 m1 m2 m3 m4 m5 m6 m7 T4
  obtain ⟨m0, m1, m2, m3, m4, m5, m6, m7⟩ := HC.out w16 T5.out.2.1
  go_wp2_with fail
  go_ret
  exact ⟨_, rfl, by rw [HF.out, E1.out, E2.out, E3.out, E4.out, E5.out]; exact T5.out.1.mono HG0.out.size, grown_trans HG0.out T5.out.2.1⟩
theorem form45 (k v ol t : Value) (a : POp) (w : World) (ha : OpSeg w k v ol t a) (hm : mayOp a = true) : Calls Tryz.prog 45 #[opV k v ol t a] w (FormIs (opForm a) w) := by
  have := (may_of hm).kind
  have : a.kind = 1 ∨ a.kind = 2 ∨ a.kind = 3 ∨ a.kind = 4 ∨ a.kind = 5 := by omega
  rcases this with h | h | h | h | h
  · exact form45_1 k v ol t a w ha h hm
  · exact form45_2 k v ol t a w ha h hm
  · exact form45_3 k v ol t a w ha h hm
  · exact form45_4 k v ol t a w ha h hm
  · exact form45_5 k v ol t a w ha h hm
end Go.Proofs.YtfocmbnhkldnfaaGreatDoor
