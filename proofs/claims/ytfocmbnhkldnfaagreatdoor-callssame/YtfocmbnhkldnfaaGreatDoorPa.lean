/-
  Parse; the call that the law knows.
-/
import Derived.Test.YtfocmbnhkldnfaaGreatDoorZ
import Derived.Test.YtfocmbnhkldnfaaGreatDoorU
import Derived.Lib.SlBytesConst
namespace Go.Proofs.YtfocmbnhkldnfaaGreatDoor
open Go.RowKit Disk
open Names (Str)

/-- Parse. -/
def parseC (s : Bs) : List POp × Int := if s.length ≤ 12288 then (match pParse s with | some l => (l, 0) | none => ([], 4)) else ([], 3)

set_option maxRecDepth 100000 in
set_option maxHeartbeats 4000000 in
theorem parse25 (s : Bs) (w : World) (hz : s.length ≤ 20000) (hE : EnvF w) :
    Calls Tryz.prog 25 #[.string ⟨s.toArray⟩] w (ReadPost w (parseC s)) := by
  obtain ⟨x, hx⟩ : ∃ x : ByteArray, x = ⟨s.toArray⟩ := ⟨_, rfl⟩
  have hsz : x.size = s.length := by rw [hx]; simp [ByteArray.size]
  have hmf : ∀ (fn : Fn) (first cap : Array Value) (w : World), (Instr.makeFunc fn first cap).run Tryz.prog w = .ok (.func fn first cap) w := fun _ _ _ _ => rfl
  by_cases hle : s.length ≤ 12288
  · obtain ⟨W, hW⟩ : ∃ W, W = (w.alloc (.cells #[.string x] 9)).alloc (.cells #[.slice none 0 0] 24) := ⟨_, rfl⟩
    have hgW : w.grownBy W none := by rw [hW]; exact grown_trans (World.grownBy_alloc _ _ none) (World.grownBy_alloc _ _ none)
    have k1 : W.cell? ⟨w.heap.size, 0, none⟩ = some (.string ⟨s.toArray⟩) := by rw [hW, ← hx]; simp [go_sem]
    have k3 : Blk W (w.heap.size + 1) 24 #[.slice none 0 0] := by
      have := heap_alloc_new (w.alloc (.cells #[.string x] 9)) (.cells #[.slice none 0 0] 24)
      rw [hW]
      simpa [Blk] using this
    have hin := parse52 w.heap.size s ((W.alloc (.cells #[.slice none 0 0] 24)).alloc (.cells #[.int .i64 0] 30)) hz (hE.grown (grown_trans hgW (grown_trans (World.grownBy_alloc _ _ none) (World.grownBy_alloc _ _ none)))) (grown_fun (grown_trans (World.grownBy_alloc _ _ none) (World.grownBy_alloc _ _ none)) k1)
    have HF : Hid _ := face51_52 _ W _ _ (by
      rintro u w1 ⟨l, x, _, rfl, ho⟩
      obtain ⟨a, n, c, rfl, _⟩ := ho.slice
      exact ⟨a, n, c, rfl⟩) (by
      rintro u w1 w2 b t c ⟨l, x, h1, h2, ho⟩ hb ht hg
      refine ⟨l, x, h1, h2, ho.set hb ?_ ?_ hg⟩ <;> omega) hin
    have HG : Hid (w.grownBy W none ∧ Blk W (w.heap.size + 1) 24 #[.slice none 0 0]) := ⟨hgW, k3⟩
    have HP : Hid (∀ l, pParse s = some l → parseC s = (l, 0)) := fun l h => by unfold parseC; rw [if_pos hle, h]
    have HQ : Hid (pParse s = none → parseC s = ([], 4)) := fun h => by unfold parseC; rw [if_pos hle, h]
    have i1 : ¬ (12288 : Int) < (x.size : Int) := by omega
    rw [← hx]
    have HX : Hid (x.size = s.length) := hsz
    have HW : Hid (W = (w.alloc (.cells #[.string x] 9)).alloc (.cells #[.slice none 0 0] 24)) := hW
    clear hin hgW k1 k3 hx hsz hE hW
    go_enter Tryz.func25, Tryz.ntmps25
    go_wp2_with (go_at_call 51; rw [← HW.out]; refine Calls.mono HF.out ?_)
    rintro e w1 ⟨(⟨u, rfl, l, hx, y, rfl, ho⟩ | ⟨c, w2, rfl, hx, rfl⟩), hg⟩
    · obtain ⟨a, n, c, rfl, hn⟩ := ho.slice
      have hb : Blk w1 (w.heap.size + 1) 24 #[.slice none 0 0] := HG.out.2.grown hg (by simp)
      have c0 := hb.cell 0
      have z0 := hb.free 0
      have F : Hid (parseC s = (l, 0) ∧ OpsOwn w1 w.heap.size (.slice a n c) l ∧ w.grownBy w1 none ∧ Blk w1 (w.heap.size + 1) 24 #[.slice none 0 0]) := ⟨HP.out l hx, ho.mono (by have := HG.out.1.size; simp; omega), grown_trans HG.out.1 hg, hb⟩
      clear hx ho hg hb HF hn
      go_wp2_with fail
      have hb2 := F.out.2.2.2.store 0 (.slice a n c)
      refine bodyPost_ret (v := _) (results_row_tmp rfl _ _ (w.heap.size + 1) _ rfl (run_loadVar_row _ (w.heap.size + 1) 24 24 _ (0, 0) _ hb2 Tryz.underlying24 rfl (by kernel_rfl))) rfl ?_
      exact ⟨_, by rw [F.out.1]; rfl, by rw [F.out.1]; exact F.out.2.1.set F.out.2.2.2 (by decide) (by decide) (grown_setCell _ _ _ _), grown_new F.out.2.2.1 (grown_setCell _ _ _ _) (fun y hy => by simp at hy; omega)⟩
    · have hb : Blk w1 (w.heap.size + 1) 24 #[.slice none 0 0] := HG.out.2.grown hg (by simp)
      have c0 := hb.cell 0
      have z0 := hb.free 0
      have F : Hid (parseC s = ([], 4) ∧ w.grownBy w1 none ∧ Blk w1 (w.heap.size + 1) 24 #[.slice none 0 0]) := ⟨HQ.out hx, grown_trans HG.out.1 hg, hb⟩
      clear hx hg hb HF
      go_wp2_with fail
      have hb2 := F.out.2.2.store 0 (.slice none 0 0)
      refine bodyPost_ret (v := _) (results_row_tmp rfl _ _ (w.heap.size + 1) _ rfl (run_loadVar_row _ (w.heap.size + 1) 24 24 _ (0, 0) _ hb2 Tryz.underlying24 rfl (by kernel_rfl))) rfl ?_
      exact ⟨_, by rw [F.out.1]; rfl, by rw [F.out.1]; exact ⟨lrow_nil _ _, by simp⟩, grown_new F.out.2.1 (grown_setCell _ _ _ _) (fun y hy => by simp at hy; omega)⟩
  · have HC : Hid (parseC s = ([], 3)) := by unfold parseC; rw [if_neg hle]; rfl
    have i1 : (12288 : Int) < (x.size : Int) := by omega
    have hz2 : x.size ≤ 20000 := by omega
    rw [← hx]
    clear hx hsz hE
    go_enter Tryz.func25, Tryz.ntmps25
    go_wp2_with fail
    have hb : Blk ((w.alloc (.cells #[.string x] 9)).alloc (.cells #[.slice none 0 0] 24)) (w.heap.size + 1) 24 #[.slice none 0 0] := by
      have := heap_alloc_new (w.alloc (.cells #[.string x] 9)) (.cells #[.slice none 0 0] 24)
      simpa [Blk] using this
    refine bodyPost_ret (v := _) (results_row_tmp rfl _ _ (w.heap.size + 1) _ rfl (run_loadVar_row _ (w.heap.size + 1) 24 24 _ (0, 0) _ hb Tryz.underlying24 rfl (by kernel_rfl))) rfl ?_
    exact ⟨_, by rw [HC.out]; rfl, by rw [HC.out]; exact ⟨lrow_nil _ _, by simp⟩, grown_trans (World.grownBy_alloc _ _ none) (World.grownBy_alloc _ _ none)⟩

/-- get t k. -/
def getOp : POp := ⟨1, [116], [107], [], false, [], [], 0⟩
theorem getOp_in : OpIn getOp := ⟨by decide, by decide, by decide, by decide, by decide⟩
theorem num15 (k : Int) (w : World) : Calls Tryz.prog 15 #[.int .i64 k] w fun e w' => e = .returned (.int .i64 k) ∧ w' = w := by
  go_enter Tryz.func15, Tryz.ntmps15
  go_wp2
  go_ret
  exact ⟨rfl, rfl⟩
/-- Bytes of a constant, of one's own. -/
theorem lit29 (w : World) (C : Array Value) (n : Nat) (L : Bs) (h : C.size = n) (hx : C.toList = BV L) (hl : L.length = n) (hz : L.length ≤ 1000) :
    ∃ w', (convert 29 29 (.slice (some ⟨w.heap.size, 0, none⟩) n n)).run Tryz.prog (w.alloc (.cells C 5)) = .ok (.slice (some ⟨w.heap.size, 0, none⟩) n n) w' ∧ w'.heap.size = w.heap.size + 1 ∧ Hid (Seg w' (.slice (some ⟨w.heap.size, 0, none⟩) n n) L ∧ w.grownBy w' none) := by
  refine ⟨w.alloc (.cells C 5 (n, n + 1)), ?_, by simp, ?_, World.grownBy_alloc _ _ _⟩
  · subst h
    exact Go.Lib.run_convert_bytes_const w 29 5 C _ _ Tryz.underlying29 Tryz.underlying5
  · subst hl
    exact seg_lit w C _ L hx (by omega)

set_option maxRecDepth 100000 in
set_option maxHeartbeats 4000000 in
theorem get36 (w : World) : Calls Tryz.prog 36 #[] w fun e w' => ∃ u, e = .returned (.agg #[u]) ∧ Ops w' u [getOp] ∧ w.grownBy w' none := by
  obtain ⟨w1, cv, hs1, H1⟩ := lit29 (w.alloc (.cells #[.slice none 0 0] 24)) #[.int .u8 107] 1 [107] rfl rfl rfl (by simp)
  have e0 : (w.alloc (.cells #[.slice none 0 0] 24)).heap.size = w.heap.size + 1 := by simp
  rw [e0] at cv hs1 H1
  clear e0
  have hb0 : Blk w1 w.heap.size 24 #[.slice none 0 0] := Blk.grown (heap_alloc_new w _) H1.out.2 (by simp)
  have c0 := fun o => grown_fun (World.grownBy_alloc w1 o none) (hb0.cell 0)
  have z0 := fun o => (hb0.grown (World.grownBy_alloc w1 o none) (by simp)).free 0
  have HB : Hid (Blk w1 w.heap.size 24 #[.slice none 0 0]) := hb0
  clear hb0
  go_enter Tryz.func36, Tryz.ntmps36
  go_wp2_with fail
  have hb1 := (HB.out.store 0 (.slice (some ⟨w.heap.size + 1 + 1, 0, none⟩) 1 1)).grown (World.grownBy_alloc (w1.setCell ⟨w.heap.size, 0, none⟩ (.slice (some ⟨w.heap.size + 1 + 1, 0, none⟩) 1 1)) (.cells #[.int .i64 1, .string ⟨#[116]⟩, .slice (some ⟨w.heap.size + 1, 0, none⟩) 1 1, .slice none 0 0, .bool false, .slice none 0 0, .slice none 0 0, .int .i64 0] 71) none) (by simp)
  refine bodyPost_ret (v := _) (results_cell_row rfl _ _ w.heap.size 24 _ (0, 0) _ rfl hb1 Tryz.underlying24 rfl (by kernel_rfl)) rfl ?_
  have hg1 : w1.grownBy ((w1.setCell ⟨w.heap.size, 0, none⟩ (.slice (some ⟨w.heap.size + 1 + 1, 0, none⟩) 1 1)).alloc (.cells #[.int .i64 1, .string ⟨#[116]⟩, .slice (some ⟨w.heap.size + 1, 0, none⟩) 1 1, .slice none 0 0, .bool false, .slice none 0 0, .slice none 0 0, .int .i64 0] 71)) (some w.heap.size) := grown_trans (grown_setCell _ _ _ _) (World.grownBy_alloc _ _ _)
  have hb2 : Blk ((w1.setCell ⟨w.heap.size, 0, none⟩ (.slice (some ⟨w.heap.size + 1 + 1, 0, none⟩) 1 1)).alloc (.cells #[.int .i64 1, .string ⟨#[116]⟩, .slice (some ⟨w.heap.size + 1, 0, none⟩) 1 1, .slice none 0 0, .bool false, .slice none 0 0, .slice none 0 0, .int .i64 0] 71)) (w.heap.size + 1 + 1) 71 #[.int .i64 1, .string ⟨#[116]⟩, .slice (some ⟨w.heap.size + 1, 0, none⟩) 1 1, .slice none 0 0, .bool false, .slice none 0 0, .slice none 0 0, .int .i64 0] := by
    have := heap_alloc_new (w1.setCell ⟨w.heap.size, 0, none⟩ (.slice (some ⟨w.heap.size + 1 + 1, 0, none⟩) 1 1)) (.cells #[.int .i64 1, .string ⟨#[116]⟩, .slice (some ⟨w.heap.size + 1, 0, none⟩) 1 1, .slice none 0 0, .bool false, .slice none 0 0, .slice none 0 0, .int .i64 0] 71)
    have e2 : (w1.setCell ⟨w.heap.size, 0, none⟩ (.slice (some ⟨w.heap.size + 1 + 1, 0, none⟩) 1 1)).heap.size = w.heap.size + 1 + 1 := by rw [← hs1]; simp
    rw [e2] at this
    exact this
  refine ⟨_, rfl, ⟨some ⟨w.heap.size + 1 + 1, 0, none⟩, 1, rfl, by simp, fun j hj => ?_⟩, grown_new (grown_trans (World.grownBy_alloc _ _ none) H1.out.2) hg1 (by simp)⟩
  have e : j = 0 := by simp at hj; omega
  subst e
  refine ⟨w.heap.size + 1 + 1, 0, .slice (some ⟨w.heap.size + 1, 0, none⟩) 1 1, .slice none 0 0, .slice none 0 0, .slice none 0 0, rfl, ⟨hb2.cell 0, hb2.cell 1, hb2.cell 2, hb2.cell 3, hb2.cell 4, hb2.cell 5, hb2.cell 6, hb2.cell 7⟩, ?_⟩
  refine ⟨?_, seg_nil _, seg_nil _, seg_nil _, getOp_in⟩
  obtain ⟨ao, cap, hv, q1, q2, q3, q4⟩ := H1.out.1
  refine ⟨ao, cap, hv, q1, q2, q3, fun j hj => ?_⟩
  obtain ⟨b, off, e, hc⟩ := q4 j hj
  refine ⟨b, off, e, hg1.cell hc (fun e2 => ?_)⟩
  simp at hv
  rw [← hv.1] at e
  simp at e e2
  omega
end Go.Proofs.YtfocmbnhkldnfaaGreatDoor
