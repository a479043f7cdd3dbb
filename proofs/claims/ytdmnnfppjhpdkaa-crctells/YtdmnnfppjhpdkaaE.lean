/-
  The step of twice as many bytes; the step of one.
-/
import Derived.Test.YtdmnnfppjhpdkaaD
namespace Go.Proofs.Ytdmnnfppjhpdkaa
open Go.RowKit

/-- The block g holds these cells. -/
def Blk (w : World) (g t : Nat) (c : Array Value) : Prop := w.heap[g]? = some (.cells c t (0, 0))

theorem Blk.kept {w w' : World} {g t : Nat} {c : Array Value} {r : Option Nat} (h : Blk w g t c) (hg : w.grownBy w' r) (hr : r ≠ some g) : Blk w' g t c := by
  unfold Blk at *
  rw [hg.block g (Array.getElem?_eq_some_iff.1 h).1 (Ne.symm hr), h]
theorem Blk.cell {w : World} {g t : Nat} {c : Array Value} (h : Blk w g t c) (j : Nat) : w.cell? ⟨g, j, none⟩ = c[j]? := cell_of_row w g j _ _ _ h
theorem Blk.free {w : World} {g t : Nat} {c : Array Value} (h : Blk w g t c) (j : Nat) : w.frozen? ⟨g, j, none⟩ = false := frozen_of_row w g j _ _ h
theorem Blk.store {w : World} {g t : Nat} {c : Array Value} (h : Blk w g t c) (j : Nat) (v : Value) : Blk (w.setCell ⟨g, j, none⟩ v) g t (c.setIfInBounds j v) := heap_setCell_same w g j _ _ v h
theorem Blk.row {w : World} {g t : Nat} {c : Array Value} (h : Blk w g t c) (c' : Array Value) : Blk (w.setRow g c') g t c' := setRow_heap _ _ c _ _ _ h

theorem blk3 (w : World) (a b c : Array Value) (t : Nat) : Blk (((w.alloc (.cells a t)).alloc (.cells b t)).alloc (.cells c t)) w.heap.size t a ∧ Blk (((w.alloc (.cells a t)).alloc (.cells b t)).alloc (.cells c t)) (w.heap.size + 1) t b ∧ Blk (((w.alloc (.cells a t)).alloc (.cells b t)).alloc (.cells c t)) (w.heap.size + 2) t c := by
  have e1 : (w.alloc (.cells a t)).heap.size = w.heap.size + 1 := by
    show (w.heap.push _).size = _
    simp
  have e2 : ((w.alloc (.cells a t)).alloc (.cells b t)).heap.size = w.heap.size + 2 := by
    show ((w.heap.push _).push _).size = _
    simp
  refine ⟨?_, ?_, ?_⟩
  · exact Blk.kept (heap_alloc2_old w _ _) (World.grownBy_alloc _ _ none) (by simp)
  · exact Blk.kept (heap_alloc2_new w _ _) (World.grownBy_alloc _ _ none) (by simp)
  · have h := heap_alloc_new ((w.alloc (.cells a t)).alloc (.cells b t)) (.cells c t)
    rw [e2] at h
    exact h

set_option maxRecDepth 100000 in
set_option maxHeartbeats 400000 in
theorem square24 (N : Nat) (w : World) :
    Calls Try.prog 24 #[.agg (matV N)] w fun e w' => e = .returned (.agg (matV (N + N))) ∧ w.grownBy w' none := by
  have hm : Hid (∀ j, j < 32 → (matV N)[j]? = some (.int .u32 (Tn N (2 ^ j)))) := fun j hj => rowV_get 32 _ j hj
  have hms : (matV N).size = 32 := rowV_size _ _
  have HA : Hid (∀ (j : Nat) (w' : World), j < 32 → Calls Try.prog 23 #[.agg (matV N), .int .u32 (Tn N (2 ^ j))] w' fun e w'' => e = .returned (.int .u32 (Tn (N + N) (2 ^ j))) ∧ w'.grownBy w'' none) := by
    intro j w' hj
    have h := after23 N (Tn N (2 ^ j)) w' (mat_lt N hj)
    rw [← Tn_add] at h
    exact h
  obtain ⟨c, hc⟩ : ∃ c, matV N = c := ⟨_, rfl⟩
  rw [hc] at hm hms HA ⊢
  have HB : Hid _ := blk3 w c (Array.replicate 32 (.int .u32 0)) (Array.replicate 32 (.int .u32 0)) 46
  have HG : Hid (w.grownBy (((w.alloc (.cells c 46)).alloc (.cells (Array.replicate 32 (.int .u32 0)) 46)).alloc (.cells (Array.replicate 32 (.int .u32 0)) 46)) none) := grown_trans (grown_trans (World.grownBy_alloc _ _ _) (World.grownBy_alloc _ _ _)) (World.grownBy_alloc _ _ _)
  clear hc
  go_enter Try.func24, Try.ntmps24
  go_wp2_with (first | (refine wpList_load_row _ rfl (.tmp 1) 46 rfl w.heap.size 32 23 c Try.underlying46 (by rw [hms]; exact Try.size46) rfl HB.out.1 ?_))
  go_loopw [7] (fun i wr => ∃ (k : Nat) (z cc : Array Value), k ≤ 32 ∧ i = .int .i64 k ∧ z.size = 32 ∧ Filled 32 k (fun j => Tn (N + N) (2 ^ j)) cc ∧ Blk wr w.heap.size 46 c ∧ Blk wr (w.heap.size + 1) 46 z ∧ Blk wr (w.heap.size + 2) 46 cc ∧ w.grownBy wr none) (fun i _ => 32 - (intOf i).toNat)
  case atStart => exact ⟨0, _, _, by omega, rfl, by simp, filled_zero 32 _, HB.out.1, HB.out.2.1, HB.out.2.2, HG.out⟩
  case round =>
    obtain ⟨k, z, cc, hk, rfl, hz, hf, b0, b1, b2, hg⟩ := hrel
    by_cases hlt : k < 32
    · have ck := hm.out k hlt
      have ix : ∀ w', (Instr.index 46 (.agg c) (.int .i64 k)).run Try.prog w' = .ok (.int .u32 (Tn N (2 ^ k))) w' := fun w' => run_index46 c k _ w' hlt ck
      have i1 : (0 : Int) ≤ (k : Int) := by omega
      have i2 : (k : Int) < 32 := by omega
      have S : Hid (Filled 32 k (fun j => Tn (N + N) (2 ^ j)) cc ∧ Blk wr w.heap.size 46 c ∧ Blk wr (w.heap.size + 1) 46 z ∧ Blk wr (w.heap.size + 2) 46 cc ∧ w.grownBy wr none) := ⟨hf, b0, b1, b2, hg⟩
      have HCL : Hid _ := HA.out k wr hlt
      clear hf b0 b1 b2 hg ck
      go_wp2_with (first | (refine wpList_load_row _ rfl (.tmp 1) 46 rfl w.heap.size 32 23 c Try.underlying46 (by rw [hms]; exact Try.size46) rfl S.out.2.1 ?_))
      refine Calls.mono HCL.out ?_
      rintro e w1 ⟨rfl, g1⟩
      have S1 : Hid (Filled 32 k (fun j => Tn (N + N) (2 ^ j)) cc ∧ Blk w1 w.heap.size 46 c ∧ Blk w1 (w.heap.size + 1) 46 z ∧ Blk w1 (w.heap.size + 2) 46 cc ∧ w.grownBy w1 none) := by
        obtain ⟨h1, h2, h3, h4, h5⟩ := S.out
        exact ⟨h1, h2.kept g1 (by simp), h3.kept g1 (by simp), h4.kept g1 (by simp), grown_trans h5 g1⟩
      clear g1 S HCL
      obtain ⟨x0, hx0⟩ := S1.out.1.2.1 k hlt
      have c2 : w1.cell? ⟨w.heap.size + 2, k, none⟩ = some (.int .u32 x0) := by rw [S1.out.2.2.2.1.cell, hx0]
      have f2 := S1.out.2.2.2.1.free k
      clear hx0
      go_wp2_with fail
      go_roundw
      case rel =>
        obtain ⟨h1, h2, h3, h4, h5⟩ := S1.out
        have gs := grown_setCell w1 (w.heap.size + 2) k (.int .u32 (Tn (N + N) (2 ^ k)))
        exact ⟨k + 1, z, _, by omega, by go_num, hz, h1.set _ rfl hlt, h2.kept gs (by simp), h3.kept gs (by simp), h4.store k _, grown_new h5 gs (by intro x hx; simp at hx; omega)⟩
      case measure => simp [intOf]; omega
    · have e : k = 32 := by omega
      subst e
      have e2 := hf.all
      subst e2
      have S : Hid (Blk wr w.heap.size 46 c ∧ Blk wr (w.heap.size + 1) 46 z ∧ Blk wr (w.heap.size + 2) 46 (matV (N + N)) ∧ w.grownBy wr none) := ⟨b0, b1, b2, hg⟩
      clear hf b0 b1 b2 hg
      go_wp2_with (first | (refine wpList_load_row _ rfl (.tmp 3) 46 rfl (w.heap.size + 2) 32 23 (matV (N + N)) Try.underlying46 (by unfold matV; rw [rowV_size]; exact Try.size46) rfl S.out.2.2.1 ?_) | (refine wpList_store_row _ rfl rfl (.tmp 2) (.tmp 17) 46 rfl (w.heap.size + 1) (matV (N + N)) z (by unfold matV; rw [rowV_size]; exact Try.size46) (by unfold matV; rw [rowV_size]; exact hz) (rowV_one _ _) rfl rfl S.out.2.1 ?_))
      refine bodyPost_ret (results_cell_row rfl _ _ (w.heap.size + 1) 46 (matV (N + N)) (0, 0) _ rfl (S.out.2.1.row _) Try.underlying46 rfl (by unfold matV; rw [rowV_size]; exact Try.size46)) rfl ⟨rfl, ?_⟩
      exact grown_new S.out.2.2.2 (grown_setRow _ _ _) (by intro x hx; simp at hx; omega)
end Go.Proofs.Ytdmnnfppjhpdkaa
