/-
  The program's disk: another one, Stop, Copy.
-/
import Derived.Test.YtegacmcekladfaaI
namespace Go.Proofs.Ytegacmcekladfaa
open Go.RowKit

/-- A new disk. -/
def DNew (w w' : World) (v : Value) (S : St) : Prop := w.grownBy w' none ∧ ∃ F, DK w' F v S ∧ ∀ k, F k → w.heap.size ≤ k

theorem idx0 (x0 x1 x2 x3 : Value) (w : World) : (Instr.index 52 (.agg #[x0, x1, x2, x3]) (.int .i64 0)).run Try.prog w = .ok (.agg #[x0, x1]) w := by kernel_rfl
theorem idx1 (x0 x1 x2 x3 : Value) (w : World) : (Instr.index 52 (.agg #[x0, x1, x2, x3]) (.int .i64 1)).run Try.prog w = .ok (.agg #[x2, x3]) w := by kernel_rfl

set_option maxRecDepth 100000 in
set_option maxHeartbeats 1000000 in
theorem another44 (F : Nat → Prop) (v u : Value) (S : St) (M : List UInt8) (n k : Nat) (w : World) (h : DK w F v S) (hu : Seg w u M) (hM : M.length ≤ 140737488351232) (hn : n ≤ M.length) :
    Calls Try.prog 44 #[v, u, .int .i64 n, .int .i64 k] w fun e w' => ∃ p, e = .returned p ∧ DNew w w' p { S with log := M, sure := n, steps := k } := by
  obtain ⟨b, lv, v0, v1, rfl, h⟩ := h
  obtain ⟨c0, c1, c2, c3, c4, c5, c6, c7, c8⟩ := h.cells
  obtain ⟨a0, cp0, e0⟩ := h.p0.seg.shape
  obtain ⟨a1, cp1, e1⟩ := h.p1.seg.shape
  subst e0 e1
  obtain ⟨au, cu, huv⟩ := hu.shape
  subst huv
  have HS : Hid (DKb w F b lv (.slice a0 S.b0.length cp0) (.slice a1 S.b1.length cp1) S ∧ Seg w (.slice au M.length cu) M) := ⟨h, hu⟩
  have HT : Hid (Blk (w.alloc (.cells #[.bool S.h0, .slice a0 S.b0.length cp0, .bool S.h1, .slice a1 S.b1.length cp1] 52)) w.heap.size 52 #[.bool S.h0, .slice a0 S.b0.length cp0, .bool S.h1, .slice a1 S.b1.length cp1] ∧ w.grownBy (w.alloc (.cells #[.bool S.h0, .slice a0 S.b0.length cp0, .bool S.h1, .slice a1 S.b1.length cp1] 52)) none) := ⟨heap_alloc_new _ _, World.grownBy_alloc _ _ _⟩
  clear h hu
  go_enter Try.func44, Try.ntmps44
  go_wp2_with fail
  generalize w.alloc (.cells #[.bool S.h0, .slice a0 S.b0.length cp0, .bool S.h1, .slice a1 S.b1.length cp1] 52) = w0 at HT ⊢
  clear c0 c1 c2 c3 c4 c5 c6 c7 c8
  have ix0 := idx0
  have ix1 := idx1
  refine wp_loop_rounds 3 ?_
  rw [rounds_succ]
  go_wp2_with fail
  refine (clone25 _ S.b0 _ (HS.out.1.p0.seg.grown (grown_trans HT.out.2 (World.grownBy_alloc _ _ none))) (by have := HS.out.1.ok.l0; omega)).mono ?_
  rintro e w1 ⟨u0, rfl, o0, g0⟩
  obtain ⟨x0, y0, e0⟩ := o0.seg.shape
  subst e0
  have HB : Hid (Blk w1 w.heap.size 52 #[.bool S.h0, .slice a0 S.b0.length cp0, .bool S.h1, .slice a1 S.b1.length cp1]) := (HT.out.1.grown (World.grownBy_alloc _ _ none) (by simp)).grown g0 (by simp)
  have HO : Hid (Own (w1.setCell ⟨w.heap.size, 1, none⟩ (.slice x0 S.b0.length y0)) (w.heap.size + 1) (.slice x0 S.b0.length y0) S.b0 ∧ w.grownBy (w1.setCell ⟨w.heap.size, 1, none⟩ (.slice x0 S.b0.length y0)) none ∧ Blk (w1.setCell ⟨w.heap.size, 1, none⟩ (.slice x0 S.b0.length y0)) w.heap.size 52 #[.bool S.h0, .slice x0 S.b0.length y0, .bool S.h1, .slice a1 S.b1.length cp1]) := by
    have hg : w.grownBy w1 none := grown_trans HT.out.2 (grown_trans (World.grownBy_alloc _ _ none) g0)
    refine ⟨Own.mono (World.ownsRow.kept o0 (grown_setCell _ _ _ _) (.inr (o0.other HB.out (by decide)))) ?_, grown_new hg (grown_setCell _ _ _ _) (by intro x hx; simp at hx; omega), HB.out.store 1 _⟩
    have := HT.out.1.lt
    have := (World.grownBy_alloc w0 (.cells #[.bool S.h0, .slice a0 S.b0.length cp0] 51) none).size
    omega
  have k1 := HB.out.cell 1
  have f1 := HB.out.free 1
  simp at k1
  clear o0 g0 HT
  go_wp2_with fail
  generalize w1.setCell ⟨w.heap.size, 1, none⟩ (.slice x0 S.b0.length y0) = w2 at HO ⊢
  clear HB k1 f1
  rw [rounds_succ]
  go_wp2_with fail
  refine (clone25 _ S.b1 _ (HS.out.1.p1.seg.grown (grown_trans HO.out.2.1 (World.grownBy_alloc _ _ none))) (by have := HS.out.1.ok.l1; omega)).mono ?_
  rintro e w3 ⟨u1, rfl, o1, g1⟩
  obtain ⟨x1, y1, e1⟩ := o1.seg.shape
  subst e1
  have HB : Hid (Blk w3 w.heap.size 52 #[.bool S.h0, .slice x0 S.b0.length y0, .bool S.h1, .slice a1 S.b1.length cp1] ∧ w.heap.size < w2.heap.size) := ⟨(HO.out.2.2.grown (World.grownBy_alloc _ _ none) (by simp)).grown g1 (by simp), HO.out.2.2.lt⟩
  have HP : Hid (Own (w3.setCell ⟨w.heap.size, 3, none⟩ (.slice x1 S.b1.length y1)) (w.heap.size + 1) (.slice x0 S.b0.length y0) S.b0 ∧ Own (w3.setCell ⟨w.heap.size, 3, none⟩ (.slice x1 S.b1.length y1)) (w.heap.size + 1) (.slice x1 S.b1.length y1) S.b1 ∧ w.grownBy (w3.setCell ⟨w.heap.size, 3, none⟩ (.slice x1 S.b1.length y1)) none ∧ Blk (w3.setCell ⟨w.heap.size, 3, none⟩ (.slice x1 S.b1.length y1)) w.heap.size 52 #[.bool S.h0, .slice x0 S.b0.length y0, .bool S.h1, .slice x1 S.b1.length y1]) := by
    have g23 : w2.grownBy w3 none := grown_trans (World.grownBy_alloc _ _ none) g1
    have hg : w.grownBy w3 none := grown_trans HO.out.2.1 g23
    have oo := HO.out.1.grown g23
    refine ⟨World.ownsRow.kept oo (grown_setCell _ _ _ _) (.inr (oo.other HB.out.1 (by decide))), Own.mono (World.ownsRow.kept o1 (grown_setCell _ _ _ _) (.inr (o1.other HB.out.1 (by decide)))) ?_, grown_new hg (grown_setCell _ _ _ _) (by intro x hx; simp at hx; omega), HB.out.1.store 3 _⟩
    have := HB.out.2
    have := (World.grownBy_alloc w2 (.cells #[.bool S.h1, .slice a1 S.b1.length cp1] 51) none).size
    omega
  have k1 := HB.out.1.cell 3
  have f1 := HB.out.1.free 3
  simp at k1
  clear o1 g1 HO
  go_wp2_with fail
  generalize w3.setCell ⟨w.heap.size, 3, none⟩ (.slice x1 S.b1.length y1) = w4 at HP ⊢
  clear HB k1 f1
  rw [rounds_succ]
  go_wp2_with fail
  have HC : Hid (∀ x : World, w4.grownBy x none → x.cell? ⟨b, 0, none⟩ = some (.int .i64 S.cap) ∧ x.cell? ⟨b, 7, none⟩ = some (.int .i64 S.last) ∧ x.cell? ⟨w.heap.size, 0, none⟩ = some (.bool S.h0) ∧ x.cell? ⟨w.heap.size, 1, none⟩ = some (.slice x0 S.b0.length y0) ∧ x.cell? ⟨w.heap.size, 2, none⟩ = some (.bool S.h1) ∧ x.cell? ⟨w.heap.size, 3, none⟩ = some (.slice x1 S.b1.length y1)) := fun x hx => by
    have hb := HS.out.1.blk.grown (grown_trans HP.out.2.2.1 hx) (by simp)
    have hc := HP.out.2.2.2.grown hx (by simp)
    exact ⟨hb.cell 0, hb.cell 7, hc.cell 0, hc.cell 1, hc.cell 2, hc.cell 3⟩
  clear ix0 ix1
  refine wp_region_noPanic ?_
  refine wp_region_hold 1000 (fun x => w4.grownBy x none) (by kernel_rfl) ?_
  refine wpHold_take (i := 0) (v := _) (grown_drew _ _) rfl rfl (by kernel_rfl) (by kernel_rfl) (by kernel_rfl) (by kernel_rfl) (by kernel_rfl) (fun _ _ _ h => h) (by rfl) (fun wk hk => by obtain ⟨k0, k1, k2, k3, k4, k5⟩ := HC.out wk hk; go_simp; try rfl) ?_
  try simp only [Act.put, List.setIfInBounds_toArray, List.set_cons_zero, List.set_cons_succ]
  refine wpHold_take (i := 1) (v := _) (grown_drew _ _) rfl rfl (by kernel_rfl) (by kernel_rfl) (by kernel_rfl) (by kernel_rfl) (by kernel_rfl) (fun _ _ _ h => h) (by rfl) (fun wk hk => by obtain ⟨k0, k1, k2, k3, k4, k5⟩ := HC.out wk hk; go_simp; try rfl) ?_
  try simp only [Act.put, List.setIfInBounds_toArray, List.set_cons_zero, List.set_cons_succ]
  refine wpHold_take (i := 2) (v := _) (grown_drew _ _) rfl rfl (by kernel_rfl) (by kernel_rfl) (by kernel_rfl) (by kernel_rfl) (by kernel_rfl) (fun _ _ _ h => h) (by rfl) (fun wk hk => by obtain ⟨k0, k1, k2, k3, k4, k5⟩ := HC.out wk hk; go_simp; try rfl) ?_
  try simp only [Act.put, List.setIfInBounds_toArray, List.set_cons_zero, List.set_cons_succ]
  refine wpHold_take (i := 3) (v := _) (grown_drew _ _) rfl rfl (by kernel_rfl) (by kernel_rfl) (by kernel_rfl) (by kernel_rfl) (by kernel_rfl) (fun _ _ _ h => h) (by rfl) (fun wk hk => by obtain ⟨k0, k1, k2, k3, k4, k5⟩ := HC.out wk hk; go_simp; try rfl) ?_
  try simp only [Act.put, List.setIfInBounds_toArray, List.set_cons_zero, List.set_cons_succ]
  refine wpHold_take (i := 4) (v := _) (grown_drew _ _) rfl rfl (by kernel_rfl) (by kernel_rfl) (by kernel_rfl) (by kernel_rfl) (by kernel_rfl) (fun _ _ _ h => h) (by rfl) (fun wk hk => by obtain ⟨k0, k1, k2, k3, k4, k5⟩ := HC.out wk hk; go_simp; try rfl) ?_
  try simp only [Act.put, List.setIfInBounds_toArray, List.set_cons_zero, List.set_cons_succ]
  refine wpHold_take (i := 6) (v := _) (grown_drew _ _) rfl rfl (by kernel_rfl) (by kernel_rfl) (by kernel_rfl) (by kernel_rfl) (by kernel_rfl) (fun _ _ _ h => h) (by rfl) (fun wk hk => by obtain ⟨k0, k1, k2, k3, k4, k5⟩ := HC.out wk hk; go_simp; try rfl) ?_
  try simp only [Act.put, List.setIfInBounds_toArray, List.set_cons_zero, List.set_cons_succ]
  refine wpHold_take (i := 7) (v := _) (grown_drew _ _) rfl rfl (by kernel_rfl) (by kernel_rfl) (by kernel_rfl) (by kernel_rfl) (by kernel_rfl) (fun _ _ _ h => h) (by rfl) (fun wk hk => by obtain ⟨k0, k1, k2, k3, k4, k5⟩ := HC.out wk hk; go_simp; try rfl) ?_
  try simp only [Act.put, List.setIfInBounds_toArray, List.set_cons_zero, List.set_cons_succ]
  refine wpHold_take (i := 8) (v := _) (grown_drew _ _) rfl rfl (by kernel_rfl) (by kernel_rfl) (by kernel_rfl) (by kernel_rfl) (by kernel_rfl) (fun _ _ _ h => h) (by rfl) (fun wk hk => by obtain ⟨k0, k1, k2, k3, k4, k5⟩ := HC.out wk hk; go_simp; try rfl) ?_
  try simp only [Act.put, List.setIfInBounds_toArray, List.set_cons_zero, List.set_cons_succ]
  refine wpHold_take (i := 9) (v := _) (grown_drew _ _) rfl rfl (by kernel_rfl) (by kernel_rfl) (by kernel_rfl) (by kernel_rfl) (by kernel_rfl) (fun _ _ _ h => h) (by rfl) (fun wk hk => by obtain ⟨k0, k1, k2, k3, k4, k5⟩ := HC.out wk hk; go_simp; try rfl) ?_
  try simp only [Act.put, List.setIfInBounds_toArray, List.set_cons_zero, List.set_cons_succ]
  refine wpHold_take (i := 10) (v := _) (grown_drew _ _) rfl rfl (by kernel_rfl) (by kernel_rfl) (by kernel_rfl) (by kernel_rfl) (by kernel_rfl) (fun _ _ _ h => h) (by rfl) (fun wk hk => by obtain ⟨k0, k1, k2, k3, k4, k5⟩ := HC.out wk hk; go_simp; try rfl) ?_
  try simp only [Act.put, List.setIfInBounds_toArray, List.set_cons_zero, List.set_cons_succ]
  refine wpHold_take (i := 11) (v := _) (grown_drew _ _) rfl rfl (by kernel_rfl) (by kernel_rfl) (by kernel_rfl) (by kernel_rfl) (by kernel_rfl) (fun _ _ _ h => h) (by rfl) (fun wk hk => by obtain ⟨k0, k1, k2, k3, k4, k5⟩ := HC.out wk hk; go_simp; try rfl) ?_
  try simp only [Act.put, List.setIfInBounds_toArray, List.set_cons_zero, List.set_cons_succ]
  refine wpHold_take (i := 12) (v := _) (grown_drew _ _) rfl rfl (by kernel_rfl) (by kernel_rfl) (by kernel_rfl) (by kernel_rfl) (by kernel_rfl) (fun _ _ _ h => h) (by rfl) (fun wk hk => by obtain ⟨k0, k1, k2, k3, k4, k5⟩ := HC.out wk hk; go_simp; try rfl) ?_
  try simp only [Act.put, List.setIfInBounds_toArray, List.set_cons_zero, List.set_cons_succ]
  refine wpHold_one (i := 5) rfl (by kernel_rfl) (by rfl) (fun K hK => ?_)
  go_simp
  refine (clone25 _ M _ (Seg.grown HS.out.2 (grown_trans HP.out.2.2.1 (grown_drew _ _))) (by omega)).mono ?_
  rintro e w5 ⟨u5, rfl, o5, g5⟩
  obtain ⟨x5, y5, e5⟩ := o5.seg.shape
  subst e5
  have G5 : Hid (w4.grownBy w5 none ∧ Own w5 w4.heap.size (.slice x5 M.length y5) M) := ⟨grown_trans (grown_drew _ _) g5, o5⟩
  clear o5 g5
  go_wp2_with fail
  refine hK.out _ _ (fun _ => G5.out.1) ?_
  clear hK K
  try simp only [Act.put, List.setIfInBounds_toArray, List.set_cons_zero, List.set_cons_succ]
  refine wpHold_take (i := 13) (v := _) (G5.out.1) rfl rfl (by kernel_rfl) (by kernel_rfl) (by kernel_rfl) (by kernel_rfl) (by kernel_rfl) (fun _ _ _ h => h) (by rfl) (fun wk hk => by obtain ⟨k0, k1, k2, k3, k4, k5⟩ := HC.out wk hk; go_simp; try rfl) ?_
  try simp only [Act.put, List.setIfInBounds_toArray, List.set_cons_zero, List.set_cons_succ]
  refine wpHold_one (i := 14) rfl (by kernel_rfl) (by rfl) (fun K hK => ?_)
  go_wp2_with fail
  refine hK.out _ _ (fun _ => grown_trans G5.out.1 (World.grownBy_alloc _ _ _)) ?_
  clear hK K
  try simp only [Act.put, List.setIfInBounds_toArray, List.set_cons_zero, List.set_cons_succ]
  refine wpHold_take (i := 15) (v := _) (grown_trans G5.out.1 (World.grownBy_alloc _ _ _)) rfl rfl (by kernel_rfl) (by kernel_rfl) (by kernel_rfl) (by kernel_rfl) (by kernel_rfl) (fun _ _ _ h => h) (by rfl) (fun wk hk => by obtain ⟨k0, k1, k2, k3, k4, k5⟩ := HC.out wk hk; go_simp; try rfl) ?_
  try simp only [Act.put, List.setIfInBounds_toArray, List.set_cons_zero, List.set_cons_succ]
  refine wpHold_done (by kernel_rfl) ?_
  refine (‹∀ (a : Act) (w : World), Code.wp Try.prog Code.ret _ a w → _› _ _ ?_)
  go_wp2_with fail
  go_ret
  refine ⟨_, rfl, grown_trans HP.out.2.2.1 (grown_trans G5.out.1 (World.grownBy_alloc _ _ _)), fun k => w.heap.size ≤ k ∧ k < w5.heap.size + 1, ⟨w5.heap.size, .slice x5 M.length y5, .slice x0 S.b0.length y0, .slice x1 S.b1.length y1, rfl, ?_⟩, fun k hk => hk.1⟩
  have hz4 := HP.out.2.2.1.size
  have hz5 := G5.out.1.size
  have g6 := World.grownBy_alloc w5 (.cells (dC { S with log := M, sure := n, steps := k } (.slice x5 M.length y5) (.slice x0 S.b0.length y0) (.slice x1 S.b1.length y1)) 54) none
  have q0 := HP.out.1.grown G5.out.1
  have q1 := HP.out.2.1.grown G5.out.1
  have ok := HS.out.1.ok
  refine ⟨heap_alloc_new _ _, Own.mono (Own.grown G5.out.2 g6) (Nat.zero_le _), Own.mono (Own.grown q0 g6) (Nat.zero_le _), Own.mono (Own.grown q1 g6) (Nat.zero_le _), fun k hk e => ?_, fun k hk e => ?_, ⟨by omega, by omega⟩, fun k hk => ?_, fun k hk => ?_, fun k hk => ?_, fun k hk => ?_, ⟨ok.cap1, ok.cap2, hM, hn, ok.l0, ok.l1, ok.last, ok.first, ok.e0, ok.e1⟩⟩
  · have h1 := (G5.out.2.lt k hk).1
    have h2 := (HP.out.1.lt k e).2
    omega
  · have h1 := (G5.out.2.lt k hk).1
    have h2 := (HP.out.2.1.lt k e).2
    omega
  · have h1 := G5.out.2.lt k hk
    exact ⟨by omega, by omega⟩
  · have h1 := q0.lt k hk
    exact ⟨by omega, by omega⟩
  · have h1 := q1.lt k hk
    exact ⟨by omega, by omega⟩
  · have := hk.2
    simp
    omega

theorem DNew.of {w w0 w' : World} {v : Value} {S : St} (h : DNew w0 w' v S) (hg : w.grownBy w0 none) : DNew w w' v S := by
  obtain ⟨h1, F, h2, h3⟩ := h
  exact ⟨grown_trans hg h1, F, h2, fun k hk => Nat.le_trans hg.size (h3 k hk)⟩

set_option maxHeartbeats 400000 in
theorem copy23_gone (v : Value) (w : World) (h : Gone w v) : Calls Try.prog 23 #[v] w fun e w' => e = .returned (.pointer none) ∧ w' = w := by
  have H : Hid _ := h
  clear h
  go_enter Try.func23, Try.ntmps23
  go_wp2_with fail
  refine (there43_gone _ _ H.out).mono ?_
  rintro e w1 ⟨rfl, he⟩; subst he
  go_wp2_with fail
  go_ret
  exact ⟨rfl, rfl⟩

set_option maxHeartbeats 400000 in
theorem stop14_gone (v : Value) (n : Int) (w : World) (h : Gone w v) : Calls Try.prog 14 #[v, .int .i64 n] w fun e w' => e = .returned (.pointer none) ∧ w' = w := by
  have H : Hid _ := h
  clear h
  go_enter Try.func14, Try.ntmps14
  go_wp2_with fail
  refine (there43_gone _ _ H.out).mono ?_
  rintro e w1 ⟨rfl, he⟩; subst he
  go_wp2_with fail
  go_ret
  exact ⟨rfl, rfl⟩

set_option maxRecDepth 100000 in
set_option maxHeartbeats 400000 in
theorem copy23 (F : Nat → Prop) (v : Value) (S : St) (w : World) (h : DK w F v S) :
    Calls Try.prog 23 #[v] w fun e w' => ∃ p, e = .returned p ∧ DNew w w' p S := by
  obtain ⟨b, lv, v0, v1, rfl, h⟩ := h
  obtain ⟨c0, c1, c2, c3, c4, c5, c6, c7, c8⟩ := h.cells
  have HD : Hid (DK w F (.pointer (some ⟨b, 0, none⟩)) S) := ⟨b, lv, v0, v1, rfl, h⟩
  have H : Hid (DKb w F b lv v0 v1 S) := h
  have hc1 := h.ok.cap1
  clear h c3 c4 c5 c6 c7
  go_enter Try.func23, Try.ntmps23
  go_wp2_with fail
  refine (there43 _ _ _ c0 hc1).mono ?_
  rintro e w1 ⟨rfl, he⟩; subst he
  go_wp2_with fail
  have HC : Hid (∀ x : World, w1.grownBy x none → x.cell? ⟨b, 1, none⟩ = some lv ∧ x.cell? ⟨b, 2, none⟩ = some (.int .i64 S.sure) ∧ x.cell? ⟨b, 8, none⟩ = some (.int .i64 S.steps)) := fun x hx => ⟨hx.cell c1 (by simp), hx.cell c2 (by simp), hx.cell c8 (by simp)⟩
  clear c0 c1 c2 c8
  refine wp_region_noPanic ?_
  refine wp_region_hold 1000 (fun x => w1.grownBy x none) (by kernel_rfl) ?_
  refine wpHold_take (i := 0) (v := _) (grown_drew _ _) rfl rfl (by kernel_rfl) (by kernel_rfl) (by kernel_rfl) (by kernel_rfl) (by kernel_rfl) (fun _ _ _ h => h) (by rfl) (fun wk hk => by obtain ⟨k0, k1, k2⟩ := HC.out wk hk; go_simp; try rfl) ?_
  try simp only [Act.put, List.setIfInBounds_toArray, List.set_cons_zero, List.set_cons_succ]
  refine wpHold_take (i := 1) (v := _) (grown_drew _ _) rfl rfl (by kernel_rfl) (by kernel_rfl) (by kernel_rfl) (by kernel_rfl) (by kernel_rfl) (fun _ _ _ h => h) (by rfl) (fun wk hk => by obtain ⟨k0, k1, k2⟩ := HC.out wk hk; go_simp; try rfl) ?_
  try simp only [Act.put, List.setIfInBounds_toArray, List.set_cons_zero, List.set_cons_succ]
  refine wpHold_take (i := 2) (v := _) (grown_drew _ _) rfl rfl (by kernel_rfl) (by kernel_rfl) (by kernel_rfl) (by kernel_rfl) (by kernel_rfl) (fun _ _ _ h => h) (by rfl) (fun wk hk => by obtain ⟨k0, k1, k2⟩ := HC.out wk hk; go_simp; try rfl) ?_
  try simp only [Act.put, List.setIfInBounds_toArray, List.set_cons_zero, List.set_cons_succ]
  refine wpHold_take (i := 3) (v := _) (grown_drew _ _) rfl rfl (by kernel_rfl) (by kernel_rfl) (by kernel_rfl) (by kernel_rfl) (by kernel_rfl) (fun _ _ _ h => h) (by rfl) (fun wk hk => by obtain ⟨k0, k1, k2⟩ := HC.out wk hk; go_simp; try rfl) ?_
  try simp only [Act.put, List.setIfInBounds_toArray, List.set_cons_zero, List.set_cons_succ]
  refine wpHold_take (i := 4) (v := _) (grown_drew _ _) rfl rfl (by kernel_rfl) (by kernel_rfl) (by kernel_rfl) (by kernel_rfl) (by kernel_rfl) (fun _ _ _ h => h) (by rfl) (fun wk hk => by obtain ⟨k0, k1, k2⟩ := HC.out wk hk; go_simp; try rfl) ?_
  try simp only [Act.put, List.setIfInBounds_toArray, List.set_cons_zero, List.set_cons_succ]
  refine wpHold_take (i := 5) (v := _) (grown_drew _ _) rfl rfl (by kernel_rfl) (by kernel_rfl) (by kernel_rfl) (by kernel_rfl) (by kernel_rfl) (fun _ _ _ h => h) (by rfl) (fun wk hk => by obtain ⟨k0, k1, k2⟩ := HC.out wk hk; go_simp; try rfl) ?_
  try simp only [Act.put, List.setIfInBounds_toArray, List.set_cons_zero, List.set_cons_succ]
  refine wpHold_take (i := 6) (v := _) (grown_drew _ _) rfl rfl (by kernel_rfl) (by kernel_rfl) (by kernel_rfl) (by kernel_rfl) (by kernel_rfl) (fun _ _ _ h => h) (by rfl) (fun wk hk => by obtain ⟨k0, k1, k2⟩ := HC.out wk hk; go_simp; try rfl) ?_
  try simp only [Act.put, List.setIfInBounds_toArray, List.set_cons_zero, List.set_cons_succ]
  refine wpHold_take (i := 7) (v := _) (grown_drew _ _) rfl rfl (by kernel_rfl) (by kernel_rfl) (by kernel_rfl) (by kernel_rfl) (by kernel_rfl) (fun _ _ _ h => h) (by rfl) (fun wk hk => by obtain ⟨k0, k1, k2⟩ := HC.out wk hk; go_simp; try rfl) ?_
  try simp only [Act.put, List.setIfInBounds_toArray, List.set_cons_zero, List.set_cons_succ]
  refine wpHold_take (i := 8) (v := _) (grown_drew _ _) rfl rfl (by kernel_rfl) (by kernel_rfl) (by kernel_rfl) (by kernel_rfl) (by kernel_rfl) (fun _ _ _ h => h) (by rfl) (fun wk hk => by obtain ⟨k0, k1, k2⟩ := HC.out wk hk; go_simp; try rfl) ?_
  try simp only [Act.put, List.setIfInBounds_toArray, List.set_cons_zero, List.set_cons_succ]
  refine wpHold_take (i := 9) (v := _) (grown_drew _ _) rfl rfl (by kernel_rfl) (by kernel_rfl) (by kernel_rfl) (by kernel_rfl) (by kernel_rfl) (fun _ _ _ h => h) (by rfl) (fun wk hk => by obtain ⟨k0, k1, k2⟩ := HC.out wk hk; go_simp; try rfl) ?_
  try simp only [Act.put, List.setIfInBounds_toArray, List.set_cons_zero, List.set_cons_succ]
  refine wpHold_take (i := 10) (v := _) (grown_drew _ _) rfl rfl (by kernel_rfl) (by kernel_rfl) (by kernel_rfl) (by kernel_rfl) (by kernel_rfl) (fun _ _ _ h => h) (by rfl) (fun wk hk => by obtain ⟨k0, k1, k2⟩ := HC.out wk hk; go_simp; try rfl) ?_
  try simp only [Act.put, List.setIfInBounds_toArray, List.set_cons_zero, List.set_cons_succ]
  refine wpHold_take (i := 11) (v := _) (grown_drew _ _) rfl rfl (by kernel_rfl) (by kernel_rfl) (by kernel_rfl) (by kernel_rfl) (by kernel_rfl) (fun _ _ _ h => h) (by rfl) (fun wk hk => by obtain ⟨k0, k1, k2⟩ := HC.out wk hk; go_simp; try rfl) ?_
  try simp only [Act.put, List.setIfInBounds_toArray, List.set_cons_zero, List.set_cons_succ]
  refine wpHold_take (i := 12) (v := _) (grown_drew _ _) rfl rfl (by kernel_rfl) (by kernel_rfl) (by kernel_rfl) (by kernel_rfl) (by kernel_rfl) (fun _ _ _ h => h) (by rfl) (fun wk hk => by obtain ⟨k0, k1, k2⟩ := HC.out wk hk; go_simp; try rfl) ?_
  try simp only [Act.put, List.setIfInBounds_toArray, List.set_cons_zero, List.set_cons_succ]
  refine wpHold_one (i := 13) rfl (by kernel_rfl) (by rfl) (fun K hK => ?_)
  go_simp
  refine (another44 F _ lv S S.log S.sure S.steps _ (HD.out.grown (grown_drew _ _)) (H.out.log.seg.grown (grown_drew _ _)) H.out.ok.log H.out.ok.sure).mono ?_
  rintro e w2 ⟨p, rfl, hp⟩
  have HP : Hid (DNew w1 w2 p S) := DNew.of hp (grown_drew _ _)
  clear hp
  go_wp2_with fail
  refine hK.out _ _ (fun _ => HP.out.1) ?_
  clear hK K
  try simp only [Act.put, List.setIfInBounds_toArray, List.set_cons_zero, List.set_cons_succ]
  refine wpHold_take (i := 14) (v := _) (HP.out.1) rfl rfl (by kernel_rfl) (by kernel_rfl) (by kernel_rfl) (by kernel_rfl) (by kernel_rfl) (fun _ _ _ h => h) (by rfl) (fun wk hk => by obtain ⟨k0, k1, k2⟩ := HC.out wk hk; go_simp; try rfl) ?_
  try simp only [Act.put, List.setIfInBounds_toArray, List.set_cons_zero, List.set_cons_succ]
  refine wpHold_done (by kernel_rfl) ?_
  refine (‹∀ (a : Act) (w : World), Code.wp Try.prog Code.ret _ a w → _› _ _ ?_)
  go_wp2_with fail
  go_ret
  exact ⟨_, rfl, HP.out⟩

/-- How much of the log a stop leaves; what it leaves. -/
def St.keeps (S : St) (keep : Int) : Nat := S.sure + min keep.toNat (S.log.length - S.sure)
def St.stop (S : St) (keep : Int) : St := { S with log := S.log.take (S.keeps keep), sure := S.keeps keep, steps := 0 }

attribute [local go_sem ↓] run_max0 run_maxn run_minn

set_option maxRecDepth 100000 in
set_option maxHeartbeats 400000 in
theorem stop14 (F : Nat → Prop) (v : Value) (S : St) (keep : Int) (w : World) (h : DK w F v S) :
    Calls Try.prog 14 #[v, .int .i64 keep] w fun e w' => ∃ p, e = .returned p ∧ DNew w w' p (S.stop keep) := by
  obtain ⟨b, lv, v0, v1, rfl, h⟩ := h
  obtain ⟨c0, c1, c2, c3, c4, c5, c6, c7, c8⟩ := h.cells
  obtain ⟨ao, cap, hsv⟩ := h.log.seg.shape
  subst hsv
  have hl := h.ok.log
  have hsl := h.ok.sure
  have hkl : S.keeps keep ≤ S.log.length := by unfold St.keeps; omega
  have hcp : S.log.length ≤ cap ∧ cap ≤ 9223372036854775807 := by
    obtain ⟨ao', cap', hv, q1, q2, _⟩ := h.log.seg
    simp at hv; unfold maxLen at q2; omega
  obtain ⟨hcp1, hcp2⟩ := hcp
  have HD : Hid (DK w F (.pointer (some ⟨b, 0, none⟩)) S) := ⟨b, _, v0, v1, rfl, h⟩
  have H : Hid (DKb w F b (.slice ao S.log.length cap) v0 v1 S) := h
  have hc1 := h.ok.cap1
  clear h c3 c4 c5 c6 c7 c8
  go_enter Try.func14, Try.ntmps14
  go_wp2_with fail
  refine (there43 _ _ _ c0 hc1).mono ?_
  rintro e w1 ⟨rfl, he⟩; subst he
  go_wp2_with fail
  go_quiet (fail)
  go_wp2_with fail
  · have ek : (S.sure : Int) + ((S.log.length : Int) - (S.sure : Int)) = ((S.keeps keep : Nat) : Int) := by unfold St.keeps; omega
    rw [ek]
    rw [Int.toNat_natCast]
    refine (another44 F _ _ S (S.log.take (S.keeps keep)) (S.keeps keep) 0 _ (HD.out.grown (grown_drewN _ _ _)) (Seg.grown (seg_take _ hkl H.out.log.seg) (grown_drewN _ _ _)) (by simp; omega) (by simp; omega)).mono ?_
    rintro e w2 ⟨p, rfl, hp⟩
    have HP : Hid (DNew w1 w2 p (S.stop keep)) := DNew.of hp (grown_drewN _ _ _)
    clear hp
    go_wp2_with fail
    go_ret
    exact ⟨_, rfl, HP.out⟩
  · have ek : (S.sure : Int) + max keep 0 = ((S.keeps keep : Nat) : Int) := by unfold St.keeps; omega
    rw [ek]
    rw [Int.toNat_natCast]
    refine (another44 F _ _ S (S.log.take (S.keeps keep)) (S.keeps keep) 0 _ (HD.out.grown (grown_drewN _ _ _)) (Seg.grown (seg_take _ hkl H.out.log.seg) (grown_drewN _ _ _)) (by simp; omega) (by simp; omega)).mono ?_
    rintro e w2 ⟨p, rfl, hp⟩
    have HP : Hid (DNew w1 w2 p (S.stop keep)) := DNew.of hp (grown_drewN _ _ _)
    clear hp
    go_wp2_with fail
    go_ret
    exact ⟨_, rfl, HP.out⟩
end Go.Proofs.Ytegacmcekladfaa
