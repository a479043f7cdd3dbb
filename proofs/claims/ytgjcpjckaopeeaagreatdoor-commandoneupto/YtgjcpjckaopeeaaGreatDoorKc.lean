/-
  A command's fields that its kind names; whether a command fits its kind.
-/
import Derived.Test.YtgjcpjckaopeeaaGreatDoorKbbAll
namespace Go.Proofs.YtgjcpjckaopeeaaGreatDoor
open Go.RowKit Disk
open _root_.Go.Proofs.YtgjcpjckaopeeaaGreatDoor.Calls

theorem ix0 (w : World) (x y z : Value) : (Instr.index 60 (.agg #[x, y, z]) (.int .i64 0)).run Tryz.prog w = .ok x w := by kernel_rfl
theorem ix1 (w : World) (x y z : Value) : (Instr.index 60 (.agg #[x, y, z]) (.int .i64 1)).run Tryz.prog w = .ok y w := by kernel_rfl
theorem ix2 (w : World) (x y z : Value) : (Instr.index 60 (.agg #[x, y, z]) (.int .i64 2)).run Tryz.prog w = .ok z w := by kernel_rfl
theorem al3 (w : World) (A B D : Array Value) (s t u : Nat) : ∃ W, ((w.alloc (.cells A s)).alloc (.cells B t)).alloc (.cells D u) = W ∧ Hid (Blk W w.heap.size s A ∧ Blk W (w.heap.size + 1) t B ∧ Blk W (w.heap.size + 1 + 1) u D ∧ w.grownBy W none ∧ W.heap.size = w.heap.size + 3) := by
  refine ⟨_, rfl, ?_, ?_, ?_, ?_, by simp⟩
  · exact Blk.grown (Blk.grown (heap_alloc_new _ _) (World.grownBy_alloc _ _ none) (by simp)) (World.grownBy_alloc _ _ none) (by simp)
  · have := Blk.grown (t := t) (c := B) (heap_alloc_new (w.alloc (.cells A s)) (.cells B t)) (World.grownBy_alloc _ (.cells D u) none) (by simp)
    simpa using this
  · have := heap_alloc_new ((w.alloc (.cells A s)).alloc (.cells B t)) (.cells D u)
    rw [show ((w.alloc (.cells A s)).alloc (.cells B t)).heap.size = w.heap.size + 1 + 1 by simp] at this
    exact this
  · exact grown_trans (g2 _ _ _) (World.grownBy_alloc _ _ none)
theorem set6 {x : World} {b : Nat} {c0 c1 c2 c3 c4 c5 : Value} (h : Blk x b 27 #[c0, c1, c2, c3, c4, c5]) (v0 v1 v2 v3 v4 v5 : Value) : ∃ W, (((((x.setCell ⟨b, 0, none⟩ v0).setCell ⟨b, 1, none⟩ v1).setCell ⟨b, 2, none⟩ v2).setCell ⟨b, 3, none⟩ v3).setCell ⟨b, 4, none⟩ v4).setCell ⟨b, 5, none⟩ v5 = W ∧ Hid (Blk W b 27 #[v0, v1, v2, v3, v4, v5] ∧ x.grownBy W (some b)) :=
  ⟨_, rfl, (((((h.store 0 v0).store 1 v1).store 2 v2).store 3 v3).store 4 v4).store 5 v5, grown_trans (grown_trans (grown_trans (grown_trans (grown_trans (grown_setCell _ _ _ _) (grown_setCell _ _ _ _)) (grown_setCell _ _ _ _)) (grown_setCell _ _ _ _)) (grown_setCell _ _ _ _)) (grown_setCell _ _ _ _)⟩
theorem al1 (w : World) (c : Array Value) (t : Nat) : ∃ w1, w.alloc (.cells c t) = w1 ∧ Hid (Blk w1 w.heap.size t c ∧ w.grownBy w1 none ∧ w1.heap.size = w.heap.size + 1) :=
  ⟨_, rfl, heap_alloc_new _ _, World.grownBy_alloc _ _ _, by simp⟩

set_option maxRecDepth 100000 in
set_option maxHeartbeats 4000000 in
theorem named61_1 (ao : Option Addr) (n cp : Nat) (tk ss nb mk : Int) (l : List POp) (w : World) : Calls Tryz.prog 61 #[cmdV (.slice ao n cp) ⟨1, tk, ss, nb, mk, l⟩] w fun e w' => e = .returned (cmdV (.slice none 0 0) ⟨1, tk, 0, 0, 0, []⟩) ∧ w.grownBy w' none := by
  simp only [cmdV]
  have i0 := ix0
  have i1 := ix1
  have i2 := ix2
  go_enter Tryz.func61, Tryz.ntmps61
  go_wp2_with fail
  obtain ⟨W, hW, HW⟩ := al3 w #[.int .i64 1, .int .i64 tk, .int .i64 ss, .int .i64 nb, .int .i64 mk, .slice ao n cp] #[.int .i64 0, .int .i64 0, .int .i64 0, .int .i64 0, .int .i64 0, .slice none 0 0] #[.int .i64 1, .int .i64 0, .int .i64 0, .int .i64 0, .int .i64 0, .slice none 0 0] 27 27 27
  rw [hW]
  clear hW
  refine (numbers30_1 w.heap.size (.slice ao n cp) ⟨1, tk, ss, nb, mk, l⟩ W HW.out.1 rfl).mono ?_
  rintro e w1 ⟨rfl, gg1⟩
  have H1 : Hid (Blk w1 w.heap.size 27 #[.int .i64 1, .int .i64 tk, .int .i64 ss, .int .i64 nb, .int .i64 mk, .slice ao n cp] ∧ Blk w1 (w.heap.size + 1) 27 #[.int .i64 0, .int .i64 0, .int .i64 0, .int .i64 0, .int .i64 0, .slice none 0 0] ∧ Blk w1 (w.heap.size + 1 + 1) 27 #[.int .i64 1, .int .i64 0, .int .i64 0, .int .i64 0, .int .i64 0, .slice none 0 0] ∧ w.grownBy w1 none ∧ w.heap.size + 3 ≤ w1.heap.size) :=
    ⟨HW.out.1.grown gg1 (by simp), HW.out.2.1.grown gg1 (by simp), HW.out.2.2.1.grown gg1 (by simp), grown_trans HW.out.2.2.2.1 gg1, by have := gg1.size; have := HW.out.2.2.2.2; omega⟩
  clear gg1 HW
  try unfold pt
  go_wp2_with fail
  obtain ⟨w2, hw2, H2⟩ := al1 w1 #[.pointer (some ⟨w.heap.size, 1, none⟩), .pointer none, .pointer none] 60
  rw [hw2]
  clear hw2
  refine (numbers30_1 (w.heap.size + 1 + 1) (.slice none 0 0) ⟨1, 0, 0, 0, 0, []⟩ w2 (H1.out.2.2.1.grown H2.out.2.1 (by simp)) rfl).mono ?_
  rintro e w3 ⟨rfl, gg3⟩
  have G3 : Hid (w1.grownBy w3 none) := grown_trans H2.out.2.1 gg3
  have H3 : Hid (Blk w3 w.heap.size 27 #[.int .i64 1, .int .i64 tk, .int .i64 ss, .int .i64 nb, .int .i64 mk, .slice ao n cp] ∧ Blk w3 (w.heap.size + 1) 27 #[.int .i64 0, .int .i64 0, .int .i64 0, .int .i64 0, .int .i64 0, .slice none 0 0] ∧ Blk w3 (w.heap.size + 1 + 1) 27 #[.int .i64 1, .int .i64 0, .int .i64 0, .int .i64 0, .int .i64 0, .slice none 0 0] ∧ w.grownBy w3 none ∧ Blk w3 w1.heap.size 60 #[.pointer (some ⟨w.heap.size, 1, none⟩), .pointer none, .pointer none] ∧ w.heap.size + 3 ≤ w1.heap.size) :=
    ⟨H1.out.1.grown G3.out (by simp), H1.out.2.1.grown G3.out (by simp), H1.out.2.2.1.grown G3.out (by simp), grown_trans H1.out.2.2.2.1 G3.out, H2.out.1.grown gg3 (by simp), H1.out.2.2.2.2⟩
  clear gg3 G3 H1 H2
  try unfold pt
  go_wp2_with fail
  refine wp_loop_rounds 4 ?_
  rw [rounds_succ]
  have a0 := H3.out.1.cell 1
  have p0 := H3.out.2.2.2.2.1.cell 0
  have s0 := H3.out.2.2.1.cell 1
  have z0 := H3.out.2.2.1.free 1
  simp at a0 p0 s0
  go_wp2_with fail
  have H4 : Hid (Blk (w3.setCell ⟨w.heap.size + 1 + 1, 1, none⟩ (.int .i64 tk)) w.heap.size 27 #[.int .i64 1, .int .i64 tk, .int .i64 ss, .int .i64 nb, .int .i64 mk, .slice ao n cp] ∧ Blk (w3.setCell ⟨w.heap.size + 1 + 1, 1, none⟩ (.int .i64 tk)) (w.heap.size + 1) 27 #[.int .i64 0, .int .i64 0, .int .i64 0, .int .i64 0, .int .i64 0, .slice none 0 0] ∧ Blk (w3.setCell ⟨w.heap.size + 1 + 1, 1, none⟩ (.int .i64 tk)) (w.heap.size + 1 + 1) 27 #[.int .i64 1, .int .i64 tk, .int .i64 0, .int .i64 0, .int .i64 0, .slice none 0 0] ∧ w.grownBy (w3.setCell ⟨w.heap.size + 1 + 1, 1, none⟩ (.int .i64 tk)) none ∧ Blk (w3.setCell ⟨w.heap.size + 1 + 1, 1, none⟩ (.int .i64 tk)) w1.heap.size 60 #[.pointer (some ⟨w.heap.size, 1, none⟩), .pointer none, .pointer none] ∧ w.heap.size + 3 ≤ w1.heap.size) := by
    have hg := grown_setCell w3 (w.heap.size + 1 + 1) 1 (.int .i64 tk)
    have h6 := H3.out.2.2.2.2.2
    exact ⟨H3.out.1.grown hg (by simp; omega), H3.out.2.1.grown hg (by simp), H3.out.2.2.1.store 1 _, grown_new H3.out.2.2.2.1 hg (by intro x hx; simp at hx; omega), H3.out.2.2.2.2.1.grown hg (by simp; omega), h6⟩
  generalize w3.setCell ⟨w.heap.size + 1 + 1, 1, none⟩ (.int .i64 tk) = x0 at H4 ⊢
  clear H3 a0 p0 s0 z0
  have H3 := H4
  clear H4
  rw [rounds_succ]
  go_wp2_with fail
  rw [rounds_succ]
  go_wp2_with fail
  rw [rounds_succ]
  have a9 := H3.out.1.cell 0
  simp at a9
  have s0 := H3.out.2.2.1.cell 0
  have s1 := H3.out.2.2.1.cell 1
  have s2 := H3.out.2.2.1.cell 2
  have s3 := H3.out.2.2.1.cell 3
  have s4 := H3.out.2.2.1.cell 4
  have s5 := H3.out.2.2.1.cell 5
  have r0 := H3.out.2.1.cell 0
  have r1 := H3.out.2.1.cell 1
  have r2 := H3.out.2.1.cell 2
  have r3 := H3.out.2.1.cell 3
  have r4 := H3.out.2.1.cell 4
  have r5 := H3.out.2.1.cell 5
  have z0 := H3.out.2.1.free 0
  have z1 := H3.out.2.1.free 1
  have z2 := H3.out.2.1.free 2
  have z3 := H3.out.2.1.free 3
  have z4 := H3.out.2.1.free 4
  have z5 := H3.out.2.1.free 5
  simp at s0 s1 s2 s3 s4 s5 r0 r1 r2 r3 r4 r5
  go_wp2_with fail
  obtain ⟨W6, hW6, H6⟩ := set6 H3.out.2.1 (.int .i64 1) (.int .i64 tk) (.int .i64 0) (.int .i64 0) (.int .i64 0) (.slice none 0 0)
  rw [hW6]
  clear hW6
  have hg : w.grownBy W6 none := grown_new H3.out.2.2.2.1 H6.out.2 (by intro x hx; simp at hx; omega)
  have y0 := H6.out.1.cell 0
  have y1 := H6.out.1.cell 1
  have y2 := H6.out.1.cell 2
  have y3 := H6.out.1.cell 3
  have y4 := H6.out.1.cell 4
  have y5 := H6.out.1.cell 5
  simp at y0 y1 y2 y3 y4 y5
  exact bodyPost_ret (v := .agg #[.int .i64 1, .int .i64 tk, .int .i64 0, .int .i64 0, .int .i64 0, (.slice none 0 0)]) (by simp [results, Tryz.results61, go_sem, y0, y1, y2, y3, y4, y5]) rfl ⟨rfl, hg⟩

set_option maxRecDepth 100000 in
set_option maxHeartbeats 4000000 in
theorem named61_2 (ao : Option Addr) (n cp : Nat) (tk ss nb mk : Int) (l : List POp) (w : World) : Calls Tryz.prog 61 #[cmdV (.slice ao n cp) ⟨2, tk, ss, nb, mk, l⟩] w fun e w' => e = .returned (cmdV (.slice ao n cp) ⟨2, 0, ss, nb, mk, l⟩) ∧ w.grownBy w' none := by
  simp only [cmdV]
  have i0 := ix0
  have i1 := ix1
  have i2 := ix2
  go_enter Tryz.func61, Tryz.ntmps61
  go_wp2_with fail
  obtain ⟨W, hW, HW⟩ := al3 w #[.int .i64 2, .int .i64 tk, .int .i64 ss, .int .i64 nb, .int .i64 mk, .slice ao n cp] #[.int .i64 0, .int .i64 0, .int .i64 0, .int .i64 0, .int .i64 0, .slice none 0 0] #[.int .i64 2, .int .i64 0, .int .i64 0, .int .i64 0, .int .i64 0, .slice none 0 0] 27 27 27
  rw [hW]
  clear hW
  refine (numbers30_2 w.heap.size (.slice ao n cp) ⟨2, tk, ss, nb, mk, l⟩ W HW.out.1 rfl).mono ?_
  rintro e w1 ⟨rfl, gg1⟩
  have H1 : Hid (Blk w1 w.heap.size 27 #[.int .i64 2, .int .i64 tk, .int .i64 ss, .int .i64 nb, .int .i64 mk, .slice ao n cp] ∧ Blk w1 (w.heap.size + 1) 27 #[.int .i64 0, .int .i64 0, .int .i64 0, .int .i64 0, .int .i64 0, .slice none 0 0] ∧ Blk w1 (w.heap.size + 1 + 1) 27 #[.int .i64 2, .int .i64 0, .int .i64 0, .int .i64 0, .int .i64 0, .slice none 0 0] ∧ w.grownBy w1 none ∧ w.heap.size + 3 ≤ w1.heap.size) :=
    ⟨HW.out.1.grown gg1 (by simp), HW.out.2.1.grown gg1 (by simp), HW.out.2.2.1.grown gg1 (by simp), grown_trans HW.out.2.2.2.1 gg1, by have := gg1.size; have := HW.out.2.2.2.2; omega⟩
  clear gg1 HW
  try unfold pt
  go_wp2_with fail
  obtain ⟨w2, hw2, H2⟩ := al1 w1 #[.pointer (some ⟨w.heap.size, 2, none⟩), .pointer (some ⟨w.heap.size, 3, none⟩), .pointer (some ⟨w.heap.size, 4, none⟩)] 60
  rw [hw2]
  clear hw2
  refine (numbers30_2 (w.heap.size + 1 + 1) (.slice none 0 0) ⟨2, 0, 0, 0, 0, []⟩ w2 (H1.out.2.2.1.grown H2.out.2.1 (by simp)) rfl).mono ?_
  rintro e w3 ⟨rfl, gg3⟩
  have G3 : Hid (w1.grownBy w3 none) := grown_trans H2.out.2.1 gg3
  have H3 : Hid (Blk w3 w.heap.size 27 #[.int .i64 2, .int .i64 tk, .int .i64 ss, .int .i64 nb, .int .i64 mk, .slice ao n cp] ∧ Blk w3 (w.heap.size + 1) 27 #[.int .i64 0, .int .i64 0, .int .i64 0, .int .i64 0, .int .i64 0, .slice none 0 0] ∧ Blk w3 (w.heap.size + 1 + 1) 27 #[.int .i64 2, .int .i64 0, .int .i64 0, .int .i64 0, .int .i64 0, .slice none 0 0] ∧ w.grownBy w3 none ∧ Blk w3 w1.heap.size 60 #[.pointer (some ⟨w.heap.size, 2, none⟩), .pointer (some ⟨w.heap.size, 3, none⟩), .pointer (some ⟨w.heap.size, 4, none⟩)] ∧ w.heap.size + 3 ≤ w1.heap.size) :=
    ⟨H1.out.1.grown G3.out (by simp), H1.out.2.1.grown G3.out (by simp), H1.out.2.2.1.grown G3.out (by simp), grown_trans H1.out.2.2.2.1 G3.out, H2.out.1.grown gg3 (by simp), H1.out.2.2.2.2⟩
  clear gg3 G3 H1 H2
  try unfold pt
  go_wp2_with fail
  refine wp_loop_rounds 4 ?_
  rw [rounds_succ]
  have a0 := H3.out.1.cell 2
  have p0 := H3.out.2.2.2.2.1.cell 0
  have s0 := H3.out.2.2.1.cell 2
  have z0 := H3.out.2.2.1.free 2
  simp at a0 p0 s0
  go_wp2_with fail
  have H4 : Hid (Blk (w3.setCell ⟨w.heap.size + 1 + 1, 2, none⟩ (.int .i64 ss)) w.heap.size 27 #[.int .i64 2, .int .i64 tk, .int .i64 ss, .int .i64 nb, .int .i64 mk, .slice ao n cp] ∧ Blk (w3.setCell ⟨w.heap.size + 1 + 1, 2, none⟩ (.int .i64 ss)) (w.heap.size + 1) 27 #[.int .i64 0, .int .i64 0, .int .i64 0, .int .i64 0, .int .i64 0, .slice none 0 0] ∧ Blk (w3.setCell ⟨w.heap.size + 1 + 1, 2, none⟩ (.int .i64 ss)) (w.heap.size + 1 + 1) 27 #[.int .i64 2, .int .i64 0, .int .i64 ss, .int .i64 0, .int .i64 0, .slice none 0 0] ∧ w.grownBy (w3.setCell ⟨w.heap.size + 1 + 1, 2, none⟩ (.int .i64 ss)) none ∧ Blk (w3.setCell ⟨w.heap.size + 1 + 1, 2, none⟩ (.int .i64 ss)) w1.heap.size 60 #[.pointer (some ⟨w.heap.size, 2, none⟩), .pointer (some ⟨w.heap.size, 3, none⟩), .pointer (some ⟨w.heap.size, 4, none⟩)] ∧ w.heap.size + 3 ≤ w1.heap.size) := by
    have hg := grown_setCell w3 (w.heap.size + 1 + 1) 2 (.int .i64 ss)
    have h6 := H3.out.2.2.2.2.2
    exact ⟨H3.out.1.grown hg (by simp; omega), H3.out.2.1.grown hg (by simp), H3.out.2.2.1.store 2 _, grown_new H3.out.2.2.2.1 hg (by intro x hx; simp at hx; omega), H3.out.2.2.2.2.1.grown hg (by simp; omega), h6⟩
  generalize w3.setCell ⟨w.heap.size + 1 + 1, 2, none⟩ (.int .i64 ss) = x0 at H4 ⊢
  clear H3 a0 p0 s0 z0
  have H3 := H4
  clear H4
  rw [rounds_succ]
  have a1 := H3.out.1.cell 3
  have p1 := H3.out.2.2.2.2.1.cell 1
  have s1 := H3.out.2.2.1.cell 3
  have z1 := H3.out.2.2.1.free 3
  simp at a1 p1 s1
  go_wp2_with fail
  have H4 : Hid (Blk (x0.setCell ⟨w.heap.size + 1 + 1, 3, none⟩ (.int .i64 nb)) w.heap.size 27 #[.int .i64 2, .int .i64 tk, .int .i64 ss, .int .i64 nb, .int .i64 mk, .slice ao n cp] ∧ Blk (x0.setCell ⟨w.heap.size + 1 + 1, 3, none⟩ (.int .i64 nb)) (w.heap.size + 1) 27 #[.int .i64 0, .int .i64 0, .int .i64 0, .int .i64 0, .int .i64 0, .slice none 0 0] ∧ Blk (x0.setCell ⟨w.heap.size + 1 + 1, 3, none⟩ (.int .i64 nb)) (w.heap.size + 1 + 1) 27 #[.int .i64 2, .int .i64 0, .int .i64 ss, .int .i64 nb, .int .i64 0, .slice none 0 0] ∧ w.grownBy (x0.setCell ⟨w.heap.size + 1 + 1, 3, none⟩ (.int .i64 nb)) none ∧ Blk (x0.setCell ⟨w.heap.size + 1 + 1, 3, none⟩ (.int .i64 nb)) w1.heap.size 60 #[.pointer (some ⟨w.heap.size, 2, none⟩), .pointer (some ⟨w.heap.size, 3, none⟩), .pointer (some ⟨w.heap.size, 4, none⟩)] ∧ w.heap.size + 3 ≤ w1.heap.size) := by
    have hg := grown_setCell x0 (w.heap.size + 1 + 1) 3 (.int .i64 nb)
    have h6 := H3.out.2.2.2.2.2
    exact ⟨H3.out.1.grown hg (by simp; omega), H3.out.2.1.grown hg (by simp), H3.out.2.2.1.store 3 _, grown_new H3.out.2.2.2.1 hg (by intro x hx; simp at hx; omega), H3.out.2.2.2.2.1.grown hg (by simp; omega), h6⟩
  generalize x0.setCell ⟨w.heap.size + 1 + 1, 3, none⟩ (.int .i64 nb) = x1 at H4 ⊢
  clear H3 a1 p1 s1 z1
  have H3 := H4
  clear H4
  rw [rounds_succ]
  have a2 := H3.out.1.cell 4
  have p2 := H3.out.2.2.2.2.1.cell 2
  have s2 := H3.out.2.2.1.cell 4
  have z2 := H3.out.2.2.1.free 4
  simp at a2 p2 s2
  go_wp2_with fail
  have H4 : Hid (Blk (x1.setCell ⟨w.heap.size + 1 + 1, 4, none⟩ (.int .i64 mk)) w.heap.size 27 #[.int .i64 2, .int .i64 tk, .int .i64 ss, .int .i64 nb, .int .i64 mk, .slice ao n cp] ∧ Blk (x1.setCell ⟨w.heap.size + 1 + 1, 4, none⟩ (.int .i64 mk)) (w.heap.size + 1) 27 #[.int .i64 0, .int .i64 0, .int .i64 0, .int .i64 0, .int .i64 0, .slice none 0 0] ∧ Blk (x1.setCell ⟨w.heap.size + 1 + 1, 4, none⟩ (.int .i64 mk)) (w.heap.size + 1 + 1) 27 #[.int .i64 2, .int .i64 0, .int .i64 ss, .int .i64 nb, .int .i64 mk, .slice none 0 0] ∧ w.grownBy (x1.setCell ⟨w.heap.size + 1 + 1, 4, none⟩ (.int .i64 mk)) none ∧ Blk (x1.setCell ⟨w.heap.size + 1 + 1, 4, none⟩ (.int .i64 mk)) w1.heap.size 60 #[.pointer (some ⟨w.heap.size, 2, none⟩), .pointer (some ⟨w.heap.size, 3, none⟩), .pointer (some ⟨w.heap.size, 4, none⟩)] ∧ w.heap.size + 3 ≤ w1.heap.size) := by
    have hg := grown_setCell x1 (w.heap.size + 1 + 1) 4 (.int .i64 mk)
    have h6 := H3.out.2.2.2.2.2
    exact ⟨H3.out.1.grown hg (by simp; omega), H3.out.2.1.grown hg (by simp), H3.out.2.2.1.store 4 _, grown_new H3.out.2.2.2.1 hg (by intro x hx; simp at hx; omega), H3.out.2.2.2.2.1.grown hg (by simp; omega), h6⟩
  generalize x1.setCell ⟨w.heap.size + 1 + 1, 4, none⟩ (.int .i64 mk) = x2 at H4 ⊢
  clear H3 a2 p2 s2 z2
  have H3 := H4
  clear H4
  rw [rounds_succ]
  have a9 := H3.out.1.cell 0
  have a8 := H3.out.1.cell 5
  have s9 := H3.out.2.2.1.cell 5
  have z9 := H3.out.2.2.1.free 5
  simp at a9 a8 s9
  go_upto_region 11 with fail
  have H4 : Hid (Blk (x2.setCell ⟨w.heap.size + 1 + 1, 5, none⟩ (.slice ao n cp)) (w.heap.size + 1) 27 #[.int .i64 0, .int .i64 0, .int .i64 0, .int .i64 0, .int .i64 0, .slice none 0 0] ∧ Blk (x2.setCell ⟨w.heap.size + 1 + 1, 5, none⟩ (.slice ao n cp)) (w.heap.size + 1 + 1) 27 #[.int .i64 2, .int .i64 0, .int .i64 ss, .int .i64 nb, .int .i64 mk, .slice ao n cp] ∧ w.grownBy (x2.setCell ⟨w.heap.size + 1 + 1, 5, none⟩ (.slice ao n cp)) none) := by
    have hg := grown_setCell x2 (w.heap.size + 1 + 1) 5 (.slice ao n cp)
    exact ⟨H3.out.2.1.grown hg (by simp), H3.out.2.2.1.store 5 _, grown_new H3.out.2.2.2.1 hg (by intro x hx; simp at hx; omega)⟩
  generalize x2.setCell ⟨w.heap.size + 1 + 1, 5, none⟩ (.slice ao n cp) = x9 at H4 ⊢
  clear H3 a9 a8 s9 z9
  have H3 : Hid (True ∧ Blk x9 (w.heap.size + 1) 27 #[.int .i64 0, .int .i64 0, .int .i64 0, .int .i64 0, .int .i64 0, .slice none 0 0] ∧ Blk x9 (w.heap.size + 1 + 1) 27 #[.int .i64 2, .int .i64 0, .int .i64 ss, .int .i64 nb, .int .i64 mk, .slice ao n cp] ∧ w.grownBy x9 none ∧ True) := ⟨trivial, H4.out.1, H4.out.2.1, H4.out.2.2, trivial⟩
  clear H4
  have s0 := H3.out.2.2.1.cell 0
  have s1 := H3.out.2.2.1.cell 1
  have s2 := H3.out.2.2.1.cell 2
  have s3 := H3.out.2.2.1.cell 3
  have s4 := H3.out.2.2.1.cell 4
  have s5 := H3.out.2.2.1.cell 5
  have r0 := H3.out.2.1.cell 0
  have r1 := H3.out.2.1.cell 1
  have r2 := H3.out.2.1.cell 2
  have r3 := H3.out.2.1.cell 3
  have r4 := H3.out.2.1.cell 4
  have r5 := H3.out.2.1.cell 5
  have z0 := H3.out.2.1.free 0
  have z1 := H3.out.2.1.free 1
  have z2 := H3.out.2.1.free 2
  have z3 := H3.out.2.1.free 3
  have z4 := H3.out.2.1.free 4
  have z5 := H3.out.2.1.free 5
  simp at s0 s1 s2 s3 s4 s5 r0 r1 r2 r3 r4 r5
  go_wp2_with fail
  obtain ⟨W6, hW6, H6⟩ := set6 H3.out.2.1 (.int .i64 2) (.int .i64 0) (.int .i64 ss) (.int .i64 nb) (.int .i64 mk) (.slice ao n cp)
  rw [hW6]
  clear hW6
  have hg : w.grownBy W6 none := grown_new H3.out.2.2.2.1 H6.out.2 (by intro x hx; simp at hx; omega)
  have y0 := H6.out.1.cell 0
  have y1 := H6.out.1.cell 1
  have y2 := H6.out.1.cell 2
  have y3 := H6.out.1.cell 3
  have y4 := H6.out.1.cell 4
  have y5 := H6.out.1.cell 5
  simp at y0 y1 y2 y3 y4 y5
  exact bodyPost_ret (v := .agg #[.int .i64 2, .int .i64 0, .int .i64 ss, .int .i64 nb, .int .i64 mk, (.slice ao n cp)]) (by simp [results, Tryz.results61, go_sem, y0, y1, y2, y3, y4, y5]) rfl ⟨rfl, hg⟩

set_option maxRecDepth 100000 in
set_option maxHeartbeats 4000000 in
theorem named61_3 (ao : Option Addr) (n cp : Nat) (tk ss nb mk : Int) (l : List POp) (w : World) : Calls Tryz.prog 61 #[cmdV (.slice ao n cp) ⟨3, tk, ss, nb, mk, l⟩] w fun e w' => e = .returned (cmdV (.slice none 0 0) ⟨3, 0, ss, 0, 0, []⟩) ∧ w.grownBy w' none := by
  simp only [cmdV]
  have i0 := ix0
  have i1 := ix1
  have i2 := ix2
  go_enter Tryz.func61, Tryz.ntmps61
  go_wp2_with fail
  obtain ⟨W, hW, HW⟩ := al3 w #[.int .i64 3, .int .i64 tk, .int .i64 ss, .int .i64 nb, .int .i64 mk, .slice ao n cp] #[.int .i64 0, .int .i64 0, .int .i64 0, .int .i64 0, .int .i64 0, .slice none 0 0] #[.int .i64 3, .int .i64 0, .int .i64 0, .int .i64 0, .int .i64 0, .slice none 0 0] 27 27 27
  rw [hW]
  clear hW
  refine (numbers30_3 w.heap.size (.slice ao n cp) ⟨3, tk, ss, nb, mk, l⟩ W HW.out.1 rfl).mono ?_
  rintro e w1 ⟨rfl, gg1⟩
  have H1 : Hid (Blk w1 w.heap.size 27 #[.int .i64 3, .int .i64 tk, .int .i64 ss, .int .i64 nb, .int .i64 mk, .slice ao n cp] ∧ Blk w1 (w.heap.size + 1) 27 #[.int .i64 0, .int .i64 0, .int .i64 0, .int .i64 0, .int .i64 0, .slice none 0 0] ∧ Blk w1 (w.heap.size + 1 + 1) 27 #[.int .i64 3, .int .i64 0, .int .i64 0, .int .i64 0, .int .i64 0, .slice none 0 0] ∧ w.grownBy w1 none ∧ w.heap.size + 3 ≤ w1.heap.size) :=
    ⟨HW.out.1.grown gg1 (by simp), HW.out.2.1.grown gg1 (by simp), HW.out.2.2.1.grown gg1 (by simp), grown_trans HW.out.2.2.2.1 gg1, by have := gg1.size; have := HW.out.2.2.2.2; omega⟩
  clear gg1 HW
  try unfold pt
  go_wp2_with fail
  obtain ⟨w2, hw2, H2⟩ := al1 w1 #[.pointer (some ⟨w.heap.size, 2, none⟩), .pointer none, .pointer none] 60
  rw [hw2]
  clear hw2
  refine (numbers30_3 (w.heap.size + 1 + 1) (.slice none 0 0) ⟨3, 0, 0, 0, 0, []⟩ w2 (H1.out.2.2.1.grown H2.out.2.1 (by simp)) rfl).mono ?_
  rintro e w3 ⟨rfl, gg3⟩
  have G3 : Hid (w1.grownBy w3 none) := grown_trans H2.out.2.1 gg3
  have H3 : Hid (Blk w3 w.heap.size 27 #[.int .i64 3, .int .i64 tk, .int .i64 ss, .int .i64 nb, .int .i64 mk, .slice ao n cp] ∧ Blk w3 (w.heap.size + 1) 27 #[.int .i64 0, .int .i64 0, .int .i64 0, .int .i64 0, .int .i64 0, .slice none 0 0] ∧ Blk w3 (w.heap.size + 1 + 1) 27 #[.int .i64 3, .int .i64 0, .int .i64 0, .int .i64 0, .int .i64 0, .slice none 0 0] ∧ w.grownBy w3 none ∧ Blk w3 w1.heap.size 60 #[.pointer (some ⟨w.heap.size, 2, none⟩), .pointer none, .pointer none] ∧ w.heap.size + 3 ≤ w1.heap.size) :=
    ⟨H1.out.1.grown G3.out (by simp), H1.out.2.1.grown G3.out (by simp), H1.out.2.2.1.grown G3.out (by simp), grown_trans H1.out.2.2.2.1 G3.out, H2.out.1.grown gg3 (by simp), H1.out.2.2.2.2⟩
  clear gg3 G3 H1 H2
  try unfold pt
  go_wp2_with fail
  refine wp_loop_rounds 4 ?_
  rw [rounds_succ]
  have a0 := H3.out.1.cell 2
  have p0 := H3.out.2.2.2.2.1.cell 0
  have s0 := H3.out.2.2.1.cell 2
  have z0 := H3.out.2.2.1.free 2
  simp at a0 p0 s0
  go_wp2_with fail
  have H4 : Hid (Blk (w3.setCell ⟨w.heap.size + 1 + 1, 2, none⟩ (.int .i64 ss)) w.heap.size 27 #[.int .i64 3, .int .i64 tk, .int .i64 ss, .int .i64 nb, .int .i64 mk, .slice ao n cp] ∧ Blk (w3.setCell ⟨w.heap.size + 1 + 1, 2, none⟩ (.int .i64 ss)) (w.heap.size + 1) 27 #[.int .i64 0, .int .i64 0, .int .i64 0, .int .i64 0, .int .i64 0, .slice none 0 0] ∧ Blk (w3.setCell ⟨w.heap.size + 1 + 1, 2, none⟩ (.int .i64 ss)) (w.heap.size + 1 + 1) 27 #[.int .i64 3, .int .i64 0, .int .i64 ss, .int .i64 0, .int .i64 0, .slice none 0 0] ∧ w.grownBy (w3.setCell ⟨w.heap.size + 1 + 1, 2, none⟩ (.int .i64 ss)) none ∧ Blk (w3.setCell ⟨w.heap.size + 1 + 1, 2, none⟩ (.int .i64 ss)) w1.heap.size 60 #[.pointer (some ⟨w.heap.size, 2, none⟩), .pointer none, .pointer none] ∧ w.heap.size + 3 ≤ w1.heap.size) := by
    have hg := grown_setCell w3 (w.heap.size + 1 + 1) 2 (.int .i64 ss)
    have h6 := H3.out.2.2.2.2.2
    exact ⟨H3.out.1.grown hg (by simp; omega), H3.out.2.1.grown hg (by simp), H3.out.2.2.1.store 2 _, grown_new H3.out.2.2.2.1 hg (by intro x hx; simp at hx; omega), H3.out.2.2.2.2.1.grown hg (by simp; omega), h6⟩
  generalize w3.setCell ⟨w.heap.size + 1 + 1, 2, none⟩ (.int .i64 ss) = x0 at H4 ⊢
  clear H3 a0 p0 s0 z0
  have H3 := H4
  clear H4
  rw [rounds_succ]
  go_wp2_with fail
  rw [rounds_succ]
  go_wp2_with fail
  rw [rounds_succ]
  have a9 := H3.out.1.cell 0
  simp at a9
  have s0 := H3.out.2.2.1.cell 0
  have s1 := H3.out.2.2.1.cell 1
  have s2 := H3.out.2.2.1.cell 2
  have s3 := H3.out.2.2.1.cell 3
  have s4 := H3.out.2.2.1.cell 4
  have s5 := H3.out.2.2.1.cell 5
  have r0 := H3.out.2.1.cell 0
  have r1 := H3.out.2.1.cell 1
  have r2 := H3.out.2.1.cell 2
  have r3 := H3.out.2.1.cell 3
  have r4 := H3.out.2.1.cell 4
  have r5 := H3.out.2.1.cell 5
  have z0 := H3.out.2.1.free 0
  have z1 := H3.out.2.1.free 1
  have z2 := H3.out.2.1.free 2
  have z3 := H3.out.2.1.free 3
  have z4 := H3.out.2.1.free 4
  have z5 := H3.out.2.1.free 5
  simp at s0 s1 s2 s3 s4 s5 r0 r1 r2 r3 r4 r5
  go_wp2_with fail
  obtain ⟨W6, hW6, H6⟩ := set6 H3.out.2.1 (.int .i64 3) (.int .i64 0) (.int .i64 ss) (.int .i64 0) (.int .i64 0) (.slice none 0 0)
  rw [hW6]
  clear hW6
  have hg : w.grownBy W6 none := grown_new H3.out.2.2.2.1 H6.out.2 (by intro x hx; simp at hx; omega)
  have y0 := H6.out.1.cell 0
  have y1 := H6.out.1.cell 1
  have y2 := H6.out.1.cell 2
  have y3 := H6.out.1.cell 3
  have y4 := H6.out.1.cell 4
  have y5 := H6.out.1.cell 5
  simp at y0 y1 y2 y3 y4 y5
  exact bodyPost_ret (v := .agg #[.int .i64 3, .int .i64 0, .int .i64 ss, .int .i64 0, .int .i64 0, (.slice none 0 0)]) (by simp [results, Tryz.results61, go_sem, y0, y1, y2, y3, y4, y5]) rfl ⟨rfl, hg⟩

set_option maxRecDepth 100000 in
set_option maxHeartbeats 4000000 in
theorem named61_4 (ao : Option Addr) (n cp : Nat) (tk ss nb mk : Int) (l : List POp) (w : World) : Calls Tryz.prog 61 #[cmdV (.slice ao n cp) ⟨4, tk, ss, nb, mk, l⟩] w fun e w' => e = .returned (cmdV (.slice none 0 0) ⟨4, 0, ss, 0, 0, []⟩) ∧ w.grownBy w' none := by
  simp only [cmdV]
  have i0 := ix0
  have i1 := ix1
  have i2 := ix2
  go_enter Tryz.func61, Tryz.ntmps61
  go_wp2_with fail
  obtain ⟨W, hW, HW⟩ := al3 w #[.int .i64 4, .int .i64 tk, .int .i64 ss, .int .i64 nb, .int .i64 mk, .slice ao n cp] #[.int .i64 0, .int .i64 0, .int .i64 0, .int .i64 0, .int .i64 0, .slice none 0 0] #[.int .i64 4, .int .i64 0, .int .i64 0, .int .i64 0, .int .i64 0, .slice none 0 0] 27 27 27
  rw [hW]
  clear hW
  refine (numbers30_4 w.heap.size (.slice ao n cp) ⟨4, tk, ss, nb, mk, l⟩ W HW.out.1 rfl).mono ?_
  rintro e w1 ⟨rfl, gg1⟩
  have H1 : Hid (Blk w1 w.heap.size 27 #[.int .i64 4, .int .i64 tk, .int .i64 ss, .int .i64 nb, .int .i64 mk, .slice ao n cp] ∧ Blk w1 (w.heap.size + 1) 27 #[.int .i64 0, .int .i64 0, .int .i64 0, .int .i64 0, .int .i64 0, .slice none 0 0] ∧ Blk w1 (w.heap.size + 1 + 1) 27 #[.int .i64 4, .int .i64 0, .int .i64 0, .int .i64 0, .int .i64 0, .slice none 0 0] ∧ w.grownBy w1 none ∧ w.heap.size + 3 ≤ w1.heap.size) :=
    ⟨HW.out.1.grown gg1 (by simp), HW.out.2.1.grown gg1 (by simp), HW.out.2.2.1.grown gg1 (by simp), grown_trans HW.out.2.2.2.1 gg1, by have := gg1.size; have := HW.out.2.2.2.2; omega⟩
  clear gg1 HW
  try unfold pt
  go_wp2_with fail
  obtain ⟨w2, hw2, H2⟩ := al1 w1 #[.pointer (some ⟨w.heap.size, 2, none⟩), .pointer none, .pointer none] 60
  rw [hw2]
  clear hw2
  refine (numbers30_4 (w.heap.size + 1 + 1) (.slice none 0 0) ⟨4, 0, 0, 0, 0, []⟩ w2 (H1.out.2.2.1.grown H2.out.2.1 (by simp)) rfl).mono ?_
  rintro e w3 ⟨rfl, gg3⟩
  have G3 : Hid (w1.grownBy w3 none) := grown_trans H2.out.2.1 gg3
  have H3 : Hid (Blk w3 w.heap.size 27 #[.int .i64 4, .int .i64 tk, .int .i64 ss, .int .i64 nb, .int .i64 mk, .slice ao n cp] ∧ Blk w3 (w.heap.size + 1) 27 #[.int .i64 0, .int .i64 0, .int .i64 0, .int .i64 0, .int .i64 0, .slice none 0 0] ∧ Blk w3 (w.heap.size + 1 + 1) 27 #[.int .i64 4, .int .i64 0, .int .i64 0, .int .i64 0, .int .i64 0, .slice none 0 0] ∧ w.grownBy w3 none ∧ Blk w3 w1.heap.size 60 #[.pointer (some ⟨w.heap.size, 2, none⟩), .pointer none, .pointer none] ∧ w.heap.size + 3 ≤ w1.heap.size) :=
    ⟨H1.out.1.grown G3.out (by simp), H1.out.2.1.grown G3.out (by simp), H1.out.2.2.1.grown G3.out (by simp), grown_trans H1.out.2.2.2.1 G3.out, H2.out.1.grown gg3 (by simp), H1.out.2.2.2.2⟩
  clear gg3 G3 H1 H2
  try unfold pt
  go_wp2_with fail
  refine wp_loop_rounds 4 ?_
  rw [rounds_succ]
  have a0 := H3.out.1.cell 2
  have p0 := H3.out.2.2.2.2.1.cell 0
  have s0 := H3.out.2.2.1.cell 2
  have z0 := H3.out.2.2.1.free 2
  simp at a0 p0 s0
  go_wp2_with fail
  have H4 : Hid (Blk (w3.setCell ⟨w.heap.size + 1 + 1, 2, none⟩ (.int .i64 ss)) w.heap.size 27 #[.int .i64 4, .int .i64 tk, .int .i64 ss, .int .i64 nb, .int .i64 mk, .slice ao n cp] ∧ Blk (w3.setCell ⟨w.heap.size + 1 + 1, 2, none⟩ (.int .i64 ss)) (w.heap.size + 1) 27 #[.int .i64 0, .int .i64 0, .int .i64 0, .int .i64 0, .int .i64 0, .slice none 0 0] ∧ Blk (w3.setCell ⟨w.heap.size + 1 + 1, 2, none⟩ (.int .i64 ss)) (w.heap.size + 1 + 1) 27 #[.int .i64 4, .int .i64 0, .int .i64 ss, .int .i64 0, .int .i64 0, .slice none 0 0] ∧ w.grownBy (w3.setCell ⟨w.heap.size + 1 + 1, 2, none⟩ (.int .i64 ss)) none ∧ Blk (w3.setCell ⟨w.heap.size + 1 + 1, 2, none⟩ (.int .i64 ss)) w1.heap.size 60 #[.pointer (some ⟨w.heap.size, 2, none⟩), .pointer none, .pointer none] ∧ w.heap.size + 3 ≤ w1.heap.size) := by
    have hg := grown_setCell w3 (w.heap.size + 1 + 1) 2 (.int .i64 ss)
    have h6 := H3.out.2.2.2.2.2
    exact ⟨H3.out.1.grown hg (by simp; omega), H3.out.2.1.grown hg (by simp), H3.out.2.2.1.store 2 _, grown_new H3.out.2.2.2.1 hg (by intro x hx; simp at hx; omega), H3.out.2.2.2.2.1.grown hg (by simp; omega), h6⟩
  generalize w3.setCell ⟨w.heap.size + 1 + 1, 2, none⟩ (.int .i64 ss) = x0 at H4 ⊢
  clear H3 a0 p0 s0 z0
  have H3 := H4
  clear H4
  rw [rounds_succ]
  go_wp2_with fail
  rw [rounds_succ]
  go_wp2_with fail
  rw [rounds_succ]
  have a9 := H3.out.1.cell 0
  simp at a9
  have s0 := H3.out.2.2.1.cell 0
  have s1 := H3.out.2.2.1.cell 1
  have s2 := H3.out.2.2.1.cell 2
  have s3 := H3.out.2.2.1.cell 3
  have s4 := H3.out.2.2.1.cell 4
  have s5 := H3.out.2.2.1.cell 5
  have r0 := H3.out.2.1.cell 0
  have r1 := H3.out.2.1.cell 1
  have r2 := H3.out.2.1.cell 2
  have r3 := H3.out.2.1.cell 3
  have r4 := H3.out.2.1.cell 4
  have r5 := H3.out.2.1.cell 5
  have z0 := H3.out.2.1.free 0
  have z1 := H3.out.2.1.free 1
  have z2 := H3.out.2.1.free 2
  have z3 := H3.out.2.1.free 3
  have z4 := H3.out.2.1.free 4
  have z5 := H3.out.2.1.free 5
  simp at s0 s1 s2 s3 s4 s5 r0 r1 r2 r3 r4 r5
  go_wp2_with fail
  obtain ⟨W6, hW6, H6⟩ := set6 H3.out.2.1 (.int .i64 4) (.int .i64 0) (.int .i64 ss) (.int .i64 0) (.int .i64 0) (.slice none 0 0)
  rw [hW6]
  clear hW6
  have hg : w.grownBy W6 none := grown_new H3.out.2.2.2.1 H6.out.2 (by intro x hx; simp at hx; omega)
  have y0 := H6.out.1.cell 0
  have y1 := H6.out.1.cell 1
  have y2 := H6.out.1.cell 2
  have y3 := H6.out.1.cell 3
  have y4 := H6.out.1.cell 4
  have y5 := H6.out.1.cell 5
  simp at y0 y1 y2 y3 y4 y5
  exact bodyPost_ret (v := .agg #[.int .i64 4, .int .i64 0, .int .i64 ss, .int .i64 0, .int .i64 0, (.slice none 0 0)]) (by simp [results, Tryz.results61, go_sem, y0, y1, y2, y3, y4, y5]) rfl ⟨rfl, hg⟩

set_option maxRecDepth 100000 in
set_option maxHeartbeats 4000000 in
theorem named61_0 (ao : Option Addr) (n cp : Nat) (k : Int) (tk ss nb mk : Int) (l : List POp) (w : World) (h1 : (k == 1) = false) (h2 : (k == 2) = false) (h3 : (k == 3) = false) (h4 : (k == 4) = false) : Calls Tryz.prog 61 #[cmdV (.slice ao n cp) ⟨k, tk, ss, nb, mk, l⟩] w fun e w' => e = .returned (cmdV (.slice none 0 0) ⟨k, 0, 0, 0, 0, []⟩) ∧ w.grownBy w' none := by
  simp only [cmdV]
  have i0 := ix0
  have i1 := ix1
  have i2 := ix2
  go_enter Tryz.func61, Tryz.ntmps61
  go_wp2_with fail
  obtain ⟨W, hW, HW⟩ := al3 w #[.int .i64 k, .int .i64 tk, .int .i64 ss, .int .i64 nb, .int .i64 mk, .slice ao n cp] #[.int .i64 0, .int .i64 0, .int .i64 0, .int .i64 0, .int .i64 0, .slice none 0 0] #[.int .i64 k, .int .i64 0, .int .i64 0, .int .i64 0, .int .i64 0, .slice none 0 0] 27 27 27
  rw [hW]
  clear hW
  refine (numbers30_0 w.heap.size (.slice ao n cp) ⟨k, tk, ss, nb, mk, l⟩ W HW.out.1 h1 h2 h3 h4).mono ?_
  rintro e w1 ⟨rfl, gg1⟩
  have H1 : Hid (Blk w1 w.heap.size 27 #[.int .i64 k, .int .i64 tk, .int .i64 ss, .int .i64 nb, .int .i64 mk, .slice ao n cp] ∧ Blk w1 (w.heap.size + 1) 27 #[.int .i64 0, .int .i64 0, .int .i64 0, .int .i64 0, .int .i64 0, .slice none 0 0] ∧ Blk w1 (w.heap.size + 1 + 1) 27 #[.int .i64 k, .int .i64 0, .int .i64 0, .int .i64 0, .int .i64 0, .slice none 0 0] ∧ w.grownBy w1 none ∧ w.heap.size + 3 ≤ w1.heap.size) :=
    ⟨HW.out.1.grown gg1 (by simp), HW.out.2.1.grown gg1 (by simp), HW.out.2.2.1.grown gg1 (by simp), grown_trans HW.out.2.2.2.1 gg1, by have := gg1.size; have := HW.out.2.2.2.2; omega⟩
  clear gg1 HW
  try unfold pt
  go_wp2_with fail
  obtain ⟨w2, hw2, H2⟩ := al1 w1 #[.pointer none, .pointer none, .pointer none] 60
  rw [hw2]
  clear hw2
  refine (numbers30_0 (w.heap.size + 1 + 1) (.slice none 0 0) ⟨k, 0, 0, 0, 0, []⟩ w2 (H1.out.2.2.1.grown H2.out.2.1 (by simp)) h1 h2 h3 h4).mono ?_
  rintro e w3 ⟨rfl, gg3⟩
  have G3 : Hid (w1.grownBy w3 none) := grown_trans H2.out.2.1 gg3
  have H3 : Hid (Blk w3 w.heap.size 27 #[.int .i64 k, .int .i64 tk, .int .i64 ss, .int .i64 nb, .int .i64 mk, .slice ao n cp] ∧ Blk w3 (w.heap.size + 1) 27 #[.int .i64 0, .int .i64 0, .int .i64 0, .int .i64 0, .int .i64 0, .slice none 0 0] ∧ Blk w3 (w.heap.size + 1 + 1) 27 #[.int .i64 k, .int .i64 0, .int .i64 0, .int .i64 0, .int .i64 0, .slice none 0 0] ∧ w.grownBy w3 none ∧ Blk w3 w1.heap.size 60 #[.pointer none, .pointer none, .pointer none] ∧ w.heap.size + 3 ≤ w1.heap.size) :=
    ⟨H1.out.1.grown G3.out (by simp), H1.out.2.1.grown G3.out (by simp), H1.out.2.2.1.grown G3.out (by simp), grown_trans H1.out.2.2.2.1 G3.out, H2.out.1.grown gg3 (by simp), H1.out.2.2.2.2⟩
  clear gg3 G3 H1 H2
  try unfold pt
  go_wp2_with fail
  refine wp_loop_rounds 4 ?_
  rw [rounds_succ]
  go_wp2_with fail
  rw [rounds_succ]
  go_wp2_with fail
  rw [rounds_succ]
  go_wp2_with fail
  rw [rounds_succ]
  have a9 := H3.out.1.cell 0
  simp at a9
  have s0 := H3.out.2.2.1.cell 0
  have s1 := H3.out.2.2.1.cell 1
  have s2 := H3.out.2.2.1.cell 2
  have s3 := H3.out.2.2.1.cell 3
  have s4 := H3.out.2.2.1.cell 4
  have s5 := H3.out.2.2.1.cell 5
  have r0 := H3.out.2.1.cell 0
  have r1 := H3.out.2.1.cell 1
  have r2 := H3.out.2.1.cell 2
  have r3 := H3.out.2.1.cell 3
  have r4 := H3.out.2.1.cell 4
  have r5 := H3.out.2.1.cell 5
  have z0 := H3.out.2.1.free 0
  have z1 := H3.out.2.1.free 1
  have z2 := H3.out.2.1.free 2
  have z3 := H3.out.2.1.free 3
  have z4 := H3.out.2.1.free 4
  have z5 := H3.out.2.1.free 5
  simp at s0 s1 s2 s3 s4 s5 r0 r1 r2 r3 r4 r5
  go_wp2_with fail
  obtain ⟨W6, hW6, H6⟩ := set6 H3.out.2.1 (.int .i64 k) (.int .i64 0) (.int .i64 0) (.int .i64 0) (.int .i64 0) (.slice none 0 0)
  rw [hW6]
  clear hW6
  have hg : w.grownBy W6 none := grown_new H3.out.2.2.2.1 H6.out.2 (by intro x hx; simp at hx; omega)
  have y0 := H6.out.1.cell 0
  have y1 := H6.out.1.cell 1
  have y2 := H6.out.1.cell 2
  have y3 := H6.out.1.cell 3
  have y4 := H6.out.1.cell 4
  have y5 := H6.out.1.cell 5
  simp at y0 y1 y2 y3 y4 y5
  exact bodyPost_ret (v := .agg #[.int .i64 k, .int .i64 0, .int .i64 0, .int .i64 0, .int .i64 0, (.slice none 0 0)]) (by simp [results, Tryz.results61, go_sem, y0, y1, y2, y3, y4, y5]) rfl ⟨rfl, hg⟩

def novV (ov : Value) (c : PCmd) : Value := if c.kind = 2 then ov else .slice none 0 0
theorem ops_nil (w : World) : Ops w (.slice none 0 0) [] := ⟨none, 0, rfl, by simp, fun j hj => absurd hj (by simp)⟩
theorem nov_ops {w : World} {ov : Value} {c : PCmd} (h : Ops w ov c.ops) : Ops w (novV ov c) (namedC c).ops := by
  unfold novV namedC
  by_cases h2 : c.kind = 2
  · rw [if_pos h2, if_neg (by omega), if_pos h2]; exact h
  · rw [if_neg h2]
    by_cases h1 : c.kind = 1
    · rw [if_pos h1]; exact ops_nil w
    · rw [if_neg h1, if_neg h2]
      split <;> exact ops_nil w
theorem named61 (ov : Value) (c : PCmd) (w : World) (h : Ops w ov c.ops) : Calls Tryz.prog 61 #[cmdV ov c] w fun e w' => e = .returned (cmdV (novV ov c) (namedC c)) ∧ w.grownBy w' none := by
  obtain ⟨ao, n, cp, rfl, _⟩ := ops_open h
  obtain ⟨k, tk, ss, nb, mk, l⟩ := c
  unfold novV namedC
  by_cases h1 : k = 1
  · subst h1; exact named61_1 ao n cp tk ss nb mk l w
  · by_cases h2 : k = 2
    · subst h2; exact named61_2 ao n cp tk ss nb mk l w
    · by_cases h3 : k = 3
      · subst h3; exact named61_3 ao n cp tk ss nb mk l w
      · by_cases h4 : k = 4
        · subst h4; exact named61_4 ao n cp tk ss nb mk l w
        · rw [if_neg h2, if_neg h1, if_neg h2, if_neg (by simp; omega)]
          exact named61_0 ao n cp k tk ss nb mk l w (by simp [h1]) (by simp [h2]) (by simp [h3]) (by simp [h4])
end Go.Proofs.YtgjcpjckaopeeaaGreatDoor
