/-
  Bytes, Check, Changes of the program.
-/
import Derived.Test.YtgjcpjckaopeeaaGreatDoorKd
import Derived.Test.YtgjcpjckaopeeaaGreatDoorCgAll
import Derived.Test.YtgjcpjckaopeeaaGreatDoorWireAll
namespace Go.Proofs.YtgjcpjckaopeeaaGreatDoor
open Go.RowKit Disk
open _root_.Go.Proofs.YtgjcpjckaopeeaaGreatDoor.Calls

theorem sgn_len {n : Int} (h0 : -9223372036854775808 ≤ n) (h1 : n ≤ 9223372036854775807) : (sgn n).length ≤ 10 := Wire.numForm_len10 _ (Wire.foldZ_lt n h0 h1)
/-- What Bytes answers. -/
def BytesC (c : PCmd) (w : World) (e : Ending) (w' : World) : Prop := ∃ u, e = .returned (.tuple #[u, .int .i64 (chkC c)]) ∧ Own w' w.heap.size u (if okC c = true then formC c else []) ∧ w.grownBy w' none
def ResC (k : Int) (L : Bs) (w : World) (e : Ending) (w' : World) : Prop := ∃ u, e = .returned (.tuple #[u, .int .i64 k]) ∧ Own w' w.heap.size u L ∧ w.grownBy w' none

set_option maxRecDepth 100000 in
set_option maxHeartbeats 4000000 in
theorem bytes10_no (ov : Value) (c : PCmd) (w : World) (hl : Ops w ov c.ops) (hf : fitC c = false) : Calls Tryz.prog 10 #[cmdV ov c] w (ResC 2 [] w) := by
  obtain ⟨ao, n, cp, rfl, _, _, HL⟩ := ops_open hl
  clear hl
  unfold cmdV
  go_enter Tryz.func10, Tryz.ntmps10
  go_wp2_with fail
  obtain ⟨W, hW, HW⟩ := al1 w (cmdA (.slice ao n cp) c) 27
  unfold cmdA at hW
  rw [hW]
  clear hW
  refine (fits28 (.slice ao n cp) c W (HL.out.grown HW.out.2.1)).mono ?_
  rintro e w1 ⟨rfl, g1⟩
  rw [hf]
  have G : Hid (w.grownBy w1 none) := grown_trans HW.out.2.1 g1
  clear g1 HW
  go_wp2_with fail
  go_ret2
  exact ⟨_, rfl, Own.nil _ _, G.out⟩

set_option maxRecDepth 100000 in
set_option maxHeartbeats 8000000 in
theorem bytes10_1 (ao : Option Addr) (n cp : Nat) (tk ss nb mk : Int) (l : List POp) (w : World) (hl : Ops w (.slice ao n cp) l) (hI : InC (⟨1, tk, ss, nb, mk, l⟩ : PCmd)) (hf : fitC (⟨1, tk, ss, nb, mk, l⟩ : PCmd) = true) : Calls Tryz.prog 10 #[cmdV (.slice ao n cp) (⟨1, tk, ss, nb, mk, l⟩ : PCmd)] w (BytesC (⟨1, tk, ss, nb, mk, l⟩ : PCmd) w) := by
  have HL : Hid (Ops w (.slice ao n cp) l ∧ InC (⟨1, tk, ss, nb, mk, l⟩ : PCmd)) := ⟨hl, hI⟩
  clear hl hI
  simp only [cmdV]
  have i0 := ix0
  have i1 := ix1
  have i2 := ix2
  go_enter Tryz.func10, Tryz.ntmps10
  go_wp2_with fail
  obtain ⟨W, hW, HW⟩ := al1 w #[.int .i64 1, .int .i64 tk, .int .i64 ss, .int .i64 nb, .int .i64 mk, .slice ao n cp] 27
  rw [hW]
  clear hW
  refine (fits28 (.slice ao n cp) (⟨1, tk, ss, nb, mk, l⟩ : PCmd) W (HL.out.1.grown HW.out.2.1)).mono ?_
  rintro e w1 ⟨rfl, gg1⟩
  rw [hf]
  have H1 : Hid (Blk w1 w.heap.size 27 #[.int .i64 1, .int .i64 tk, .int .i64 ss, .int .i64 nb, .int .i64 mk, .slice ao n cp] ∧ w.grownBy w1 none ∧ w.heap.size < w1.heap.size) := ⟨HW.out.1.grown gg1 (by simp), grown_trans HW.out.2.1 gg1, by have := gg1.size; have := HW.out.2.2; omega⟩
  clear gg1 HW
  have HF : Hid (fitC (⟨1, tk, ss, nb, mk, l⟩ : PCmd) = true) := hf
  clear hf
  have c0 := H1.out.1.cell 0
  simp at c0
  go_wp2_with fail
  refine (Wire.number9_int _ 1 rfl (by decide) _).mono ?_
  rintro e w2 ⟨u0, rfl, o0, gg2⟩
  obtain ⟨x0, y0, e0⟩ := o0.seg.shape
  subst e0
  have H2 : Hid (Blk w2 w.heap.size 27 #[.int .i64 1, .int .i64 tk, .int .i64 ss, .int .i64 nb, .int .i64 mk, .slice ao n cp] ∧ w.grownBy w2 none ∧ Own w2 (w.heap.size + 1) (.slice x0 (Wire.numForm 1).length y0) (Wire.numForm 1)) := ⟨H1.out.1.grown gg2 (by simp), grown_trans H1.out.2.1 gg2, Own.mono o0 H1.out.2.2⟩
  clear gg2 o0 H1 c0
  obtain ⟨F0, hF0⟩ : ∃ F, Wire.numForm 1 = F := ⟨_, rfl⟩
  have B0 : Hid (F0.length ≤ 10 ∧ Wire.numForm 1 = F0) := ⟨by rw [← hF0]; exact Wire.numForm_len10 _ (by decide), hF0⟩
  rw [hF0] at H2 ⊢
  clear hF0
  obtain ⟨n0, hn0⟩ : ∃ n, F0.length = n := ⟨_, rfl⟩
  rw [hn0] at H2 ⊢
  have N0 : Hid (F0.length = n0) := hn0
  clear hn0
  go_wp2_with fail
  refine (numbers30_1 w.heap.size (.slice ao n cp) (⟨1, tk, ss, nb, mk, l⟩ : PCmd) w2 H2.out.1 rfl).mono ?_
  rintro e w3 ⟨rfl, gg3⟩
  have H3 : Hid (Blk w3 w.heap.size 27 #[.int .i64 1, .int .i64 tk, .int .i64 ss, .int .i64 nb, .int .i64 mk, .slice ao n cp] ∧ w.grownBy w3 none ∧ Own w3 (w.heap.size + 1) (.slice x0 n0 y0) F0) := ⟨H2.out.1.grown gg3 (by simp), grown_trans H2.out.2.1 gg3, H2.out.2.2.grown gg3⟩
  clear gg3 H2
  try unfold pt
  go_wp2_with fail
  refine wp_loop_rounds 4 ?_
  rw [rounds_succ]
  have a0 := H3.out.1.cell 1
  simp at a0
  go_wp2_with fail
  refine (Wire.signed13 tk HL.out.2.t0 HL.out.2.t1 _).mono ?_
  rintro e p0 ⟨r0, rfl, or0, gr0⟩
  obtain ⟨s0, t0, er0⟩ := or0.seg.shape
  subst er0
  have H4 : Hid (Blk p0 w.heap.size 27 #[.int .i64 1, .int .i64 tk, .int .i64 ss, .int .i64 nb, .int .i64 mk, .slice ao n cp] ∧ w.grownBy p0 none ∧ Seg p0 (.slice x0 n0 y0) F0 ∧ Seg p0 (.slice s0 (Wire.numForm (Wire.foldZ tk)).length t0) (sgn tk) ∧ w.heap.size + 1 ≤ p0.heap.size) := ⟨H3.out.1.grown gr0 (by simp), grown_trans H3.out.2.1 gr0, H3.out.2.2.seg.grown gr0, or0.seg, by have := gr0.size; have := H3.out.1.lt; omega⟩
  clear or0 gr0 H3 a0
  go_wp2_with fail
  refine (Wire.join10 _ [F0, sgn tk] _ (Wire.segs_two H4.out.2.2.1 H4.out.2.2.2.1) ?_).mono ?_
  · have h1 := B0.out.1
    have h2 : (sgn tk).length ≤ 10 := sgn_len HL.out.2.t0 HL.out.2.t1
    simp; omega
  rintro e q0 ⟨u1, rfl, o1, g1⟩
  obtain ⟨x1, y1, e1⟩ := o1.seg.shape
  subst e1
  have hfl : [F0, sgn tk].flatten = F0 ++ sgn tk := by simp
  rw [hfl] at o1 ⊢
  clear hfl
  obtain ⟨F1, hF1⟩ : ∃ F, F0 ++ sgn tk = F := ⟨_, rfl⟩
  rw [hF1] at o1 ⊢
  have B1 : Hid (F1.length ≤ 20 ∧ F0 ++ sgn tk = F1) := ⟨by
    have h1 := B0.out.1
    have h2 : (sgn tk).length ≤ 10 := sgn_len HL.out.2.t0 HL.out.2.t1
    rw [← hF1, List.length_append]; omega, hF1⟩
  clear hF1
  obtain ⟨n1, hn1⟩ : ∃ n, F1.length = n := ⟨_, rfl⟩
  rw [hn1] at o1 ⊢
  clear hn1
  have H5 : Hid (Blk q0 w.heap.size 27 #[.int .i64 1, .int .i64 tk, .int .i64 ss, .int .i64 nb, .int .i64 mk, .slice ao n cp] ∧ w.grownBy q0 none ∧ Own q0 (w.heap.size + 1) (.slice x1 n1 y1) F1) := by
    have ga := World.grownBy_alloc p0 (.cells #[(.slice x0 n0 y0), .slice s0 (Wire.numForm (Wire.foldZ tk)).length t0] 32) none
    exact ⟨(H4.out.1.grown ga (by simp)).grown g1 (by simp), grown_trans (grown_trans H4.out.2.1 ga) g1, Own.mono o1 (by have := H4.out.2.2.2.2; have := ga.size; omega)⟩
  clear o1 g1 H4
  have H3 := H5
  clear H5
  go_wp2_with fail
  rw [rounds_succ]
  go_wp2_with fail
  rw [rounds_succ]
  go_wp2_with fail
  rw [rounds_succ]
  have a9 := H3.out.1.cell 0
  have a8 := H3.out.1.cell 5
  simp at a9 a8
  go_wp2_with fail
  go_ret2
  have hok : okC (⟨1, tk, ss, nb, mk, l⟩ : PCmd) = true := by unfold okC; rw [HF.out]; simp
  refine ⟨_, by rw [chkC, if_pos hok]; rfl, ?_, H3.out.2.1⟩
  rw [if_pos hok]
  have hE : formC (⟨1, tk, ss, nb, mk, l⟩ : PCmd) = F1 := by
    rw [← B1.out.2, ← B0.out.2]
    simp [formC, frontC, headC, numsC]
  rw [hE]
  exact Own.mono H3.out.2.2 (by omega)

set_option maxRecDepth 100000 in
set_option maxHeartbeats 8000000 in
theorem bytes10_2 (ao : Option Addr) (n cp : Nat) (tk ss nb mk : Int) (l : List POp) (w : World) (hl : Ops w (.slice ao n cp) l) (hI : InC (⟨2, tk, ss, nb, mk, l⟩ : PCmd)) (hf : fitC (⟨2, tk, ss, nb, mk, l⟩ : PCmd) = true) : Calls Tryz.prog 10 #[cmdV (.slice ao n cp) (⟨2, tk, ss, nb, mk, l⟩ : PCmd)] w (BytesC (⟨2, tk, ss, nb, mk, l⟩ : PCmd) w) := by
  have HL : Hid (Ops w (.slice ao n cp) l ∧ InC (⟨2, tk, ss, nb, mk, l⟩ : PCmd)) := ⟨hl, hI⟩
  clear hl hI
  simp only [cmdV]
  have i0 := ix0
  have i1 := ix1
  have i2 := ix2
  go_enter Tryz.func10, Tryz.ntmps10
  go_wp2_with fail
  obtain ⟨W, hW, HW⟩ := al1 w #[.int .i64 2, .int .i64 tk, .int .i64 ss, .int .i64 nb, .int .i64 mk, .slice ao n cp] 27
  rw [hW]
  clear hW
  refine (fits28 (.slice ao n cp) (⟨2, tk, ss, nb, mk, l⟩ : PCmd) W (HL.out.1.grown HW.out.2.1)).mono ?_
  rintro e w1 ⟨rfl, gg1⟩
  rw [hf]
  have H1 : Hid (Blk w1 w.heap.size 27 #[.int .i64 2, .int .i64 tk, .int .i64 ss, .int .i64 nb, .int .i64 mk, .slice ao n cp] ∧ w.grownBy w1 none ∧ w.heap.size < w1.heap.size) := ⟨HW.out.1.grown gg1 (by simp), grown_trans HW.out.2.1 gg1, by have := gg1.size; have := HW.out.2.2; omega⟩
  clear gg1 HW
  have HF : Hid (fitC (⟨2, tk, ss, nb, mk, l⟩ : PCmd) = true) := hf
  clear hf
  have c0 := H1.out.1.cell 0
  simp at c0
  go_wp2_with fail
  refine (Wire.number9_int _ 2 rfl (by decide) _).mono ?_
  rintro e w2 ⟨u0, rfl, o0, gg2⟩
  obtain ⟨x0, y0, e0⟩ := o0.seg.shape
  subst e0
  have H2 : Hid (Blk w2 w.heap.size 27 #[.int .i64 2, .int .i64 tk, .int .i64 ss, .int .i64 nb, .int .i64 mk, .slice ao n cp] ∧ w.grownBy w2 none ∧ Own w2 (w.heap.size + 1) (.slice x0 (Wire.numForm 2).length y0) (Wire.numForm 2)) := ⟨H1.out.1.grown gg2 (by simp), grown_trans H1.out.2.1 gg2, Own.mono o0 H1.out.2.2⟩
  clear gg2 o0 H1 c0
  obtain ⟨F0, hF0⟩ : ∃ F, Wire.numForm 2 = F := ⟨_, rfl⟩
  have B0 : Hid (F0.length ≤ 10 ∧ Wire.numForm 2 = F0) := ⟨by rw [← hF0]; exact Wire.numForm_len10 _ (by decide), hF0⟩
  rw [hF0] at H2 ⊢
  clear hF0
  obtain ⟨n0, hn0⟩ : ∃ n, F0.length = n := ⟨_, rfl⟩
  rw [hn0] at H2 ⊢
  have N0 : Hid (F0.length = n0) := hn0
  clear hn0
  go_wp2_with fail
  refine (numbers30_2 w.heap.size (.slice ao n cp) (⟨2, tk, ss, nb, mk, l⟩ : PCmd) w2 H2.out.1 rfl).mono ?_
  rintro e w3 ⟨rfl, gg3⟩
  have H3 : Hid (Blk w3 w.heap.size 27 #[.int .i64 2, .int .i64 tk, .int .i64 ss, .int .i64 nb, .int .i64 mk, .slice ao n cp] ∧ w.grownBy w3 none ∧ Own w3 (w.heap.size + 1) (.slice x0 n0 y0) F0) := ⟨H2.out.1.grown gg3 (by simp), grown_trans H2.out.2.1 gg3, H2.out.2.2.grown gg3⟩
  clear gg3 H2
  try unfold pt
  go_wp2_with fail
  refine wp_loop_rounds 4 ?_
  rw [rounds_succ]
  have a0 := H3.out.1.cell 2
  simp at a0
  go_wp2_with fail
  refine (Wire.signed13 ss HL.out.2.s0 HL.out.2.s1 _).mono ?_
  rintro e p0 ⟨r0, rfl, or0, gr0⟩
  obtain ⟨s0, t0, er0⟩ := or0.seg.shape
  subst er0
  have H4 : Hid (Blk p0 w.heap.size 27 #[.int .i64 2, .int .i64 tk, .int .i64 ss, .int .i64 nb, .int .i64 mk, .slice ao n cp] ∧ w.grownBy p0 none ∧ Seg p0 (.slice x0 n0 y0) F0 ∧ Seg p0 (.slice s0 (Wire.numForm (Wire.foldZ ss)).length t0) (sgn ss) ∧ w.heap.size + 1 ≤ p0.heap.size) := ⟨H3.out.1.grown gr0 (by simp), grown_trans H3.out.2.1 gr0, H3.out.2.2.seg.grown gr0, or0.seg, by have := gr0.size; have := H3.out.1.lt; omega⟩
  clear or0 gr0 H3 a0
  go_wp2_with fail
  refine (Wire.join10 _ [F0, sgn ss] _ (Wire.segs_two H4.out.2.2.1 H4.out.2.2.2.1) ?_).mono ?_
  · have h1 := B0.out.1
    have h2 : (sgn ss).length ≤ 10 := sgn_len HL.out.2.s0 HL.out.2.s1
    simp; omega
  rintro e q0 ⟨u1, rfl, o1, g1⟩
  obtain ⟨x1, y1, e1⟩ := o1.seg.shape
  subst e1
  have hfl : [F0, sgn ss].flatten = F0 ++ sgn ss := by simp
  rw [hfl] at o1 ⊢
  clear hfl
  obtain ⟨F1, hF1⟩ : ∃ F, F0 ++ sgn ss = F := ⟨_, rfl⟩
  rw [hF1] at o1 ⊢
  have B1 : Hid (F1.length ≤ 20 ∧ F0 ++ sgn ss = F1) := ⟨by
    have h1 := B0.out.1
    have h2 : (sgn ss).length ≤ 10 := sgn_len HL.out.2.s0 HL.out.2.s1
    rw [← hF1, List.length_append]; omega, hF1⟩
  clear hF1
  obtain ⟨n1, hn1⟩ : ∃ n, F1.length = n := ⟨_, rfl⟩
  rw [hn1] at o1 ⊢
  clear hn1
  have H5 : Hid (Blk q0 w.heap.size 27 #[.int .i64 2, .int .i64 tk, .int .i64 ss, .int .i64 nb, .int .i64 mk, .slice ao n cp] ∧ w.grownBy q0 none ∧ Own q0 (w.heap.size + 1) (.slice x1 n1 y1) F1) := by
    have ga := World.grownBy_alloc p0 (.cells #[(.slice x0 n0 y0), .slice s0 (Wire.numForm (Wire.foldZ ss)).length t0] 32) none
    exact ⟨(H4.out.1.grown ga (by simp)).grown g1 (by simp), grown_trans (grown_trans H4.out.2.1 ga) g1, Own.mono o1 (by have := H4.out.2.2.2.2; have := ga.size; omega)⟩
  clear o1 g1 H4
  have H3 := H5
  clear H5
  go_wp2_with fail
  rw [rounds_succ]
  have a1 := H3.out.1.cell 3
  simp at a1
  go_wp2_with fail
  refine (Wire.signed13 nb HL.out.2.n0 HL.out.2.n1 _).mono ?_
  rintro e p1 ⟨r1, rfl, or1, gr1⟩
  obtain ⟨s1, t1, er1⟩ := or1.seg.shape
  subst er1
  have H4 : Hid (Blk p1 w.heap.size 27 #[.int .i64 2, .int .i64 tk, .int .i64 ss, .int .i64 nb, .int .i64 mk, .slice ao n cp] ∧ w.grownBy p1 none ∧ Seg p1 (.slice x1 n1 y1) F1 ∧ Seg p1 (.slice s1 (Wire.numForm (Wire.foldZ nb)).length t1) (sgn nb) ∧ w.heap.size + 1 ≤ p1.heap.size) := ⟨H3.out.1.grown gr1 (by simp), grown_trans H3.out.2.1 gr1, H3.out.2.2.seg.grown gr1, or1.seg, by have := gr1.size; have := H3.out.1.lt; omega⟩
  clear or1 gr1 H3 a1
  go_wp2_with fail
  refine (Wire.join10 _ [F1, sgn nb] _ (Wire.segs_two H4.out.2.2.1 H4.out.2.2.2.1) ?_).mono ?_
  · have h1 := B1.out.1
    have h2 : (sgn nb).length ≤ 10 := sgn_len HL.out.2.n0 HL.out.2.n1
    simp; omega
  rintro e q1 ⟨u2, rfl, o2, g2⟩
  obtain ⟨x2, y2, e2⟩ := o2.seg.shape
  subst e2
  have hfl : [F1, sgn nb].flatten = F1 ++ sgn nb := by simp
  rw [hfl] at o2 ⊢
  clear hfl
  obtain ⟨F2, hF2⟩ : ∃ F, F1 ++ sgn nb = F := ⟨_, rfl⟩
  rw [hF2] at o2 ⊢
  have B2 : Hid (F2.length ≤ 30 ∧ F1 ++ sgn nb = F2) := ⟨by
    have h1 := B1.out.1
    have h2 : (sgn nb).length ≤ 10 := sgn_len HL.out.2.n0 HL.out.2.n1
    rw [← hF2, List.length_append]; omega, hF2⟩
  clear hF2
  obtain ⟨n2, hn2⟩ : ∃ n, F2.length = n := ⟨_, rfl⟩
  rw [hn2] at o2 ⊢
  clear hn2
  have H5 : Hid (Blk q1 w.heap.size 27 #[.int .i64 2, .int .i64 tk, .int .i64 ss, .int .i64 nb, .int .i64 mk, .slice ao n cp] ∧ w.grownBy q1 none ∧ Own q1 (w.heap.size + 1) (.slice x2 n2 y2) F2) := by
    have ga := World.grownBy_alloc p1 (.cells #[(.slice x1 n1 y1), .slice s1 (Wire.numForm (Wire.foldZ nb)).length t1] 32) none
    exact ⟨(H4.out.1.grown ga (by simp)).grown g2 (by simp), grown_trans (grown_trans H4.out.2.1 ga) g2, Own.mono o2 (by have := H4.out.2.2.2.2; have := ga.size; omega)⟩
  clear o2 g2 H4
  have H3 := H5
  clear H5
  go_wp2_with fail
  rw [rounds_succ]
  have a2 := H3.out.1.cell 4
  simp at a2
  go_wp2_with fail
  refine (Wire.signed13 mk HL.out.2.m0 HL.out.2.m1 _).mono ?_
  rintro e p2 ⟨r2, rfl, or2, gr2⟩
  obtain ⟨s2, t2, er2⟩ := or2.seg.shape
  subst er2
  have H4 : Hid (Blk p2 w.heap.size 27 #[.int .i64 2, .int .i64 tk, .int .i64 ss, .int .i64 nb, .int .i64 mk, .slice ao n cp] ∧ w.grownBy p2 none ∧ Seg p2 (.slice x2 n2 y2) F2 ∧ Seg p2 (.slice s2 (Wire.numForm (Wire.foldZ mk)).length t2) (sgn mk) ∧ w.heap.size + 1 ≤ p2.heap.size) := ⟨H3.out.1.grown gr2 (by simp), grown_trans H3.out.2.1 gr2, H3.out.2.2.seg.grown gr2, or2.seg, by have := gr2.size; have := H3.out.1.lt; omega⟩
  clear or2 gr2 H3 a2
  go_wp2_with fail
  refine (Wire.join10 _ [F2, sgn mk] _ (Wire.segs_two H4.out.2.2.1 H4.out.2.2.2.1) ?_).mono ?_
  · have h1 := B2.out.1
    have h2 : (sgn mk).length ≤ 10 := sgn_len HL.out.2.m0 HL.out.2.m1
    simp; omega
  rintro e q2 ⟨u3, rfl, o3, g3⟩
  obtain ⟨x3, y3, e3⟩ := o3.seg.shape
  subst e3
  have hfl : [F2, sgn mk].flatten = F2 ++ sgn mk := by simp
  rw [hfl] at o3 ⊢
  clear hfl
  obtain ⟨F3, hF3⟩ : ∃ F, F2 ++ sgn mk = F := ⟨_, rfl⟩
  rw [hF3] at o3 ⊢
  have B3 : Hid (F3.length ≤ 40 ∧ F2 ++ sgn mk = F3) := ⟨by
    have h1 := B2.out.1
    have h2 : (sgn mk).length ≤ 10 := sgn_len HL.out.2.m0 HL.out.2.m1
    rw [← hF3, List.length_append]; omega, hF3⟩
  clear hF3
  obtain ⟨n3, hn3⟩ : ∃ n, F3.length = n := ⟨_, rfl⟩
  rw [hn3] at o3 ⊢
  clear hn3
  have H5 : Hid (Blk q2 w.heap.size 27 #[.int .i64 2, .int .i64 tk, .int .i64 ss, .int .i64 nb, .int .i64 mk, .slice ao n cp] ∧ w.grownBy q2 none ∧ Own q2 (w.heap.size + 1) (.slice x3 n3 y3) F3) := by
    have ga := World.grownBy_alloc p2 (.cells #[(.slice x2 n2 y2), .slice s2 (Wire.numForm (Wire.foldZ mk)).length t2] 32) none
    exact ⟨(H4.out.1.grown ga (by simp)).grown g3 (by simp), grown_trans (grown_trans H4.out.2.1 ga) g3, Own.mono o3 (by have := H4.out.2.2.2.2; have := ga.size; omega)⟩
  clear o3 g3 H4
  have H3 := H5
  clear H5
  go_wp2_with fail
  rw [rounds_succ]
  have a9 := H3.out.1.cell 0
  have a8 := H3.out.1.cell 5
  simp at a9 a8
  go_wp2_with fail
  refine (bytes13 (.slice ao n cp) l q2 (HL.out.1.grown H3.out.2.1)).mono ?_
  rintro e v1 ⟨r9, rfl, o9, g9⟩
  by_cases hc : chk l = 0
  · rw [if_pos hc] at o9
    rw [hc]
    obtain ⟨s9, t9, e9⟩ := o9.seg.shape
    subst e9
    have hlen : (callForm l).length ≤ 4096 := (chk0 hc).2
    have H6 : Hid (w.grownBy v1 none ∧ Seg v1 (.slice x3 n3 y3) F3 ∧ Seg v1 (.slice s9 (callForm l).length t9) (callForm l) ∧ chk l = 0 ∧ w.heap.size + 1 ≤ v1.heap.size) := ⟨grown_trans H3.out.2.1 g9, H3.out.2.2.seg.grown g9, o9.seg, hc, by have := g9.size; have := H3.out.1.lt; omega⟩
    clear o9 g9 H3 hc a9 a8
    obtain ⟨CF, hCF⟩ : ∃ F, callForm l = F := ⟨_, rfl⟩
    rw [hCF] at H6 hlen ⊢
    have BC : Hid (callForm l = CF ∧ CF.length ≤ 4096) := ⟨hCF, hlen⟩
    clear hCF hlen
    obtain ⟨nc, hnc⟩ : ∃ n, CF.length = n := ⟨_, rfl⟩
    rw [hnc] at H6 ⊢
    clear hnc
    go_wp2_with fail
    refine (Wire.bytes8 (.slice s9 nc t9) CF v1 H6.out.2.2.1 (by have := BC.out.2; omega)).mono ?_
    rintro e v2 ⟨r7, rfl, o7, g7⟩
    obtain ⟨s7, t7, e7⟩ := o7.seg.shape
    subst e7
    have H7 : Hid (w.grownBy v2 none ∧ Seg v2 (.slice x3 n3 y3) F3 ∧ Seg v2 (.slice s7 (Wire.bytesForm CF).length t7) (bytesForm CF) ∧ chk l = 0 ∧ w.heap.size + 1 ≤ v2.heap.size) := ⟨grown_trans H6.out.1 g7, H6.out.2.1.grown g7, o7.seg, H6.out.2.2.2.1, by have := g7.size; have := H6.out.2.2.2.2; omega⟩
    have bl : Hid ((bytesForm CF).length ≤ 4106) := by
      have h1 := BC.out.2
      have h2 := Wire.numForm_len10 CF.length (by omega)
      unfold Hid bytesForm
      rw [List.length_append]; omega
    clear o7 g7 H6
    go_wp2_with fail
    refine (Wire.join10 _ [F3, bytesForm CF] _ (Wire.segs_two H7.out.2.1 H7.out.2.2.1) ?_).mono ?_
    · have h1 := B3.out.1
      have h2 := bl.out
      simp; omega
    rintro e v3 ⟨r6, rfl, o6, g6⟩
    have hfl : [F3, bytesForm CF].flatten = F3 ++ bytesForm CF := by simp
    rw [hfl] at o6
    have ga := World.grownBy_alloc v2 (.cells #[(.slice x3 n3 y3), .slice s7 (Wire.bytesForm CF).length t7] 32) none
    have H8 : Hid (Own v3 w.heap.size r6 (F3 ++ bytesForm CF) ∧ w.grownBy v3 none) := ⟨Own.mono o6 (by have := H7.out.2.2.2.2; have := ga.size; omega), grown_trans (grown_trans H7.out.1 ga) g6⟩
    clear o6 g6 ga hfl
    go_wp2_with fail
    go_ret2
    have hok : okC (⟨2, tk, ss, nb, mk, l⟩ : PCmd) = true := by unfold okC; rw [HF.out]; simp [H7.out.2.2.2.1]
    refine ⟨_, by rw [chkC, if_pos hok]; rfl, ?_, H8.out.2⟩
    rw [if_pos hok]
    have hE : formC (⟨2, tk, ss, nb, mk, l⟩ : PCmd) = F3 ++ bytesForm CF := by
      rw [← BC.out.1]
      rw [← B3.out.2, ← B2.out.2, ← B1.out.2, ← B0.out.2]
      simp [formC, frontC, headC, numsC]
    rw [hE]
    exact H8.out.1
  · have hno : okC (⟨2, tk, ss, nb, mk, l⟩ : PCmd) = false := by unfold okC; rw [HF.out]; simp [hc]
    have qc : (chk l == 0) = false := by simp [hc]
    have qd : (chk l = 0) = False := by simp [hc]
    have H6 : Hid (w.grownBy v1 none ∧ okC (⟨2, tk, ss, nb, mk, l⟩ : PCmd) = false) := ⟨grown_trans H3.out.2.1 g9, hno⟩
    obtain ⟨s9, t9, e9⟩ := o9.seg.shape
    subst e9
    clear o9 g9 H3 hno hc
    go_wp2_with fail
    go_ret2
    refine ⟨_, by rw [chkC, if_neg (by rw [H6.out.2]; decide)]; rfl, ?_, H6.out.1⟩
    rw [if_neg (by rw [H6.out.2]; decide)]
    exact Own.nil _ _

set_option maxRecDepth 100000 in
set_option maxHeartbeats 8000000 in
theorem bytes10_3 (ao : Option Addr) (n cp : Nat) (tk ss nb mk : Int) (l : List POp) (w : World) (hl : Ops w (.slice ao n cp) l) (hI : InC (⟨3, tk, ss, nb, mk, l⟩ : PCmd)) (hf : fitC (⟨3, tk, ss, nb, mk, l⟩ : PCmd) = true) : Calls Tryz.prog 10 #[cmdV (.slice ao n cp) (⟨3, tk, ss, nb, mk, l⟩ : PCmd)] w (BytesC (⟨3, tk, ss, nb, mk, l⟩ : PCmd) w) := by
  have HL : Hid (Ops w (.slice ao n cp) l ∧ InC (⟨3, tk, ss, nb, mk, l⟩ : PCmd)) := ⟨hl, hI⟩
  clear hl hI
  simp only [cmdV]
  have i0 := ix0
  have i1 := ix1
  have i2 := ix2
  go_enter Tryz.func10, Tryz.ntmps10
  go_wp2_with fail
  obtain ⟨W, hW, HW⟩ := al1 w #[.int .i64 3, .int .i64 tk, .int .i64 ss, .int .i64 nb, .int .i64 mk, .slice ao n cp] 27
  rw [hW]
  clear hW
  refine (fits28 (.slice ao n cp) (⟨3, tk, ss, nb, mk, l⟩ : PCmd) W (HL.out.1.grown HW.out.2.1)).mono ?_
  rintro e w1 ⟨rfl, gg1⟩
  rw [hf]
  have H1 : Hid (Blk w1 w.heap.size 27 #[.int .i64 3, .int .i64 tk, .int .i64 ss, .int .i64 nb, .int .i64 mk, .slice ao n cp] ∧ w.grownBy w1 none ∧ w.heap.size < w1.heap.size) := ⟨HW.out.1.grown gg1 (by simp), grown_trans HW.out.2.1 gg1, by have := gg1.size; have := HW.out.2.2; omega⟩
  clear gg1 HW
  have HF : Hid (fitC (⟨3, tk, ss, nb, mk, l⟩ : PCmd) = true) := hf
  clear hf
  have c0 := H1.out.1.cell 0
  simp at c0
  go_wp2_with fail
  refine (Wire.number9_int _ 3 rfl (by decide) _).mono ?_
  rintro e w2 ⟨u0, rfl, o0, gg2⟩
  obtain ⟨x0, y0, e0⟩ := o0.seg.shape
  subst e0
  have H2 : Hid (Blk w2 w.heap.size 27 #[.int .i64 3, .int .i64 tk, .int .i64 ss, .int .i64 nb, .int .i64 mk, .slice ao n cp] ∧ w.grownBy w2 none ∧ Own w2 (w.heap.size + 1) (.slice x0 (Wire.numForm 3).length y0) (Wire.numForm 3)) := ⟨H1.out.1.grown gg2 (by simp), grown_trans H1.out.2.1 gg2, Own.mono o0 H1.out.2.2⟩
  clear gg2 o0 H1 c0
  obtain ⟨F0, hF0⟩ : ∃ F, Wire.numForm 3 = F := ⟨_, rfl⟩
  have B0 : Hid (F0.length ≤ 10 ∧ Wire.numForm 3 = F0) := ⟨by rw [← hF0]; exact Wire.numForm_len10 _ (by decide), hF0⟩
  rw [hF0] at H2 ⊢
  clear hF0
  obtain ⟨n0, hn0⟩ : ∃ n, F0.length = n := ⟨_, rfl⟩
  rw [hn0] at H2 ⊢
  have N0 : Hid (F0.length = n0) := hn0
  clear hn0
  go_wp2_with fail
  refine (numbers30_3 w.heap.size (.slice ao n cp) (⟨3, tk, ss, nb, mk, l⟩ : PCmd) w2 H2.out.1 rfl).mono ?_
  rintro e w3 ⟨rfl, gg3⟩
  have H3 : Hid (Blk w3 w.heap.size 27 #[.int .i64 3, .int .i64 tk, .int .i64 ss, .int .i64 nb, .int .i64 mk, .slice ao n cp] ∧ w.grownBy w3 none ∧ Own w3 (w.heap.size + 1) (.slice x0 n0 y0) F0) := ⟨H2.out.1.grown gg3 (by simp), grown_trans H2.out.2.1 gg3, H2.out.2.2.grown gg3⟩
  clear gg3 H2
  try unfold pt
  go_wp2_with fail
  refine wp_loop_rounds 4 ?_
  rw [rounds_succ]
  have a0 := H3.out.1.cell 2
  simp at a0
  go_wp2_with fail
  refine (Wire.signed13 ss HL.out.2.s0 HL.out.2.s1 _).mono ?_
  rintro e p0 ⟨r0, rfl, or0, gr0⟩
  obtain ⟨s0, t0, er0⟩ := or0.seg.shape
  subst er0
  have H4 : Hid (Blk p0 w.heap.size 27 #[.int .i64 3, .int .i64 tk, .int .i64 ss, .int .i64 nb, .int .i64 mk, .slice ao n cp] ∧ w.grownBy p0 none ∧ Seg p0 (.slice x0 n0 y0) F0 ∧ Seg p0 (.slice s0 (Wire.numForm (Wire.foldZ ss)).length t0) (sgn ss) ∧ w.heap.size + 1 ≤ p0.heap.size) := ⟨H3.out.1.grown gr0 (by simp), grown_trans H3.out.2.1 gr0, H3.out.2.2.seg.grown gr0, or0.seg, by have := gr0.size; have := H3.out.1.lt; omega⟩
  clear or0 gr0 H3 a0
  go_wp2_with fail
  refine (Wire.join10 _ [F0, sgn ss] _ (Wire.segs_two H4.out.2.2.1 H4.out.2.2.2.1) ?_).mono ?_
  · have h1 := B0.out.1
    have h2 : (sgn ss).length ≤ 10 := sgn_len HL.out.2.s0 HL.out.2.s1
    simp; omega
  rintro e q0 ⟨u1, rfl, o1, g1⟩
  obtain ⟨x1, y1, e1⟩ := o1.seg.shape
  subst e1
  have hfl : [F0, sgn ss].flatten = F0 ++ sgn ss := by simp
  rw [hfl] at o1 ⊢
  clear hfl
  obtain ⟨F1, hF1⟩ : ∃ F, F0 ++ sgn ss = F := ⟨_, rfl⟩
  rw [hF1] at o1 ⊢
  have B1 : Hid (F1.length ≤ 20 ∧ F0 ++ sgn ss = F1) := ⟨by
    have h1 := B0.out.1
    have h2 : (sgn ss).length ≤ 10 := sgn_len HL.out.2.s0 HL.out.2.s1
    rw [← hF1, List.length_append]; omega, hF1⟩
  clear hF1
  obtain ⟨n1, hn1⟩ : ∃ n, F1.length = n := ⟨_, rfl⟩
  rw [hn1] at o1 ⊢
  clear hn1
  have H5 : Hid (Blk q0 w.heap.size 27 #[.int .i64 3, .int .i64 tk, .int .i64 ss, .int .i64 nb, .int .i64 mk, .slice ao n cp] ∧ w.grownBy q0 none ∧ Own q0 (w.heap.size + 1) (.slice x1 n1 y1) F1) := by
    have ga := World.grownBy_alloc p0 (.cells #[(.slice x0 n0 y0), .slice s0 (Wire.numForm (Wire.foldZ ss)).length t0] 32) none
    exact ⟨(H4.out.1.grown ga (by simp)).grown g1 (by simp), grown_trans (grown_trans H4.out.2.1 ga) g1, Own.mono o1 (by have := H4.out.2.2.2.2; have := ga.size; omega)⟩
  clear o1 g1 H4
  have H3 := H5
  clear H5
  go_wp2_with fail
  rw [rounds_succ]
  go_wp2_with fail
  rw [rounds_succ]
  go_wp2_with fail
  rw [rounds_succ]
  have a9 := H3.out.1.cell 0
  have a8 := H3.out.1.cell 5
  simp at a9 a8
  go_wp2_with fail
  go_ret2
  have hok : okC (⟨3, tk, ss, nb, mk, l⟩ : PCmd) = true := by unfold okC; rw [HF.out]; simp
  refine ⟨_, by rw [chkC, if_pos hok]; rfl, ?_, H3.out.2.1⟩
  rw [if_pos hok]
  have hE : formC (⟨3, tk, ss, nb, mk, l⟩ : PCmd) = F1 := by
    rw [← B1.out.2, ← B0.out.2]
    simp [formC, frontC, headC, numsC]
  rw [hE]
  exact Own.mono H3.out.2.2 (by omega)

set_option maxRecDepth 100000 in
set_option maxHeartbeats 8000000 in
theorem bytes10_4 (ao : Option Addr) (n cp : Nat) (tk ss nb mk : Int) (l : List POp) (w : World) (hl : Ops w (.slice ao n cp) l) (hI : InC (⟨4, tk, ss, nb, mk, l⟩ : PCmd)) (hf : fitC (⟨4, tk, ss, nb, mk, l⟩ : PCmd) = true) : Calls Tryz.prog 10 #[cmdV (.slice ao n cp) (⟨4, tk, ss, nb, mk, l⟩ : PCmd)] w (BytesC (⟨4, tk, ss, nb, mk, l⟩ : PCmd) w) := by
  have HL : Hid (Ops w (.slice ao n cp) l ∧ InC (⟨4, tk, ss, nb, mk, l⟩ : PCmd)) := ⟨hl, hI⟩
  clear hl hI
  simp only [cmdV]
  have i0 := ix0
  have i1 := ix1
  have i2 := ix2
  go_enter Tryz.func10, Tryz.ntmps10
  go_wp2_with fail
  obtain ⟨W, hW, HW⟩ := al1 w #[.int .i64 4, .int .i64 tk, .int .i64 ss, .int .i64 nb, .int .i64 mk, .slice ao n cp] 27
  rw [hW]
  clear hW
  refine (fits28 (.slice ao n cp) (⟨4, tk, ss, nb, mk, l⟩ : PCmd) W (HL.out.1.grown HW.out.2.1)).mono ?_
  rintro e w1 ⟨rfl, gg1⟩
  rw [hf]
  have H1 : Hid (Blk w1 w.heap.size 27 #[.int .i64 4, .int .i64 tk, .int .i64 ss, .int .i64 nb, .int .i64 mk, .slice ao n cp] ∧ w.grownBy w1 none ∧ w.heap.size < w1.heap.size) := ⟨HW.out.1.grown gg1 (by simp), grown_trans HW.out.2.1 gg1, by have := gg1.size; have := HW.out.2.2; omega⟩
  clear gg1 HW
  have HF : Hid (fitC (⟨4, tk, ss, nb, mk, l⟩ : PCmd) = true) := hf
  clear hf
  have c0 := H1.out.1.cell 0
  simp at c0
  go_wp2_with fail
  refine (Wire.number9_int _ 4 rfl (by decide) _).mono ?_
  rintro e w2 ⟨u0, rfl, o0, gg2⟩
  obtain ⟨x0, y0, e0⟩ := o0.seg.shape
  subst e0
  have H2 : Hid (Blk w2 w.heap.size 27 #[.int .i64 4, .int .i64 tk, .int .i64 ss, .int .i64 nb, .int .i64 mk, .slice ao n cp] ∧ w.grownBy w2 none ∧ Own w2 (w.heap.size + 1) (.slice x0 (Wire.numForm 4).length y0) (Wire.numForm 4)) := ⟨H1.out.1.grown gg2 (by simp), grown_trans H1.out.2.1 gg2, Own.mono o0 H1.out.2.2⟩
  clear gg2 o0 H1 c0
  obtain ⟨F0, hF0⟩ : ∃ F, Wire.numForm 4 = F := ⟨_, rfl⟩
  have B0 : Hid (F0.length ≤ 10 ∧ Wire.numForm 4 = F0) := ⟨by rw [← hF0]; exact Wire.numForm_len10 _ (by decide), hF0⟩
  rw [hF0] at H2 ⊢
  clear hF0
  obtain ⟨n0, hn0⟩ : ∃ n, F0.length = n := ⟨_, rfl⟩
  rw [hn0] at H2 ⊢
  have N0 : Hid (F0.length = n0) := hn0
  clear hn0
  go_wp2_with fail
  refine (numbers30_4 w.heap.size (.slice ao n cp) (⟨4, tk, ss, nb, mk, l⟩ : PCmd) w2 H2.out.1 rfl).mono ?_
  rintro e w3 ⟨rfl, gg3⟩
  have H3 : Hid (Blk w3 w.heap.size 27 #[.int .i64 4, .int .i64 tk, .int .i64 ss, .int .i64 nb, .int .i64 mk, .slice ao n cp] ∧ w.grownBy w3 none ∧ Own w3 (w.heap.size + 1) (.slice x0 n0 y0) F0) := ⟨H2.out.1.grown gg3 (by simp), grown_trans H2.out.2.1 gg3, H2.out.2.2.grown gg3⟩
  clear gg3 H2
  try unfold pt
  go_wp2_with fail
  refine wp_loop_rounds 4 ?_
  rw [rounds_succ]
  have a0 := H3.out.1.cell 2
  simp at a0
  go_wp2_with fail
  refine (Wire.signed13 ss HL.out.2.s0 HL.out.2.s1 _).mono ?_
  rintro e p0 ⟨r0, rfl, or0, gr0⟩
  obtain ⟨s0, t0, er0⟩ := or0.seg.shape
  subst er0
  have H4 : Hid (Blk p0 w.heap.size 27 #[.int .i64 4, .int .i64 tk, .int .i64 ss, .int .i64 nb, .int .i64 mk, .slice ao n cp] ∧ w.grownBy p0 none ∧ Seg p0 (.slice x0 n0 y0) F0 ∧ Seg p0 (.slice s0 (Wire.numForm (Wire.foldZ ss)).length t0) (sgn ss) ∧ w.heap.size + 1 ≤ p0.heap.size) := ⟨H3.out.1.grown gr0 (by simp), grown_trans H3.out.2.1 gr0, H3.out.2.2.seg.grown gr0, or0.seg, by have := gr0.size; have := H3.out.1.lt; omega⟩
  clear or0 gr0 H3 a0
  go_wp2_with fail
  refine (Wire.join10 _ [F0, sgn ss] _ (Wire.segs_two H4.out.2.2.1 H4.out.2.2.2.1) ?_).mono ?_
  · have h1 := B0.out.1
    have h2 : (sgn ss).length ≤ 10 := sgn_len HL.out.2.s0 HL.out.2.s1
    simp; omega
  rintro e q0 ⟨u1, rfl, o1, g1⟩
  obtain ⟨x1, y1, e1⟩ := o1.seg.shape
  subst e1
  have hfl : [F0, sgn ss].flatten = F0 ++ sgn ss := by simp
  rw [hfl] at o1 ⊢
  clear hfl
  obtain ⟨F1, hF1⟩ : ∃ F, F0 ++ sgn ss = F := ⟨_, rfl⟩
  rw [hF1] at o1 ⊢
  have B1 : Hid (F1.length ≤ 20 ∧ F0 ++ sgn ss = F1) := ⟨by
    have h1 := B0.out.1
    have h2 : (sgn ss).length ≤ 10 := sgn_len HL.out.2.s0 HL.out.2.s1
    rw [← hF1, List.length_append]; omega, hF1⟩
  clear hF1
  obtain ⟨n1, hn1⟩ : ∃ n, F1.length = n := ⟨_, rfl⟩
  rw [hn1] at o1 ⊢
  clear hn1
  have H5 : Hid (Blk q0 w.heap.size 27 #[.int .i64 4, .int .i64 tk, .int .i64 ss, .int .i64 nb, .int .i64 mk, .slice ao n cp] ∧ w.grownBy q0 none ∧ Own q0 (w.heap.size + 1) (.slice x1 n1 y1) F1) := by
    have ga := World.grownBy_alloc p0 (.cells #[(.slice x0 n0 y0), .slice s0 (Wire.numForm (Wire.foldZ ss)).length t0] 32) none
    exact ⟨(H4.out.1.grown ga (by simp)).grown g1 (by simp), grown_trans (grown_trans H4.out.2.1 ga) g1, Own.mono o1 (by have := H4.out.2.2.2.2; have := ga.size; omega)⟩
  clear o1 g1 H4
  have H3 := H5
  clear H5
  go_wp2_with fail
  rw [rounds_succ]
  go_wp2_with fail
  rw [rounds_succ]
  go_wp2_with fail
  rw [rounds_succ]
  have a9 := H3.out.1.cell 0
  have a8 := H3.out.1.cell 5
  simp at a9 a8
  go_wp2_with fail
  go_ret2
  have hok : okC (⟨4, tk, ss, nb, mk, l⟩ : PCmd) = true := by unfold okC; rw [HF.out]; simp
  refine ⟨_, by rw [chkC, if_pos hok]; rfl, ?_, H3.out.2.1⟩
  rw [if_pos hok]
  have hE : formC (⟨4, tk, ss, nb, mk, l⟩ : PCmd) = F1 := by
    rw [← B1.out.2, ← B0.out.2]
    simp [formC, frontC, headC, numsC]
  rw [hE]
  exact Own.mono H3.out.2.2 (by omega)

theorem bytes10 (ov : Value) (c : PCmd) (w : World) (h : Ops w ov c.ops) (hI : InC c) : Calls Tryz.prog 10 #[cmdV ov c] w (BytesC c w) := by
  by_cases hf : fitC c = true
  · have hk := fitC_kind hf
    obtain ⟨ao, n, cp, rfl, _⟩ := ops_open h
    obtain ⟨k, tk, ss, nb, mk, l⟩ := c
    simp only at hk
    rcases (show k = 1 ∨ k = 2 ∨ k = 3 ∨ k = 4 by omega) with rfl | rfl | rfl | rfl
    · exact bytes10_1 ao n cp tk ss nb mk l w h hI hf
    · exact bytes10_2 ao n cp tk ss nb mk l w h hI hf
    · exact bytes10_3 ao n cp tk ss nb mk l w h hI hf
    · exact bytes10_4 ao n cp tk ss nb mk l w h hI hf
  · have hf' : fitC c = false := by simpa using hf
    have hno : okC c = false := by unfold okC; rw [hf']; rfl
    refine (bytes10_no ov c w h hf').mono ?_
    rintro e w' ⟨u, rfl, o, g⟩
    refine ⟨u, by rw [chkC, if_neg (by rw [hno]; decide)], ?_, g⟩
    rw [if_neg (by rw [hno]; decide)]
    exact o

set_option maxRecDepth 100000 in
set_option maxHeartbeats 4000000 in
theorem check13 (ov : Value) (c : PCmd) (w : World) (h : Ops w ov c.ops) (hI : InC c) : Calls Tryz.prog 13 #[cmdV ov c] w fun e w' => e = .returned (.int .i64 (chkC c)) ∧ w.grownBy w' none := by
  obtain ⟨ao, n, cp, rfl, _, _, HL⟩ := ops_open h
  have HI : Hid (InC c) := hI
  clear h hI
  unfold cmdV
  go_enter Tryz.func13, Tryz.ntmps13
  go_wp2_with fail
  obtain ⟨W, hW, HW⟩ := al1 w (cmdA (.slice ao n cp) c) 27
  unfold cmdA at hW
  rw [hW]
  clear hW
  refine (bytes10 (.slice ao n cp) c W (HL.out.grown HW.out.2.1) HI.out).mono ?_
  rintro e w1 ⟨u, rfl, o, g1⟩
  obtain ⟨x, y, e⟩ := o.seg.shape
  clear o
  generalize (if okC c = true then formC c else []).length = nl at e
  subst e
  have G : Hid (w.grownBy w1 none) := grown_trans HW.out.2.1 g1
  clear g1 HW
  go_wp2_with fail
  go_ret
  exact ⟨rfl, G.out⟩

theorem check13_at (ov : Value) (c : PCmd) (w : World) (k : Int) (hk : c.kind = k) (h : Ops w ov c.ops) (hI : InC c) : Calls Tryz.prog 13 #[.agg #[.int .i64 k, .int .i64 c.token, .int .i64 c.session, .int .i64 c.number, .int .i64 c.mark, ov]] w fun e w' => e = .returned (.int .i64 (chkC c)) ∧ w.grownBy w' none := by
  subst hk
  exact check13 ov c w h hI

/-- What Changes answers. -/
def chgC (c : PCmd) : Bool := decide (c.kind = 2) && okC c && !rds c.ops
set_option maxRecDepth 100000 in
set_option maxHeartbeats 4000000 in
theorem changes14 (ov : Value) (c : PCmd) (w : World) (h : Ops w ov c.ops) (hI : InC c) : Calls Tryz.prog 14 #[cmdV ov c] w fun e w' => e = .returned (.bool (chgC c)) ∧ w.grownBy w' none := by
  obtain ⟨ao, n, cp, rfl, _, _, HL⟩ := ops_open h
  have HI : Hid (InC c) := hI
  clear h hI
  unfold cmdV
  by_cases hk : c.kind = 2
  · have HK : Hid (c.kind = 2) := hk
    rw [hk]
    clear hk
    by_cases ho : okC c = true
    · have HO : Hid (okC c = true) := ho
      clear ho
      go_enter Tryz.func14, Tryz.ntmps14
      go_wp2_with fail
      obtain ⟨W, hW, HW⟩ := al1 w #[.int .i64 2, .int .i64 c.token, .int .i64 c.session, .int .i64 c.number, .int .i64 c.mark, .slice ao n cp] 27
      rw [hW]
      clear hW
      refine (check13_at (.slice ao n cp) c W 2 HK.out (HL.out.grown HW.out.2.1) HI.out).mono ?_
      rintro e w1 ⟨rfl, g1⟩
      rw [show chkC c = 0 by rw [chkC, if_pos HO.out]]
      have H1 : Hid (w1.cell? ⟨w.heap.size, 5, none⟩ = some (.slice ao n cp) ∧ w.grownBy w1 none) := ⟨(HW.out.1.grown g1 (by simp)).cell 5, grown_trans HW.out.2.1 g1⟩
      have c5 := H1.out.1
      clear g1 HW
      go_wp2_with fail
      refine (reads17 (.slice ao n cp) c.ops w1 (HL.out.grown H1.out.2)).mono ?_
      rintro e w2 ⟨rfl, g2'⟩
      have G : Hid (w.grownBy w2 none) := grown_trans H1.out.2 g2'
      clear g2' H1 c5
      go_wp2_with fail
      go_ret
      refine ⟨?_, G.out⟩
      simp [chgC, HK.out, HO.out]
    · have HO : Hid (okC c = false) := by simpa [Hid] using ho
      clear ho
      go_enter Tryz.func14, Tryz.ntmps14
      go_wp2_with fail
      obtain ⟨W, hW, HW⟩ := al1 w #[.int .i64 2, .int .i64 c.token, .int .i64 c.session, .int .i64 c.number, .int .i64 c.mark, .slice ao n cp] 27
      rw [hW]
      clear hW
      refine (check13_at (.slice ao n cp) c W 2 HK.out (HL.out.grown HW.out.2.1) HI.out).mono ?_
      rintro e w1 ⟨rfl, g1⟩
      rw [show chkC c = 2 by rw [chkC, if_neg (by rw [HO.out]; decide)]]
      have G : Hid (w.grownBy w1 none) := grown_trans HW.out.2.1 g1
      clear g1 HW
      go_wp2_with fail
      go_ret
      refine ⟨?_, G.out⟩
      simp [chgC, HO.out]
  · have q : (c.kind == 2) = false := by simp [hk]
    have HK : Hid (¬ c.kind = 2) := hk
    clear hk
    go_enter Tryz.func14, Tryz.ntmps14
    go_wp2_with fail
    go_ret
    refine ⟨?_, World.grownBy_alloc _ _ _⟩
    simp [chgC, HK.out]
end Go.Proofs.YtgjcpjckaopeeaaGreatDoor
