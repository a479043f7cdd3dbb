/-
  Databases that are not there: Do, Look, Try, Same, Tables, All.
-/
import Derived.Test.YtakmlhhapegpoaaGreatMv
import Derived.Test.YtakmlhhapegpoaaGreatMw
import Derived.Test.YtakmlhhapegpoaaGreatShelg
namespace Go.Proofs.YtakmlhhapegpoaaGreat
open Go.RowKit Disk Table
open Names (Str cmpL keyB valueB tabB)
open _root_.Go.Proofs.YtakmlhhapegpoaaGreat.Calls (POp POut PRes opV OpSeg mayOp Ops OpAt ops_at ops_open chk rds mayCall)

set_option maxRecDepth 100000 in
set_option maxHeartbeats 4000000 in
theorem try34_no (ev v : Value) (l : List POp) (w : World) (hb : NoEng w ev) (hv : Ops w v l) : Calls Tryz.prog 34 #[ev, .agg #[v]] w fun e w' => e = .returned (.tuple #[.pointer none, resV3 0 0 (.slice none 0 0), .int .i64 1]) ∧ w.grownBy w' none := by
  obtain ⟨ao, n, cap, rfl, hn, hn2, HV⟩ := ops_open hv
  have HH : Hid (NoEng w ev) := hb
  clear hv hb hn hn2
  go_enter Tryz.func34, Tryz.ntmps34
  go_wp2_with fail
  obtain ⟨w1, hw1, H1⟩ := al w #[.slice ao n cap] 37
  rw [hw1]
  clear hw1
  obtain ⟨w2, hw2, H2⟩ := al w1 #[.int .i64 0, .int .i64 0, .slice none 0 0] 49
  rw [hw2]
  clear hw2
  have s1 := H1.out.2.2
  obtain ⟨rb, hrb⟩ : ∃ rb, w.heap.size + 1 = rb := ⟨_, rfl⟩
  have HB : Hid (w.grownBy w2 none ∧ Blk w2 rb 49 #[.int .i64 0, .int .i64 0, .slice none 0 0] ∧ Blk w2 w.heap.size 37 #[.slice ao n cap] ∧ w.heap.size < rb) := ⟨grown_trans H1.out.2.1 H2.out.2.1, by rw [← hrb, ← s1]; exact H2.out.1, H1.out.1.grown H2.out.2.1 (by simp), by omega⟩
  rw [hrb]
  clear H1 H2 s1 hrb
  have c0 := HB.out.2.2.1.cell 0
  simp at c0
  go_wp2_with fail
  refine (refuses57_no ev (.slice ao n cap) l w2 (HH.out.grown HB.out.1) (HV.out.grown HB.out.1)).mono ?_
  rintro e w3 ⟨rfl, g3⟩
  have G3 : Hid (w.grownBy w3 none ∧ Blk w3 rb 49 #[.int .i64 0, .int .i64 0, .slice none 0 0]) := ⟨grown_trans HB.out.1 g3, HB.out.2.1.grown g3 (by simp)⟩
  clear g3
  have hr := G3.out.2
  have f0 := hr.free 0
  have f1 := hr.free 1
  have f2 := hr.free 2
  have v0 := hr.cell 0
  have v1 := hr.cell 1
  have v2 := hr.cell 2
  simp at v0 v1 v2
  clear hr
  go_wp2_with fail
  refine bodyPost_ret (v := _) (res34 rfl rfl rfl (((G3.out.2.store 0 (.int .i64 0)).store 1 (.int .i64 0)).store 2 (.slice none 0 0))) rfl ?_
  exact ⟨rfl, grown_s3 G3.out.1 (by have := HB.out.2.2.2; omega)⟩
set_option maxRecDepth 100000 in
set_option maxHeartbeats 4000000 in
theorem do17_no (ev v : Value) (l : List POp) (w : World) (hb : NoEng w ev) (hv : Ops w v l) : Calls Tryz.prog 17 #[ev, .agg #[v]] w fun e w' => e = .returned (.tuple #[resV3 0 0 (.slice none 0 0), .int .i64 1]) ∧ w.grownBy w' none := by
  obtain ⟨ao, n, cap, rfl, hn, hn2, HV⟩ := ops_open hv
  have HH : Hid (NoEng w ev) := hb
  clear hv hb hn hn2
  go_enter Tryz.func17, Tryz.ntmps17
  go_wp2_with fail
  obtain ⟨w1, hw1, H1⟩ := al w #[.slice ao n cap] 37
  rw [hw1]
  clear hw1
  obtain ⟨w2, hw2, H2⟩ := al w1 #[.int .i64 0, .int .i64 0, .slice none 0 0] 49
  rw [hw2]
  clear hw2
  have s1 := H1.out.2.2
  obtain ⟨rb, hrb⟩ : ∃ rb, w.heap.size + 1 = rb := ⟨_, rfl⟩
  have HB : Hid (w.grownBy w2 none ∧ Blk w2 rb 49 #[.int .i64 0, .int .i64 0, .slice none 0 0] ∧ w.heap.size < rb) := ⟨grown_trans H1.out.2.1 H2.out.2.1, by rw [← hrb, ← s1]; exact H2.out.1, by omega⟩
  rw [hrb]
  clear H1 H2 s1 hrb
  refine (try34_no ev (.slice ao n cap) l w2 (HH.out.grown HB.out.1) (HV.out.grown HB.out.1)).mono ?_
  rintro e w3 ⟨rfl, g3⟩
  have H3 : Hid (w.grownBy w3 none ∧ Blk w3 rb 49 #[.int .i64 0, .int .i64 0, .slice none 0 0]) := ⟨grown_trans HB.out.1 g3, HB.out.2.1.grown g3 (by simp)⟩
  clear g3
  unfold resV3
  have hb5 : Blk (w3.alloc (.cells #[.int .i64 0, .int .i64 0, .slice none 0 0] 49)) rb 49 #[.int .i64 0, .int .i64 0, .slice none 0 0] := H3.out.2.grown (World.grownBy_alloc _ _ none) (by simp)
  have HB5 : Hid (Blk (w3.alloc (.cells #[.int .i64 0, .int .i64 0, .slice none 0 0] 49)) rb 49 #[.int .i64 0, .int .i64 0, .slice none 0 0]) := hb5
  have f0 := hb5.free 0
  have f1 := hb5.free 1
  have f2 := hb5.free 2
  have v0 := hb5.cell 0
  have v1 := hb5.cell 1
  have v2 := hb5.cell 2
  simp only [List.getElem?_toArray, List.getElem?_cons_zero, List.getElem?_cons_succ] at v0 v1 v2
  clear hb5
  go_wp2_with fail
  refine bodyPost_ret (v := _) (res17 rfl rfl (((HB5.out.store 0 (.int .i64 0)).store 1 (.int .i64 0)).store 2 (.slice none 0 0))) rfl ?_
  exact ⟨rfl, grown_s3 (grown_trans H3.out.1 (World.grownBy_alloc _ _ none)) (by have := HB.out.2.2; omega)⟩
set_option maxRecDepth 100000 in
set_option maxHeartbeats 4000000 in
theorem look26_no (ev v : Value) (l : List POp) (w : World) (hb : NoEng w ev) (hv : Ops w v l) : Calls Tryz.prog 26 #[ev, .agg #[v]] w fun e w' => e = .returned (.tuple #[resV3 0 0 (.slice none 0 0), .int .i64 1]) ∧ w.grownBy w' none := by
  obtain ⟨ao, n, cap, rfl, hn, hn2, HV⟩ := ops_open hv
  have HH : Hid (NoEng w ev) := hb
  clear hv hb hn hn2
  go_enter Tryz.func26, Tryz.ntmps26
  go_wp2_with fail
  obtain ⟨w1, hw1, H1⟩ := al w #[.slice ao n cap] 37
  rw [hw1]
  clear hw1
  obtain ⟨w2, hw2, H2⟩ := al w1 #[.int .i64 0, .int .i64 0, .slice none 0 0] 49
  rw [hw2]
  clear hw2
  have s1 := H1.out.2.2
  obtain ⟨rb, hrb⟩ : ∃ rb, w.heap.size + 1 = rb := ⟨_, rfl⟩
  have HB : Hid (w.grownBy w2 none ∧ Blk w2 rb 49 #[.int .i64 0, .int .i64 0, .slice none 0 0] ∧ Blk w2 w.heap.size 37 #[.slice ao n cap] ∧ w.heap.size < rb) := ⟨grown_trans H1.out.2.1 H2.out.2.1, by rw [← hrb, ← s1]; exact H2.out.1, H1.out.1.grown H2.out.2.1 (by simp), by omega⟩
  rw [hrb]
  clear H1 H2 s1 hrb
  have c0 := HB.out.2.2.1.cell 0
  simp at c0
  go_wp2_with fail
  refine (refuses57_no ev (.slice ao n cap) l w2 (HH.out.grown HB.out.1) (HV.out.grown HB.out.1)).mono ?_
  rintro e w3 ⟨rfl, g3⟩
  have G3 : Hid (w.grownBy w3 none ∧ Blk w3 rb 49 #[.int .i64 0, .int .i64 0, .slice none 0 0]) := ⟨grown_trans HB.out.1 g3, HB.out.2.1.grown g3 (by simp)⟩
  clear g3
  have hr := G3.out.2
  have f0 := hr.free 0
  have f1 := hr.free 1
  have f2 := hr.free 2
  have v0 := hr.cell 0
  have v1 := hr.cell 1
  have v2 := hr.cell 2
  simp at v0 v1 v2
  clear hr
  go_wp2_with fail
  refine bodyPost_ret (v := _) (res26 rfl rfl (((G3.out.2.store 0 (.int .i64 0)).store 1 (.int .i64 0)).store 2 (.slice none 0 0))) rfl ?_
  exact ⟨rfl, grown_s3 G3.out.1 (by have := HB.out.2.2.2; omega)⟩
set_option maxRecDepth 100000 in
set_option maxHeartbeats 4000000 in
theorem same13_nn (a b : Value) (w : World) (h1 : NoEng w a) (h2 : NoEng w b) : Calls Tryz.prog 13 #[a, b] w fun e w' => e = .returned (.bool true) ∧ w.grownBy w' none := by
  have HH : Hid (NoEng w a ∧ NoEng w b) := ⟨h1, h2⟩
  have hq := run_eqq (0, 0) (0, 0)
  rw [decide_eq_true rfl] at hq
  clear h1 h2
  go_enter Tryz.func13, Tryz.ntmps13
  go_wp2_with fail
  refine (quota38_no a w HH.out.1).mono ?_
  rintro e w1 ⟨rfl, g1⟩
  have G1 : Hid (w.grownBy w1 none) := g1
  clear g1
  go_wp2_with fail
  refine (quota38_no b w1 (HH.out.2.grown G1.out)).mono ?_
  rintro e w2 ⟨rfl, g2⟩
  have G2 : Hid (w.grownBy w2 none) := grown_trans G1.out g2
  clear g2
  unfold quoV
  go_wp2_with fail
  refine (byName42_no a w2 (HH.out.1.grown G2.out)).mono ?_
  rintro e w3 ⟨rfl, hw⟩
  rw [hw]
  clear hw
  go_wp2_with fail
  refine (byName42_no b w2 (HH.out.2.grown G2.out)).mono ?_
  rintro e w3 ⟨rfl, hw⟩
  rw [hw]
  clear hw
  go_wp2_with fail
  refine (equal41_no w2).mono ?_
  rintro e w3 ⟨rfl, g3⟩
  have G3 : Hid (w.grownBy w3 none) := grown_trans G2.out g3
  clear g3
  go_wp2_with fail
  go_ret
  exact ⟨rfl, G3.out⟩
set_option maxRecDepth 100000 in
set_option maxHeartbeats 4000000 in
theorem same13_ny (a : Value) (c m : Nat) (q : Int × Int) (hq0 : q ≠ (0, 0)) (w : World) (h1 : NoEng w a) (h2 : EngB w c q m) : Calls Tryz.prog 13 #[a, .pointer (some ⟨c, 0, none⟩)] w fun e w' => e = .returned (.bool false) ∧ w.grownBy w' none := by
  have HH : Hid (NoEng w a ∧ EngB w c q m) := ⟨h1, h2⟩
  have hq := run_eqq (0, 0) q
  rw [decide_eq_false (fun e => hq0 e.symm)] at hq
  clear h1 h2 hq0
  go_enter Tryz.func13, Tryz.ntmps13
  go_wp2_with fail
  refine (quota38_no a w HH.out.1).mono ?_
  rintro e w1 ⟨rfl, g1⟩
  have G1 : Hid (w.grownBy w1 none) := g1
  clear g1
  go_wp2_with fail
  refine (quota38 c m q w1 (Blk.grown HH.out.2 G1.out (by simp))).mono ?_
  rintro e w2 ⟨rfl, g2⟩
  have G2 : Hid (w.grownBy w2 none) := grown_trans G1.out g2
  clear g2
  unfold quoV
  go_wp2_with fail
  go_ret
  exact ⟨rfl, G2.out⟩
set_option maxRecDepth 100000 in
set_option maxHeartbeats 4000000 in
theorem same13_yn (a : Value) (c m : Nat) (q : Int × Int) (hq0 : q ≠ (0, 0)) (w : World) (h1 : NoEng w a) (h2 : EngB w c q m) : Calls Tryz.prog 13 #[.pointer (some ⟨c, 0, none⟩), a] w fun e w' => e = .returned (.bool false) ∧ w.grownBy w' none := by
  have HH : Hid (NoEng w a ∧ EngB w c q m) := ⟨h1, h2⟩
  have hq := run_eqq q (0, 0)
  rw [decide_eq_false hq0] at hq
  clear h1 h2 hq0
  go_enter Tryz.func13, Tryz.ntmps13
  go_wp2_with fail
  refine (quota38 c m q w HH.out.2).mono ?_
  rintro e w1 ⟨rfl, g1⟩
  have G1 : Hid (w.grownBy w1 none) := g1
  clear g1
  go_wp2_with fail
  refine (quota38_no a w1 (HH.out.1.grown G1.out)).mono ?_
  rintro e w2 ⟨rfl, g2⟩
  have G2 : Hid (w.grownBy w2 none) := grown_trans G1.out g2
  clear g2
  unfold quoV
  go_wp2_with fail
  go_ret
  exact ⟨rfl, G2.out⟩
end Go.Proofs.YtakmlhhapegpoaaGreat
