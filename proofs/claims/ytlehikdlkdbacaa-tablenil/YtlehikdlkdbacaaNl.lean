/-
  Tables that are not there: TableNil's walk.
-/
import Derived.Test.YtlehikdlkdbacaaGo
import Derived.Test.YtlehikdlkdbacaaG
namespace Go.Proofs.Ytlehikdlkdbacaa
open Go.RowKit Disk

set_option maxHeartbeats 4000000 in
theorem put17_no (v kv vv : Value) (l : List PRow) (w : World) (ht : Tl w v false l) : Calls Try.prog 17 #[v, kv, vv] w fun e w' => e = .returned (.tuple #[.bool false, .int .i64 1]) ∧ w' = w := by
  have HT : Hid (Tl w v false l) := ht
  clear ht
  go_enter Try.func17, Try.ntmps17
  go_wp2_with (go_at_call 34; refine (there34g _ false l w HT.out).mono ?_; rintro e w1 ⟨rfl, hw⟩; rw [hw]; clear hw)
  go_ret2
  exact ⟨rfl, rfl⟩
set_option maxHeartbeats 4000000 in
theorem get27_no (v kv : Value) (l : List PRow) (w : World) (ht : Tl w v false l) : Calls Try.prog 27 #[v, kv] w fun e w' => e = .returned (.tuple #[.slice none 0 0, .int .i64 1]) ∧ w' = w := by
  have HT : Hid (Tl w v false l) := ht
  clear ht
  go_enter Try.func27, Try.ntmps27
  go_wp2_with (go_at_call 34; refine (there34g _ false l w HT.out).mono ?_; rintro e w1 ⟨rfl, hw⟩; rw [hw]; clear hw)
  go_ret2
  exact ⟨rfl, rfl⟩
set_option maxHeartbeats 4000000 in
theorem delete19_no (v kv : Value) (l : List PRow) (w : World) (ht : Tl w v false l) : Calls Try.prog 19 #[v, kv] w fun e w' => e = .returned (.tuple #[.bool false, .int .i64 1]) ∧ w' = w := by
  have HT : Hid (Tl w v false l) := ht
  clear ht
  go_enter Try.func19, Try.ntmps19
  go_wp2_with (go_at_call 34; refine (there34g _ false l w HT.out).mono ?_; rintro e w1 ⟨rfl, hw⟩; rw [hw]; clear hw)
  go_ret2
  exact ⟨rfl, rfl⟩
set_option maxHeartbeats 4000000 in
set_option maxRecDepth 100000 in
theorem at26_no (v : Value) (i : Int) (l : List PRow) (w : World) (ht : Tl w v false l) : Calls Try.prog 26 #[v, .int .i64 i] w fun e w' => e = .returned (.tuple #[.agg #[.slice none 0 0, .slice none 0 0], .int .i64 1]) ∧ w.grownBy w' none := by
  have HT : Hid (Tl w v false l) := ht
  clear ht
  go_enter Try.func26, Try.ntmps26
  go_wp2_with fail
  obtain ⟨w1, hw1, H1⟩ := al w #[.slice none 0 0, .slice none 0 0] 45
  rw [hw1]
  clear hw1
  refine (there34g _ false l w1 (HT.out.grown H1.out.2.1)).mono ?_
  rintro e w2 ⟨rfl, hw⟩
  rw [hw]
  clear hw
  have f0 := H1.out.1.free 0
  have f1 := H1.out.1.free 1
  have q0 := H1.out.1.cell 0
  have q1 := H1.out.1.cell 1
  simp at q0 q1
  go_wp2_with fail
  obtain ⟨w3, hw3⟩ : ∃ w3, (w1.setCell ⟨w.heap.size, 0, none⟩ (.slice none 0 0)).setCell ⟨w.heap.size, 1, none⟩ (.slice none 0 0) = w3 := ⟨_, rfl⟩
  have H3 : Hid (Blk w3 w.heap.size 45 #[.slice none 0 0, .slice none 0 0] ∧ w.grownBy w3 none) := by
    rw [← hw3]
    exact ⟨(H1.out.1.store 0 _).store 1 _, grown_new H1.out.2.1 (grown_trans (grown_setCell _ _ _ _) (grown_setCell _ _ _ _)) (fun x hx => by simp at hx; omega)⟩
  rw [hw3]
  have q0 := H3.out.1.cell 0
  have q1 := H3.out.1.cell 1
  simp at q0 q1
  exact bodyPost_ret (v := .tuple #[.agg #[.slice none 0 0, .slice none 0 0], .int .i64 1]) (by simp [results, Try.results26, go_sem, q0, q1]) rfl ⟨rfl, H3.out.2⟩

theorem good_nil : Good [] := ⟨fun i j hi => absurd hi (by simp), by simp, by simp⟩
theorem NoTb.ptr {w : World} {v : Value} (h : NoTb w v) : ∃ a, v = .pointer a := by
  rcases h with rfl | ⟨b, rfl, _⟩
  · exact ⟨none, rfl⟩
  · exact ⟨_, rfl⟩

set_option maxRecDepth 100000 in
set_option maxHeartbeats 16000000 in
theorem nothing29 (v : Value) (w : World) (hno : NoTb w v) : Calls Try.prog 29 #[v] w fun e w' => e = .returned (.bool true) ∧ w.grownBy w' none := by
  have HT : Hid (NoTb w v) := hno
  obtain ⟨av, rfl⟩ := hno.ptr
  clear hno
  go_enter Try.func29, Try.ntmps29
  go_wp2_with fail
  refine (put17_no _ _ _ [] w HT.out.tl).mono ?_
  rintro e w1 ⟨rfl, hw⟩
  rw [hw]
  clear hw
  go_wp2_with fail
  refine (get27_no _ _ [] w HT.out.tl).mono ?_
  rintro e w1 ⟨rfl, hw⟩
  rw [hw]
  clear hw
  go_wp2_with fail
  refine (delete19_no _ _ [] w HT.out.tl).mono ?_
  rintro e w1 ⟨rfl, hw⟩
  rw [hw]
  clear hw
  go_wp2_with fail
  refine (at26_no _ (-1) [] w HT.out.tl).mono ?_
  rintro e w1 ⟨rfl, g1⟩
  have G1 : Hid (w.grownBy w1 none) := g1
  clear g1
  go_upto_region 5 with fail
  obtain ⟨w2, hw2, H2⟩ := al w1 #[.slice none 0 0, .slice none 0 0] 45
  rw [hw2]
  clear hw2
  have G2 : Hid (w.grownBy w2 none) := grown_trans G1.out H2.out.2.1
  go_wp2_with (first | (go_at_call 21; refine (num21 _ _).mono ?_; rintro e wx ⟨rfl, hx⟩; rw [hx]; clear hx) | (go_at_call 23; refine (len23g _ false [] w2 (HT.out.tl.grown G2.out)).mono ?_; rintro e wx ⟨rfl, hx⟩; rw [hx, show ((([] : List PRow).length : Nat) : Int) = 0 from rfl]; clear hx))
  refine (size30 _ false [] good_nil w2 (HT.out.tl.grown G2.out)).mono ?_
  rintro e w3 ⟨rfl, m3, hw3⟩
  rw [hw3, show ((sizeL [] : Nat) : Int) = 0 from rfl]
  have G3 : Hid (w.grownBy (w2.drewN m3) none) := grown_trans G2.out (grown_drewN _ _ _)
  generalize w2.drewN m3 = w4 at G3 ⊢
  clear hw3
  obtain ⟨w5, cv5, h5⟩ := lit30 w4 #[.int .u8 122] 1 [122] rfl rfl rfl (by simp)
  go_wp2_with fail
  refine (rank25 _ false _ [] [122] good_nil.1 good_nil.2.2 w5 (HT.out.tl.grown (grown_trans G3.out h5.out.2)) h5.out.1).mono ?_
  rintro e w6 ⟨rfl, g6⟩
  rw [show ((rankL [] [122] : Nat) : Int) = 0 from rfl]
  have G6 : Hid (w.grownBy w6 none) := grown_trans (grown_trans G3.out h5.out.2) g6
  clear g6 cv5 h5
  go_wp2_with fail
  refine (scan24 _ false _ _ 9 [] [] [] good_nil w6 (HT.out.tl.grown G6.out) (seg_nil _) (seg_nil _)).mono ?_
  rintro e w7 ⟨v7, rfl, t7, g7⟩
  rw [show scanL [] [] [] 9 = [] from by decide] at t7
  obtain ⟨a7, n7, c7, rfl, hn7, _, _, _⟩ := rws_open t7.rws
  have hn0 : n7 = 0 := by simpa using hn7.symm
  subst hn0
  have G7 : Hid (w.grownBy w7 none) := grown_trans G6.out g7
  clear t7 hn7 g7
  go_wp2_with fail
  refine (all14 _ ⟨av, rfl⟩ w7).mono ?_
  rintro e w8 ⟨rfl, hb8, g8, _⟩
  have H8 : Hid (Blk w8 w7.heap.size 26 #[.pointer av] ∧ w.grownBy w8 none) := ⟨hb8, grown_trans G7.out g8⟩
  clear hb8 g8
  go_wp2_with fail
  refine (goes13 45 _ _ false 0 [] (enters_of Try.func45 (by kernel_rfl) rfl) (by simp) w8 (rws_nil _) ?_).mono ?_
  · intro W' Fw hg' hF hA
    exact all45 Fw w7.heap.size _ false [] good_nil W' (H8.out.1.grown hg' (by simp)) (HT.out.tl.grown (grown_trans H8.out.2 hg')) (fun i hi => (hF i hi).2) hA
  rintro e w9 ⟨rfl, g9⟩
  have G9 : Hid (w.grownBy w9 none) := grown_trans H8.out.2 g9
  clear g9 H8
  go_wp2_with fail
  refine (down16 _ _ [] ⟨av, rfl⟩ (by simp) w9 (seg_nil _)).mono ?_
  rintro e w10 ⟨b10, c10, k10, rfl, hb10, hc10, hk10, g10⟩
  have H10 : Hid (Blk w10 b10 26 #[.pointer av] ∧ Blk w10 c10 30 #[k10] ∧ Seg w10 k10 [] ∧ w.grownBy w10 none) := ⟨hb10, hc10, hk10, grown_trans G9.out g10⟩
  clear hb10 hc10 hk10 g10
  go_wp2_with fail
  refine (goes13 49 _ _ true 0 [] (enters_of Try.func49 (by kernel_rfl) rfl) (by simp) w10 (rws_nil _) ?_).mono ?_
  · intro W' Fw hg' hF hA
    exact down49 Fw b10 c10 _ k10 false [] [] good_nil W' (H10.out.1.grown hg' (by simp)) (H10.out.2.1.grown hg' (by simp)) (H10.out.2.2.1.grown hg') (HT.out.tl.grown (grown_trans H10.out.2.2.2 hg')) (fun i hi => (hF i hi).2) hA
  rintro e w11 ⟨rfl, g11⟩
  have G11 : Hid (w.grownBy w11 none) := grown_trans H10.out.2.2.2 g11
  clear g11 H10
  go_wp2_with fail
  go_ret
  exact ⟨rfl, G11.out⟩
end Go.Proofs.Ytlehikdlkdbacaa
