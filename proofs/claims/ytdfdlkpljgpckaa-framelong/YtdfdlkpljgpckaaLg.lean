/-
  FrameLong's walk.
-/
import Derived.Test.YtdfdlkpljgpckaaKn
namespace Go.Proofs.Ytdfdlkpljgpckaa
open Go.RowKit Disk

theorem long_a : code [1, 128, 0, 0, 0, 0, 0, 0, 0] = 141 := by decide +kernel
theorem long_b : code [1, 127, 255, 255, 255, 0, 0, 0, 0] = 140 := by decide +kernel
theorem long_c : code [1, 255, 255, 255, 255, 0, 0, 0, 0] = 141 := by decide +kernel
theorem fseg_two {w : World} {k1 k2 : Int} {v1 v2 : Value} {L1 L2 : List UInt8} (h1 : Seg w v1 L1) (h2 : Seg w v2 L2) : FSeg (w.alloc (.cells #[.int .i64 k1, v1, .int .i64 k2, v2] 25)) (.slice (some ⟨w.heap.size, 0, none⟩) 2 2) [(k1, L1), (k2, L2)] := by
  refine ⟨_, 2, rfl, by simp, fun j hj => ?_⟩
  match j, hj with
  | 0, _ =>
    refine ⟨w.heap.size, 0, v1, rfl, ?_, ?_, h1.grown (World.grownBy_alloc _ _ _)⟩
    · rw [cell_of_row _ _ _ _ _ _ (heap_alloc_new w _)]; rfl
    · rw [cell_of_row _ _ _ _ _ _ (heap_alloc_new w _)]; rfl
  | 1, _ =>
    refine ⟨w.heap.size, 0, v2, rfl, ?_, ?_, h2.grown (World.grownBy_alloc _ _ _)⟩
    · rw [cell_of_row _ _ _ _ _ _ (heap_alloc_new w _)]; rfl
    · rw [cell_of_row _ _ _ _ _ _ (heap_alloc_new w _)]; rfl
  | j + 2, hj => exact absurd hj (by simp)

/-- Bytes that no frame is a beginning of, scanned. -/
theorem scan_none {v : Value} {L : List UInt8} {w : World} {c : Nat} (hs : Seg w v L) (hL : L.length ≤ 1000) (hn : L ≠ []) (hc : code L = c) (h0 : c ≠ 0) : Calls Try.prog 13 #[v] w fun e w' => ∃ al n cl, e = .returned (.tuple #[.slice al n cl, .int .i64 0, .int .i64 (c : Nat)]) ∧ w.grownBy w' none := by
  refine (scan13 v L w hs (by omega)).mono ?_
  rintro e w' ⟨fs, R, vl, vs, hsc, rfl, hrow, g⟩
  obtain ⟨rfl, rfl⟩ := sc_unique _ hsc (sc_nil L (fun _ => by rw [hc]; exact h0))
  obtain ⟨al, cl, rfl⟩ := hrow.shape
  refine ⟨al, 0, cl, ?_, g⟩
  rw [show ends R = c from by unfold ends; rw [if_neg hn, hc]]
  rfl

set_option maxRecDepth 100000 in
set_option maxHeartbeats 4000000 in
theorem long6 (w : World) : Calls Try.prog 6 #[] w fun e w' => e = .returned (.bool true) ∧ w.grownBy w' none := by
  go_enter Try.func6, Try.ntmps6
  go_wp2_with fail
  refine (putall12 _ [(1, []), (-1, [])] _ (fseg_two (seg_nil _) (seg_nil _)) (by intro f hf; simp at hf; rcases hf with rfl | rfl <;> simp) (by simp) (by rw [flat_len]; simp)).mono ?_
  rintro e w1 ⟨g1, hbad, _⟩
  have he := hbad (fun h => by have := h (-1, []) (by simp); simp at this)
  subst he
  have G1 : Hid (w.grownBy w1 none) := grown_trans (World.grownBy_alloc _ _ _) g1
  clear g1 hbad
  go_wp2_with fail
  refine (scan_none (seg_lit w1 #[.int .u8 1, .int .u8 128, .int .u8 0, .int .u8 0, .int .u8 0, .int .u8 0, .int .u8 0, .int .u8 0, .int .u8 0] (0, 0) [1, 128, 0, 0, 0, 0, 0, 0, 0] rfl (by simp)) (by simp) (by simp) long_a (by decide)).mono ?_
  rintro e w2 ⟨a2, n2, c2, rfl, g2⟩
  have G2 : Hid (w.grownBy w2 none) := grown_trans G1.out (grown_trans (World.grownBy_alloc _ _ _) g2)
  clear g2 G1
  go_wp2_with fail
  refine (scan_none (seg_lit w2 #[.int .u8 1, .int .u8 127, .int .u8 255, .int .u8 255, .int .u8 255, .int .u8 0, .int .u8 0, .int .u8 0, .int .u8 0] (0, 0) [1, 127, 255, 255, 255, 0, 0, 0, 0] rfl (by simp)) (by simp) (by simp) long_b (by decide)).mono ?_
  rintro e w3 ⟨a3, n3, c3, rfl, g3⟩
  have G3 : Hid (w.grownBy w3 none) := grown_trans G2.out (grown_trans (World.grownBy_alloc _ _ _) g3)
  clear g3 G2
  go_wp2_with fail
  refine (scan_none (seg_lit w3 #[.int .u8 1, .int .u8 255, .int .u8 255, .int .u8 255, .int .u8 255, .int .u8 0, .int .u8 0, .int .u8 0, .int .u8 0] (0, 0) [1, 255, 255, 255, 255, 0, 0, 0, 0] rfl (by simp)) (by simp) (by simp) long_c (by decide)).mono ?_
  rintro e w4 ⟨a4, n4, c4, rfl, g4⟩
  have G4 : Hid (w.grownBy w4 none) := grown_trans G3.out (grown_trans (World.grownBy_alloc _ _ _) g4)
  clear g4 G3
  go_wp2_with fail
  refine (one17 _ [1, 127, 255, 255, 255, 0, 0, 0, 0] _ (seg_lit w4 #[.int .u8 1, .int .u8 127, .int .u8 255, .int .u8 255, .int .u8 255, .int .u8 0, .int .u8 0, .int .u8 0, .int .u8 0] (0, 0) [1, 127, 255, 255, 255, 0, 0, 0, 0] rfl (by simp))).mono ?_
  rintro e w5 ⟨g5, hno, _⟩
  have he := hno (fun h => by have := h.1; rw [long_b] at this; exact absurd this (by decide))
  subst he
  have G5 : Hid (w.grownBy w5 none) := grown_trans G4.out (grown_trans (World.grownBy_alloc _ _ _) g5)
  clear g5 G4 hno
  have G6 : Hid (w.grownBy (w5.alloc (.cells #[.int .i64 0, .slice none 0 0] 25)) none) := grown_trans G5.out (World.grownBy_alloc _ _ _)
  go_wp2_with (first | (go_at_call 10; refine (num10 _ _).mono ?_; rintro e wx ⟨rfl, hx⟩; subst hx) | (go_at_call 7; refine (known7 _).mono ?_; rintro e w7 ⟨rfl, g7⟩))
  go_ret
  exact ⟨rfl, grown_trans G6.out g7⟩
end Go.Proofs.Ytdfdlkpljgpckaa
