/-
  The chapter's rows.
-/
import Derived.Test.YtdmnnfppjhpdkaaK
import Derived.Lib.SlBytesConst
namespace Go.Proofs.Ytdmnnfppjhpdkaa
open Go.RowKit
attribute [local go_sem ↓] Go.wp_at_zero Go.wp_at_succ

theorem sum_none : sum [] = 0 := by decide +kernel
theorem sum_nine : sum [49, 50, 51, 52, 53, 54, 55, 56, 57] = 3808858755 := by decide +kernel
theorem sum_a : sum [97] = 3251651376 := by decide +kernel
theorem more_four : more (sum [49, 50, 51, 52, 53]) [54, 55, 56, 57] = 3808858755 := by decide +kernel
theorem zeros_four : inv (zeros (inv 0) 4) = 1214729159 := by decide +kernel

/-- Bytes of a constant text. -/
theorem seg_lit (w : World) (C : Array Value) (fr : Nat × Nat) (L : List UInt8) (hx : C.toList = BV L) (hl : L.length ≤ 9223372036854775807) : Seg (w.alloc (.cells C 5 fr)) (.slice (some ⟨w.heap.size, 0, none⟩) L.length L.length) L := by
  refine ⟨_, L.length, rfl, Nat.le_refl _, by unfold maxLen; omega, by simp, fun j hj => ⟨w.heap.size, 0, rfl, ?_⟩⟩
  rw [cell_of_row _ _ _ _ _ _ (heap_alloc_new w _), Nat.zero_add, ← Array.getElem?_toList, hx]
  simp [BV, hj]

theorem conv_const (w : World) (C : Array Value) (n : Nat) (h : C.size = n) :
    (convert 24 24 (.slice (some ⟨w.heap.size, 0, none⟩) n n)).run Try.prog (w.alloc (.cells C 5)) = .ok (.slice (some ⟨w.heap.size, 0, none⟩) n n) (w.alloc (.cells C 5 (n, n + 1))) := by
  subst h
  exact Go.Lib.run_convert_bytes_const w 24 5 C _ _ Try.underlying24 Try.underlying5

set_option maxRecDepth 100000 in
set_option maxHeartbeats 1000000 in
theorem known6 (w : World) : Calls Try.prog 6 #[] w fun e w' => e = .returned (.bool true) ∧ w.grownBy w' none := by
  go_enter Try.func6, Try.ntmps6
  go_wp2_with fail
  refine (sum7 _ [] _ (segs_nil _)).mono ?_
  rw [show ([] : List (List UInt8)).flatten = [] from rfl, sum_none]
  rintro e w1 ⟨rfl, g1⟩
  have G1 : Hid (w.grownBy w1 none) := g1
  clear g1
  have cv1 := conv_const w1 #[.int .u8 49, .int .u8 50, .int .u8 51, .int .u8 52] 4 rfl
  have HS1 : Hid _ := seg_lit w1 #[.int .u8 49, .int .u8 50, .int .u8 51, .int .u8 52] (4, 5) [49, 50, 51, 52] rfl (by simp)
  have HG1 : Hid _ := World.grownBy_alloc w1 (.cells #[.int .u8 49, .int .u8 50, .int .u8 51, .int .u8 52] 5 (4, 5)) none
  have hz1 : (w1.alloc (.cells #[.int .u8 49, .int .u8 50, .int .u8 51, .int .u8 52] 5 (4, 5))).heap.size = w1.heap.size + 1 := by
    show (w1.heap.push _).size = _
    simp
  obtain ⟨w2, hw2⟩ : ∃ w2, w1.alloc (.cells #[.int .u8 49, .int .u8 50, .int .u8 51, .int .u8 52] 5 (4, 5)) = w2 := ⟨_, rfl⟩
  rw [hw2] at cv1 HS1 HG1 hz1
  have cv2 := conv_const w2 #[.int .u8 53, .int .u8 54, .int .u8 55, .int .u8 56, .int .u8 57] 5 rfl
  have HS2 : Hid _ := seg_lit w2 #[.int .u8 53, .int .u8 54, .int .u8 55, .int .u8 56, .int .u8 57] (5, 6) [53, 54, 55, 56, 57] rfl (by simp)
  have HG2 : Hid _ := World.grownBy_alloc w2 (.cells #[.int .u8 53, .int .u8 54, .int .u8 55, .int .u8 56, .int .u8 57] 5 (5, 6)) none
  obtain ⟨w3, hw3⟩ : ∃ w3, w2.alloc (.cells #[.int .u8 53, .int .u8 54, .int .u8 55, .int .u8 56, .int .u8 57] 5 (5, 6)) = w3 := ⟨_, rfl⟩
  rw [hw3] at cv2 HS2 HG2
  rw [hz1] at cv2
  have HZ1 : Hid _ := hz1
  clear hw2 hw3
  go_wp2_with fail
  refine (sum7 _ [[49, 50, 51, 52], [53, 54, 55, 56, 57]] _ (segs_two (Seg.grown HS1.out HG2.out) (by have h := HS2.out; rw [HZ1.out] at h; exact h))).mono ?_
  rw [show ([[49, 50, 51, 52], [53, 54, 55, 56, 57]] : List (List UInt8)).flatten = [49, 50, 51, 52, 53, 54, 55, 56, 57] from rfl, sum_nine]
  rintro e w4 ⟨rfl, g4⟩
  have G4 : Hid (w.grownBy w4 none) := grown_trans G1.out (grown_trans HG1.out (grown_trans HG2.out (grown_trans (World.grownBy_alloc _ _ none) g4)))
  clear g4 HS1 HS2 HG1 HG2 cv1 cv2 hz1 HZ1 G1
  have cv1 := conv_const w4 #[.int .u8 49, .int .u8 50, .int .u8 51, .int .u8 52, .int .u8 53] 5 rfl
  have HS1 : Hid _ := seg_lit w4 #[.int .u8 49, .int .u8 50, .int .u8 51, .int .u8 52, .int .u8 53] (5, 6) [49, 50, 51, 52, 53] rfl (by simp)
  have HG1 : Hid _ := World.grownBy_alloc w4 (.cells #[.int .u8 49, .int .u8 50, .int .u8 51, .int .u8 52, .int .u8 53] 5 (5, 6)) none
  obtain ⟨w5, hw5⟩ : ∃ w5, w4.alloc (.cells #[.int .u8 49, .int .u8 50, .int .u8 51, .int .u8 52, .int .u8 53] 5 (5, 6)) = w5 := ⟨_, rfl⟩
  rw [hw5] at cv1 HS1 HG1
  clear hw5
  go_wp2_with fail
  refine (sum7 _ [[49, 50, 51, 52, 53]] _ (segs_one HS1.out)).mono ?_
  rw [show ([[49, 50, 51, 52, 53]] : List (List UInt8)).flatten = [49, 50, 51, 52, 53] from rfl]
  rintro e w6 ⟨rfl, g6⟩
  have G6 : Hid (w.grownBy w6 none) := grown_trans G4.out (grown_trans HG1.out (grown_trans (World.grownBy_alloc _ _ none) g6))
  clear g6 HS1 HG1 cv1 G4
  have hs5 := sum_lt [49, 50, 51, 52, 53]
  have HM : Hid _ := more_four
  obtain ⟨q, hq⟩ : ∃ q, sum [49, 50, 51, 52, 53] = q := ⟨_, rfl⟩
  rw [hq] at hs5 HM ⊢
  clear hq
  have cv1 := conv_const w6 #[.int .u8 54, .int .u8 55, .int .u8 56, .int .u8 57] 4 rfl
  have HS1 : Hid _ := seg_lit w6 #[.int .u8 54, .int .u8 55, .int .u8 56, .int .u8 57] (4, 5) [54, 55, 56, 57] rfl (by simp)
  have HG1 : Hid _ := World.grownBy_alloc w6 (.cells #[.int .u8 54, .int .u8 55, .int .u8 56, .int .u8 57] 5 (4, 5)) none
  obtain ⟨w7, hw7⟩ : ∃ w7, w6.alloc (.cells #[.int .u8 54, .int .u8 55, .int .u8 56, .int .u8 57] 5 (4, 5)) = w7 := ⟨_, rfl⟩
  rw [hw7] at cv1 HS1 HG1
  clear hw7
  go_wp2_with fail
  refine (more9 q _ [54, 55, 56, 57] _ hs5 HS1.out).mono ?_
  rw [HM.out]
  rintro e w8 ⟨rfl, g8⟩
  have G8 : Hid (w.grownBy w8 none) := grown_trans G6.out (grown_trans HG1.out g8)
  clear g8 HS1 HG1 cv1 G6 HM hs5
  go_wp2_with fail
  refine (zeros13 0 4 _ (by omega) (by omega)).mono ?_
  rw [show (4 : Int).toNat = 4 from rfl, zeros_four]
  rintro e w9 ⟨rfl, g9⟩
  have G9 : Hid (w.grownBy w9 none) := grown_trans G8.out g9
  clear g9 G8
  go_wp2_with fail
  refine (zeros13 7 (-3) _ (by omega) (by omega)).mono ?_
  rw [show (-3 : Int).toNat = 0 from rfl, show inv (zeros (inv 7) 0) = 7 from inv_inv 7]
  rintro e w10 ⟨rfl, g10⟩
  have G10 : Hid (w.grownBy w10 none) := grown_trans G9.out g10
  clear g10 G9
  go_wp2_with fail
  refine (join15 9 0 0 _ (by omega) (by omega) (by omega)).mono ?_
  rw [show zeros 9 (0 : Int).toNat ^^^ 0 = 9 from rfl]
  rintro e w11 ⟨rfl, g11⟩
  have G11 : Hid (w.grownBy w11 none) := grown_trans G10.out g11
  clear g11 G10
  have cv1 := conv_const w11 #[.int .u8 97] 1 rfl
  have HS1 : Hid _ := seg_lit w11 #[.int .u8 97] (1, 2) [97] rfl (by simp)
  have HG1 : Hid _ := World.grownBy_alloc w11 (.cells #[.int .u8 97] 5 (1, 2)) none
  obtain ⟨w12, hw12⟩ : ∃ w12, w11.alloc (.cells #[.int .u8 97] 5 (1, 2)) = w12 := ⟨_, rfl⟩
  rw [hw12] at cv1 HS1 HG1
  clear hw12
  go_wp2_with fail
  refine (holds11 3251651376 _ [97] _ HS1.out).mono ?_
  rw [sum_a, show ((3251651376 : Nat) == 3251651376) = true from rfl]
  rintro e w13 ⟨rfl, g13⟩
  have G13 : Hid (w.grownBy w13 none) := grown_trans G11.out (grown_trans HG1.out g13)
  clear g13 HS1 HG1 cv1 G11
  go_wp2_with fail
  go_ret
  exact ⟨rfl, G13.out⟩
end Go.Proofs.Ytdmnnfppjhpdkaa
