/-
  known: some of the chapter's rows.
-/
import Derived.Test.YtahpkgglkibikaaR
import Derived.Test.YtahpkgglkibikaaQ
import Derived.Lib.SlBytesConst
namespace Go.Proofs.Ytahpkgglkibikaa
open Go.RowKit Disk

/-- Bytes of a constant. -/
theorem lit22 (w : World) (C : Array Value) (n : Nat) (L : List UInt8) (h : C.size = n) (hx : C.toList = BV L) (hl : L.length = n) (hz : L.length ≤ 9223372036854775807) :
    ∃ w', (convert 22 22 (.slice (some ⟨w.heap.size, 0, none⟩) n n)).run Try.prog (w.alloc (.cells C 5)) = .ok (.slice (some ⟨w.heap.size, 0, none⟩) n n) w' ∧ Hid (Seg w' (.slice (some ⟨w.heap.size, 0, none⟩) n n) L ∧ w.grownBy w' none) := by
  refine ⟨w.alloc (.cells C 5 (n, n + 1)), ?_, ?_, World.grownBy_alloc _ _ _⟩
  · subst h
    exact Go.Lib.run_convert_bytes_const w 22 5 C _ _ Try.underlying22 Try.underlying5
  · subst hl
    exact seg_lit w C _ L hx hz

theorem read_known : readL [97, 37, 50, 53, 98] = [97, 37, 98] ∧ readE [97, 37, 50, 53, 98] = 0 := read_ok (b := [97, 37, 98]) (by decide) (by decide) (by decide)
theorem read_known2 : readL [37, 54, 49] = [] ∧ readE [37, 54, 49] = 4 := read_bad (by decide) (fun _ _ => first_none (by decide) (by decide))

set_option maxRecDepth 100000 in
set_option maxHeartbeats 4000000 in
theorem known20 (w : World) : Calls Try.prog 20 #[] w fun e w' => e = .returned (.bool true) ∧ w.grownBy w' none := by
  go_enter Try.func20, Try.ntmps20
  obtain ⟨a1, cv1, h1⟩ := lit22 w #[.int .u8 97, .int .u8 255] 2 [97, 255] rfl rfl rfl (by simp)
  go_wp2_with fail
  refine (behind22 _ [97, 255] _ h1.out.1 (by simp)).mono ?_
  rintro e w1 ⟨b, rfl, c1, g1⟩
  rw [show behindL [97, 255] = [98] from by decide] at c1
  rw [show behindB [97, 255] = true from by decide]
  have H1 : Hid (Seg w1 b [98] ∧ w.grownBy w1 none) := ⟨c1.seg, grown_trans h1.out.2 g1⟩
  clear c1 g1 cv1 h1
  obtain ⟨a2, cv1, h1⟩ := lit22 w1 #[.int .u8 97, .int .u8 254] 2 [97, 254] rfl rfl rfl (by simp)
  go_wp2_with fail
  refine (behind22 _ [97, 254] _ h1.out.1 (by simp)).mono ?_
  rintro e w2 ⟨d, rfl, c1, g1⟩
  rw [show behindL [97, 254] = [97, 255] from by decide] at c1
  rw [show behindB [97, 254] = true from by decide]
  have H2 : Hid (Seg w2 b [98] ∧ Seg w2 d [97, 255] ∧ w.grownBy w2 none) := by
    have g := grown_trans h1.out.2 g1
    exact ⟨H1.out.1.grown g, c1.seg, grown_trans H1.out.2 g⟩
  clear c1 g1 cv1 h1
  obtain ⟨a3, cv1, h1⟩ := lit22 w2 #[.int .u8 97] 1 [97] rfl rfl rfl (by simp)
  obtain ⟨a4, cv2, h2⟩ := lit22 a3 #[.int .u8 99] 1 [99] rfl rfl rfl (by simp)
  obtain ⟨a5, cv3, h3⟩ := lit22 a4 #[.int .u8 98] 1 [98] rfl rfl rfl (by simp)
  obtain ⟨a6, cv4, h4⟩ := lit22 a5 #[.int .u8 100] 1 [100] rfl rfl rfl (by simp)
  go_wp2_with fail
  refine (meet24 _ _ _ _ [97] [99] [98] [100] _ (((h1.out.1.grown h2.out.2).grown h3.out.2).grown h4.out.2) ((h2.out.1.grown h3.out.2).grown h4.out.2) (h3.out.1.grown h4.out.2) h4.out.1 (by simp) (by simp) (by simp) (by simp)).mono ?_
  rintro e w3 ⟨x, y, rfl, t1, t2, t3, t4⟩
  rw [show meetA [97] [99] [98] [100] = [98] from by decide] at t1
  rw [show meetZ [97] [99] [98] [100] = [99] from by decide] at t2
  rw [show meetB [97] [99] [98] [100] = true from by decide]
  have H3 : Hid (Seg w3 b [98] ∧ Seg w3 d [97, 255] ∧ Seg w3 x [98] ∧ Seg w3 y [99] ∧ w.grownBy w3 none) := by
    have g := grown_trans (grown_trans (grown_trans (grown_trans h1.out.2 h2.out.2) h3.out.2) h4.out.2) t4
    exact ⟨H2.out.1.grown g, H2.out.2.1.grown g, t1.seg, t2.seg, grown_trans H2.out.2.2 g⟩
  clear t1 t2 t3 t4 cv1 cv2 cv3 cv4 h1 h2 h3 h4
  go_wp2_with fail
  refine (read7 [97, 37, 50, 53, 98] _ (by simp)).mono ?_
  rintro e w4 ⟨r, rfl, c1, g1⟩
  rw [read_known.1] at c1
  rw [read_known.2]
  have H4 : Hid (Seg w4 b [98] ∧ Seg w4 d [97, 255] ∧ Seg w4 x [98] ∧ Seg w4 y [99] ∧ Seg w4 r [97, 37, 98] ∧ w.grownBy w4 none) := by
    obtain ⟨q1, q2, q3, q4, q5⟩ := H3.out
    exact ⟨q1.grown g1, q2.grown g1, q3.grown g1, q4.grown g1, c1.seg, grown_trans q5 g1⟩
  clear c1 g1
  go_wp2_with fail
  refine (read7 [37, 54, 49] _ (by simp)).mono ?_
  rintro e w5 ⟨z, rfl, c1, g1⟩
  rw [read_known2.2]
  have H5 : Hid (Seg w5 b [98] ∧ Seg w5 d [97, 255] ∧ Seg w5 x [98] ∧ Seg w5 y [99] ∧ Seg w5 r [97, 37, 98] ∧ w.grownBy w5 none) := by
    obtain ⟨q1, q2, q3, q4, q5, q6⟩ := H4.out
    exact ⟨q1.grown g1, q2.grown g1, q3.grown g1, q4.grown g1, q5.grown g1, grown_trans q6 g1⟩
  clear c1 g1
  go_wp2_with fail
  refine (table9 [97, 48] _ (by simp)).mono ?_
  rintro e w6 ⟨rfl, hw⟩
  rw [hw, show tabB [97, 48] = true from by decide]
  clear hw
  go_wp2_with fail
  refine (table9 [65] _ (by simp)).mono ?_
  rintro e w7 ⟨rfl, hw⟩
  rw [hw, show tabB [65] = false from by decide]
  clear hw
  obtain ⟨a1, cv1, h1⟩ := lit22 w5 #[.int .u8 97] 1 [97] rfl rfl rfl (by simp)
  obtain ⟨a2, cv2, h2⟩ := lit22 a1 #[.int .u8 97, .int .u8 98] 2 [97, 98] rfl rfl rfl (by simp)
  go_wp2_with fail
  refine (cmp26 _ _ [97] [97, 98] _ (h1.out.1.grown h2.out.2) h2.out.1).mono ?_
  rintro e w8 ⟨rfl, m8, hm8⟩
  rw [show cmpL [97] [97, 98] = -1 from by decide]
  have H8 : Hid (w5.grownBy w8 none) := by
    rw [hm8]
    exact grown_trans (grown_trans h1.out.2 h2.out.2) (grown_drewN _ _ _)
  clear hm8 cv1 cv2 h1 h2
  obtain ⟨a3, cv1, h1⟩ := lit22 w8 #[.int .u8 122] 1 [122] rfl rfl rfl (by simp)
  obtain ⟨a4, cv2, h2⟩ := lit22 a3 #[.int .u8 97] 1 [97] rfl rfl rfl (by simp)
  go_wp2_with fail
  refine (in28 _ _ _ [122] [97] [] _ (h1.out.1.grown h2.out.2) h2.out.1 (seg_nil _)).mono ?_
  rintro e w9 ⟨rfl, m9, hm9⟩
  rw [show inB [122] [97] [] = true from by decide]
  have H9 : Hid (w5.grownBy w9 none) := by
    rw [hm9]
    exact grown_trans H8.out (grown_trans (grown_trans h1.out.2 h2.out.2) (grown_drewN _ _ _))
  clear hm9 cv1 cv2 h1 h2
  have s1 := seg_str (H5.out.1.grown H9.out)
  have s2 := seg_str (H5.out.2.1.grown H9.out)
  have s3 := seg_str (H5.out.2.2.1.grown H9.out)
  have s4 := seg_str (H5.out.2.2.2.1.grown H9.out)
  have s5 := seg_str (H5.out.2.2.2.2.1.grown H9.out)
  go_wp2_with fail
  refine (num17 _ _).mono ?_
  rintro e w10 ⟨rfl, hw⟩
  rw [hw]
  clear hw s1 s2 s3 s4 s5
  go_wp2_with fail
  refine (num17 _ _).mono ?_
  rintro e w11 ⟨rfl, hw⟩
  rw [hw]
  clear hw
  go_wp2_with fail
  refine (text15 _ [] _ (seg_nil _) (by simp)).mono ?_
  rintro e w12 ⟨rfl, g12⟩
  rw [show Str (txt []) = .string ⟨#[37]⟩ from rfl]
  have H12 : Hid (w.grownBy w12 none) := grown_trans (grown_trans H5.out.2.2.2.2.2 H9.out) g12
  clear g12
  go_wp2_with fail
  go_ret
  exact ⟨rfl, H12.out⟩
end Go.Proofs.Ytahpkgglkibikaa
