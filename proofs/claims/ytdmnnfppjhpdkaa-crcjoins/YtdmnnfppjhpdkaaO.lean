/-
  CrcJoins' walk.
-/
import Derived.Test.YtdmnnfppjhpdkaaN
namespace Go.Proofs.Ytdmnnfppjhpdkaa
open Go.RowKit
attribute [local go_sem ↓] Go.wp_at_zero Go.wp_at_succ
attribute [local go_sem ↓] run_max0

set_option maxRecDepth 100000 in
set_option maxHeartbeats 2000000 in
theorem joins4 (a b : Nat) (n : Int) (x y : Value) (X Y : List UInt8) (w : World) (ha : a < 4294967296) (hb : b < 4294967296) (hn1 : -9223372036854775808 ≤ n) (hn2 : n ≤ 9223372036854775807) (hx : Seg w x X) (hy : Seg w y Y) (zx : X.length ≤ 140737488351232) (zy : Y.length ≤ 140737488351232) :
    Calls Try.prog 4 #[.agg #[.int .u32 a, .int .u32 b], .int .i64 n, .agg #[x, y]] w fun e w' => e = .returned (.bool true) ∧ w.grownBy w' none := by
  obtain ⟨aox, capx, rfl⟩ := hx.shape
  obtain ⟨aoy, capy, rfl⟩ := hy.shape
  obtain ⟨W, hW⟩ : ∃ W, W = (w.alloc (.cells #[.int .u32 a, .int .u32 b] 32)).alloc (.cells #[.slice aox X.length capx, .slice aoy Y.length capy] 33) := ⟨_, rfl⟩
  have HG : Hid (w.grownBy W none) := by rw [hW]; exact grown_trans (World.grownBy_alloc _ _ _) (World.grownBy_alloc _ _ _)
  have HX : Hid (Seg W (.slice aox X.length capx) X) := hx.grown HG.out
  have HY : Hid (Seg W (.slice aoy Y.length capy) Y) := hy.grown HG.out
  have c0 : W.cell? ⟨w.heap.size, 0, none⟩ = some (.int .u32 a) := by rw [hW]; simp
  have c1 : W.cell? ⟨w.heap.size, 1, none⟩ = some (.int .u32 b) := by rw [hW]; simp
  have c2 : W.cell? ⟨w.heap.size + 1, 0, none⟩ = some (.slice aox X.length capx) := by rw [hW]; simp
  have c3 : W.cell? ⟨w.heap.size + 1, 1, none⟩ = some (.slice aoy Y.length capy) := by rw [hW]; simp
  have HW : Hid _ := hW
  clear hx hy hW
  go_enter Try.func4, Try.ntmps4
  go_wp2_with fail
  rw [← HW.out]
  go_quiet (fail)
  clear c0 c1 c2 c3
  have HG1 : Hid (w.grownBy (W.drewN nq) none) := grown_trans HG.out (grown_drewN _ _ _)
  have HX1 : Hid (Seg (W.drewN nq) (.slice aox X.length capx) X) := Seg.grown HX.out (grown_drewN _ _ _)
  have HY1 : Hid (Seg (W.drewN nq) (.slice aoy Y.length capy) Y) := Seg.grown HY.out (grown_drewN _ _ _)
  obtain ⟨w1, hw1⟩ : ∃ w1, W.drewN nq = w1 := ⟨_, rfl⟩
  rw [hw1] at HG1 HX1 HY1 ⊢
  clear hw1 HG HX HY HW
  obtain ⟨m, hm⟩ : ∃ m, clamp n = m := ⟨_, rfl⟩
  have hm9 : m ≤ 9223372036854775807 := by unfold clamp at hm; omega
  have HM : Hid (n.toNat = m) := hm
  go_wp2_with fail
  refine (join15 a b n _ ha hb hn2).mono ?_
  rw [HM.out]
  rintro e w2 ⟨rfl, g2⟩
  have HG2 : Hid (w.grownBy w2 none ∧ w1.grownBy w2 none) := ⟨grown_trans HG1.out g2, g2⟩
  obtain ⟨q, hq⟩ : ∃ q, zeros a m ^^^ b = q := ⟨_, rfl⟩
  rw [hq]
  have HQ : Hid _ := hq
  clear g2 hq
  go_wp2_with fail
  refine (join16 a b m _ ha hb hm9).mono ?_
  rw [HQ.out]
  rintro e w3 ⟨rfl, g3⟩
  have HG3 : Hid (w.grownBy w3 none ∧ Seg w3 (.slice aox X.length capx) X ∧ Seg w3 (.slice aoy Y.length capy) Y) := ⟨grown_trans HG2.out.1 g3, (HX1.out.grown HG2.out.2).grown g3, (HY1.out.grown HG2.out.2).grown g3⟩
  clear g3 HG2 HG1 HX1 HY1 HQ HM hm
  have wl : IntKind.i64.wrap ((X.length : Int) + (Y.length : Int)) = (X.length : Int) + (Y.length : Int) := by
    simp only [IntKind.wrap, IntKind.bits, IntKind.signed]; simp; omega
  by_cases hbig : 100000 < X.length + Y.length
  · have g1 : decide ((X.length : Int) + (Y.length : Int) > 100000) = true := by simp; omega
    go_wp2_with fail
    refine (known6 _).mono ?_
    rintro e w4 ⟨rfl, g4⟩
    have HG4 : Hid (w.grownBy w4 none) := grown_trans HG3.out.1 g4
    clear g4
    go_wp2_with fail
    go_ret
    exact ⟨rfl, HG4.out⟩
  · have g1 : decide ((X.length : Int) + (Y.length : Int) > 100000) = false := by simp; omega
    go_wp2_with fail
    refine (sum7 _ [X] _ (segs_one HG3.out.2.1)).mono ?_
    rw [show [X].flatten = X by simp]
    rintro e w4 ⟨rfl, g4⟩
    have HG4 : Hid (w.grownBy w4 none ∧ Seg w4 (.slice aox X.length capx) X ∧ Seg w4 (.slice aoy Y.length capy) Y) := by
      have g := grown_trans (World.grownBy_alloc _ _ none) g4
      exact ⟨grown_trans HG3.out.1 g, HG3.out.2.1.grown g, HG3.out.2.2.grown g⟩
    clear g4 HG3
    have sx := sum_lt X
    have sy := sum_lt Y
    have HJ : Hid _ := join_sum X Y
    have HMO : Hid (more (sum X) Y = sum (X ++ Y)) := by
      unfold Hid
      show _ = more 0 (X ++ Y)
      rw [more_append]
      rfl
    obtain ⟨p, hp⟩ : ∃ p, sum X = p := ⟨_, rfl⟩
    obtain ⟨r, hr⟩ : ∃ r, sum Y = r := ⟨_, rfl⟩
    obtain ⟨t, ht⟩ : ∃ t, sum (X ++ Y) = t := ⟨_, rfl⟩
    have HP : Hid _ := And.intro hp (And.intro hr ht)
    rw [hp, ht] at HMO
    rw [hp, hr, ht] at HJ
    rw [hp] at sx ⊢
    rw [hr] at sy
    clear hp hr ht
    go_wp2_with fail
    refine (sum7 _ [Y] _ (segs_one HG4.out.2.2)).mono ?_
    rw [show [Y].flatten = Y by simp, HP.out.2.1]
    rintro e w5 ⟨rfl, g5⟩
    have HG5 : Hid (w.grownBy w5 none ∧ Seg w5 (.slice aox X.length capx) X ∧ Seg w5 (.slice aoy Y.length capy) Y) := by
      have g := grown_trans (World.grownBy_alloc _ _ none) g5
      exact ⟨grown_trans HG4.out.1 g, HG4.out.2.1.grown g, HG4.out.2.2.grown g⟩
    clear g5 HG4
    go_wp2_with fail
    refine (join15 p r (Y.length : Int) _ sx sy (by omega)).mono ?_
    rw [Int.toNat_natCast, HJ.out]
    rintro e w6 ⟨rfl, g6⟩
    have HG6 : Hid (w.grownBy w6 none ∧ Seg w6 (.slice aox X.length capx) X ∧ Seg w6 (.slice aoy Y.length capy) Y) := ⟨grown_trans HG5.out.1 g6, HG5.out.2.1.grown g6, HG5.out.2.2.grown g6⟩
    clear g6 HG5
    go_wp2_with fail
    refine (sum7 _ [X, Y] _ (segs_two HG6.out.2.1 HG6.out.2.2)).mono ?_
    rw [show [X, Y].flatten = X ++ Y by simp, HP.out.2.2]
    rintro e w7 ⟨rfl, g7⟩
    have HG7 : Hid (w.grownBy w7 none ∧ Seg w7 (.slice aox X.length capx) X ∧ Seg w7 (.slice aoy Y.length capy) Y) := by
      have g := grown_trans (World.grownBy_alloc _ _ none) g7
      exact ⟨grown_trans HG6.out.1 g, HG6.out.2.1.grown g, HG6.out.2.2.grown g⟩
    clear g7 HG6
    go_wp2_with fail
    refine (sum7 _ [X] _ (segs_one HG7.out.2.1)).mono ?_
    rw [show [X].flatten = X by simp, HP.out.1]
    rintro e w8 ⟨rfl, g8⟩
    have HG8 : Hid (w.grownBy w8 none ∧ Seg w8 (.slice aox X.length capx) X ∧ Seg w8 (.slice aoy Y.length capy) Y) := by
      have g := grown_trans (World.grownBy_alloc _ _ none) g8
      exact ⟨grown_trans HG7.out.1 g, HG7.out.2.1.grown g, HG7.out.2.2.grown g⟩
    clear g8 HG7
    go_wp2_with fail
    refine (more9 p _ Y _ sx HG8.out.2.2).mono ?_
    rw [HMO.out]
    rintro e w9 ⟨rfl, g9⟩
    have HG9 : Hid (w.grownBy w9 none ∧ Seg w9 (.slice aox X.length capx) X ∧ Seg w9 (.slice aoy Y.length capy) Y) := ⟨grown_trans HG8.out.1 g9, HG8.out.2.1.grown g9, HG8.out.2.2.grown g9⟩
    clear g9 HG8
    go_wp2_with (first | (at_builtin; refine app24 _ (by rfl) (.tmp 56) (.tmp 57) rfl w9.heap.size _ [] _ X rfl rfl (own_empty w9) (seg_alloc HG9.out.2.1 _) (by simp; omega) (by simp) ?_; intro v1 u1 o1 g1) | (at_builtin; refine app24 _ (by rfl) (.tmp 58) (.tmp 59) rfl w9.heap.size _ X _ Y rfl rfl o1 ?_ (by omega) ?_ ?_))
    · have g : w9.grownBy u1 none := grown_new (World.grownBy_alloc w9 _ none) g1 (fun x hx => (own_empty w9).lt x hx)
      exact HG9.out.2.2.grown g
    · have g : w9.grownBy u1 none := grown_new (World.grownBy_alloc w9 _ none) g1 (fun x hx => (own_empty w9).lt x hx)
      exact g.size
    intro v2 u2 o2 g2
    have HG10 : Hid (w.grownBy u2 none ∧ Own u2 w9.heap.size v2 (X ++ Y)) := by
      have g : w9.grownBy u1 none := grown_new (World.grownBy_alloc w9 _ none) g1 (fun x hx => (own_empty w9).lt x hx)
      have h : w9.grownBy u2 none := grown_new g g2 (by intro x hx; exact o1.lt x hx)
      exact ⟨grown_trans HG9.out.1 h, o2⟩
    obtain ⟨ao2, cap2, rfl⟩ := o2.seg.shape
    clear o1 o2 g1 g2 HG9
    go_wp2_with fail
    refine (sum7 _ [X ++ Y] _ (segs_one (L := X ++ Y) (by have h := HG10.out.2.seg; rw [List.length_append] at h; exact h))).mono ?_
    rw [show [X ++ Y].flatten = X ++ Y by simp, HP.out.2.2]
    rintro e w11 ⟨rfl, g11⟩
    have HG11 : Hid (w.grownBy w11 none) := grown_trans HG10.out.1 (grown_trans (World.grownBy_alloc _ _ none) g11)
    clear g11 HG10
    go_wp2_with fail
    refine (known6 _).mono ?_
    rintro e w12 ⟨rfl, g12⟩
    have HG12 : Hid (w.grownBy w12 none) := grown_trans HG11.out g12
    clear g12 HG11
    go_wp2_with fail
    go_ret
    exact ⟨rfl, HG12.out⟩
end Go.Proofs.Ytdmnnfppjhpdkaa
