/-
  CallsLong's walk.
-/
import Derived.Test.YtfocmbnhkldnfaaGreatDoorFu
import Derived.Test.YtfocmbnhkldnfaaGreatDoorAl
import Derived.Test.YtfocmbnhkldnfaaGreatDoorKn
import Derived.Deep.DeepCutAuto
namespace Go.Proofs.YtfocmbnhkldnfaaGreatDoor
open Go.RowKit Disk
open Names (Str)

theorem kl15 : chk (fullL 15 16) = 0 := by kernel_rfl
theorem kl15n : (callForm (fullL 15 16)).length = 4096 := by kernel_rfl
theorem kl16 : chk (fullL 16 16) = 3 := by kernel_rfl
theorem bytes13_15 (v : Value) (w : World) (hv : Ops w v (fullL 15 16)) : Calls Tryz.prog 13 #[.agg #[v]] w fun e w' => ∃ x c, e = .returned (.tuple #[.slice x 4096 c, .int .i64 0]) ∧ w.grownBy w' none := by
  refine (bytes13 v _ w hv).mono ?_
  rintro e w' ⟨u, rfl, ho, hg⟩
  rw [kl15, if_pos rfl] at ho
  obtain ⟨x, c, rfl⟩ := ho.seg.shape
  rw [kl15n, kl15]
  exact ⟨x, c, rfl, hg⟩
theorem bytes13_16 (v : Value) (w : World) (hv : Ops w v (fullL 16 16)) : Calls Tryz.prog 13 #[.agg #[v]] w fun e w' => ∃ x n c, e = .returned (.tuple #[.slice x n c, .int .i64 3]) ∧ w.grownBy w' none := by
  refine (bytes13 v _ w hv).mono ?_
  rintro e w' ⟨u, rfl, ho, hg⟩
  obtain ⟨x, c, rfl⟩ := ho.seg.shape
  rw [kl16]
  exact ⟨x, _, c, rfl, hg⟩
theorem text14_16 (v : Value) (w : World) (hv : Ops w v (fullL 16 16)) (hk : KW w) : Calls Tryz.prog 14 #[.agg #[v]] w fun e w' => e = .returned (.tuple #[.string ⟨#[]⟩, .int .i64 3]) ∧ w.grownBy w' none := by
  refine (text14 v _ w hv hk).mono ?_
  rintro e w' ⟨rfl, hg⟩
  rw [kl16, if_neg (by decide)]
  exact ⟨rfl, hg⟩
theorem result27_far (w : World) : Calls Tryz.prog 27 #[.agg #[.int .i64 1, .int .i64 16, .slice none 0 0]] w fun e w' => e = .returned (.tuple #[.slice none 0 0, .int .i64 2]) ∧ w.grownBy w' none := by
  refine (result27_abort 1 16 w (.inl rfl) (by decide) (by decide)).mono ?_
  rintro e w' (⟨h, _⟩ | ⟨_, h⟩)
  · exact absurd h (by decide)
  · exact h
theorem result27_near (w : World) : Calls Tryz.prog 27 #[.agg #[.int .i64 3, .int .i64 15, .slice none 0 0]] w fun e w' => ∃ x n c, e = .returned (.tuple #[.slice x n c, .int .i64 0]) ∧ w.grownBy w' none := by
  refine (result27_abort 3 15 w (.inr (.inr rfl)) (by decide) (by decide)).mono ?_
  rintro e w' (⟨_, u, h1, h2, h3⟩ | ⟨h, _⟩)
  · obtain ⟨x, c, rfl⟩ := h2.seg.shape
    exact ⟨x, _, c, h1, h3⟩
  · exact absurd (by decide) h

def resOne (c : UInt8) : PRes := ⟨0, 0, [⟨false, [c], []⟩]⟩
theorem outs_one {w : World} {b : Nat} {u : Value} {c : UInt8} (hb : Blk w b 54 #[.bool false, u, .slice none 0 0]) (hu : Seg w u [c]) : Outs w (.slice (some ⟨b, 0, none⟩) 1 1) (resOne c).outs := by
  refine ⟨_, 1, rfl, by simp [resOne], fun j hj => ?_⟩
  have e : j = 0 := by simp [resOne] at hj; omega
  subst e
  exact ⟨b, 0, u, .slice none 0 0, rfl, ⟨hb.cell 0, hb.cell 1, hb.cell 2⟩, ⟨hu, ⟨none, 0, rfl, by simp [resOne], fun j hj => absurd hj (by simp [resOne])⟩⟩⟩
theorem alike_ab (a b : Value) (w : World) (ha : Outs w a (resOne 97).outs) (hb : Outs w b (resOne 98).outs) : Calls Tryz.prog 33 #[.agg #[.int .i64 0, .int .i64 0, a], .agg #[.int .i64 0, .int .i64 0, b]] w fun e w' => e = .returned (.bool false) ∧ w.grownBy w' none := alike33 a b (resOne 97) (resOne 98) w ha hb
theorem alike_aa (a : Value) (w : World) (ha : Outs w a (resOne 97).outs) : Calls Tryz.prog 33 #[.agg #[.int .i64 0, .int .i64 0, a], .agg #[.int .i64 0, .int .i64 0, a]] w fun e w' => e = .returned (.bool true) ∧ w.grownBy w' none := alike33 a a (resOne 97) (resOne 97) w ha ha

set_option maxRecDepth 100000 in
set_option maxHeartbeats 8000000 in
theorem long7 (w : World) (hE : EnvF w) : Calls Tryz.prog 7 #[] w fun e w' => e = .returned (.bool true) ∧ w.grownBy w' none := by
  have HE : Hid (EnvF w) := hE
  clear hE
  go_enter Tryz.func7, Tryz.ntmps7
  go_wp2_with (go_at_call 35; refine (full35 15 _ (by decide)).mono ?_)
  rintro e w1 ⟨u1, rfl, ho1, hg1⟩
  obtain ⟨x1, n1, c1, rfl, _, _, HO1⟩ := ops_open ho1
  have H1 : Hid (w.grownBy w1 none) := hg1
  clear ho1 hg1
  go_wp2_with (go_at_call 13; refine (bytes13_15 _ _ HO1.out).mono ?_)
  rintro e w2 ⟨x2, c2, rfl, hg2⟩
  have H2 : Hid (w.grownBy w2 none) := grown_trans H1.out hg2
  clear hg2 HO1 H1
  go_wp2_with (go_at_call 35; refine (full35 16 _ (by decide)).mono ?_)
  rintro e w3 ⟨u3, rfl, ho3, hg3⟩
  obtain ⟨x3, n3, c3, rfl, _, _, HO3⟩ := ops_open ho3
  have H3 : Hid (w.grownBy w3 none) := grown_trans H2.out hg3
  clear ho3 hg3 H2
  go_wp2_with (go_at_call 13; refine (bytes13_16 _ _ HO3.out).mono ?_)
  rintro e w4 ⟨x4, n4, c4, rfl, hg4⟩
  have H4 : Hid (w.grownBy w4 none) := grown_trans H3.out hg4
  clear hg4 HO3 H3
  go_wp2_with (go_at_call 35; refine (full35 16 _ (by decide)).mono ?_)
  rintro e w5 ⟨u5, rfl, ho5, hg5⟩
  obtain ⟨x5, n5, c5, rfl, _, _, HO5⟩ := ops_open ho5
  have H5 : Hid (w.grownBy w5 none) := grown_trans H4.out hg5
  clear ho5 hg5 H4
  go_wp2_with (go_at_call 14; refine (text14_16 _ _ HO5.out (HE.out.grown H5.out).kw).mono ?_)
  rintro e w6 ⟨rfl, hg6⟩
  have H6 : Hid (w.grownBy w6 none) := grown_trans H5.out hg6
  clear hg6 HO5 H5
  go_wp2_with (go_at_call 27; refine (result27_far _).mono ?_)
  rintro e w7 ⟨rfl, hg7⟩
  have H7 : Hid (w.grownBy w7 none) := grown_trans H6.out hg7
  clear hg7 H6
  go_wp2_with (go_at_call 27; refine (result27_near _).mono ?_)
  rintro e w8 ⟨x8, n8, c8, rfl, hg8⟩
  have H8 : Hid (w.grownBy w8 none) := grown_trans H7.out hg8
  clear hg8 H7
  obtain ⟨wa, cva, hsa, Ha⟩ := lit29 w8 #[.int .u8 97] 1 [97] rfl rfl rfl (by simp)
  go_upto_region 7 with fail
  have H9 : Hid (Outs (((wa.alloc (.cells #[.bool false, .slice (some ⟨w8.heap.size, 0, none⟩) 1 1, .slice none 0 0] 54)).alloc (.cells #[.int .i64 0, .int .i64 0, .slice (some ⟨w8.heap.size + 1, 0, none⟩) 1 1] 51)) : World) (.slice (some ⟨w8.heap.size + 1, 0, none⟩) 1 1) (resOne 97).outs ∧ Blk (((wa.alloc (.cells #[.bool false, .slice (some ⟨w8.heap.size, 0, none⟩) 1 1, .slice none 0 0] 54)).alloc (.cells #[.int .i64 0, .int .i64 0, .slice (some ⟨w8.heap.size + 1, 0, none⟩) 1 1] 51)) : World) (w8.heap.size + 1 + 1) 51 #[.int .i64 0, .int .i64 0, .slice (some ⟨w8.heap.size + 1, 0, none⟩) 1 1] ∧ w.grownBy (((wa.alloc (.cells #[.bool false, .slice (some ⟨w8.heap.size, 0, none⟩) 1 1, .slice none 0 0] 54)).alloc (.cells #[.int .i64 0, .int .i64 0, .slice (some ⟨w8.heap.size + 1, 0, none⟩) 1 1] 51)) : World) none) := by
    have hb1 : Blk (wa.alloc (.cells #[.bool false, .slice (some ⟨w8.heap.size, 0, none⟩) 1 1, .slice none 0 0] 54)) (w8.heap.size + 1) 54 #[.bool false, .slice (some ⟨w8.heap.size, 0, none⟩) 1 1, .slice none 0 0] := by
      have := heap_alloc_new wa (.cells #[.bool false, .slice (some ⟨w8.heap.size, 0, none⟩) 1 1, .slice none 0 0] 54)
      rw [hsa] at this; exact this
    have hb2 := heap_alloc_new (wa.alloc (.cells #[.bool false, .slice (some ⟨w8.heap.size, 0, none⟩) 1 1, .slice none 0 0] 54)) (.cells #[.int .i64 0, .int .i64 0, .slice (some ⟨w8.heap.size + 1, 0, none⟩) 1 1] 51)
    have es : (wa.alloc (.cells #[.bool false, .slice (some ⟨w8.heap.size, 0, none⟩) 1 1, .slice none 0 0] 54)).heap.size = w8.heap.size + 1 + 1 := by simp [hsa]
    rw [es] at hb2
    have hg1 := World.grownBy_alloc (wa.alloc (.cells #[.bool false, .slice (some ⟨w8.heap.size, 0, none⟩) 1 1, .slice none 0 0] 54)) (.cells #[.int .i64 0, .int .i64 0, .slice (some ⟨w8.heap.size + 1, 0, none⟩) 1 1] 51) none
    have hg0 := World.grownBy_alloc wa (.cells #[.bool false, .slice (some ⟨w8.heap.size, 0, none⟩) 1 1, .slice none 0 0] 54) none
    exact ⟨outs_one (hb1.grown hg1 (by simp)) ((Ha.out.1.grown hg0).grown hg1), hb2, grown_trans (grown_trans H8.out Ha.out.2) (grown_trans hg0 hg1)⟩
  generalize (((wa.alloc (.cells #[.bool false, .slice (some ⟨w8.heap.size, 0, none⟩) 1 1, .slice none 0 0] 54)).alloc (.cells #[.int .i64 0, .int .i64 0, .slice (some ⟨w8.heap.size + 1, 0, none⟩) 1 1] 51)) : World) = w9 at H9 ⊢
  clear cva hsa Ha H8
  obtain ⟨wb, cvb, hsb, Hb⟩ := lit29 w9 #[.int .u8 98] 1 [98] rfl rfl rfl (by simp)
  go_upto_region 8 with fail
  have H10 : Hid (Outs (((wb.alloc (.cells #[.bool false, .slice (some ⟨w9.heap.size, 0, none⟩) 1 1, .slice none 0 0] 54)).alloc (.cells #[.int .i64 0, .int .i64 0, .slice (some ⟨w9.heap.size + 1, 0, none⟩) 1 1] 51)) : World) (.slice (some ⟨w8.heap.size + 1, 0, none⟩) 1 1) (resOne 97).outs ∧ Blk (((wb.alloc (.cells #[.bool false, .slice (some ⟨w9.heap.size, 0, none⟩) 1 1, .slice none 0 0] 54)).alloc (.cells #[.int .i64 0, .int .i64 0, .slice (some ⟨w9.heap.size + 1, 0, none⟩) 1 1] 51)) : World) (w8.heap.size + 1 + 1) 51 #[.int .i64 0, .int .i64 0, .slice (some ⟨w8.heap.size + 1, 0, none⟩) 1 1] ∧ Outs (((wb.alloc (.cells #[.bool false, .slice (some ⟨w9.heap.size, 0, none⟩) 1 1, .slice none 0 0] 54)).alloc (.cells #[.int .i64 0, .int .i64 0, .slice (some ⟨w9.heap.size + 1, 0, none⟩) 1 1] 51)) : World) (.slice (some ⟨w9.heap.size + 1, 0, none⟩) 1 1) (resOne 98).outs ∧ Blk (((wb.alloc (.cells #[.bool false, .slice (some ⟨w9.heap.size, 0, none⟩) 1 1, .slice none 0 0] 54)).alloc (.cells #[.int .i64 0, .int .i64 0, .slice (some ⟨w9.heap.size + 1, 0, none⟩) 1 1] 51)) : World) (w9.heap.size + 1 + 1) 51 #[.int .i64 0, .int .i64 0, .slice (some ⟨w9.heap.size + 1, 0, none⟩) 1 1] ∧ w.grownBy (((wb.alloc (.cells #[.bool false, .slice (some ⟨w9.heap.size, 0, none⟩) 1 1, .slice none 0 0] 54)).alloc (.cells #[.int .i64 0, .int .i64 0, .slice (some ⟨w9.heap.size + 1, 0, none⟩) 1 1] 51)) : World) none) := by
    have hb1 : Blk (wb.alloc (.cells #[.bool false, .slice (some ⟨w9.heap.size, 0, none⟩) 1 1, .slice none 0 0] 54)) (w9.heap.size + 1) 54 #[.bool false, .slice (some ⟨w9.heap.size, 0, none⟩) 1 1, .slice none 0 0] := by
      have := heap_alloc_new wb (.cells #[.bool false, .slice (some ⟨w9.heap.size, 0, none⟩) 1 1, .slice none 0 0] 54)
      rw [hsb] at this; exact this
    have hb2 := heap_alloc_new (wb.alloc (.cells #[.bool false, .slice (some ⟨w9.heap.size, 0, none⟩) 1 1, .slice none 0 0] 54)) (.cells #[.int .i64 0, .int .i64 0, .slice (some ⟨w9.heap.size + 1, 0, none⟩) 1 1] 51)
    have es : (wb.alloc (.cells #[.bool false, .slice (some ⟨w9.heap.size, 0, none⟩) 1 1, .slice none 0 0] 54)).heap.size = w9.heap.size + 1 + 1 := by simp [hsb]
    rw [es] at hb2
    have hg1 := World.grownBy_alloc (wb.alloc (.cells #[.bool false, .slice (some ⟨w9.heap.size, 0, none⟩) 1 1, .slice none 0 0] 54)) (.cells #[.int .i64 0, .int .i64 0, .slice (some ⟨w9.heap.size + 1, 0, none⟩) 1 1] 51) none
    have hg0 := World.grownBy_alloc wb (.cells #[.bool false, .slice (some ⟨w9.heap.size, 0, none⟩) 1 1, .slice none 0 0] 54) none
    have hg := grown_trans Hb.out.2 (grown_trans hg0 hg1)
    exact ⟨H9.out.1.grown hg, H9.out.2.1.grown hg (by simp), outs_one (hb1.grown hg1 (by simp)) ((Hb.out.1.grown hg0).grown hg1), hb2, grown_trans H9.out.2.2 hg⟩
  generalize (((wb.alloc (.cells #[.bool false, .slice (some ⟨w9.heap.size, 0, none⟩) 1 1, .slice none 0 0] 54)).alloc (.cells #[.int .i64 0, .int .i64 0, .slice (some ⟨w9.heap.size + 1, 0, none⟩) 1 1] 51)) : World) = w10 at H10 ⊢
  clear cvb hsb Hb H9
  have p0 := H10.out.2.1.cell 0
  have p1 := H10.out.2.1.cell 1
  have p2 := H10.out.2.1.cell 2
  have q0 := H10.out.2.2.2.1.cell 0
  have q1 := H10.out.2.2.2.1.cell 1
  have q2 := H10.out.2.2.2.1.cell 2
  go_wp2_with (first | (go_at_call 15; refine (num15 _ _).mono ?_; rintro e wn ⟨rfl, hw⟩; rw [hw]; clear hw) | (go_at_call 33; refine (alike_ab _ _ _ H10.out.1 H10.out.2.2.1).mono ?_))
  rintro e w11 ⟨rfl, hg11⟩
  have H11 : Hid (Outs w11 (.slice (some ⟨w8.heap.size + 1, 0, none⟩) 1 1) (resOne 97).outs ∧ Blk w11 (w8.heap.size + 1 + 1) 51 #[.int .i64 0, .int .i64 0, .slice (some ⟨w8.heap.size + 1, 0, none⟩) 1 1] ∧ w.grownBy w11 none) := ⟨H10.out.1.grown hg11, H10.out.2.1.grown hg11 (by simp), grown_trans H10.out.2.2.2.2 hg11⟩
  clear hg11 H10 p0 p1 p2 q0 q1 q2
  have p0 := H11.out.2.1.cell 0
  have p1 := H11.out.2.1.cell 1
  have p2 := H11.out.2.1.cell 2
  go_wp2_with (go_at_call 33; refine (alike_aa _ _ H11.out.1).mono ?_)
  rintro e w12 ⟨rfl, hg12⟩
  have H12 : Hid (w.grownBy w12 none) := grown_trans H11.out.2.2 hg12
  clear hg12 H11 p0 p1 p2
  go_wp2_with (go_at_call 10; refine (known10 _ (HE.out.grown H12.out)).mono ?_)
  rintro e w13 ⟨rfl, hg13⟩
  go_wp2_with fail
  go_ret
  exact ⟨rfl, grown_trans H12.out hg13⟩
end Go.Proofs.YtfocmbnhkldnfaaGreatDoor
