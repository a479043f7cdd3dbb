/-
  EngineNil's walk.
-/
import Derived.Test.YtakmlhhapegpoaaGreatNb
import Derived.Lib.SlBytesConst
namespace Go.Proofs.YtakmlhhapegpoaaGreat
open Go.RowKit Disk Table
open Names (Str cmpL keyB valueB tabB)
open _root_.Go.Proofs.YtakmlhhapegpoaaGreat.Calls (POp POut PRes opV OpSeg OpIn mayOp Ops OpAt ops_at ops_open chk rds mayCall)

/-- Bytes of a constant. -/
theorem lit59 (w : World) (C : Array Value) (n : Nat) (L : List UInt8) (h : C.size = n) (hx : C.toList = BV L) (hl : L.length = n) (hz : L.length ≤ 9223372036854775807) :
    ∃ w', (convert 59 59 (.slice (some ⟨w.heap.size, 0, none⟩) n n)).run Tryz.prog (w.alloc (.cells C 5)) = .ok (.slice (some ⟨w.heap.size, 0, none⟩) n n) w' ∧ Hid (Seg w' (.slice (some ⟨w.heap.size, 0, none⟩) n n) L ∧ w.grownBy w' none) := by
  refine ⟨w.alloc (.cells C 5 (n, n + 1)), ?_, ?_, World.grownBy_alloc _ _ _⟩
  · subst h
    exact Go.Lib.run_convert_bytes_const w 59 5 C _ _ Tryz.underlying59 Tryz.underlying5
  · subst hl
    exact seg_lit w C _ L hx hz
/-- Two rows alike are no table's. -/
theorem new_two : newD [] [] [([116], ([107], [])), ([116], ([107], []))] = none := by
  unfold newD
  rw [if_neg]
  rintro ⟨h, _⟩
  have e : frontR [(([116] : Bs), (([107] : Bs), ([] : Bs))), ([116], ([107], []))] = [([107], []), ([107], [])] := by kernel_rfl
  rw [e] at h
  have := h.1 0 1 (by simp) (by simp) (by omega)
  simp [Names.cmp_self] at this
theorem new15_two (q : Int × Int) (v : Value) (w : World) (hv : Nms w v [([116], ([107], [])), ([116], ([107], []))]) : Calls Tryz.prog 15 #[quoV q, v] w fun e w' => e = .returned (.tuple #[.pointer none, .int .i64 2]) ∧ w.grownBy w' none := by
  refine (new15 (X := X0) q v _ (by simp) (by simp) w (x0 w) hv).mono ?_
  rintro e w' ⟨g, h | h | h⟩
  · obtain ⟨_, D, b, hD, _⟩ := h
    rw [new_two] at hD
    cases hD
  · obtain ⟨_, D, hD, _⟩ := h
    rw [new_two] at hD
    cases hD
  · exact ⟨h.2, g⟩
set_option maxRecDepth 100000 in
set_option maxHeartbeats 16000000 in
theorem nil5 (w : World) : Calls Tryz.prog 5 #[] w fun e w' => e = .returned (.bool true) ∧ w.grownBy w' none := by
  go_enter Tryz.func5, Tryz.ntmps5
  go_wp2_with fail
  refine (new15_nil (4096, 1048576) w (by kernel_rfl)).mono ?_
  rintro e w1 ⟨a, rfl, _, hA1, g1⟩
  have H1 : Hid (Eng X0 w1 a (4096, 1048576) [] ∧ w.grownBy w1 none) := ⟨hA1, g1⟩
  clear hA1 g1
  go_wp2_with fail
  refine (new15_bad (4097, 1) w1 (by kernel_rfl)).mono ?_
  rintro e w2 ⟨rfl, g2⟩
  have H2 : Hid (Eng X0 w2 a (4096, 1048576) [] ∧ w.grownBy w2 none) := ⟨H1.out.1.grown g2, grown_trans H1.out.2 g2⟩
  clear g2
  go_wp2_with fail
  refine (new15_bad (1, 1048577) w2 (by kernel_rfl)).mono ?_
  rintro e w3 ⟨rfl, g3⟩
  have H3 : Hid (Eng X0 w3 a (4096, 1048576) [] ∧ w.grownBy w3 none) := ⟨H2.out.1.grown g3, grown_trans H2.out.2 g3⟩
  clear g3
  go_wp2_with fail
  refine (new15_bad (0, 0) w3 (by kernel_rfl)).mono ?_
  rintro e w4 ⟨rfl, g4⟩
  have H4 : Hid (Eng X0 w4 a (4096, 1048576) [] ∧ w.grownBy w4 none) := ⟨H3.out.1.grown g4, grown_trans H3.out.2 g4⟩
  clear g4
  obtain ⟨w5, cv5, h5⟩ := lit59 w4 #[.int .u8 107] 1 [107] rfl rfl rfl (by simp)
  obtain ⟨kb, hkb⟩ : ∃ kb, w4.heap.size = kb := ⟨_, rfl⟩
  have H5 : Hid (Seg w5 (.slice (some ⟨kb, 0, none⟩) 1 1) [107] ∧ w4.grownBy w5 none) := by rw [← hkb]; exact h5.out
  rw [hkb] at cv5
  have H6 : Hid (Blk (w5.alloc (.cells #[.string ⟨#[116]⟩, .slice (some ⟨kb, 0, none⟩) 1 1, .slice none 0 0] 61)) w5.heap.size 61 #[.string ⟨#[116]⟩, .slice (some ⟨kb, 0, none⟩) 1 1, .slice none 0 0] ∧ w5.grownBy (w5.alloc (.cells #[.string ⟨#[116]⟩, .slice (some ⟨kb, 0, none⟩) 1 1, .slice none 0 0] 61)) none) := ⟨heap_alloc_new _ _, World.grownBy_alloc _ _ _⟩
  obtain ⟨w7, hw7, H7⟩ := al (w5.alloc (.cells #[.string ⟨#[116]⟩, .slice (some ⟨kb, 0, none⟩) 1 1, .slice none 0 0] 61)) #[.string ⟨#[116]⟩, .slice (some ⟨kb, 0, none⟩) 1 1, .slice none 0 0, .string ⟨#[116]⟩, .slice (some ⟨kb, 0, none⟩) 1 1, .slice none 0 0] 61
  obtain ⟨rb, hrb⟩ : ∃ rb, w5.heap.size + 1 = rb := ⟨_, rfl⟩
  have HN7 : Hid (Nms w7 (.slice (some ⟨rb, 0, none⟩) 2 2) [([116], ([107], [])), ([116], ([107], []))] ∧ w4.grownBy w7 none) := by
    have g7 : w5.grownBy w7 none := grown_trans H6.out.2 H7.out.2.1
    have hb := H7.out.1
    rw [show (w5.alloc (.cells #[.string ⟨#[116]⟩, .slice (some ⟨kb, 0, none⟩) 1 1, .slice none 0 0] 61)).heap.size = w5.heap.size + 1 by simp, hrb] at hb
    refine ⟨⟨[([116], .slice (some ⟨kb, 0, none⟩) 1 1, .slice none 0 0), ([116], .slice (some ⟨kb, 0, none⟩) 1 1, .slice none 0 0)], ⟨rfl, fun j h h' => ?_⟩, ?_⟩, grown_trans H5.out.2 g7⟩
    · have hs := H5.out.1.grown g7
      match j, h with
      | 0, _ => exact ⟨rfl, hs, seg_nil _⟩
      | 1, _ => exact ⟨rfl, hs, seg_nil _⟩
      | j + 2, h => exact absurd h (by simp)
    · refine ⟨_, 2, rfl, Nat.le_refl _, by unfold maxLen; omega, by simp, rfl, fun j u hj => ⟨_, 0, rfl, ?_⟩⟩
      rw [hb.cell, Nat.zero_add]
      have e : ncells [(([116] : Bs), Value.slice (some ⟨kb, 0, none⟩) 1 1, Value.slice none 0 0), ([116], .slice (some ⟨kb, 0, none⟩) 1 1, .slice none 0 0)] = [.string ⟨#[116]⟩, .slice (some ⟨kb, 0, none⟩) 1 1, .slice none 0 0, .string ⟨#[116]⟩, .slice (some ⟨kb, 0, none⟩) 1 1, .slice none 0 0] := rfl
      rw [e] at hj
      simpa using hj
  clear H7
  clear h5
  go_wp2_with fail
  refine (new15_two (9, 9) _ w7 HN7.out.1).mono ?_
  rintro e w8 ⟨rfl, g8⟩
  have H8 : Hid (Eng X0 w8 a (4096, 1048576) [] ∧ w.grownBy w8 none) := by
    have g := grown_trans HN7.out.2 g8
    exact ⟨H4.out.1.grown g, grown_trans H4.out.2 g⟩
  clear g8
  go_wp2_with fail
  refine (new15_nil (9, 9) w8 (by kernel_rfl)).mono ?_
  rintro e w9 ⟨o, rfl, _, hO9, g9⟩
  have H9 : Hid (Eng X0 w9 a (4096, 1048576) [] ∧ w.grownBy w9 none ∧ Eng X0 w9 o (9, 9) []) := ⟨H8.out.1.grown g9, grown_trans H8.out.2 g9, hO9⟩
  clear hO9 g9
  go_wp2_with (go_at_call 16; refine (num16 _ _).mono ?_; rintro e w3 ⟨rfl, hw⟩; rw [hw]; clear hw)
  refine (same13 (X := X0) (Y := X0) o a (9, 9) (4096, 1048576) [] [] good_nil.rise good_nil.rise w9 H9.out.2.2 H9.out.1).mono ?_
  rw [show (decide (((9, 9) : Int × Int) = (4096, 1048576)) && decide (([] : DB) = [])) = false from by kernel_rfl]
  rintro e w10 ⟨rfl, g10⟩
  obtain ⟨m, hE, hM⟩ := H9.out.1.grown g10
  have H10 : Hid (EngB w10 a (4096, 1048576) m ∧ EM X0 w10 m [] ∧ w.grownBy w10 none) := ⟨hE, hM, grown_trans H9.out.2.1 g10⟩
  clear g10 hE hM
  go_wp2_with fail
  refine (copy9 a m (4096, 1048576) w10 H10.out.1).mono ?_
  rintro e w11 ⟨c, rfl, _, hc, g11⟩
  have H11 : Hid (EngB w11 a (4096, 1048576) m ∧ EM X0 w11 m [] ∧ w.grownBy w11 none ∧ EngB w11 c (4096, 1048576) m) := ⟨Blk.grown H10.out.1 g11 (by simp), H10.out.2.1.grown g11, grown_trans H10.out.2.2 g11, hc⟩
  clear g11 hc
  go_wp2_with fail
  refine (same13 (X := X0) (Y := X0) a c (4096, 1048576) (4096, 1048576) [] [] good_nil.rise good_nil.rise w11 ⟨m, H11.out.1, H11.out.2.1⟩ ⟨m, H11.out.2.2.2, H11.out.2.1⟩).mono ?_
  rw [show (decide (((4096, 1048576) : Int × Int) = (4096, 1048576)) && decide (([] : DB) = [])) = true from by kernel_rfl]
  rintro e w12 ⟨rfl, g12⟩
  have H12 : Hid (EngB w12 a (4096, 1048576) m ∧ w.grownBy w12 none) := ⟨Blk.grown H11.out.1 g12 (by simp), grown_trans H11.out.2.2.1 g12⟩
  clear g12
  go_wp2_with (go_at_call 16; refine (num16 _ _).mono ?_; rintro e w3 ⟨rfl, hw⟩; rw [hw]; clear hw)
  refine (copy9_no (.pointer none) w12 (.inl rfl)).mono ?_
  rintro e w13 ⟨rfl, hw⟩
  rw [hw]
  clear hw
  go_wp2_with fail
  refine (nothing24 (.pointer none) w12 (.inl rfl)).mono ?_
  rintro e w14 ⟨rfl, g14⟩
  have H14 : Hid (EngB w14 a (4096, 1048576) m ∧ w.grownBy w14 none) := ⟨Blk.grown H12.out.1 g14 (by simp), grown_trans H12.out.2 g14⟩
  clear g14
  go_wp2_with fail
  obtain ⟨w15, hw15, H15⟩ := al w14 #[.int .i64 0, .int .i64 0, .map none] 64
  rw [hw15]
  clear hw15
  refine (nothing24 (.pointer (some ⟨w14.heap.size, 0, none⟩)) w15 (.inr ⟨_, rfl, H15.out.1⟩)).mono ?_
  rintro e w16 ⟨rfl, g16⟩
  have H16 : Hid (EngB w16 a (4096, 1048576) m ∧ w.grownBy w16 none) := by
    have g := grown_trans H15.out.2.1 g16
    exact ⟨Blk.grown H14.out.1 g (by simp), grown_trans H14.out.2 g⟩
  clear g16 H15
  go_wp2_with fail
  obtain ⟨w17, hw17, H17⟩ := al w16 #[.int .i64 0, .int .i64 0, .map none] 64
  rw [hw17]
  clear hw17
  refine (same13_nn (.pointer none) (.pointer (some ⟨w16.heap.size, 0, none⟩)) w17 (.inl rfl) (.inr ⟨_, rfl, H17.out.1⟩)).mono ?_
  rintro e w18 ⟨rfl, g18⟩
  have H18 : Hid (EngB w18 a (4096, 1048576) m ∧ w.grownBy w18 none) := by
    have g := grown_trans H17.out.2.1 g18
    exact ⟨Blk.grown H16.out.1 g (by simp), grown_trans H16.out.2 g⟩
  clear g18 H17
  go_wp2_with fail
  refine (same13_ny (.pointer none) a m (4096, 1048576) (by simp) w18 (.inl rfl) H18.out.1).mono ?_
  rintro e w19 ⟨rfl, g19⟩
  have H19 : Hid (EngB w19 a (4096, 1048576) m ∧ w.grownBy w19 none) := ⟨Blk.grown H18.out.1 g19 (by simp), grown_trans H18.out.2 g19⟩
  clear g19
  go_wp2_with fail
  refine (same13_yn (.pointer none) a m (4096, 1048576) (by simp) w19 (.inl rfl) H19.out.1).mono ?_
  rintro e w20 ⟨rfl, g20⟩
  have H20 : Hid (w.grownBy w20 none) := grown_trans H19.out.2 g20
  clear g20
  go_wp2_with fail
  refine (known7 w20).mono ?_
  rintro e w21 ⟨rfl, g21⟩
  have H21 : Hid (w.grownBy w21 none) := grown_trans H20.out g21
  clear g21
  go_wp2_with fail
  go_ret
  exact ⟨rfl, H21.out⟩
end Go.Proofs.YtakmlhhapegpoaaGreat
