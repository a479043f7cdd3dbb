/-
  Proved: the law TableNil returns true, whatever lies in memory; no condition.
-/
import Derived.Test.YtlehikdlkdbacaaNl
import Derived.Test.YtlehikdlkdbacaaH
import Derived.Test.YtlehikdlkdbacaaO
namespace Go.Proofs.Ytlehikdlkdbacaa
open Go.ChangeShapes Go.WideShapes Go.ChangeAt Go.RowKit Disk
open Names (cmpL keyB valueB)

theorem good_one (a : UInt8) (u : Bs) (hu : u.length ≤ 256) : Good [([a], u)] := by
  refine ⟨?_, ?_, by simp⟩
  · intro i j hi hj hij
    simp at hi hj
    omega
  · intro r hr
    simp at hr
    subst hr
    simp [okP, keyB, valueB, hu]
theorem bad_twin : ¬ Good [([97], [49]), ([97], [50])] := fun h => by
  have := h.1 0 1 (by simp) (by simp) (by omega)
  revert this
  decide

set_option maxRecDepth 100000 in
set_option maxHeartbeats 16000000 in
theorem nil6 (w : World) : Calls Try.prog 6 #[] w fun e w' => e = .returned (.bool true) ∧ w.grownBy w' none := by
  go_enter Try.func6, Try.ntmps6
  go_wp2_with fail
  refine (new22 _ [] (by simp) w (rws_nil _)).mono ?_
  rintro e w1 (⟨_, bn, rfl, hbn, htn, g1⟩ | ⟨hn, _⟩)
  rotate_left
  · exact absurd good_nil hn
  have H1 : Hid (Tb w1 bn [] ∧ w.grownBy w1 none) := ⟨htn, g1⟩
  clear hbn htn g1
  go_wp2_with fail
  refine (row28 [97] [49] (by simp) (by simp) w1).mono ?_
  rintro e w2 ⟨f1, n1, c1, g1, m1, d1, rfl, k1, v1, gr1⟩
  have H2 : Hid (Seg w2 (.slice f1 n1 c1) [97] ∧ Seg w2 (.slice g1 m1 d1) [49] ∧ w1.grownBy w2 none) := ⟨k1, v1, gr1⟩
  clear k1 v1 gr1
  go_wp2_with fail
  refine (row28 [97] [50] (by simp) (by simp) w2).mono ?_
  rintro e w3 ⟨f2, n2, c2, g2, m2, d2, rfl, k1, v1, gr1⟩
  have H3 : Hid (Seg w3 (.slice f2 n2 c2) [97] ∧ Seg w3 (.slice g2 m2 d2) [50] ∧ w2.grownBy w3 none) := ⟨k1, v1, gr1⟩
  clear k1 v1 gr1
  go_wp2_with fail
  obtain ⟨w4, hw4, H4⟩ := al w3 #[.slice f1 n1 c1, .slice g1 m1 d1, .slice f2 n2 c2, .slice g2 m2 d2] 45
  rw [hw4]
  clear hw4
  have HV : Hid (Rws w4 (.slice (some ⟨w3.heap.size, 0, none⟩) 2 2) [([97], [49]), ([97], [50])]) := rws_two w4 H4.out.1 ((H2.out.1.grown H3.out.2.2).grown H4.out.2.1) ((H2.out.2.1.grown H3.out.2.2).grown H4.out.2.1) (H3.out.1.grown H4.out.2.1) (H3.out.2.1.grown H4.out.2.1)
  refine (new22 _ _ (by simp) w4 HV.out).mono ?_
  rintro e w5 (⟨hgd, _⟩ | ⟨_, rfl, g5⟩)
  · exact absurd hgd bad_twin
  have H5 : Hid (Tb w5 bn [] ∧ w.grownBy w5 none) := by
    have gg := grown_trans (grown_trans H2.out.2.2 (grown_trans H3.out.2.2 H4.out.2.1)) g5
    exact ⟨H1.out.1.grown gg, grown_trans H1.out.2 gg⟩
  clear g5 HV H4 H3 H2 H1
  go_wp2_with fail
  refine (row28 [97] [49] (by simp) (by simp) w5).mono ?_
  rintro e w6 ⟨f1, n1, c1, g1, m1, d1, rfl, k1, v1, gr1⟩
  have H6 : Hid (Seg w6 (.slice f1 n1 c1) [97] ∧ Seg w6 (.slice g1 m1 d1) [49] ∧ w5.grownBy w6 none) := ⟨k1, v1, gr1⟩
  clear k1 v1 gr1
  go_wp2_with fail
  obtain ⟨w7, hw7, H7⟩ := al w6 #[.slice f1 n1 c1, .slice g1 m1 d1] 45
  rw [hw7]
  clear hw7
  refine (new22 _ [([97], [49])] (by simp) w7 (rws_one w7 H7.out.1 (H6.out.1.grown H7.out.2.1) (H6.out.2.1.grown H7.out.2.1))).mono ?_
  rintro e w8 (⟨_, bx, rfl, hbx, htx, g8⟩ | ⟨hn, _⟩)
  rotate_left
  · exact absurd (good_one 97 [49] (by simp)) hn
  have H8 : Hid (Tb w8 bn [] ∧ Tb w8 bx [([97], [49])] ∧ w.grownBy w8 none) := by
    have gg := grown_trans (grown_trans H6.out.2.2 H7.out.2.1) g8
    exact ⟨H5.out.1.grown gg, htx, grown_trans H5.out.2 gg⟩
  clear hbx htx g8 H7 H6 H5
  go_wp2_with fail
  refine (row28 [97] [50] (by simp) (by simp) w8).mono ?_
  rintro e w6 ⟨f1, n1, c1, g1, m1, d1, rfl, k1, v1, gr1⟩
  have H6 : Hid (Seg w6 (.slice f1 n1 c1) [97] ∧ Seg w6 (.slice g1 m1 d1) [50] ∧ w8.grownBy w6 none) := ⟨k1, v1, gr1⟩
  clear k1 v1 gr1
  go_wp2_with fail
  obtain ⟨w7, hw7, H7⟩ := al w6 #[.slice f1 n1 c1, .slice g1 m1 d1] 45
  rw [hw7]
  clear hw7
  refine (new22 _ [([97], [50])] (by simp) w7 (rws_one w7 H7.out.1 (H6.out.1.grown H7.out.2.1) (H6.out.2.1.grown H7.out.2.1))).mono ?_
  rintro e w9 (⟨_, by', rfl, hby, hty, g9⟩ | ⟨hn, _⟩)
  rotate_left
  · exact absurd (good_one 97 [50] (by simp)) hn
  have H9 : Hid (Tb w9 bn [] ∧ Tb w9 bx [([97], [49])] ∧ Tb w9 by' [([97], [50])] ∧ w.grownBy w9 none) := by
    have gg := grown_trans (grown_trans H6.out.2.2 H7.out.2.1) g9
    exact ⟨H8.out.1.grown gg, H8.out.2.1.grown gg, hty, grown_trans H8.out.2.2 gg⟩
  clear hby hty g9 H7 H6 H8
  go_wp2_with (go_at_call 21; refine (num21 _ _).mono ?_; rintro e wx ⟨rfl, hx⟩; rw [hx]; clear hx)
  refine (same11 _ _ true true _ _ w9 H9.out.2.1.tl H9.out.2.2.1.tl).mono ?_
  rintro e w10 ⟨rfl, m10, hw10⟩
  rw [hw10, show (decide (true = true) && decide (([([97], [49])] : List PRow) = [([97], [50])])) = false from by decide]
  have H10 : Hid (Tb (w9.drewN m10) bn [] ∧ Tb (w9.drewN m10) bx [([97], [49])] ∧ w.grownBy (w9.drewN m10) none) := ⟨H9.out.1.grown (grown_drewN _ _ _), H9.out.2.1.grown (grown_drewN _ _ _), grown_trans H9.out.2.2.2 (grown_drewN _ _ _)⟩
  generalize w9.drewN m10 = w11 at H10 ⊢
  clear hw10 H9
  go_wp2_with fail
  refine (copy10 bx _ w11 H10.out.2.1).mono ?_
  rintro e w12 ⟨rfl, ht12, g12⟩
  have H12 : Hid (Tb w12 bn [] ∧ Tb w12 bx [([97], [49])] ∧ Tb w12 w11.heap.size [([97], [49])] ∧ w.grownBy w12 none) := ⟨H10.out.1.grown g12, H10.out.2.1.grown g12, ht12, grown_trans H10.out.2.2 g12⟩
  clear ht12 g12 H10
  go_wp2_with fail
  refine (same11 _ _ true true _ _ w12 H12.out.2.1.tl H12.out.2.2.1.tl).mono ?_
  rintro e w13 ⟨rfl, m13, hw13⟩
  rw [hw13, show (decide (true = true) && decide (([([97], [49])] : List PRow) = [([97], [49])])) = true from by decide]
  have H13 : Hid (Tb (w12.drewN m13) bn [] ∧ w.grownBy (w12.drewN m13) none) := ⟨H12.out.1.grown (grown_drewN _ _ _), grown_trans H12.out.2.2.2 (grown_drewN _ _ _)⟩
  generalize w12.drewN m13 = w14 at H13 ⊢
  clear hw13 H12
  go_wp2_with (go_at_call 21; refine (num21 _ _).mono ?_; rintro e wx ⟨rfl, hx⟩; rw [hx]; clear hx)
  refine (copy10_no _ [] w14 (NoTb.tl (.inl rfl))).mono ?_
  rintro e w15 ⟨rfl, hw15⟩
  rw [hw15]
  clear hw15
  go_wp2_with fail
  refine (nothing29 _ w14 (.inl rfl)).mono ?_
  rintro e w15 ⟨rfl, g15⟩
  have H15 : Hid (Tb w15 bn [] ∧ w.grownBy w15 none) := ⟨H13.out.1.grown g15, grown_trans H13.out.2 g15⟩
  clear g15 H13
  go_wp2_with fail
  obtain ⟨w16, hw16, H16⟩ := al w15 #[.bool false, .slice none 0 0] 68
  rw [hw16]
  clear hw16
  refine (nothing29 _ w16 (.inr ⟨_, rfl, H16.out.1⟩)).mono ?_
  rintro e w17 ⟨rfl, g17⟩
  have H17 : Hid (Tb w17 bn [] ∧ w.grownBy w17 none) := by
    have gg := grown_trans H16.out.2.1 g17
    exact ⟨H15.out.1.grown gg, grown_trans H15.out.2 gg⟩
  clear g17 H16 H15
  go_wp2_with fail
  obtain ⟨w18, hw18, H18⟩ := al w17 #[.bool false, .slice none 0 0] 68
  rw [hw18]
  clear hw18
  refine (same11 _ _ false false [] [] w18 (NoTb.tl (.inl rfl)) (NoTb.tl (.inr ⟨_, rfl, H18.out.1⟩))).mono ?_
  rintro e w19 ⟨rfl, m19, hw19⟩
  rw [hw19, show (decide (false = false) && decide (([] : List PRow) = [])) = true from by decide]
  have H19 : Hid (Tb (w18.drewN m19) bn [] ∧ w.grownBy (w18.drewN m19) none) := by
    have gg := grown_trans H18.out.2.1 (grown_drewN w18 m19 _)
    exact ⟨H17.out.1.grown gg, grown_trans H17.out.2 gg⟩
  generalize w18.drewN m19 = w20 at H19 ⊢
  clear hw19 H18 H17
  go_wp2_with fail
  refine (same11 _ _ false true [] [] w20 (NoTb.tl (.inl rfl)) H19.out.1.tl).mono ?_
  rintro e w21 ⟨rfl, m21, hw21⟩
  rw [hw21, show (decide (false = true) && decide (([] : List PRow) = [])) = false from by decide]
  have H21 : Hid (Tb (w20.drewN m21) bn [] ∧ w.grownBy (w20.drewN m21) none) := ⟨H19.out.1.grown (grown_drewN _ _ _), grown_trans H19.out.2 (grown_drewN _ _ _)⟩
  generalize w20.drewN m21 = w22 at H21 ⊢
  clear hw21 H19
  go_wp2_with fail
  refine (same11 _ _ true false [] [] w22 H21.out.1.tl (NoTb.tl (.inl rfl))).mono ?_
  rintro e w23 ⟨rfl, m23, hw23⟩
  rw [hw23, show (decide (true = false) && decide (([] : List PRow) = [])) = false from by decide]
  have H23 : Hid (Tb (w22.drewN m23) bn [] ∧ w.grownBy (w22.drewN m23) none) := ⟨H21.out.1.grown (grown_drewN _ _ _), grown_trans H21.out.2 (grown_drewN _ _ _)⟩
  generalize w22.drewN m23 = w24 at H23 ⊢
  clear hw23 H21
  go_wp2_with fail
  refine (same11 _ _ true true [] [] w24 H23.out.1.tl H23.out.1.tl).mono ?_
  rintro e w25 ⟨rfl, m25, hw25⟩
  rw [hw25, show (decide (true = true) && decide (([] : List PRow) = [])) = true from by decide]
  have H25 : Hid (w.grownBy (w24.drewN m25) none) := grown_trans H23.out.2 (grown_drewN _ _ _)
  generalize w24.drewN m25 = w26 at H25 ⊢
  clear hw25 H23
  go_wp2_with fail
  refine (known8 w26).mono ?_
  rintro e w27 ⟨rfl, g27⟩
  have H27 : Hid (w.grownBy w27 none) := grown_trans H25.out g27
  clear g27 H25
  go_wp2_with fail
  go_ret
  exact ⟨rfl, H27.out⟩

set_option maxRecDepth 100000 in
theorem nil_lifted (os : Os) (started : os.Started) (H : Type) (enc : TypeId × Value → H) :
    ReturnsInHanded {} Try.checked os 6 .any (Rows.tableNilSpec.pre6 enc Try.prog Try.f6 Rows.tableNilRow.domain false) (Rows.tableNilSpec.post enc Try.prog Try.f6 false true false false) := by
  refine returnsInHanded_of_change (C := Try.checked) Try.own started (by kernel_rfl) Try.func6
    (ChangeSpec.witness6 (enc := enc) (C := Try.checked) false ⟨#[], #[], []⟩ 8 (by kernel_rfl) (by kernel_rfl) (by kernel_rfl) (by kernel_rfl)) ?_
  intro W base args ds gs before hval0 hW hcnd _
  have hW' := hW
  obtain ⟨p, q, hA0, hV, rfl, hfz, hnd⟩ := hW
  have hA : DataW.TrodAll enc Try.prog W 0 (fun _ => true) true Try.f6.params.toList args.toList ds p := hA0
  rw [Try.params6] at hA
  obtain ⟨rfl, rfl, rfl⟩ := trodAll_none hA
  obtain ⟨rfl, rfl⟩ := trodVars_none hV
  refine (nil6 W).mono fun e W' ⟨he, hg⟩ => ?_
  subst he
  exact ⟨_, rfl, _, _, _, [], _, [], hW', trodAll_mk1 (shut_bool Try.underlying4 _), trodAll_mk0, rfl, (grown_below hg).frame _, fun h => by cases h⟩

theorem tableNil_holds : Rows.TableNilSaid :=
  OpenClaim.holds_of_wide 6 Try.f6 rfl rfl rfl rfl rfl rfl rfl ⟨rfl, rfl, rfl, rfl, rfl⟩ rfl rfl rfl rfl rfl (by kernel_rfl) Try.func6 (by kernel_rfl)
    (of_decide_eq_true (by kernel_rfl)) (by unfold Func.isWrapper; first | (rw [if_pos (by decide +kernel)]; kernel_rfl) | (rw [if_neg (by decide +kernel)]; exact ⟨rfl, rfl⟩))
    (fun os started H enc _ => nil_lifted os started H enc)
#print axioms tableNil_holds
end Go.Proofs.Ytlehikdlkdbacaa
