/-
  Proved: the law WireNil returns true, whatever lies in memory; no condition.
-/
import Derived.Test.YtneppkbbnajpnaaZ
import Derived.ProofKit
namespace Go.Proofs.Ytneppkbbnajpnaa
open Go.ChangeShapes Go.WideShapes Go.ChangeAt Go.RowKit

set_option maxRecDepth 100000 in
set_option maxHeartbeats 1000000 in
theorem nil7 (w : World) : Calls Try.prog 7 #[] w fun e w' => e = .returned (.bool true) ∧ w.grownBy w' none := by
  go_enter Try.func7, Try.ntmps7
  go_wp2_with fail
  refine (put33_nil _).mono ?_
  rintro e w1 ⟨rfl, he⟩; subst he
  go_wp2_with fail
  refine (put33_none _).mono ?_
  rintro e w2 ⟨u, rfl, hu, hg⟩
  have S2 : Hid (Own w2 w1.heap.size u [0] ∧ w1.grownBy w2 none) := ⟨hu, hg⟩
  clear hu hg
  go_wp2_with fail
  refine (open19 _ [0] _ (seg_litl w2 _ [0] rfl (by simp)) (by simp)).mono ?_
  rintro e w3 ⟨b, rfl, hb, hr, hg⟩
  have S3 : Hid (Own w3 w1.heap.size u [0] ∧ w1.grownBy w3 none) := by
    have h := grown_trans (World.grownBy_alloc w2 _ none) hg
    exact ⟨S2.out.1.grown h, grown_trans S2.out.2 h⟩
  clear hb hr hg S2
  go_wp2_with fail
  refine (take35_nil _ _ _).mono ?_
  rintro e w4 ⟨rfl, hg⟩
  have S4 : Hid (Own w4 w1.heap.size u [0] ∧ w1.grownBy w4 none) := ⟨S3.out.1.grown hg, grown_trans S3.out.2 hg⟩
  clear hg S3
  go_wp2_with fail
  refine (take31_nil _ _).mono ?_
  rintro e w5 ⟨rfl, hg⟩
  have S5 : Hid (Own w5 w1.heap.size u [0] ∧ w1.grownBy w5 none) := ⟨S4.out.1.grown hg, grown_trans S4.out.2 hg⟩
  clear hg S4
  have cv := seg_str S5.out.1.seg
  go_wp2_with fail
  refine (num_any _ _).mono ?_
  rintro e w6 ⟨rfl, he⟩; subst he
  go_wp2_with fail
  refine (num_any _ _).mono ?_
  rintro e w6 ⟨rfl, he⟩; subst he
  go_wp2_with fail
  refine (num_any _ _).mono ?_
  rintro e w6 ⟨rfl, he⟩; subst he
  go_wp2_with fail
  refine (num_any _ _).mono ?_
  rintro e w6 ⟨rfl, he⟩; subst he
  go_wp2_with fail
  refine (nothing36_nil _).mono ?_
  rintro e w6 ⟨rfl, hg⟩
  have S6 : Hid (w1.grownBy w6 none) := grown_trans S5.out.2 hg
  clear hg S5 cv
  go_wp2_with fail
  refine (nothing36_zero w6.heap.size _ (heap_alloc_new w6 _)).mono ?_
  rintro e w7 ⟨rfl, hg⟩
  have S7 : Hid (w1.grownBy w7 none) := grown_trans S6.out (grown_trans (World.grownBy_alloc _ _ _) hg)
  clear hg S6
  go_wp2_with fail
  refine (known18 _).mono ?_
  rintro e w8 ⟨rfl, hg⟩
  have S8 : Hid (w1.grownBy w8 none) := grown_trans S7.out hg
  clear hg S7
  go_wp2_with fail
  go_ret
  exact ⟨rfl, S8.out⟩

theorem Try.own : ownKnob Try.prog.godebug = none := by kernel_rfl
theorem Try.laidOut : laidOutB Try.prog = true := by kernel_rfl

set_option maxRecDepth 100000 in
theorem nil_lifted (os : Os) (started : os.Started) (H : Type) (enc : TypeId × Value → H) :
    ReturnsInHanded {} Try.checked os 7 .any (Rows.wireNilSpec.pre6 enc Try.prog Try.f7 Rows.wireNilRow.domain false) (Rows.wireNilSpec.post enc Try.prog Try.f7 false true false false) := by
  refine returnsInHanded_of_change (C := Try.checked) Try.own started (by kernel_rfl) Try.func7
    (ChangeSpec.witness6 (enc := enc) (C := Try.checked) false ⟨#[], #[], []⟩ 8 (by kernel_rfl) (by kernel_rfl) (by kernel_rfl) (by kernel_rfl)) ?_
  intro W base args ds gs before hval0 hW hcnd _
  have hW' := hW
  obtain ⟨p, q, hA0, hV, rfl, hfz, hnd⟩ := hW
  have hA : DataW.TrodAll enc Try.prog W 0 (fun _ => true) true Try.f7.params.toList args.toList ds p := hA0
  rw [Try.params7] at hA
  obtain ⟨rfl, rfl, rfl⟩ := trodAll_none hA
  obtain ⟨rfl, rfl⟩ := trodVars_none hV
  refine (nil7 W).mono fun e W' ⟨he, hg⟩ => ?_
  subst he
  exact ⟨_, rfl, _, _, _, [], _, [], hW', trodAll_mk1 (shut_bool Try.underlying4 _), trodAll_mk0, rfl, (grown_below hg).frame _, fun h => by cases h⟩

theorem wireNil_holds : Rows.WireNilSaid :=
  OpenClaim.holds_of_wide 7 Try.f7 rfl rfl rfl rfl rfl rfl rfl ⟨rfl, rfl, rfl, rfl, rfl⟩ rfl rfl rfl rfl rfl (by kernel_rfl) Try.func7 (by kernel_rfl)
    (of_decide_eq_true (by kernel_rfl)) (by unfold Func.isWrapper; first | (rw [if_pos (by decide +kernel)]; kernel_rfl) | (rw [if_neg (by decide +kernel)]; exact ⟨rfl, rfl⟩))
    (fun os started H enc _ => nil_lifted os started H enc)
#print axioms wireNil_holds

end Go.Proofs.Ytneppkbbnajpnaa
