/-
  Proved: the law CrcTells returns true, and its arguments read behind the call as before it, for every input that the form takes; no further condition.
-/
import Derived.Test.YtdmnnfppjhpdkaaTl
import Derived.Test.YtdmnnfppjhpdkaaQ
namespace Go.Proofs.Ytdmnnfppjhpdkaa
open Go.ChangeShapes Go.WideShapes Go.ChangeAt Go.RowKit

set_option maxRecDepth 100000 in
theorem tells_lifted (os : Os) (started : os.Started) (H : Type) (enc : TypeId × Value → H) :
    ReturnsInHanded {} Try.checked os 5 .any (Rows.crcTellsSpec.pre6 enc Try.prog Try.f5 Rows.crcTellsRow.domain false) (Rows.crcTellsSpec.post enc Try.prog Try.f5 false true false false) := by
  refine returnsInHanded_of_change_sized (C := Try.checked) Try.own started (by kernel_rfl) Try.func5
    (ChangeSpec.witness6 (enc := enc) (C := Try.checked) false ⟨#[], #[.agg #[.slice none 0 0, .slice none 0 0], .agg #[.int .i64 0, .int .i64 0, .int .i64 0], .int .u32 0], []⟩ 8 (by kernel_rfl) (by kernel_rfl) (by kernel_rfl) (by kernel_rfl)) ?_
  intro W base args ds gs before hval0 hW hcnd _ _
  have hval : ∀ (j : Nat) t v, Try.f5.params[j]? = some t → args[j]? = some v → Value.okWide Try.prog W .any base t v := hval0
  have hW' := hW
  obtain ⟨p, q, hA0, hV, rfl, hfz, hnd⟩ := hW
  have hA : DataW.TrodAll enc Try.prog W 0 (fun _ => true) true Try.f5.params.toList args.toList ds p := hA0
  rw [Try.params5] at hA hval
  obtain ⟨v0, v1, v2, d0, d1, d2, p0, p1, p2, rfl, rfl, rfl, h0, h1, h2⟩ := trodAll_three hA
  obtain ⟨rfl, rfl⟩ := trodVars_none hV
  have k0 := h0
  have k1 := h1
  have k2 := h2
  have lt0 : ∀ x ∈ p0, x.block < W.heap.size := by obtain ⟨m, hm⟩ := k0; exact DataW.trod_lt m _ _ _ hm
  have lt1 : ∀ x ∈ p1, x.block < W.heap.size := by obtain ⟨m, hm⟩ := k1; exact DataW.trod_lt m _ _ _ hm
  have lt2 : ∀ x ∈ p2, x.block < W.heap.size := by obtain ⟨m, hm⟩ := k2; exact DataW.trod_lt m _ _ _ hm
  obtain ⟨x, y, yx, yy, nx, rfl, rfl, tx, ty⟩ := open_arr2 Try.underlying33 Try.cells33 Try.cells24 (hval 0 33 v0 rfl rfl) h0
  obtain ⟨a0, a1, a2, ya, yb, yc, na, rfl, rfl, ta, tb, tc⟩ := open_arr3 Try.underlying36 Try.cells36 Try.cells3 (hval 1 36 v1 rfl rfl) h1
  obtain ⟨za, ea, _, wa⟩ := DataW.trod_int Try.underlying3 ta
  obtain ⟨zb, eb, _, wb⟩ := DataW.trod_int Try.underlying3 tb
  obtain ⟨zc, ec, _, wc⟩ := DataW.trod_int Try.underlying3 tc
  obtain ⟨bu, rfl⟩ := okWide_int Try.underlying23 (hval 2 23 v2 rfl rfl)
  obtain ⟨f2, hf2⟩ := h2
  obtain ⟨zn, en, _, wn⟩ := DataW.trod_int Try.underlying23 hf2
  simp [Value.cells] at ea eb ec en
  subst ea eb ec en
  obtain ⟨X, hX, hdX⟩ := open_bytes tx
  obtain ⟨Y, hY, hdY⟩ := open_bytes ty
  have ba := bounds_i64 wa
  have bb := bounds_i64 wb
  have bc := bounds_i64 wc
  have bn := bounds_u32 wn
  clear hA0 hval0
  have en : ((bu.toNat : Nat) : Int) = bu := by omega
  have HC := tells5 x y X Y za zb zc bu.toNat W hX hY (by omega) (by
    intro a ha
    simp at ha
    rcases ha with rfl | rfl | rfl
    · exact ba
    · exact bb
    · exact bc)
  rw [en] at HC
  refine HC.mono fun e W' ⟨he, hg⟩ => ?_
  subst he
  have bel := grown_below hg
  exact ⟨_, rfl, _, _, _, [], _, [], hW', trodAll_mk1 (shut_bool Try.underlying4 _), (trodAll_cons_mk (Below.trod Try.laidOut (by kernel_rfl) (of_decide_eq_true (by kernel_rfl)) k0 bel lt0) (trodAll_cons_mk (Below.trod Try.laidOut (by kernel_rfl) (of_decide_eq_true (by kernel_rfl)) k1 bel lt1) (trodAll_cons_mk (Below.trod Try.laidOut (by kernel_rfl) (of_decide_eq_true (by kernel_rfl)) k2 bel lt2) trodAll_mk0))), rfl, bel.frame _, fun h => by cases h⟩

theorem crcTells_holds : Rows.CrcTellsSaid :=
  OpenClaim.holds_of_wide 5 Try.f5 rfl rfl rfl rfl rfl rfl rfl ⟨rfl, rfl, rfl, rfl, rfl⟩ rfl rfl rfl rfl rfl (by kernel_rfl) Try.func5 (by kernel_rfl)
    (of_decide_eq_true (by kernel_rfl)) (by unfold Func.isWrapper; first | (rw [if_pos (by decide +kernel)]; kernel_rfl) | (rw [if_neg (by decide +kernel)]; exact ⟨rfl, rfl⟩))
    (fun os started H enc _ => tells_lifted os started H enc)
#print axioms crcTells_holds
end Go.Proofs.Ytdmnnfppjhpdkaa
