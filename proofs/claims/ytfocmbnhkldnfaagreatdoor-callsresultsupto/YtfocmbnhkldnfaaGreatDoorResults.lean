/-
  Proved: the law CallsResults returns true, and its arguments read behind the call as before it, for every input whose values and letters are together at most 1048576 (the second form's own bound); the card of its row, tied.
-/
import Derived.Test.YtfocmbnhkldnfaaGreatDoorRv
import Derived.Test.YtfocmbnhkldnfaaGreatDoorOa
import Derived.Test.YtfocmbnhkldnfaaGreatDoorTw
import Derived.Test.YtfocmbnhkldnfaaGreatDoorTie
import Derived.Test.YtfocmbnhkldnfaaGreatDoorCards
import Derived.Deep.DeepHandedRow
import Derived.SevenTiedAt
namespace Go.Proofs.YtfocmbnhkldnfaaGreatDoor
open Go.ChangeShapes Go.WideShapes Go.ChangeAt Go.RowKit Disk

theorem Tryz.ownKnob5 : ownKnob Tryz.prog.godebug = none := by kernel_rfl

section
variable {H : Type} {enc : TypeId × Value → H} {W : World}
set_option maxRecDepth 100000 in
/-- A result that came in. -/
theorem open_res {r : Reach} {b0 : Nat} {v : Value} {d : DataW H} {p : List MemPlace} (hv : Value.okWide Tryz.prog W r b0 51 v) (h : DataW.Trod enc Tryz.prog W 0 (fun _ => true) true 51 v d p) (hb : Rows.uptoBulk d ≤ 1048576) :
    ∃ (c : Value) (R : PRes), v = .agg #[.int .i64 R.abort, .int .i64 R.place, c] ∧ Outs W c R.outs := by
  obtain ⟨cs, rfl, hsz⟩ := okWide_struct Tryz.underlying51 hv
  rw [Tryz.cells51] at hsz
  obtain ⟨l⟩ := cs
  match l, hsz with
  | [a, b, c], _ =>
    obtain ⟨fuel, hf⟩ := h
    obtain ⟨xs, k, hk, hxy, _, hxl, hfd⟩ := DataW.trod_struct Tryz.underlying51 hf
    match xs, hxl with
    | [z0, z1, z2], _ =>
      have f0 := hfd 0 _ rfl
      have f1 := hfd 1 _ rfl
      have f2 := hfd 2 _ rfl
      simp [Value.cells, Tryz.cells48, Tryz.cells3, Tryz.cells49] at f0 f1 f2
      simp only [Prod.mk.injEq] at hxy
      rw [hxy.1] at hb
      have hba := bulk_agg (List.map (·.1) [z0, z1, z2])
      have := bulk_mem (l := List.map (·.1) [z0, z1, z2]) (List.mem_map.2 ⟨z2, by simp, rfl⟩)
      obtain ⟨i0, r0, _, _⟩ := DataW.trod_int Tryz.underlying48 f0
      obtain ⟨i1, r1, _, _⟩ := DataW.trod_int Tryz.underlying3 f1
      obtain ⟨O, hO⟩ := open_outs f2 (by omega)
      simp at r0 r1
      subst r0 r1
      exact ⟨c, ⟨i0, i1, O⟩, rfl, hO⟩
end

set_option maxRecDepth 100000 in
theorem results_contract (H : Type) (enc : TypeId × Value → H) (W : World) (base : Nat) (args : Array Value) (ds gs : List (DataW H)) (before : List MemPlace)
    (hval : ∀ (j : Nat) t v, Tryz.f5.params[j]? = some t → args[j]? = some v → Value.okWide Tryz.prog W .any base t v)
    (hW : DataW.Whole enc Tryz.prog Tryz.f5.params.toList Rows.callsResultsSpec.vars false W args.toList ds gs before) (hk : Rows.uptoSmall H (ds ++ gs) = true) (hE : EnvF W) :
    Calls Tryz.prog 5 args W fun e W' => ∃ v, e = .returned v ∧ Rows.callsResultsSpec.post enc Tryz.prog Tryz.f5 false true false false W args v W' := by
  have hW' := hW
  obtain ⟨p, q, hA0, hV, rfl, hfz, hnd⟩ := hW
  have hA : DataW.TrodAll enc Tryz.prog W 0 (fun _ => true) true Tryz.f5.params.toList args.toList ds p := hA0
  rw [Tryz.params5] at hA hval
  obtain ⟨v0, v1, d0, d1, p0, p1, rfl, rfl, rfl, h0, h1⟩ := trodAll_two hA
  obtain ⟨rfl, rfl⟩ := trodVars_none hV
  have k0 := h0
  have k1 := h1
  have lt0 : ∀ x ∈ p0, x.block < W.heap.size := by obtain ⟨m, hm⟩ := k0; exact DataW.trod_lt m _ _ _ hm
  have lt1 : ∀ x ∈ p1, x.block < W.heap.size := by obtain ⟨m, hm⟩ := k1; exact DataW.trod_lt m _ _ _ hm
  have hsm := bulk_small hk
  simp only [List.append_nil, Rows.uptoBulkAll] at hsm
  obtain ⟨c, R, rfl, hc⟩ := open_res (hval 0 51 v0 rfl rfl) h0 (by omega)
  obtain ⟨a1, len1, cap1, rfl⟩ := okWide_slice Tryz.underlying29 (hval 1 29 v1 rfl rfl)
  obtain ⟨f1, hf1⟩ := h1
  obtain ⟨B, hB, _⟩ := open_bytes hf1
  clear hA0
  refine (results5 c _ R B W hc hB hE).mono fun e W' ⟨he, hg⟩ => ?_
  subst he
  have bel := grown_below hg
  exact ⟨_, rfl, _, _, _, [], _, [], hW', trodAll_mk1 (shut_bool Tryz.underlying4 _), (trodAll_cons_mk (Below.trod Tryz.laidOut (by kernel_rfl) (of_decide_eq_true (by kernel_rfl)) k0 bel lt0) (trodAll_cons_mk (Below.trod Tryz.laidOut (by kernel_rfl) (of_decide_eq_true (by kernel_rfl)) k1 bel lt1) trodAll_mk0)), rfl, bel.frame _, fun h => by cases h⟩

set_option maxRecDepth 100000 in
theorem results_lifted (os : Os) (started : os.Started) (H : Type) (enc : TypeId × Value → H) (F : Stop.Interp) :
    ReturnsInHanded {} Tryz.checked os 5 .any ((Rows.OpenSpec.upto Rows.callsResultsSpec).preRow enc Tryz.prog Tryz.f5 Rows.callsResultsUptoRow.domain false Rows.callsResultsUptoRow.laid) (((Rows.OpenSpec.upto Rows.callsResultsSpec).at F).post enc Tryz.prog Tryz.f5 false true false false) := by
  refine returnsInHanded_of_row (C := Tryz.checked) (s := Rows.OpenSpec.upto Rows.callsResultsSpec) Tryz.ownKnob5 started (by kernel_rfl) Tryz.func5
    (witness_row_at (enc := enc) (C := Tryz.checked) (s := Rows.OpenSpec.upto Rows.callsResultsSpec) false (laidWorld os) #[.agg #[.int .i64 0, .int .i64 0, .slice none 0 0], .slice none 0 0] rfl (by kernel_rfl) (by kernel_rfl) (by kernel_rfl)
      ⟨⟨(OpenSpec.pre_some (k := Rows.uptoSmall) rfl _ _ _ _).2 ⟨[.agg [.lit (.int .i64 0), .lit (.int .i64 0), .nil], .nil], [], [], DataW.Whole_of_whole (x := ([.agg [.lit (.int .i64 0), .lit (.int .i64 0), .nil], .nil], [], [])) (fuel := 8) (by kernel_rfl), rfl, by kernel_rfl⟩, laidWorld_met os _⟩, sizedMet_of_sizedB (fuel := 8) (by kernel_rfl)⟩) ?_
  intro W base args ds gs before hval hW _ hk _ hL hsh _
  exact results_contract H enc W base args ds gs before hval hW (hk _ rfl) (env_of hL hsh)

theorem callsResults_holds : Rows.CallsResultsUptoSaid :=
  OpenClaim.holds_of_cond 5 Tryz.f5 rfl rfl rfl rfl rfl rfl rfl ⟨rfl, rfl, rfl, rfl, rfl⟩ rfl rfl rfl rfl rfl (by kernel_rfl) Tryz.func5 (by kernel_rfl)
    (of_decide_eq_true (by kernel_rfl)) (by unfold Func.isWrapper; first | (rw [if_pos (by decide +kernel)]; kernel_rfl) | (rw [if_neg (by decide +kernel)]; exact ⟨rfl, rfl⟩))
    (fun os started H enc _ F => results_lifted os started H enc F)

theorem callsResults_card : Rows.CallsResultsUptoCardSaid :=
  Claim7.holds_tied_plain_at .later [] [.data, .data, .data, .data, .sentinel, .sentinel, .data, .pinned] true (true, "d56ef51589c8ef1ac3738fa4dad53c849c4d49b78eb84b94cf7a0e8467219190") true
    callsResults_holds (fun _ h => by cases h) (by kernel_rfl) (fun _ h => by cases h) callsResultsUpto_row_tie rfl ⟨rfl, rfl⟩ (by kernel_rfl) rfl
    (fun f fn hf hfn => by
      obtain rfl : f = 5 := Option.some.inj ((show Tryz.prog.funcNamed "wicket/wicketlaw06.CallsResults" = some 5 by kernel_rfl).symm.trans hf) |>.symm
      obtain rfl : fn = Tryz.f5 := (Option.some.inj (Tryz.func5.symm.trans hfn)).symm
      exact ⟨by kernel_rfl, fun j t ht => by
        rw [Tryz.params5] at ht
        rcases j with _ | _ | j
        · obtain rfl : t = 51 := by simpa using ht.symm
          exact (show Tryz.prog.wantsStandIn 51 = false by kernel_rfl)
        · obtain rfl : t = 29 := by simpa using ht.symm
          exact (show Tryz.prog.wantsStandIn 29 = false by kernel_rfl)
        · simp at ht⟩)
    (by kernel_rfl)
#print axioms callsResults_card
end Go.Proofs.YtfocmbnhkldnfaaGreatDoor
