/-
  Proved: the law WireLists returns true, and its arguments read behind the call as before it, for every input that the form takes; no further condition.
-/
import Derived.Test.YtneppkbbnajpnaaLsw
import Derived.Test.YtneppkbbnajpnaaO
import Derived.SizedLaws
import Derived.Deep.Slices
import Derived.Deep.SlicePairs
namespace Go.Proofs.Ytneppkbbnajpnaa
open Go.ChangeShapes Go.WideShapes Go.ChangeAt Go.RowKit Go.Deep

theorem Try.cells59 : Try.prog.cellsOf 59 = 2 := by kernel_rfl
theorem Try.cells22 : Try.prog.cellsOf 22 = 1 := by kernel_rfl
theorem Try.bytes59 : Try.prog.bytesOf 59 = 16 := by kernel_rfl

section
variable {H : Type} {enc : TypeId × Value → H} {W : World}

set_option maxRecDepth 100000 in
/-- A list of pairs that came in. -/
theorem open_pairs {fuel : Nat} {v : Value} {x : DataW H × List MemPlace} (h : DataW.trod enc Try.prog W 0 (fun _ => true) true fuel 58 [v] = some x) :
    ∃ ps : List (Nat × Nat), SegP W v ps ∧ Small ps ∧ ((x.1 = .nil ∧ ps = []) ∨ ∃ elems spare, x.1 = .slice elems spare ∧ elems.length = ps.length) := by
  rcases open_slice Try.underlying58 h with ⟨hcs, hx⟩ | ⟨a, len, cap, m, n, D, Pl, hcs, _, hl, hm, hmm, hx, hel⟩
  · simp at hcs
    subst hcs
    exact ⟨[], ⟨none, 0, rfl, by simp, by omega, fun _ => rfl, fun j hj => absurd hj (by simp)⟩, fun p hp => by simp at hp, .inl ⟨by rw [hx], rfl⟩⟩
  · simp at hcs hmm
    subst hcs
    subst hmm
    have hf : ∀ i, i < len → ∃ p : Nat × Nat, W.cell? (a.add (i * 2)) = some (.int .u64 (p.1 : Int)) ∧ W.cell? (a.add (i * 2 + 1)) = some (.int .u64 (p.2 : Int)) ∧ p.1 < 2 ^ 64 ∧ p.2 < 2 ^ 64 := fun i hi => by
      obtain ⟨cs', h1, h2⟩ := hel i (by omega)
      rw [Try.cells59] at h1
      obtain ⟨_, hlen, hcell⟩ := World.cells?_some h1
      obtain ⟨xs, k, _, _, _, hxl, hf⟩ := DataW.trod_array Try.underlying59 h2
      match xs, hxl, cs', hlen with
      | [y0, y1], _, [v0, v1], _ =>
        have g0 := hf 0 (by omega)
        have g1 := hf 1 (by omega)
        simp [Try.cells22] at g0 g1
        have e0 := hcell 0 (by omega)
        have e1 := hcell 1 (by omega)
        rw [add_add] at e0 e1
        simp at e0 e1
        obtain ⟨z0, q0, _, w0⟩ := DataW.trod_int Try.underlying22 g0
        obtain ⟨z1, q1, _, w1⟩ := DataW.trod_int Try.underlying22 g1
        simp at q0 q1
        subst q0 q1
        have b0 := bounds_u64 w0
        have b1 := bounds_u64 w1
        refine ⟨(z0.toNat, z1.toNat), ?_, ?_, by simp only; omega, by simp only; omega⟩
        · rw [e0]; simp only [Int.toNat_of_nonneg b0.1]
        · rw [e1]; simp only [Int.toNat_of_nonneg b1.1]
    obtain ⟨f, hf⟩ := choose_lt hf
    refine ⟨(List.range len).map f, ⟨some a, m, by simp, by simp; exact hl, hm, by simp, fun j hj => ?_⟩, ?_, ?_⟩
    · simp at hj
      have h0 := (hf 0 (by omega)).1
      obtain ⟨b, off, spot⟩ := a
      have hspot : spot = none := by simpa [Addr.add] using World.cell?_spot h0
      subst hspot
      have hc := hf j hj
      rw [add_plain, add_plain] at hc
      refine ⟨b, off, rfl, ?_, ?_⟩
      · simpa using hc.1
      · simpa [Nat.add_assoc] using hc.2.1
    · intro p hp
      simp at hp
      obtain ⟨i, hi, rfl⟩ := hp
      exact (hf i hi).2.2
    · exact .inr ⟨_, _, by rw [hx], by simp⟩

theorem sized_pairs {ts : List TypeId} {ds : List (DataW H)} {j : Nat} {d : DataW H} {ps : List (Nat × Nat)} (h : (DataW.weightsEach Try.prog ts ds).all (· ≤ reachBytes) = true) (ht : ts[j]? = some 58) (hd : ds[j]? = some d)
    (hx : (d = .nil ∧ ps = []) ∨ ∃ elems spare, d = .slice elems spare ∧ elems.length = ps.length) : ps.length ≤ 8796093021952 := by
  rcases hx with ⟨_, rfl⟩ | ⟨elems, spare, rfl, he⟩
  · simp
  · have := sized_slice h ht hd Try.underlying58
    rw [Try.bytes59] at this
    simp only [reachBytes] at this
    omega
end

set_option maxRecDepth 100000 in
theorem lists_contract (H : Type) (enc : TypeId × Value → H) (W : World) (base : Nat) (args : Array Value) (ds gs : List (DataW H)) (before : List MemPlace)
    (hval : ∀ (j : Nat) t v, Try.f6.params[j]? = some t → args[j]? = some v → Value.okWide Try.prog W .any base t v)
    (hW : DataW.Whole enc Try.prog Try.f6.params.toList Rows.wireListsSpec.vars false W args.toList ds gs before) (hsz0 : (DataW.weightsEach Try.prog (Try.f6.params.toList ++ Rows.wireListsSpec.plain.varTypes Try.prog) (ds ++ gs)).all (· ≤ reachBytes) = true) :
    Calls Try.prog 6 args W fun e W' => ∃ v, e = .returned v ∧ Rows.wireListsSpec.post enc Try.prog Try.f6 false true false false W args v W' := by
  have hsz : (DataW.weightsEach Try.prog (Try.f6.params.toList ++ Rows.wireListsSpec.plain.varTypes Try.prog) (ds ++ gs)).all (· ≤ reachBytes) = true := hsz0
  have hW' := hW
  obtain ⟨p, q, hA0, hV, rfl, hfz, hnd⟩ := hW
  have hA : DataW.TrodAll enc Try.prog W 0 (fun _ => true) true Try.f6.params.toList args.toList ds p := hA0
  rw [Try.params6] at hA hval hsz
  obtain ⟨v0, v1, d0, d1, p0, p1, rfl, rfl, rfl, h0, h1⟩ := trodAll_two hA
  obtain ⟨rfl, rfl⟩ := trodVars_none hV
  have k0 := h0
  have k1 := h1
  have lt0 : ∀ x ∈ p0, x.block < W.heap.size := by obtain ⟨m, hm⟩ := k0; exact DataW.trod_lt m _ _ _ hm
  have lt1 : ∀ x ∈ p1, x.block < W.heap.size := by obtain ⟨m, hm⟩ := k1; exact DataW.trod_lt m _ _ _ hm
  obtain ⟨a0, len0, cap0, rfl⟩ := okWide_slice Try.underlying58 (hval 0 58 v0 rfl rfl)
  obtain ⟨cut, rfl⟩ := okWide_int Try.underlying3 (hval 1 3 v1 rfl rfl)
  obtain ⟨f0, hf0⟩ := h0
  obtain ⟨f1, hf1⟩ := h1
  obtain ⟨zc, ec, _, wc⟩ := DataW.trod_int Try.underlying3 hf1
  simp [Value.cells] at ec
  subst ec
  obtain ⟨ps, hP, hS, hb⟩ := open_pairs hf0
  have zP : ps.length ≤ 8796093021952 := sized_pairs hsz (j := 0) rfl rfl hb
  have bc := bounds_i64 wc
  clear hA0 hsz0
  refine (lists6 (.slice a0 len0 cap0) ps cut W hP hS zP bc.1 bc.2).mono fun e W' ⟨he, hg⟩ => ?_
  subst he
  have bel := grown_below hg
  exact ⟨_, rfl, _, _, _, [], _, [], hW', trodAll_mk1 (shut_bool Try.underlying4 _), (trodAll_cons_mk (Below.trod Try.laidOut (by kernel_rfl) (of_decide_eq_true (by kernel_rfl)) k0 bel lt0) (trodAll_cons_mk (Below.trod Try.laidOut (by kernel_rfl) (of_decide_eq_true (by kernel_rfl)) k1 bel lt1) trodAll_mk0)), rfl, bel.frame _, fun h => by cases h⟩

set_option maxRecDepth 100000 in
theorem lists_lifted (os : Os) (started : os.Started) (H : Type) (enc : TypeId × Value → H) :
    ReturnsInHanded {} Try.checked os 6 .any (Rows.wireListsSpec.pre6 enc Try.prog Try.f6 Rows.wireListsRow.domain false) (Rows.wireListsSpec.post enc Try.prog Try.f6 false true false false) := by
  refine returnsInHanded_of_change_sized (C := Try.checked) Try.own started (by kernel_rfl) Try.func6
    (ChangeSpec.witness6 (enc := enc) (C := Try.checked) false ⟨#[], #[.slice none 0 0, .int .i64 0], []⟩ 8 (by kernel_rfl) (by kernel_rfl) (by kernel_rfl) (by kernel_rfl)) ?_
  intro W base args ds gs before hval hW _ hsz _
  exact lists_contract H enc W base args ds gs before hval hW hsz

theorem wireLists_holds : Rows.WireListsSaid :=
  OpenClaim.holds_of_wide 6 Try.f6 rfl rfl rfl rfl rfl rfl rfl ⟨rfl, rfl, rfl, rfl, rfl⟩ rfl rfl rfl rfl rfl (by kernel_rfl) Try.func6 (by kernel_rfl)
    (of_decide_eq_true (by kernel_rfl)) (by unfold Func.isWrapper; first | (rw [if_pos (by decide +kernel)]; kernel_rfl) | (rw [if_neg (by decide +kernel)]; exact ⟨rfl, rfl⟩))
    (fun os started H enc _ => lists_lifted os started H enc)
#print axioms wireLists_holds
end Go.Proofs.Ytneppkbbnajpnaa
