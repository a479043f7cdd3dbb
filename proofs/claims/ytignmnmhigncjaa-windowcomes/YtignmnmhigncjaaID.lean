/-
  A number taken back; the mark goes up.
-/
import Derived.Test.YtignmnmhigncjaaIC
import Derived.Scope
import Derived.Deep.LoopGhost
namespace Go.Proofs.Ytignmnmhigncjaa.I
open Go.RowKit Disk
variable {Q : Nat → Prop}

/-- The mark's cell written. -/
theorem win_mark {w : World} {b : Nat} {v : Value} {n : Nat} {L : List (Option Int)} {m : Nat} (h : Win Q w b v n L m) (hl : L[m]? = some none) : Win Q (w.setCell ⟨b, 2, none⟩ (.int .i64 (m + 1 : Nat))) b v n L (m + 1) := by
  have gs := grown_setCell w b 2 (.int .i64 (m + 1 : Nat))
  have hr : Ring Q (w.setCell ⟨b, 2, none⟩ (.int .i64 (m + 1 : Nat))) v n L m := Ring.but h.ring gs h.blk (by decide) (by decide)
  obtain ⟨xs, h1, h2, h3⟩ := hr
  refine ⟨by simpa using h.blk.store 2 (.int .i64 (m + 1 : Nat)), ⟨xs, h1, h2, fun k hk hl => h3 k (by omega) hl⟩, fun k hk => ?_, by have := h.room; omega, h.size, ?_⟩
  · by_cases e : k = m
    · rw [e]; exact hl
    · exact h.low k (by omega)
  · have := (List.getElem?_eq_some_iff.1 hl).1
    omega
/-- What rise does. -/
def RiseP (Q : Nat → Prop) (w : World) (b : Nat) (v : Value) (n : Nat) (L : List (Option Int)) (e : Ending) (w' : World) : Prop := (∃ x, e = .returned x) ∧ Win Q w' b v n L (lead L) ∧ Fr w w' (FN b v)

set_option maxRecDepth 100000 in
set_option maxHeartbeats 2000000 in
theorem rise_yes (b : Nat) (v : Value) (n : Nat) (L : List (Option Int)) (m : Nat) (w : World) (h : Win Q w b v n L m) (hL : L.length ≤ 900000) : Calls Try.prog 42 #[.pointer (some ⟨b, 0, none⟩)] w (RiseP Q w b v n L) := by
  obtain ⟨g, cap, rfl, hcap⟩ := h.sl
  obtain ⟨ln, hln⟩ : ∃ ln, L.length = ln := ⟨_, rfl⟩
  have HN : Hid (Win Q w b (.slice (some ⟨g, 0, none⟩) n cap) n L m ∧ L.length = ln ∧ ln ≤ 900000) := ⟨h, hln, by omega⟩
  clear h hcap hL hln
  go_enter Try.func42, Try.ntmps42
  refine wp_scope_straight ?_
  go_wp2_with fail
  refine wp_label ?_
  refine (‹∀ (a : Act) (w : World), Code.wp Try.prog _ _ a w → _› _ _ ?_)
  go_wp2_with fail
  go_loopg [] (ln - m) (fun k wr => ∃ m' : Nat, k = ln - m' ∧ Hid (Win Q wr b (.slice (some ⟨g, 0, none⟩) n cap) n L m' ∧ Fr w wr (FN b (.slice (some ⟨g, 0, none⟩) n cap))))
  case atStart => exact ⟨m, rfl, HN.out.1, Fr.of (grown_refl w none) (by simp)⟩
  case round =>
    obtain ⟨m', rfl, HI⟩ := hrel
    have c0 := HI.out.1.blk.cell 0
    have c1 := HI.out.1.blk.cell 1
    have c2 := HI.out.1.blk.cell 2
    rw [HN.out.2.1] at c1
    simp at c0 c1 c2
    have d1 : IntKind.i64.wrap ((m' : Int) + 1) = (m' : Int) + 1 := by have := HI.out.1.top; have := HN.out.2; rw [IntKind.wrap_i64]; omega
    by_cases hlt : m' < ln
    · have i1 : ¬ ((ln : Int) < (m' : Int) + 1) := by omega
      have HK : Hid (m' < ln ∧ m' < L.length) := ⟨hlt, by rw [HN.out.2.1]; exact hlt⟩
      obtain ⟨x, hx, hp⟩ := HI.out.1.at m' (Nat.le_refl _) HK.out.2
      obtain ⟨o, ho⟩ : ∃ o, L[m']'HK.out.2 = o := ⟨_, rfl⟩
      rw [ho] at hp
      have HO : Hid (L[m']? = some o) := by rw [Hid, List.getElem?_eq_getElem HK.out.2, ho]
      obtain ⟨j, hj⟩ : ∃ j, (m' + 1) % n = j := ⟨_, rfl⟩
      have HJ : Hid ((m' + 1) % n = j ∧ j < n) := ⟨hj, by rw [← hj]; exact Nat.mod_lt _ (by have := HN.out.1.size; omega)⟩
      rw [hj] at hx
      have j1 : (j : Int) < (n : Int) := by have := HJ.out; omega
      have j2 : (0 : Int) ≤ (j : Int) := by omega
      clear hj ho hlt
      go_upto_region 3 with fail
      refine wp_region_noPanic ?_
      refine wp_region_hold 1000 (fun y => wr.grownBy y none) (by kernel_rfl) ?_
      have HD : Hid (wr.grownBy wr.drew none) := grown_drew _ _
      generalize wr.drew = wd at HD ⊢
      cases o with
      | none =>
        have hp' : x = .pointer none := hp
        subst hp'
        clear hp
        have J : Idx [0, 1, 2, 3, 4, 5] := trivial
        iterate 6 (refine tk J (HD.out) rfl rfl (fun wk hk => by have k0 := hk.cell c0 (by simp); have k3 := hk.cell hx (by simp); go_simp; try rfl) ?_; replace J := J.tl; try simp only [Act.put, List.setIfInBounds_toArray, List.set_cons_zero, List.set_cons_succ])
        clear J
        refine wpHold_one (i := 6) rfl (by kernel_rfl) (by rfl) (fun K hK => ?_)
        go_wp2_with fail
        refine (place_yes b g n n cap _ _ (m' + 1) j wd HJ.out.1 (HI.out.1.blk.grown HD.out (by simp)) HN.out.1.size (by have := HN.out.2; have := HK.out; omega)).mono ?_
        rintro e w5 ⟨rfl, rfl⟩
        go_wp2_with fail
        refine hK.out _ _ (fun _ => HD.out) ?_
        clear hK K
        try simp only [Act.put, List.setIfInBounds_toArray, List.set_cons_zero, List.set_cons_succ]
        have J : Idx [7, 8, 9, 10] := trivial
        iterate 4 (refine tk J (HD.out) rfl rfl (fun wk hk => by have k0 := hk.cell c0 (by simp); have k3 := hk.cell hx (by simp); go_simp; try rfl) ?_; replace J := J.tl; try simp only [Act.put, List.setIfInBounds_toArray, List.set_cons_zero, List.set_cons_succ])
        clear J
        refine wpHold_done (by kernel_rfl) ?_
        refine (‹∀ (a : Act) (w : World), Code.wp Try.prog _ _ a w → _› _ _ ?_)
        have HW := HI.out.1.grown HD.out
        have HM : Hid (Win Q (w5.setCell ⟨b, 2, none⟩ (.int .i64 ((m' : Int) + 1))) b (.slice (some ⟨g, 0, none⟩) n cap) n L (m' + 1) ∧ Fr w (w5.setCell ⟨b, 2, none⟩ (.int .i64 ((m' : Int) + 1))) (FN b (.slice (some ⟨g, 0, none⟩) n cap))) := by
          refine ⟨by simpa using win_mark HW HO.out, (HI.out.2.trans (Fr.of (F := FN b (.slice (some ⟨g, 0, none⟩) n cap)) HD.out (by simp)) fun i hi => .inl hi).trans (Fr.of (F := FN b (.slice (some ⟨g, 0, none⟩) n cap)) (grown_setCell w5 b 2 _) fun k hk => .inl (by simpa using hk.symm)) fun i hi => .inl hi⟩
        have k2 := HW.blk.cell 2
        have f2 := HW.blk.free 2
        simp at k2
        clear c0 c1 c2 hx HW
        go_wp2_with fail
        go_roundg (ln - (m' + 1))
        case rel => exact ⟨m' + 1, rfl, HM.out⟩
        case measure => have := HK.out; omega
      | some t =>
        obtain ⟨p, rfl, hpb, _⟩ := hp
        clear hpb
        have J : Idx [0, 1, 2, 3, 4, 5] := trivial
        iterate 6 (refine tk J (HD.out) rfl rfl (fun wk hk => by have k0 := hk.cell c0 (by simp); have k3 := hk.cell hx (by simp); go_simp; try rfl) ?_; replace J := J.tl; try simp only [Act.put, List.setIfInBounds_toArray, List.set_cons_zero, List.set_cons_succ])
        clear J
        refine wpHold_one (i := 6) rfl (by kernel_rfl) (by rfl) (fun K hK => ?_)
        go_wp2_with fail
        refine (place_yes b g n n cap _ _ (m' + 1) j wd HJ.out.1 (HI.out.1.blk.grown HD.out (by simp)) HN.out.1.size (by have := HN.out.2; have := HK.out; omega)).mono ?_
        rintro e w5 ⟨rfl, rfl⟩
        go_wp2_with fail
        refine hK.out _ _ (fun _ => HD.out) ?_
        clear hK K
        try simp only [Act.put, List.setIfInBounds_toArray, List.set_cons_zero, List.set_cons_succ]
        have J : Idx [7, 8, 9, 10] := trivial
        iterate 4 (refine tk J (HD.out) rfl rfl (fun wk hk => by have k0 := hk.cell c0 (by simp); have k3 := hk.cell hx (by simp); go_simp; try rfl) ?_; replace J := J.tl; try simp only [Act.put, List.setIfInBounds_toArray, List.set_cons_zero, List.set_cons_succ])
        clear J
        refine wpHold_done (by kernel_rfl) ?_
        refine (‹∀ (a : Act) (w : World), Code.wp Try.prog _ _ a w → _› _ _ ?_)
        have HE : Hid (lead L = m') := lead_eq L m' HI.out.1.low (.inr ⟨t, HO.out⟩)
        clear c0 c1 c2 hx
        go_wp2_with fail
        refine ⟨rfl, _, results_none rfl _ _ _, ⟨_, rfl⟩, ?_, ?_⟩
        · rw [HE.out]
          exact HI.out.1.grown HD.out
        · exact HI.out.2.trans (Fr.of (F := FN b (.slice (some ⟨g, 0, none⟩) n cap)) HD.out (by simp)) fun i hi => .inl hi
    · have i1 : ((ln : Int) < (m' : Int) + 1) := by omega
      have HE : Hid (lead L = m') := lead_eq L m' HI.out.1.low (.inl (by have := HI.out.1.top; have := HN.out.2.1; omega))
      go_wp2_with fail
      refine ⟨rfl, _, results_none rfl _ _ _, ⟨_, rfl⟩, ?_, HI.out.2⟩
      rw [HE.out]
      exact HI.out.1

/-- What Back does. -/
def BackP (Q : Nat → Prop) (w : World) (b : Nat) (v : Value) (n : Nat) (L : List (Option Int)) (z : Int) (e : Ending) (w' : World) : Prop :=
  e = .returned (.tuple #[Value.int .i64 (getD L z).1, .int .i64 (getD L z).2]) ∧ Win Q w' b v n (putL L z none) (lead (putL L z none)) ∧ Fr w w' (FN b v)

set_option maxRecDepth 100000 in
set_option maxHeartbeats 2000000 in
theorem back_yes (b : Nat) (v : Value) (n : Nat) (L : List (Option Int)) (z : Int) (w : World) (h : Win Q w b v n L (lead L)) (hL : L.length ≤ 900000) : Calls Try.prog 23 #[.pointer (some ⟨b, 0, none⟩), .int .i64 z] w (BackP Q w b v n L z) := by
  obtain ⟨g, cap, rfl, hcap⟩ := h.sl
  have HN : Hid (Win Q w b (.slice (some ⟨g, 0, none⟩) n cap) n L (lead L) ∧ L.length ≤ 900000) := ⟨h, hL⟩
  have c0 := h.blk.cell 0
  simp at c0
  clear h hcap hL
  go_enter Try.func23, Try.ntmps23
  go_wp2_with fail
  refine (get_yes b _ n L _ z w HN.out.1 (by have := HN.out.2; omega)).mono ?_
  rintro e w1 ⟨rfl, rfl⟩
  cases ho : outD L z with
  | none =>
    have HX : Hid (getD L z = ((0 : Int), 5) ∧ putL L z none = L) := ⟨by unfold getD; rw [ho], putL_none ho _⟩
    clear ho
    rw [HX.out.1]
    go_wp2_with fail
    go_ret2
    unfold BackP
    rw [HX.out.1, HX.out.2]
    exact ⟨rfl, HN.out.1, Fr.of (grown_refl w1 none) (by simp)⟩
  | some t =>
    obtain ⟨k, rfl, hk, _⟩ := outD_some ho
    have HX : Hid (getD L ((k + 1 : Nat) : Int) = (t, 0) ∧ putL L ((k + 1 : Nat) : Int) none = L.set k none ∧ L[k]? = some (some t) ∧ k < L.length) := ⟨by unfold getD; rw [ho], putL_some ho _, hk, (List.getElem?_eq_some_iff.1 hk).1⟩
    have HM : Hid (lead L ≤ k) := by
      unfold Hid
      rcases Nat.lt_or_ge k (lead L) with h | h
      · have := lead_low L k h
        rw [hk] at this
        cases this
      · exact h
    obtain ⟨j, hj⟩ : ∃ j, (k + 1) % n = j := ⟨_, rfl⟩
    have HJ : Hid ((k + 1) % n = j ∧ j < n) := ⟨hj, by rw [← hj]; exact Nat.mod_lt _ (by have := HN.out.1.size; omega)⟩
    have j1 : (j : Int) < (n : Int) := by have := HJ.out; omega
    have j2 : (0 : Int) ≤ (j : Int) := by omega
    clear ho hk hj
    rw [HX.out.1]
    go_upto_region 3 with fail
    refine wp_region_hold 8 (fun y => w1.grownBy y none) (by kernel_rfl) ?_
    have HD : Hid (w1.grownBy w1.drew none) := grown_drew _ _
    generalize w1.drew = wd at HD ⊢
    have J : Idx [0, 1, 2, 3, 4, 5] := trivial
    iterate 6 (refine tk J (HD.out) rfl rfl (fun wk hk => by have k0 := hk.cell c0 (by simp); go_simp; try rfl) ?_; replace J := J.tl; try simp only [Act.put, List.setIfInBounds_toArray, List.set_cons_zero, List.set_cons_succ])
    clear J
    refine wpHold_one (i := 6) rfl (by kernel_rfl) (by rfl) (fun K hK => ?_)
    go_wp2_with fail
    refine (place_yes b g n n cap _ _ (k + 1) j wd HJ.out.1 (HN.out.1.blk.grown HD.out (by simp)) HN.out.1.size (by have := HN.out.2; have := HX.out.2.2.2; omega)).mono ?_
    rintro e w5 ⟨rfl, rfl⟩
    go_wp2_with fail
    refine hK.out _ _ (fun _ => HD.out) ?_
    clear hK K
    try simp only [Act.put, List.setIfInBounds_toArray, List.set_cons_zero, List.set_cons_succ]
    have J : Idx [7] := trivial
    iterate 1 (refine tk J (HD.out) rfl rfl (fun wk hk => by have k0 := hk.cell c0 (by simp); go_simp; try rfl) ?_; replace J := J.tl; try simp only [Act.put, List.setIfInBounds_toArray, List.set_cons_zero, List.set_cons_succ])
    clear J
    refine wpHold_one (i := 8) rfl (by kernel_rfl) (by rfl) (fun K hK => ?_)
    obtain ⟨q0, hq0⟩ : ∃ x, w5.cell? ⟨g, j, none⟩ = some x := (HN.out.1.grown HD.out).there j HJ.out.2
    have f0 : w5.frozen? ⟨g, j, none⟩ = false := (HN.out.1.grown HD.out).free j
    go_wp2_with fail
    refine hK.out _ _ (fun h => absurd rfl h) ?_
    clear hK K
    try simp only [Act.put, List.setIfInBounds_toArray, List.set_cons_zero, List.set_cons_succ]
    refine wpHold_done (by kernel_rfl) ?_
    refine (‹∀ (a : Act) (w : World), Code.wp Try.prog _ _ a w → _› _ _ ?_)
    have HW : Hid (Win Q (w5.setCell ⟨g, j, none⟩ (.pointer none)) b (.slice (some ⟨g, 0, none⟩) n cap) n (L.set k none) (lead L) ∧ Fr w1 (w5.setCell ⟨g, j, none⟩ (.pointer none)) (FN b (.slice (some ⟨g, 0, none⟩) n cap))) := by
      have h0 := HN.out.1
      have h5 := h0.grown HD.out
      have gs := grown_setCell w5 g j (.pointer none)
      refine ⟨⟨?_, ?_, fun i hi => ?_, by simpa using h0.room, h0.size, by simpa using h0.top⟩, ?_⟩
      · rw [List.length_set]
        refine h5.blk.grown gs fun e => ?_
        simp at e
        subst e
        obtain ⟨C, hC⟩ := Ring.blk h5.ring
        exact absurd (blk_type hC h5.blk) (by decide)
      · rw [← HJ.out.1]
        refine ring_put h5.ring h0.size.1 (by simpa using h0.room) HM.out (by simpa using HX.out.2.2.2) (fun i hi hne h' => ?_) ?_ rfl
        · rw [List.getElem_set_ne (by omega)]
          exact List.getElem?_eq_getElem _
        · rw [List.getElem_set_self]
          rfl
      · rw [List.getElem?_set_ne (by have := HM.out; omega)]
        exact h0.low i hi
      · exact (Fr.of (F := FN b (.slice (some ⟨g, 0, none⟩) n cap)) HD.out (by simp)).trans (Fr.of (F := FN b (.slice (some ⟨g, 0, none⟩) n cap)) gs fun k hk => .inr hk) fun i hi => .inl hi
    generalize w5.setCell ⟨g, j, none⟩ (.pointer none) = w6 at HW ⊢
    clear j1 j2 c0
    try clear hq0 f0
    go_wp2_with fail
    refine (rise_yes b _ n (L.set k none) (lead L) w6 HW.out.1 (by simpa using HN.out.2)).mono ?_
    rintro e w7 ⟨⟨y, rfl⟩, hw7, hf7⟩
    have H7 : Hid (Win Q w7 b (.slice (some ⟨g, 0, none⟩) n cap) n (L.set k none) (lead (L.set k none)) ∧ Fr w1 w7 (FN b (.slice (some ⟨g, 0, none⟩) n cap))) := ⟨hw7, HW.out.2.trans hf7 fun i hi => .inl hi⟩
    clear hw7 hf7
    go_wp2_with fail
    go_ret2
    unfold BackP
    rw [HX.out.1, HX.out.2.1]
    exact ⟨rfl, H7.out⟩
set_option maxRecDepth 100000 in
set_option maxHeartbeats 1000000 in
theorem back_no (x : Value) (z : Int) (w : World) (h : NoWin w x) : Calls Try.prog 23 #[x, .int .i64 z] w fun e w' => e = .returned (.tuple #[Value.int .i64 (0 : Int), .int .i64 1]) ∧ w' = w := by
  have HN : Hid (NoWin w x) := h
  clear h
  go_enter Try.func23, Try.ntmps23
  go_wp2_with fail
  refine (get_no x z w HN.out).mono ?_
  rintro e w1 ⟨rfl, rfl⟩
  go_wp2_with fail
  go_ret2
  exact ⟨rfl, rfl⟩
end Go.Proofs.Ytignmnmhigncjaa.I
