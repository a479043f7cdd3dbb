/-
  A window gone over: the numbers that are out, rising, each with its thing.
-/
import Derived.Test.YtignmnmhigncjaaSE
import Derived.Test.YtignmnmhigncjaaWb
namespace Go.Proofs.Ytignmnmhigncjaa.S
open Go.RowKit Disk Table
variable {Q : Nat → Prop}

/-- Handed over: the next number that is out, and its thing. -/
def Xo (L : List (Option ByteArray)) (k k' : Nat) (_ _ : World) (xs : Array Value) : Prop := ∃ j t, k ≤ j ∧ L[j]? = some (some t) ∧ (∀ i, k ≤ i → i < j → L[i]? = some none) ∧ k' = j + 1 ∧ xs = #[.int .i64 (j + 1 : Nat), Value.string t]
def Fino (L : List (Option ByteArray)) (k : Nat) : Prop := ∀ i, k ≤ i → i < L.length → L[i]? = some none

set_option maxRecDepth 100000 in
set_option maxHeartbeats 2000000 in
theorem all_any (a : Option Addr) (w : World) : Calls Try.prog 37 #[.pointer a] w fun e w' => e = .returned (.func (.func 48) #[] #[.pointer (some ⟨w.heap.size, 0, none⟩)]) ∧ Blk w' w.heap.size 23 #[.pointer a] ∧ w.grownBy w' none ∧ w'.heap.size = w.heap.size + 1 := by
  go_enter Try.func37, Try.ntmps37
  go_upto_region 1 with fail
  obtain ⟨w1, hw1, H1⟩ := al1 w #[.pointer a] 23
  rw [hw1]
  clear hw1
  go_wp2_with fail
  go_ret
  exact ⟨rfl, H1.out⟩

set_option maxRecDepth 100000 in
set_option maxHeartbeats 4000000 in
theorem overS (Fw : Nat → Prop) (bx b : Nat) (v : Value) (n : Nat) (L : List (Option ByteArray)) (m : Nat) (w0 w : World) (hb : Blk w bx 23 #[.pointer (some ⟨b, 0, none⟩)]) (hw : Win Q w0 b v n L m) (hg : w0.grownBy w none) (hF : ∀ i, Fw i → w0.heap.size ≤ i ∧ i < w.heap.size) (hL : L.length ≤ 900000) :
    GivesS Try.prog 48 #[.pointer (some ⟨bx, 0, none⟩)] 0 (Fino L) (Xo L) Fw w := by
  intro lp J Jx W hgW hJ hJx hY h0
  obtain ⟨xs, hxr, hxl, hxp⟩ := hw.ring
  obtain ⟨ln, hln⟩ : ∃ ln, L.length = ln := ⟨_, rfl⟩
  have HS : Hid (Win Q w0 b v n L m ∧ w0.grownBy W none ∧ w.grownBy W none ∧ (∀ i, Fw i → w0.heap.size ≤ i ∧ i < w.heap.size) ∧ L.length = ln ∧ ln ≤ 900000 ∧ w0.grownBy w none) := ⟨hw, grown_trans hg hgW, hgW, hF, hln, by omega, hg⟩
  have HX : Hid (Row 61 w0 0 v xs ∧ xs.length = n ∧ ∀ k, m ≤ k → ∀ (h : k < L.length), ∃ x, xs[(k + 1) % n]? = some x ∧ Pl Q w0 x L[k]) := ⟨hxr, hxl, hxp⟩
  have c0 := (hb.grown hgW (by simp)).cell 0
  simp at c0
  have HY : Hid _ := hY
  have HJT : Hid _ := hJ
  have HJ : Hid (J 0 (fun _ => False) W) := h0
  clear hb hw hg hgW hY h0 hJ hJx hF hln hL hxr hxl hxp
  show Calls Try.prog 48 #[.func (.yield lp) #[] #[], .pointer (some ⟨bx, 0, none⟩)] W _
  go_enter Try.func48, Try.ntmps48
  go_wp2_with fail
  refine (copy_row b 0 v _ _ xs W (HS.out.1.blk.grown HS.out.2.1 (by simp)) (HX.out.1.grown HS.out.2.1) (by have := HX.out.2.1; have := HS.out.1.size; omega) (by have := HX.out.2.1; have := HS.out.1.size; omega)).mono ?_
  rintro e W1 ⟨b2, v2, rfl, hb2, hr2, hbb, hg2⟩
  have HC : Hid (Blk W1 b2 56 #[v2, .int .i64 (L.length : Nat), .int .i64 (m : Nat)] ∧ Row 61 W1 W.heap.size v2 xs ∧ W.heap.size ≤ b2 ∧ W.grownBy W1 none ∧ w0.grownBy W1 none) := ⟨hb2, hr2, hbb, hg2, grown_trans HS.out.2.1 hg2⟩
  clear hb2 hr2 hbb hg2 c0
  have HA : Hid (∀ wr : World, (∀ i, i < w0.heap.size ∨ FN b2 v2 i → wr.heap[i]? = W1.heap[i]?) → Win Q wr b2 v2 n L m) := fun wr hk => win_again HC.out.1 HC.out.2.1 HX.out.2.1 HX.out.2.2 HS.out.1.low HS.out.1.room HS.out.1.size HS.out.1.top HC.out.2.2.2.2 hk
  go_wp2_with fail
  refine (mark_yes b2 v2 n L m W1 (HA.out W1 fun _ _ => rfl)).mono ?_
  rintro e W2 ⟨rfl, rfl⟩
  have d0 : IntKind.i64.wrap ((m : Int) + 1) = (m : Int) + 1 := by have := HS.out; have := this.1.top; rw [IntKind.wrap_i64]; omega
  go_wp2_with fail
  clear d0
  go_loopw [4] (fun p wr => ∃ (k s : Nat) (G : Nat → Prop), m ≤ k ∧ k ≤ ln ∧ p = .int .i64 ((k : Int) + 1) ∧ Hid (s ≤ k ∧ (∀ i, s ≤ i → i < k → L[i]? = some none) ∧ J s G wr ∧ (∀ i, G i → W2.heap.size ≤ i ∧ i < wr.heap.size) ∧ W2.heap.size ≤ wr.heap.size ∧ (∀ i, i < w0.heap.size ∨ FN b2 v2 i → wr.heap[i]? = W2.heap[i]?))) (fun p _ => ln + 1 - (intOf p).toNat)
  case atStart => exact ⟨m, 0, fun _ => False, Nat.le_refl _, by have := HS.out; have := this.1.top; omega, rfl, Nat.zero_le _, fun i _ hi => HS.out.1.low i hi, HJT.out _ _ _ _ HJ.out (Tx.of_grown HC.out.2.2.2.1), fun _ h => h.elim, Nat.le_refl _, fun _ _ => rfl⟩
  case round =>
    obtain ⟨k, s, G, hmk, hk, rfl, HI⟩ := hrel
    have HW := HA.out wr HI.out.2.2.2.2.2
    obtain ⟨g, cap, rfl, hcap⟩ := HW.sl
    have HW : Hid (Win Q wr b2 (.slice (some ⟨g, 0, none⟩) n cap) n L m) := HW
    clear hcap
    go_wp2_with fail
    refine (last_yes b2 _ n L m wr HW.out).mono ?_
    rintro e w3 ⟨rfl, rfl⟩
    rw [HS.out.2.2.2.2.1]
    by_cases hlt : k < ln
    · have i1 : (k : Int) + 1 ≤ (ln : Int) := by omega
      have HK : Hid (m ≤ k ∧ k < ln ∧ k < L.length) := ⟨hmk, hlt, by rw [HS.out.2.2.2.2.1]; exact hlt⟩
      obtain ⟨x, hx, hp⟩ := HW.out.at k HK.out.1 HK.out.2.2
      obtain ⟨o, ho⟩ : ∃ o, L[k]'HK.out.2.2 = o := ⟨_, rfl⟩
      rw [ho] at hp
      have HO : Hid (L[k]? = some o) := by rw [Hid, List.getElem?_eq_getElem HK.out.2.2, ho]
      obtain ⟨j, hj⟩ : ∃ j, (k + 1) % n = j := ⟨_, rfl⟩
      have HJJ : Hid ((k + 1) % n = j ∧ j < n) := ⟨hj, by rw [← hj]; exact Nat.mod_lt _ (by have := HS.out.1.size; omega)⟩
      rw [hj] at hx
      have j1 : (j : Int) < (n : Int) := by have := HJJ.out; omega
      have j2 : (0 : Int) ≤ (j : Int) := by omega
      have c0 := HW.out.blk.cell 0
      simp at c0
      clear hj ho
      go_upto_region 4 with fail
      refine wp_region_noPanic ?_
      refine wp_region_hold 1000 (fun y => w3.grownBy y none) (by kernel_rfl) ?_
      have HD : Hid (w3.grownBy w3.drew none) := grown_drew _ _
      generalize w3.drew = wd at HD ⊢
      cases o with
      | none =>
        have hp' : x = .pointer none := hp
        subst hp'
        clear hp
        have J : Idx [0, 1, 2, 3, 4, 5] := trivial
        iterate 6 (refine tk J (HD.out) rfl rfl (fun wk hk => by have k0 := hk.cell c0 (by simp); have k3 := hk.cell hx (by simp); go_simp; try rfl) ?_; replace J := J.tl; try simp only [Act.put, List.setIfInBounds_toArray, List.set_cons_zero, List.set_cons_succ])
        clear J
        refine wpHold_one (i := 6) rfl (by kernel_rfl) (by rfl) (fun K hK => ?_)
        go_wp2_with fail
        refine (place_yes b2 g n n cap _ _ (k + 1) j wd HJJ.out.1 (HW.out.blk.grown HD.out (by simp)) HS.out.1.size (by have := HK.out; have := HS.out.2.2.2.2.2.1; omega)).mono ?_
        rintro e w5 ⟨rfl, rfl⟩
        go_wp2_with fail
        refine hK.out _ _ (fun _ => HD.out) ?_
        clear hK K
        try simp only [Act.put, List.setIfInBounds_toArray, List.set_cons_zero, List.set_cons_succ]
        have J : Idx [7, 8, 9] := trivial
        iterate 3 (refine tk J (HD.out) rfl rfl (fun wk hk => by have k0 := hk.cell c0 (by simp); have k3 := hk.cell hx (by simp); go_simp; try rfl) ?_; replace J := J.tl; try simp only [Act.put, List.setIfInBounds_toArray, List.set_cons_zero, List.set_cons_succ])
        clear J
        refine wpHold_done (by kernel_rfl) ?_
        refine (‹∀ (a : Act) (w : World), Code.wp Try.prog _ _ a w → _› _ _ ?_)
        have HN2 : Hid (s ≤ k + 1 ∧ (∀ i, s ≤ i → i < k + 1 → L[i]? = some none) ∧ J s G w5 ∧ (∀ i, G i → W2.heap.size ≤ i ∧ i < w5.heap.size) ∧ W2.heap.size ≤ w5.heap.size ∧ (∀ i, i < w0.heap.size ∨ FN b2 (.slice (some ⟨g, 0, none⟩) n cap) i → w5.heap[i]? = W2.heap[i]?)) := by
          have s1 := HI.out
          have s2 := HD.out.size
          refine ⟨by omega, fun i h1 h2 => ?_, HJT.out _ _ _ _ s1.2.2.1 (Tx.of_grown HD.out), fun i hi => ⟨(s1.2.2.2.1 i hi).1, by have := (s1.2.2.2.1 i hi).2; omega⟩, by omega, fun i hi => ?_⟩
          · by_cases e : i = k
            · rw [e]; exact HO.out
            · exact s1.2.1 i h1 (by omega)
          · rw [← s1.2.2.2.2.2 i hi]
            refine HD.out.block i ?_ (by simp)
            rcases hi with hi | hi
            · have := HC.out.2.2.2.2.size
              omega
            · exact HW.out.lt i hi
        have wk1 : IntKind.i64.wrap ((k : Int) + 1 + 1) = (k : Int) + 1 + 1 := by have := HS.out.2.2.2.2.2.1; rw [IntKind.wrap_i64]; omega
        clear c0 hx HI HW
        go_wp2_with fail
        go_roundw
        case rel => exact ⟨k + 1, s, G, by omega, by omega, by go_num, HN2.out⟩
        case measure => simp [intOf]; omega
      | some t =>
        obtain ⟨p, rfl, hpb, _⟩ := hp
        have HPB : Hid (Blk w3 p 9 #[Value.string t]) := hpb
        clear hpb
        have J : Idx [0, 1, 2, 3, 4, 5] := trivial
        iterate 6 (refine tk J (HD.out) rfl rfl (fun wk hk => by have k0 := hk.cell c0 (by simp); have k3 := hk.cell hx (by simp); go_simp; try rfl) ?_; replace J := J.tl; try simp only [Act.put, List.setIfInBounds_toArray, List.set_cons_zero, List.set_cons_succ])
        clear J
        refine wpHold_one (i := 6) rfl (by kernel_rfl) (by rfl) (fun K hK => ?_)
        go_wp2_with fail
        refine (place_yes b2 g n n cap _ _ (k + 1) j wd HJJ.out.1 (HW.out.blk.grown HD.out (by simp)) HS.out.1.size (by have := HK.out; have := HS.out.2.2.2.2.2.1; omega)).mono ?_
        rintro e w5 ⟨rfl, rfl⟩
        go_wp2_with fail
        refine hK.out _ _ (fun _ => HD.out) ?_
        clear hK K
        try simp only [Act.put, List.setIfInBounds_toArray, List.set_cons_zero, List.set_cons_succ]
        have J : Idx [7, 8, 9] := trivial
        iterate 3 (refine tk J (HD.out) rfl rfl (fun wk hk => by have k0 := hk.cell c0 (by simp); have k3 := hk.cell hx (by simp); go_simp; try rfl) ?_; replace J := J.tl; try simp only [Act.put, List.setIfInBounds_toArray, List.set_cons_zero, List.set_cons_succ])
        clear J
        refine wpHold_done (by kernel_rfl) ?_
        refine (‹∀ (a : Act) (w : World), Code.wp Try.prog _ _ a w → _› _ _ ?_)
        have q1 := (HPB.out.grown HD.out (by simp)).cell 0
        simp at q1
        clear c0 hx
        have HXX : Hid (Xo L s (k + 1) w5 w5 #[.int .i64 ((k : Int) + 1), Value.string t]) := ⟨k, t, HI.out.1, HO.out, HI.out.2.1, rfl, rfl⟩
        have HJ5 : Hid (J s G w5 ∧ W.heap.size ≤ w5.heap.size) := ⟨HJT.out _ _ _ _ HI.out.2.2.1 (Tx.of_grown HD.out), by have := HI.out.2.2.2.2.1; have := HC.out.2.2.2.1.size; have := HD.out.size; omega⟩
        go_upto_region 5 with fail
        refine (wpIn_wide (n := 0)).1 (wpIn_region_lit ?_)
        iterate 8
          refine wpListIn_step fun K1 hK1 => ?_
          rw [if_pos (by rfl)]
          refine Table.oper_wide 0 ?_
          have HK1 : Hid _ := hK1
          clear hK1
          go_wp2_with fail
          refine HK1.out _ _ ?_
          clear HK1 K1
        refine wpListIn_step fun K1 hK1 => ?_
        rw [if_pos (by rfl)]
        refine Table.yield_wide (HY.out s (k + 1) G w5 w5 _ HJ5.out.1 HJ5.out.2 (Tx.refl _ _) HXX.out) rfl rfl rfl rfl ?_
        clear q1
        rintro e W' (⟨rfl, G', hnew, hJ', hkept⟩ | ⟨rfl, hxx, _⟩)
        · refine ⟨_, rfl, hK1 _ _ ?_⟩
          clear hK1 K1
          simp only [Act.put, List.setIfInBounds_toArray, List.set_cons_zero, List.set_cons_succ]
          iterate 2
            refine wpListIn_step fun K1 hK1 => ?_
            rw [if_pos (by rfl)]
            refine Table.oper_wide 0 ?_
            have HK1 : Hid _ := hK1
            clear hK1
            go_wp2_with fail
            refine HK1.out _ _ ?_
            clear HK1 K1
          refine wpListIn_nil ?_
          refine (‹∀ (a : Act) (w : World), Code.wp Try.prog _ (Exit.inBlock 1 _) a w → _› _ _ ?_)
          have HN2 : Hid (J (k + 1) G' W' ∧ (∀ i, G' i → W2.heap.size ≤ i ∧ i < W'.heap.size) ∧ W2.heap.size ≤ W'.heap.size ∧ (∀ i, i < w0.heap.size ∨ FN b2 (.slice (some ⟨g, 0, none⟩) n cap) i → W'.heap[i]? = W2.heap[i]?)) := by
            have s1 := HI.out
            have s2 := HD.out.size
            have s3 := HC.out
            have s4 := s3.2.2.2.2.size
            have s5 := HS.out
            have s6 := s5.2.2.1.size
            have s7 := s5.2.2.2.2.2.2.size
            refine ⟨hJ', fun i hi => ⟨?_, (hnew i hi).2⟩, by have := hkept.1; omega, fun i hi => ?_⟩
            · rcases (hnew i hi).1 with h | h
              · exact (s1.2.2.2.1 i h).1
              · omega
            · have hilt : i < W2.heap.size := by
                rcases hi with hi | rfl | hi
                · omega
                · exact s3.1.lt
                · exact (s3.2.1.lt i hi).2
              have hwhere : i < w0.heap.size ∨ W.heap.size ≤ i := by
                rcases hi with hi | rfl | hi
                · exact .inl hi
                · exact .inr s3.2.2.1
                · exact .inr (s3.2.1.lt i hi).1
              rw [hkept.2 i (by omega) (by rcases hwhere with h | h; exact .inl (by omega); exact .inr h) ?_ ?_ fun h => by have := s1.2.2.2.1 i h; omega]
              · rw [HD.out.block i (by omega) (by simp)]
                exact s1.2.2.2.2.2 i hi
              · intro hf
                have s8 := s5.2.2.2.1 i hf
                omega
              · rintro (⟨y, hu, hbk⟩ | ⟨c, y, hc, hu, hbk⟩)
                · simp at hu
                  rcases hu with rfl | rfl
                  · simp [Value.ownBlock] at hbk
                  · simp [Value.ownBlock] at hbk
                · simp at hc
          clear hJ' hkept hnew
          have wk1 : IntKind.i64.wrap ((k : Int) + 1 + 1) = (k : Int) + 1 + 1 := by have := HS.out.2.2.2.2.2.1; rw [IntKind.wrap_i64]; omega
          go_wp2_with fail
          go_roundw
          case rel => exact ⟨k + 1, k + 1, G', by omega, by omega, by go_num, Nat.le_refl _, fun i h1 h2 => absurd h2 (by omega), HN2.out⟩
          case measure => simp [intOf]; omega
        · refine ⟨_, rfl, hK1 _ _ ?_⟩
          clear hK1 K1
          simp only [Act.put, List.setIfInBounds_toArray, List.set_cons_zero, List.set_cons_succ]
          iterate 2
            refine wpListIn_step fun K1 hK1 => ?_
            rw [if_pos (by rfl)]
            refine Table.oper_wide 0 ?_
            have HK1 : Hid _ := hK1
            clear hK1
            go_wp2_with fail
            refine HK1.out _ _ ?_
            clear HK1 K1
          refine wpListIn_nil ?_
          refine (‹∀ (a : Act) (w : World), Code.wp Try.prog _ (Exit.inBlock 1 _) a w → _› _ _ ?_)
          have HXE : Hid (Jx W') := hxx
          clear hxx
          go_wp2_with fail
          exact ⟨rfl, _, results_none rfl _ _ _, ⟨_, rfl⟩, .inr HXE.out⟩
    · have i1 : ¬ (k : Int) + 1 ≤ (ln : Int) := by omega
      go_wp2_with fail
      exact ⟨rfl, _, results_none rfl _ _ _, ⟨_, rfl⟩, .inl ⟨s, G, fun i h1 h2 => HI.out.2.1 i h1 (by have := HS.out.2.2.2.2.1; omega), HI.out.2.2.1⟩⟩
set_option maxRecDepth 100000 in
set_option maxHeartbeats 4000000 in
theorem overS_no (Fw : Nat → Prop) (bx : Nat) (x : Value) (w0 w : World) (hb : Blk w bx 23 #[x]) (hw : NoWin w0 x) (hg : w0.grownBy w none) :
    GivesS Try.prog 48 #[.pointer (some ⟨bx, 0, none⟩)] 0 (Fino []) (Xo []) Fw w := by
  intro lp J Jx W hgW hJ hJx hY h0
  have HS : Hid (NoWin W x) := hw.grown (grown_trans hg hgW)
  have c0 := (hb.grown hgW (by simp)).cell 0
  simp at c0
  have HJ : Hid (J 0 (fun _ => False) W) := h0
  clear hb hw hg hgW hY h0 hJ hJx
  show Calls Try.prog 48 #[.func (.yield lp) #[] #[], .pointer (some ⟨bx, 0, none⟩)] W _
  go_enter Try.func48, Try.ntmps48
  go_wp2_with fail
  refine (copy_no x W HS.out).mono ?_
  rintro e W1 ⟨rfl, rfl⟩
  go_wp2_with fail
  refine (mark_no (.pointer none) W1 (.inl rfl)).mono ?_
  rintro e W2 ⟨rfl, rfl⟩
  go_wp2_with fail
  refine wp_loop_rounds 1 ?_
  rw [rounds_succ]
  go_wp2_with fail
  refine (last_no (.pointer none) W2 (.inl rfl)).mono ?_
  rintro e W3 ⟨rfl, rfl⟩
  go_wp2_with fail
  exact ⟨rfl, _, results_none rfl _ _ _, ⟨_, rfl⟩, .inl ⟨0, fun _ => False, fun i _ h2 => absurd h2 (by simp), HJ.out⟩⟩
end Go.Proofs.Ytignmnmhigncjaa.S
