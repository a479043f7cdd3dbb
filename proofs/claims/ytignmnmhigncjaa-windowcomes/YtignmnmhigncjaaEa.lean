/-
  All that is out comes back, the last first.
-/
import Derived.Test.YtignmnmhigncjaaWd
import Derived.Test.YtignmnmhigncjaaIH
import Derived.Test.YtignmnmhigncjaaKa
namespace Go.Proofs.Ytignmnmhigncjaa
open Go.RowKit Disk Table I

theorem info2 : (Try.prog.info? 2).map (fun i => (i.zero, i.size, i.bytes)) = some (some (.int .i64 0), 1, 8) := by kernel_rfl
theorem rd_one {w : World} {g t : Nat} {x : Value} (h : Blk w g t #[x]) : Rd w (.slice (some ⟨g, 0, none⟩) 1 1) [x] := ⟨_, 1, rfl, by simp, by unfold maxLen; omega, by simp, fun j hj => by
  simp at hj
  subst hj
  exact ⟨g, 0, rfl, h.cell 0⟩⟩
theorem fr_putD {w A : World} {F : Nat → Prop} {b : Nat} {d : Option (List Deferred)} (o : Obj) (h : Fr w A F) (hb : A.heap[b]? = some (.deferred d)) (hn : w.heap.size ≤ b) : Fr w (A.putObj b o) F := by
  have t := Tx.putD (n0 := w.heap.size) o hb hn
  exact ⟨t.os.trans h.os, t.tape.trans h.tape, t.output.trans h.output, Nat.le_trans h.size t.size, fun k hk hf => (t.block k (Nat.lt_of_lt_of_le hk h.size) (.inl hk)).trans (h.block k hk hf)⟩
theorem row_lt {w w' : World} {B : Nat} {v : Value} {xs : List Value} (h : Row 2 w B v xs) (hg : w.grownBy w' none) : ∀ k, v.ownBlock = some k → w'.heap[k]? = w.heap[k]? := fun k hk => hg.block k (h.lt k hk).2 (by simp)
/-- What emptied does. -/
def EmpP (w : World) (b : Nat) (v : Value) (e : Ending) (w' : World) : Prop := e = .returned (.bool true) ∧ Fr w w' (FN b v)

set_option maxRecDepth 100000 in
set_option maxHeartbeats 8000000 in
theorem emptied25 (Q : Nat → Prop) (b : Nat) (v : Value) (n : Nat) (L : List (Option Int)) (w : World) (h : Win Q w b v n L (lead L)) (hL : L.length ≤ 1000) : Calls Try.prog 25 #[.pointer (some ⟨b, 0, none⟩)] w (EmpP w b v) := by
  obtain ⟨N, hN⟩ : ∃ N, nums L L.length = N := ⟨_, rfl⟩
  obtain ⟨ln, hln⟩ : ∃ ln, L.length = ln := ⟨_, rfl⟩
  have HN : Hid (Win Q w b v n L (lead L) ∧ L.length = ln ∧ ln ≤ 1000 ∧ nums L L.length = N ∧ N.length = outN L L.length ∧ N.length ≤ 1000) := ⟨h, hln, by omega, hN, by rw [← hN, nums_len], by rw [← hN, nums_len]; have := outN_le L L.length; omega⟩
  clear h hL hN hln
  refine calls_marks Try.func25 rfl ?_
  simp only [Try.ntmps25, List.size_toArray, List.length_cons, List.length_nil, Nat.reduceAdd, Nat.reduceSub, Array.replicate_succ, Array.replicate_zero, List.push_toArray, List.append_toArray, List.nil_append, List.cons_append]
  go_wp2_with fail
  refine (all_any (some ⟨b, 0, none⟩) w).mono ?_
  rintro e w1 ⟨rfl, hbk, hg1, hsz1⟩
  obtain ⟨bx, hbx⟩ : ∃ x, w.heap.size = x := ⟨_, rfl⟩
  rw [hbx] at hbk hsz1 ⊢
  have H1 : Hid (Blk w1 bx 44 #[.pointer (some ⟨b, 0, none⟩)] ∧ w.grownBy w1 none ∧ w1.heap.size = bx + 1 ∧ w.heap.size = bx) := ⟨hbk, hg1, hsz1, hbx⟩
  have hfn : ∀ wk, (binOp .eql 78 (.func (.func 50) #[] #[.pointer (some ⟨bx, 0, none⟩)]) .nilFunc).run Try.prog wk = .ok (.bool false) wk := fun _ => rfl
  clear hbk hg1 hsz1 hbx
  go_upto_region 5 with fail
  clear hfn
  obtain ⟨w2, hw2, H2'⟩ := al1 w1 #[.slice none 0 0] 80
  obtain ⟨x4, hx4⟩ : ∃ x, w1.heap.size = x := ⟨_, rfl⟩
  rw [hw2]
  rw [hx4] at H2' ⊢
  obtain ⟨sz, hsz⟩ : ∃ x, w2.heap.size = x := ⟨_, rfl⟩
  have H2 : Hid (Blk w2 x4 80 #[.slice none 0 0] ∧ w1.grownBy w2 none ∧ w2.heap.size = sz ∧ sz = x4 + 1 ∧ w1.heap.size = x4 ∧ w.grownBy w2 none) := ⟨H2'.out.1, H2'.out.2.1, hsz, by have := H2'.out.2.2; omega, hx4, grown_trans H1.out.2.1 H2'.out.2.1⟩
  clear hw2 hx4 hsz H2'
  go_wp2_with fail
  have HGV : Hid (GivesS Try.prog 50 #[.pointer (some ⟨bx, 0, none⟩)] 0 (Fino L) (Xo L) (fun i => i = x4) w2) := (HN.out.1.goes (by have := HN.out; omega)) bx w2 H2.out.2.2.2.2.2 (H1.out.1.grown H2.out.2.1 (by simp)) _ fun i hi => by
    have := H1.out
    have := H2.out
    omega
  refine wp_rangeB (id := 0) (gf := 50) (lb := #[.pointer (some ⟨bx, 0, none⟩)]) rfl (enters_of Try.func50 (by kernel_rfl) rfl) HGV.out ?_
    (fun k G A => Hid (k ≤ ln ∧ w1.grownBy A none ∧ sz ≤ A.heap.size ∧ ∃ lv, Blk A x4 80 #[lv] ∧ Row 2 A (sz + 2) lv ((nums L k).map (Value.int .i64)) ∧ ∀ i, lv.ownBlock = some i → G i))
    (fun _ => False) ?_ ?_ ?_ ?_
    (fun A => Hid (w1.grownBy A none ∧ sz ≤ A.heap.size ∧ ∃ lv, Blk A x4 80 #[lv] ∧ Row 2 A (sz + 2) lv (N.map (Value.int .i64)))) ?_ ?_ ?_
  · rintro k k' W0 W1 xs ⟨_, _, _, _, _, _, rfl⟩
    rfl
  · rintro k G A B HB ht
    have h2 := H2.out
    obtain ⟨k1, k2, k3, lv, k4, k5, k6⟩ := HB.out
    exact ⟨k1, tx_grown ht k2 (by omega), Nat.le_trans k3 ht.size, lv, ht.blk k4 (.inl (by decide)), ⟨ht.row k5.own (by decide), k5.one⟩, k6⟩
  · exact fun _ _ h _ => h
  · have h2 := H2.out
    exact ⟨Nat.zero_le _, h2.2.1, by omega, .slice none 0 0, h2.1, Row.nil _ _ _, fun i hi => by simp [Value.ownBlock] at hi⟩
  · rintro l' k k' G W0 W1 xs HI hlt0 htn ⟨j, t, hkj, hj, hno, rfl, rfl⟩ ⟨rc, hrc⟩
    have HJ : Hid (k ≤ j ∧ j < ln ∧ nums L (j + 1) = nums L k ++ [((j + 1 : Nat) : Int)] ∧ (nums L k).length ≤ 1000) := ⟨hkj, by have := (List.getElem?_eq_some_iff.1 hj).1; have := HN.out; omega, nums_step hkj hno hj, by rw [nums_len]; have := outN_le L k; have := HN.out; omega⟩
    have HO : Hid (Tx (w2.heap.size + 2) W0 W1 ∧ w2.heap.size + 1 < W0.heap.size ∧ W1.heap[w2.heap.size + 1]? = some (.loop rc)) := ⟨htn, hlt0, hrc⟩
    clear htn hlt0 hrc hkj hj hno
    simp only [List.zip_toArray, List.zip_cons_cons, List.zip_nil_right, List.foldl_toArray', List.size_toArray, List.foldl_cons, List.foldl_nil, List.setIfInBounds_toArray, List.set_cons_zero, List.set_cons_succ]
    refine region_round (by rintro ⟨_, _, h⟩; exact h) rfl ?_
    go_wp2_with fail
    refine ⟨grown_refl _ _, fun r => ?_⟩
    obtain ⟨W4, hW4⟩ : ∃ W, W1.putObj (w2.heap.size + 1) (.loop r) = W := ⟨_, rfl⟩
    have HT4 : Hid (Tx (w2.heap.size + 1) W0 W4 ∧ W4.heap.size = W1.heap.size ∧ (∀ i, i ≠ w2.heap.size + 1 → W4.heap[i]? = W1.heap[i]?)) := by
      have ht : Tx (w2.heap.size + 1) W1 W4 := by rw [← hW4]; exact Tx.put _ HO.out.2.2 (Nat.le_refl _)
      exact ⟨(HO.out.1.mono (Nat.le_succ _)).trans ht, by rw [← hW4]; simp [World.putObj], fun i hi => by rw [← hW4, World.putObj_heap_other hi]⟩
    rw [hW4]
    clear hW4
    obtain ⟨lv, HG4⟩ : ∃ lv, Hid (w1.grownBy W4 none ∧ Blk W4 x4 80 #[lv] ∧ Row 2 W4 (sz + 2) lv ((nums L k).map (Value.int .i64)) ∧ (∀ i, lv.ownBlock = some i → G i) ∧ w2.heap.size + 1 < W4.heap.size) := by
      obtain ⟨k1, k2, k3, lv, k4, k5, k6⟩ := HI.out
      have h2 := H2.out
      have ht := HT4.out
      have hs := HO.out.1.size
      exact ⟨lv, tx_grown ht.1 k2 (by omega), ht.1.blk k4 (.inl (by decide)), ⟨ht.1.row k5.own (by decide), k5.one⟩, k6, by have := HO.out.2.1; omega⟩
    obtain ⟨lo, lc, rfl⟩ := HG4.out.2.2.1.sl
    obtain ⟨nk, hnk⟩ : ∃ nk, ((nums L k).map (Value.int .i64)).length = nk := ⟨_, rfl⟩
    rw [hnk] at HG4
    have HNK : Hid ((nums L k).length = nk ∧ nk ≤ 1000) := by
      rw [List.length_map] at hnk
      exact ⟨hnk, by have := HJ.out; omega⟩
    have m0 := HG4.out.2.1.cell 0
    simp at m0
    clear hnk
    refine wpIn_block ?_
    refine region_round (by rintro ⟨_, _, h⟩; exact h) rfl ?_
    obtain ⟨W5, hW5, H5⟩ := al1 W4 #[.int .i64 ((j : Int) + 1)] 2
    have HW5 : Hid (W4.alloc (.cells #[.int .i64 ((j : Int) + 1)] 2) = W5) := hW5
    clear hW5
    go_wp2_with (at_builtin; rw [HW5.out]; refine appR 80 2 8 _ rfl info2 rfl W5 rfl _ _ rfl (sz + 2) (.slice lo nk lc) ((nums L k).map (Value.int .i64)) (.slice (some ⟨W4.heap.size, 0, none⟩) 1 1) [.int .i64 ((j : Int) + 1)] rfl rfl (HG4.out.2.2.1.grown H5.out.2.1) (rd_one H5.out.1) (by intro y hy; simp at hy; subst hy; rfl) ?c0 ?c1 ?c2 ?_)
    case c0 => have := HNK.out; simp; omega
    case c1 => have := HNK.out; unfold maxLen; simp; omega
    case c2 => have := H2.out; have := HG4.out.2.2.2.2; have := H5.out.2.2; omega
    intro v6 W6 hr6 hg6 hv6
    obtain ⟨qo, qc, e6⟩ := hr6.sl
    have el : ((nums L k).map (Value.int .i64) ++ [Value.int .i64 ((j : Int) + 1)]).length = nk + 1 := by have := HNK.out; simp; omega
    rw [el] at e6
    subst e6
    have hr5 := HG4.out.2.2.1.grown H5.out.2.1
    have hb5 := HG4.out.2.1.grown H5.out.2.1 (by simp)
    have hb6 : Blk W6 x4 80 #[.slice lo nk lc] := hb5.grown hg6 fun e => by
      obtain ⟨C, hC⟩ := hr5.blk x4 e
      exact absurd (blk_type hC hb5) (by decide)
    have r0 := hb6.cell 0
    have r1 := hb6.free 0
    simp at r0
    have gs := grown_setCell W6 x4 0 (.slice qo (nk + 1) qc)
    have hb7 := hb6.store 0 (.slice qo (nk + 1) qc)
    have HE : Hid (Blk (W6.setCell ⟨x4, 0, none⟩ (.slice qo (nk + 1) qc)) x4 80 #[.slice qo (nk + 1) qc] ∧ Row 2 W6 (sz + 2) (.slice qo (nk + 1) qc) ((nums L k).map (Value.int .i64) ++ [Value.int .i64 ((j : Int) + 1)]) ∧ W5.grownBy W6 (Value.slice lo nk lc).ownBlock ∧ (∀ i, (Value.slice qo (nk + 1) qc).ownBlock = some i → (Value.slice lo nk lc).ownBlock = some i ∨ W5.heap.size ≤ i) ∧ W6.grownBy (W6.setCell ⟨x4, 0, none⟩ (.slice qo (nk + 1) qc)) (some x4) ∧ (W6.setCell ⟨x4, 0, none⟩ (.slice qo (nk + 1) qc)).heap.size = W6.heap.size) := ⟨by simpa using hb7, hr6, hg6, hv6, gs, by simp⟩
    clear hr6 hg6 hv6 el hr5 hb5 hb6 gs hb7 HW5 m0
    go_wp2_with fail
    generalize W6.setCell ⟨x4, 0, none⟩ (.slice qo (nk + 1) qc) = W7 at HE ⊢
    have h2 := H2.out
    have h4 := HG4.out
    have h5 := H5.out
    have hE := HE.out
    have ht := HT4.out
    have hj := HJ.out
    have s6 := hE.2.2.1.size
    have s5 := h5.2.1.size
    have hlv : ∀ i, (Value.slice lo nk lc).ownBlock = some i → sz + 2 ≤ i ∧ i < W4.heap.size := fun i hi => h4.2.2.1.lt i hi
    have keep : ∀ q, q ≠ x4 → (Value.slice lo nk lc).ownBlock ≠ some q → q < W4.heap.size → W7.heap[q]? = W4.heap[q]? := fun q a1 a2 a3 => ((hE.2.2.2.2.1.block q (by omega) (by simp; omega)).trans (hE.2.2.1.block q (by omega) (fun e => a2 e.symm))).trans (h5.2.1.block q a3 (by simp))
    refine ⟨⟨keep _ (by omega) (fun e => by have := hlv _ e; omega) (by omega), keep _ (by omega) (fun e => by have := hlv _ e; omega) (by omega)⟩, fun i => (Value.slice qo (nk + 1) qc).ownBlock = some i, fun i hi => ⟨?_, ?_⟩, ⟨by omega, fun q a1 a2 a3 _ a5 => ?_⟩, by omega, ?_, by omega, .slice qo (nk + 1) qc, hE.1, ?_, fun i hi => hi⟩
    · rcases hE.2.2.2.1 i hi with e | e
      · exact .inl (h4.2.2.2.1 i e)
      · exact .inr (by omega)
    · have := (hE.2.1.lt i hi).2
      omega
    · rw [keep q a3 (fun e => a5 (h4.2.2.2.1 q e)) (by omega)]
      exact ht.2.2 q (by omega)
    · refine grown_new (grown_new (grown_trans h4.1 h5.2.1) hE.2.2.1 (fun x hx => ?_)) hE.2.2.2.2.1 (fun x hx => by simp at hx; omega)
      have := hlv x hx
      omega
    · rw [hj.2.2.1, List.map_append]
      refine hE.2.1.same fun i hi => hE.2.2.2.2.1.block i (hE.2.1.lt i hi).2 (by have := (hE.2.1.lt i hi).1; simp; omega)
  · rintro A k G hfin HB
    obtain ⟨k1, k2, k3, lv, k4, k5, k6⟩ := HB.out
    have e := nums_fin (by have := HN.out; omega) hfin
    rw [e, HN.out.2.2.2.1] at k5
    exact ⟨k2, k3, lv, k4, k5⟩
  · exact fun _ h => h.elim
  · intro A HB hd
    refine (‹∀ (a : Act) (w : World), Code.wp Try.prog _ _ a w → _› _ _ ?_)
    obtain ⟨lv, HB2⟩ : ∃ lv, Hid (w1.grownBy A none ∧ sz ≤ A.heap.size ∧ Blk A x4 80 #[lv] ∧ Row 2 A (sz + 2) lv (N.map (Value.int .i64)) ∧ A.heap[w2.heap.size]? = some (.deferred (some []))) := by
      obtain ⟨k1, k2, lv, k3, k4⟩ := HB.out
      exact ⟨lv, k1, k2, k3, k4, hd⟩
    obtain ⟨lo, lc, rfl⟩ := HB2.out.2.2.2.1.sl
    obtain ⟨nn, hnn⟩ : ∃ nn, (N.map (Value.int .i64)).length = nn := ⟨_, rfl⟩
    rw [hnn] at HB2
    have HNN : Hid (N.length = nn ∧ nn ≤ 1000 ∧ outN L L.length = nn) := by
      rw [List.length_map] at hnn
      have := HN.out
      exact ⟨hnn, by omega, by omega⟩
    have m0 := HB2.out.2.2.1.cell 0
    simp at m0
    have hnb : nn ≤ 1000 := HNN.out.2.1
    have s3 : ((nn : Int) != (nn : Int)) = false := by simp
    clear hd hnn HB
    go_upto_region 8 with fail
    refine wp_region_noPanic ?_
    refine wp_region_hold 1000 (fun y => A.grownBy y none) (by kernel_rfl) ?_
    have G0 : Hid (A.grownBy A.drew none) := grown_drew _ _
    generalize A.drew = wd at G0 ⊢
    have J : Idx [0, 1, 2] := trivial
    iterate 3 (refine tk J (G0.out) rfl rfl (fun wk hk => by have k0 := hk.cell m0 (by simp); go_simp; try rfl) ?_; replace J := J.tl; try simp only [Act.put, List.setIfInBounds_toArray, List.set_cons_zero, List.set_cons_succ])
    clear J
    refine wpHold_one (i := 3) rfl (by kernel_rfl) (by rfl) (fun K hK => ?_)
    go_wp2_with fail
    refine (len_yes b v n L (lead L) wd (HN.out.1.grown (grown_trans H1.out.2.1 (grown_trans HB2.out.1 G0.out))) (by have := HN.out; omega)).mono ?_
    rintro e we ⟨rfl, ge⟩
    have G1 : Hid (A.grownBy we none) := grown_trans G0.out ge
    rw [HNN.out.2.2]
    clear ge
    go_wp2_with fail
    refine hK.out _ _ (fun _ => G1.out) ?_
    clear hK K
    try simp only [Act.put, List.setIfInBounds_toArray, List.set_cons_zero, List.set_cons_succ]
    have J : Idx [4] := trivial
    iterate 1 (refine tk J (G1.out) rfl rfl (fun wk hk => by have k0 := hk.cell m0 (by simp); go_simp; try rfl) ?_; replace J := J.tl; try simp only [Act.put, List.setIfInBounds_toArray, List.set_cons_zero, List.set_cons_succ])
    clear J
    refine wpHold_done (by kernel_rfl) ?_
    refine (‹∀ (a : Act) (w : World), Code.wp Try.prog _ _ a w → _› _ _ ?_)
    have HL : Hid (Win Q we b v n L (lead L) ∧ Blk we x4 80 #[.slice lo nn lc] ∧ Row 2 we (sz + 2) (.slice lo nn lc) (N.map (Value.int .i64)) ∧ w.grownBy we none ∧ we.heap[w2.heap.size]? = some (.deferred (some []))) := by
      have hb := HB2.out
      have g := grown_trans H1.out.2.1 (grown_trans hb.1 G1.out)
      exact ⟨HN.out.1.grown g, hb.2.2.1.grown G1.out (by simp), hb.2.2.2.1.grown G1.out, g, (G1.out.block _ (Array.getElem?_eq_some_iff.1 hb.2.2.2.2).1 (by simp)).trans hb.2.2.2.2⟩
    clear m0 s3
    have m0 := HL.out.2.1.cell 0
    simp at m0
    have d1 : IntKind.i64.wrap ((nn : Int) - 1) = (nn : Int) - 1 := by rw [IntKind.wrap_i64]; omega
    go_wp2_with fail
    clear m0 d1
    go_loopw [6] (fun pi wr => ∃ i : Int, pi = .int .i64 i ∧ -1 ≤ i ∧ i < (nn : Int) ∧ Hid (∃ L', Win Q wr b v n L' (lead L') ∧ Left N ln (i + 1).toNat L' ∧ Fr we wr (FN b v))) (fun p _ => (intOf p + 1).toNat)
    case atStart =>
      refine ⟨(nn : Int) - 1, rfl, by omega, by omega, L, HL.out.1, ?_, Fr.of (grown_refl we none) (by simp)⟩
      have h := left_all L
      have e := HN.out
      have e2 := HNN.out
      rw [e.2.2.2.1, e.2.1, e2.1] at h
      rw [show ((nn : Int) - 1 + 1).toNat = nn by omega]
      exact h
    case round =>
      obtain ⟨i, rfl, hi1, hi2, HS⟩ := hrel
      obtain ⟨L1, HS1⟩ : ∃ L1, Hid (Win Q wr b v n L1 (lead L1) ∧ Left N ln (i + 1).toNat L1 ∧ Fr we wr (FN b v)) := HS.out
      clear HS
      by_cases h0 : 0 ≤ i
      · obtain ⟨r, rfl⟩ := Int.eq_ofNat_of_zero_le h0
        have HRN : Hid (r < N.length ∧ r < nn ∧ ((r : Int) + 1).toNat = r + 1) := ⟨by have := HNN.out; omega, by omega, by omega⟩
        obtain ⟨zr, hzr⟩ : ∃ z, N[r]'HRN.out.1 = z := ⟨_, rfl⟩
        have hasc : N.Pairwise (· < ·) := by rw [← HN.out.2.2.2.1]; exact nums_asc _ _
        have hlf := HS1.out.2.1
        rw [HRN.out.2.2] at hlf
        obtain ⟨⟨t, ht⟩, hnx⟩ := left_next hasc hlf HRN.out.1
        rw [hzr] at ht hnx
        have HZ : Hid (getD L1 zr = (t, 0) ∧ Left N ln r (putL L1 zr none)) := ⟨by unfold getD; rw [ht], hnx⟩
        have hrow : Row 2 wr (sz + 2) (.slice lo nn lc) (N.map (Value.int .i64)) := HL.out.2.2.1.same fun q hq => by
          obtain ⟨C, hC⟩ := HL.out.2.2.1.blk q hq
          exact (HL.out.1.other HS1.out.2.2 hC (by decide) (by decide)).trans hC.symm
        obtain ⟨g, rfl⟩ : ∃ g, lo = some ⟨g, 0, none⟩ := by
          rcases hrow.shape with ⟨_, e'⟩ | ⟨g, cp, C, e, _⟩
          · rw [List.map_eq_nil_iff] at e'
            have := HRN.out.1
            rw [e'] at this
            simp at this
          · simp at e
            exact ⟨g, e.1⟩
        have q1 := hrow.cell r (by simpa using HRN.out.1)
        simp only [List.getElem_map, hzr] at q1
        have q0 := (HL.out.1.other HS1.out.2.2 HL.out.2.1 (by decide) (by decide)).cell 0
        simp at q0
        have j1 : (r : Int) < (nn : Int) := by omega
        have j2 : (0 : Int) ≤ (r : Int) := by omega
        clear hi1 hi2 h0 ht hnx hzr hasc hlf hrow
        go_wp2_with fail
        refine (back_yes b v n L1 zr wr HS1.out.1 (by have := HS1.out.2.1.1; have := HN.out; omega)).mono ?_
        rintro e w5 ⟨rfl, hw5, hf5⟩
        have H5 : Hid (Win Q w5 b v n (putL L1 zr none) (lead (putL L1 zr none)) ∧ Fr we w5 (FN b v)) := ⟨hw5, HS1.out.2.2.trans hf5 fun i hi => .inl hi⟩
        rw [HZ.out.1]
        have d1 : IntKind.i64.wrap ((r : Int) - 1) = (r : Int) - 1 := by rw [IntKind.wrap_i64]; omega
        clear hw5 hf5 q0 q1
        go_wp2_with fail
        refine (num7 0 w5).mono ?_
        rintro e w6 ⟨rfl, rfl⟩
        go_wp2_with fail
        go_roundw
        case rel => exact ⟨(r : Int) - 1, rfl, by omega, by omega, putL L1 zr none, H5.out.1, by rw [show ((r : Int) - 1 + 1).toNat = r by omega]; exact HZ.out.2, H5.out.2⟩
        case measure => simp [intOf]
      · have e1 : i = -1 := by omega
        subst e1
        have HE : Hid (lead L1 = L1.length ∧ outN L1 L1.length = 0 ∧ L1.length ≤ 1000) := by
          have h := left_none HS1.out.2.1
          exact ⟨h.1, h.2, by have := HS1.out.2.1.1; have := HN.out; omega⟩
        clear hi1 hi2 h0
        go_wp2_with fail
        refine (len_yes b v n L1 (lead L1) wr HS1.out.1 (by have := HE.out; omega)).mono ?_
        rintro e w5 ⟨rfl, g5⟩
        have G5 : Hid (wr.grownBy w5 none) := g5
        rw [HE.out.2.1]
        clear g5
        go_wp2_with fail
        refine (mark_yes b v n L1 (lead L1) w5 (HS1.out.1.grown G5.out)).mono ?_
        rintro e w6 ⟨rfl, rfl⟩
        rw [HE.out.1]
        obtain ⟨ll, hll⟩ : ∃ ll, L1.length = ll := ⟨_, rfl⟩
        have HLL : Hid (L1.length = ll) := hll
        rw [hll]
        clear hll
        have s1 : ((ll : Int) == (ll : Int)) = true := by simp
        go_wp2_with fail
        refine (last_yes b v n L1 (lead L1) w6 (HS1.out.1.grown G5.out)).mono ?_
        rintro e w7 ⟨rfl, rfl⟩
        rw [HLL.out]
        go_wp2_with fail
        have HF : Hid (Fr w w7 (FN b v) ∧ w7.heap[w2.heap.size]? = some (.deferred (some []))) := by
          have hl := HL.out
          have hs := (Array.getElem?_eq_some_iff.1 hl.2.2.2.2).1
          have hfw : Fr w wr (FN b v) := (Fr.of (F := FN b v) hl.2.2.2.1 (by simp)).trans HS1.out.2.2 fun i hi => .inl hi
          refine ⟨hfw.trans (Fr.of (F := FN b v) G5.out (by simp)) fun i hi => .inl hi, ?_⟩
          have h1 := HS1.out.2.2.block _ hs fun e => by
            have hc : ∃ C t, Blk we w2.heap.size t C := by
              rcases e with e | e
              · exact ⟨_, 74, by rw [e]; exact hl.1.blk⟩
              · obtain ⟨xs, hr, _⟩ := hl.1.ring
                obtain ⟨C, hC⟩ := hr.blk _ e
                exact ⟨C, _, hC⟩
            obtain ⟨C, t, hC⟩ := hc
            unfold Blk at hC
            rw [hl.2.2.2.2] at hC
            cases hC
          exact (G5.out.block _ (by have := HS1.out.2.2.size; omega) (by simp)).trans (h1.trans hl.2.2.2.2)
        refine ⟨by simp, .inl ⟨_, _, rfl, run_takeDeferred HF.out.2, ?_⟩⟩
        exact ⟨.bool true, by simp [results, Try.results25, go_sem], rfl, fr_putD _ HF.out.1 HF.out.2 (by have := H2.out; have := H1.out; omega)⟩
end Go.Proofs.Ytignmnmhigncjaa
