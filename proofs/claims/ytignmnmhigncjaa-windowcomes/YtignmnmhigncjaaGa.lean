/-
  What goes over a window, held against the document's.
-/
import Derived.Test.YtignmnmhigncjaaRa
import Derived.Test.YtignmnmhigncjaaSG
import Derived.Sort.LoopGhostIn
namespace Go.Proofs.Ytignmnmhigncjaa
open Go.RowKit Disk Table S

set_option maxRecDepth 100000 in
set_option maxHeartbeats 8000000 in
theorem goes18 (a : Option Addr) (L : List (Option ByteArray)) (rb : Nat) (tv bv : Value) (n : Nat) (T : List ByteArray) (Ks : List Bool) (lv : Int) (w : World) (h : Goes a L w) (hr : Rw w rb tv bv n T Ks) (hzl : zipL T Ks = L) :
    Calls Try.prog 18 #[.pointer a, .pointer (some ⟨rb, 0, none⟩), .int .i64 lv] w fun e w' => e = .returned (.bool true) ∧ w.grownBy w' none := by
  obtain ⟨ta, tc, bo, bc, rfl, rfl⟩ := hr.sl
  obtain ⟨ln, hln⟩ : ∃ ln, T.length = ln := ⟨_, rfl⟩
  rw [hln] at hr
  have HN : Hid (Goes a L w ∧ Rw w rb (.slice ta ln tc) (.slice bo ln bc) n T Ks ∧ zipL T Ks = L ∧ T.length = ln ∧ ln ≤ 800000 ∧ L.length = ln) := ⟨h, hr, hzl, hln, by have := hr.long; omega, by rw [← hzl, zipL_len hr.same, hln]⟩
  clear h hr hzl hln
  refine calls_marks Try.func18 rfl ?_
  simp only [Try.ntmps18, List.size_toArray, List.length_cons, List.length_nil, Nat.reduceAdd, Nat.reduceSub, Array.replicate_succ, Array.replicate_zero, List.push_toArray, List.append_toArray, List.nil_append, List.cons_append]
  go_upto_region 1 with fail
  obtain ⟨w1, hw1, H1⟩ := al3 w #[.pointer (some ⟨rb, 0, none⟩)] #[.int .i64 lv] #[.bool false] 29 2 4
  obtain ⟨x4, hx4⟩ : ∃ x, w.heap.size = x := ⟨_, rfl⟩
  obtain ⟨x5, hx5⟩ : ∃ x, x4 + 1 = x := ⟨_, rfl⟩
  obtain ⟨x6, hx6⟩ : ∃ x, x5 + 1 = x := ⟨_, rfl⟩
  rw [hw1]
  rw [hx4, hx5, hx6] at H1 ⊢
  clear hw1
  go_wp2_with fail
  refine (all_any a w1).mono ?_
  rintro e w2 ⟨rfl, hbk, hg2, hsz2⟩
  obtain ⟨bx, hbx⟩ : ∃ x, w1.heap.size = x := ⟨_, rfl⟩
  rw [hbx] at hbk hsz2 ⊢
  have H2 : Hid (Blk w2 x4 29 #[.pointer (some ⟨rb, 0, none⟩)] ∧ Blk w2 x5 2 #[.int .i64 lv] ∧ Blk w2 x6 4 #[.bool false] ∧ Blk w2 bx 23 #[.pointer a] ∧ w.grownBy w2 none ∧ w2.heap.size = bx + 1 ∧ w.heap.size = x4 ∧ x4 < x5 ∧ x5 < x6 ∧ x6 < bx) := ⟨H1.out.1.grown hg2 (by simp), H1.out.2.1.grown hg2 (by simp), H1.out.2.2.1.grown hg2 (by simp), hbk, grown_trans H1.out.2.2.2.1 hg2, hsz2, hx4, by omega, by omega, by have := H1.out.2.2.2.2; omega⟩
  have hfn : ∀ wk, (binOp .eql 69 (.func (.func 48) #[] #[.pointer (some ⟨bx, 0, none⟩)]) .nilFunc).run Try.prog wk = .ok (.bool false) wk := fun _ => rfl
  clear hbk hg2 hsz2 hbx hx4 hx5 hx6 H1
  go_upto_region 5 with fail
  clear hfn
  obtain ⟨w3, hw3, H3'⟩ := al2 w2 #[.int .i64 0] #[.int .i64 0] 2 2
  obtain ⟨x8, hx8⟩ : ∃ x, w2.heap.size = x := ⟨_, rfl⟩
  obtain ⟨x9, hx9⟩ : ∃ x, x8 + 1 = x := ⟨_, rfl⟩
  rw [hw3]
  rw [hx8, hx9] at H3' ⊢
  obtain ⟨sz, hsz⟩ : ∃ x, w3.heap.size = x := ⟨_, rfl⟩
  have H3 : Hid (Blk w3 x8 2 #[.int .i64 0] ∧ Blk w3 x9 2 #[.int .i64 0] ∧ w2.grownBy w3 none ∧ w3.heap.size = sz ∧ sz = x8 + 2 ∧ w2.heap.size = x8 ∧ x9 = x8 + 1) := ⟨H3'.out.1, H3'.out.2.1, H3'.out.2.2.1, hsz, by have := H3'.out.2.2.2; omega, hx8, hx9.symm⟩
  clear hw3 hx8 hx9 hsz H3'
  go_wp2_with fail
  have HGV : Hid (GivesS Try.prog 48 #[.pointer (some ⟨bx, 0, none⟩)] 0 (Fino L) (Xo L) (fun i => i = x6 ∨ i = x8 ∨ i = x9) w3) := HN.out.1 bx w3 (grown_trans H2.out.2.2.2.2.1 H3.out.2.2.1) (H2.out.2.2.2.1.grown H3.out.2.2.1 (by simp)) _ fun i hi => by
    have := H2.out
    have := H3.out
    omega
  refine wp_rangeS (gf := 48) (lb := #[.pointer (some ⟨bx, 0, none⟩)]) rfl (enters_of Try.func48 (by kernel_rfl) rfl) HGV.out ?hps
    (fun k G A => Hid (k ≤ ln ∧ w2.grownBy A none ∧ Blk A x8 2 #[.int .i64 (k : Nat)] ∧ Blk A x9 2 #[.int .i64 (outN L k : Nat)] ∧ sz ≤ A.heap.size ∧ (∀ i, ¬ G i)))
    (fun A => Hid (w.grownBy A none ∧ Blk A x6 4 #[.bool true] ∧ sz ≤ A.heap.size)) ?hIg ?hXg ?h0 ?hround ?hdone ?hstop
  case hps =>
    rintro k k' W0 W1 xs ⟨_, _, _, _, _, _, rfl⟩
    rfl
  case hIg =>
    rintro k G A B HB ht
    have h3 := H3.out
    have h := HB.out
    exact ⟨h.1, tx_grown ht h.2.1 (by omega), ht.blk h.2.2.1 (.inl (by decide)), ht.blk h.2.2.2.1 (.inl (by decide)), Nat.le_trans h.2.2.2.2.1 ht.size, h.2.2.2.2.2⟩
  case hXg =>
    rintro A B HB ht
    have h3 := H3.out
    have h2 := H2.out
    have h := HB.out
    exact ⟨tx_grown ht h.1 (by omega), ht.blk h.2.1 (.inl (by decide)), Nat.le_trans h.2.2 ht.size⟩
  case h0 =>
    have h3 := H3.out
    exact ⟨Nat.zero_le _, h3.2.2.1, h3.1, by rw [outN_zero]; exact h3.2.1, by omega, fun _ h => h⟩
  case hround =>
    rintro l' k k' G W0 W1 xs HI hlt0 htn ⟨j, t, hkj, hj, hno, rfl, rfl⟩ ⟨rc, hrc⟩
    have HJ : Hid (k ≤ j ∧ L[j]? = some (some t) ∧ (∀ i, k ≤ i → i < j → L[i]? = some none) ∧ j < ln ∧ outN L (j + 1) = outN L k + 1) := ⟨hkj, hj, hno, by have := (List.getElem?_eq_some_iff.1 hj).1; have := HN.out.2.2.2.2.2; omega, outN_step hkj hno hj⟩
    have HO : Hid (Tx (w3.heap.size + 2) W0 W1 ∧ w3.heap.size + 1 < W0.heap.size ∧ W1.heap[w3.heap.size + 1]? = some (.loop rc)) := ⟨htn, hlt0, hrc⟩
    clear htn hlt0 hrc hkj hj hno
    simp only [List.zip_toArray, List.zip_cons_cons, List.zip_nil_right, List.foldl_toArray', List.size_toArray, List.foldl_cons, List.foldl_nil, List.setIfInBounds_toArray, List.set_cons_zero, List.set_cons_succ]
    refine wpIn_seq ?_
    refine region_round (by rintro ⟨_, _, h⟩; exact h) rfl ?_
    go_wp2_with fail
    refine region_round (by rintro ⟨_, _, h⟩; exact h) rfl ?_
    go_wp2_with fail
    refine ⟨grown_refl _ _, fun r => ?_⟩
    obtain ⟨W4, hW4⟩ : ∃ W, W1.putObj (w3.heap.size + 1) (.loop r) = W := ⟨_, rfl⟩
    have HT4 : Hid (Tx (w3.heap.size + 1) W0 W4 ∧ W4.heap.size = W1.heap.size ∧ (∀ i, i ≠ w3.heap.size + 1 → W4.heap[i]? = W1.heap[i]?)) := by
      have ht : Tx (w3.heap.size + 1) W1 W4 := by rw [← hW4]; exact Tx.put _ HO.out.2.2 (Nat.le_refl _)
      exact ⟨(HO.out.1.mono (Nat.le_succ _)).trans ht, by rw [← hW4]; simp [World.putObj], fun i hi => by rw [← hW4, World.putObj_heap_other hi]⟩
    rw [hW4]
    clear hW4
    have HG4 : Hid (w2.grownBy W4 none ∧ Blk W4 x8 2 #[.int .i64 (k : Nat)] ∧ Blk W4 x9 2 #[.int .i64 (outN L k : Nat)] ∧ w3.heap.size + 1 < W4.heap.size) := by
      have h := HI.out
      have h3 := H3.out
      have ht := HT4.out
      have hs := HO.out.1.size
      exact ⟨tx_grown ht.1 h.2.1 (by omega), ht.1.blk h.2.2.1 (.inl (by decide)), ht.1.blk h.2.2.2.1 (.inl (by decide)), by have := HO.out.2.1; omega⟩
    have m0 := HG4.out.2.1.cell 0
    have m1 := HG4.out.2.1.free 0
    simp at m0
    have v2 : IntKind.i64.wrap ((k : Int) + 1) = (k : Int) + 1 := by have := HI.out; have := HN.out; rw [IntKind.wrap_i64]; omega
    refine wpIn_block (wpIn_seq ?_)
    refine region_round (by rintro ⟨_, _, h⟩; exact h) rfl ?_
    go_wp2_with fail
    have gs := grown_setCell W4 x8 0 (.int .i64 ((k : Int) + 1))
    have hb5 := HG4.out.2.1.store 0 (.int .i64 ((k : Int) + 1))
    have hzs : (W4.setCell ⟨x8, 0, none⟩ (.int .i64 ((k : Int) + 1))).heap.size = W4.heap.size := by simp
    generalize W4.setCell ⟨x8, 0, none⟩ (.int .i64 ((k : Int) + 1)) = W5 at gs hb5 hzs ⊢
    have H5 : Hid (w2.grownBy W5 none ∧ Blk W5 x8 2 #[.int .i64 ((k : Int) + 1)] ∧ Blk W5 x9 2 #[.int .i64 (outN L k : Nat)] ∧ W5.heap.size = W4.heap.size ∧ (∀ i, i ≠ x8 → i < W4.heap.size → W5.heap[i]? = W4.heap[i]?)) := by
      have h3 := H3.out
      have h4 := HG4.out
      refine ⟨grown_new h4.1 gs (fun x hx => by simp at hx; omega), by simpa using hb5, h4.2.2.1.grown gs (by simp; omega), hzs, fun i h1 h2 => gs.block i h2 (by simp; omega)⟩
    clear gs hb5 hzs m0 m1 v2
    refine wpIn_seq (wpIn_block ?_)
    gi_loopg [] (j - k) (fun c A => ∃ i : Nat, c = j - i ∧ k ≤ i ∧ i ≤ j ∧ Hid (w2.grownBy A none ∧ Blk A x8 2 #[.int .i64 ((i : Int) + 1)] ∧ Blk A x9 2 #[.int .i64 (outN L k : Nat)] ∧ (∀ q, q ≠ x8 → q < W4.heap.size → A.heap[q]? = W4.heap[q]?) ∧ W4.heap.size ≤ A.heap.size))
    case atStart => exact ⟨k, rfl, Nat.le_refl _, HJ.out.1, H5.out.1, H5.out.2.1, H5.out.2.2.1, H5.out.2.2.2.2, Nat.le_of_eq H5.out.2.2.2.1.symm⟩
    case round =>
      obtain ⟨i, rfl, hki, hij, HM⟩ := hrel
      have HW : Hid (w.grownBy wr none ∧ Rw wr rb (.slice ta ln tc) (.slice bo ln bc) n T Ks ∧ Blk wr x4 29 #[.pointer (some ⟨rb, 0, none⟩)]) := by
        have g := grown_trans H2.out.2.2.2.2.1 HM.out.1
        exact ⟨g, HN.out.2.1.grown g, H2.out.1.grown HM.out.1 (by simp)⟩
      have HI2 : Hid (k ≤ i ∧ i ≤ j ∧ i < ln) := ⟨hki, hij, by have := HJ.out; omega⟩
      have m0 := HM.out.2.1.cell 0
      have m1 := HW.out.2.2.cell 0
      have m2 := HW.out.2.1.blk.cell 1
      simp at m0 m1 m2
      have i1 : (i : Int) + 1 ≤ (ln : Int) := by have := HI2.out; omega
      refine wpIn_seq (wpIn_seq ?_)
      refine region_round_hold 1000 (fun y => wr.grownBy y none) (by rintro ⟨_, _, h⟩; exact h) rfl (by kernel_rfl) ?_
      have G0 : Hid (wr.grownBy wr.drew none) := grown_drew _ _
      generalize wr.drew = wd at G0 ⊢
      obtain ⟨ob, hob⟩ : ∃ ob, (outD (zipL T Ks) ((i : Int) + 1)).isSome = ob := ⟨_, rfl⟩
      have HOB : Hid ((outD (zipL T Ks) ((i : Int) + 1)).isSome = ob) := hob
      clear hob hki hij
      have J : Idx [0, 1, 2, 3, 4, 5, 6, 7, 8, 9] := trivial
      iterate 10 (refine tk J (G0.out) rfl rfl (fun wk hk => by have k0 := hk.cell m0 (by simp); have k1 := hk.cell m1 (by simp); have k2 := hk.cell m2 (by simp); go_simp; try rfl) ?_; replace J := J.tl; try simp only [Act.put, List.setIfInBounds_toArray, List.set_cons_zero, List.set_cons_succ])
      clear J
      refine wpHold_one (i := 10) rfl (by kernel_rfl) (by rfl) (fun K hK => ?_)
      go_wp2_with fail
      refine (rout38 rb _ _ n T Ks ((i : Int) + 1) wd (HW.out.2.1.grown G0.out)).mono ?_
      rintro e we ⟨rfl, rfl⟩
      rw [HOB.out]
      go_wp2_with fail
      refine hK.out _ _ (fun _ => G0.out) ?_
      clear hK K
      try simp only [Act.put, List.setIfInBounds_toArray, List.set_cons_zero, List.set_cons_succ]
      have J : Idx [11, 12] := trivial
      iterate 2 (refine tk J (G0.out) rfl rfl (fun wk hk => by have k0 := hk.cell m0 (by simp); have k1 := hk.cell m1 (by simp); have k2 := hk.cell m2 (by simp); go_simp; try rfl) ?_; replace J := J.tl; try simp only [Act.put, List.setIfInBounds_toArray, List.set_cons_zero, List.set_cons_succ])
      clear J
      refine wpHold_done (by kernel_rfl) ?_
      have HQ : Hid (w2.grownBy we none ∧ Blk we x8 2 #[.int .i64 ((i : Int) + 1)] ∧ Blk we x9 2 #[.int .i64 (outN L k : Nat)] ∧ (∀ q, q ≠ x8 → q < W4.heap.size → we.heap[q]? = W4.heap[q]?) ∧ W4.heap.size ≤ we.heap.size) := by
        have h := HM.out
        have s := G0.out.size
        exact ⟨grown_trans h.1 G0.out, h.2.1.grown G0.out (by simp), h.2.2.1.grown G0.out (by simp), fun q h1 h2 => (G0.out.block q (by omega) (by simp)).trans (h.2.2.2.1 q h1 h2), by omega⟩
      clear m0 m1 m2 i1
      by_cases hlt : i < j
      · have hbf : ob = false := by
          rw [← HOB.out, HN.out.2.2.1, show (i : Int) + 1 = ((i + 1 : Nat) : Int) by omega, outD_nat, HJ.out.2.2.1 i HI2.out.1 hlt]
          rfl
        subst hbf
        have HLT : Hid (i < j) := hlt
        clear hlt
        refine wpIn_cond_true rfl (wpIn_skip ?_)
        have v0 := HQ.out.2.1.cell 0
        have v1 := HQ.out.2.1.free 0
        simp at v0
        have v2 : IntKind.i64.wrap ((i : Int) + 1 + 1) = (i : Int) + 1 + 1 := by have := HI2.out; have := HN.out; rw [IntKind.wrap_i64]; omega
        refine wpIn_block ?_
        refine region_round (by rintro ⟨_, _, h⟩; exact h) rfl ?_
        go_wp2_with fail
        have gs := grown_setCell we x8 0 (.int .i64 ((i : Int) + 1 + 1))
        have hb5 := HQ.out.2.1.store 0 (.int .i64 ((i : Int) + 1 + 1))
        have hzs : (we.setCell ⟨x8, 0, none⟩ (.int .i64 ((i : Int) + 1 + 1))).heap.size = we.heap.size := by simp
        generalize we.setCell ⟨x8, 0, none⟩ (.int .i64 ((i : Int) + 1 + 1)) = W6 at gs hb5 hzs ⊢
        have HE : Hid (w2.grownBy W6 none ∧ Blk W6 x8 2 #[.int .i64 (((i + 1 : Nat) : Int) + 1)] ∧ Blk W6 x9 2 #[.int .i64 (outN L k : Nat)] ∧ (∀ q, q ≠ x8 → q < W4.heap.size → W6.heap[q]? = W4.heap[q]?) ∧ W4.heap.size ≤ W6.heap.size) := by
          have h := HQ.out
          have h3 := H3.out
          refine ⟨grown_new h.1 gs (fun x hx => by simp at hx; omega), by simpa using hb5, h.2.2.1.grown gs (by simp; omega), fun q h1 h2 => ?_, by omega⟩
          rw [gs.block q (by omega) (by simp; omega)]
          exact h.2.2.2.1 q h1 h2
        clear gs hb5 hzs v0 v1 v2
        go_roundg (j - (i + 1))
        case rel => exact ⟨i + 1, rfl, by have := HI2.out; omega, by have := HLT.out; omega, HE.out⟩
        case measure => have := HLT.out; omega
      · have hbt : ob = true := by
          have e : i = j := by have := HI2.out; omega
          rw [← HOB.out, HN.out.2.2.1, e, show (j : Int) + 1 = ((j + 1 : Nat) : Int) by omega, outD_nat, HJ.out.2.1]
          rfl
        subst hbt
        have HIJ : Hid (i = j) := by have := HI2.out; unfold Hid; omega
        clear hlt
        refine wpIn_cond_false rfl (wpIn_exit ?_)
        refine (show Code.wpIn (Fence.wide.inRound l') 0 Try.prog _ _ _ _ from ?_)
        obtain ⟨g, rfl, hct, _⟩ := HN.out.2.1.tat j (by have := HN.out; have := HJ.out; omega)
        have hTj : T[j]'(by have := HN.out; have := HJ.out; omega) = t := by
          have h1 := HJ.out.2.1
          rw [← HN.out.2.2.1, zipL_at HN.out.2.1.same j (by have := HN.out; have := HJ.out; omega)] at h1
          have h2 := Option.some.inj h1
          split at h2
          · cases h2
          · exact Option.some.inj h2
        rw [hTj] at hct
        have HP : Hid (w2.grownBy we none ∧ Blk we x8 2 #[.int .i64 ((j : Int) + 1)] ∧ Blk we x9 2 #[.int .i64 (outN L k : Nat)] ∧ (∀ q, q ≠ x8 → q < W4.heap.size → we.heap[q]? = W4.heap[q]?) ∧ W4.heap.size ≤ we.heap.size) := by
          have h := HQ.out
          rw [HIJ.out] at h
          exact h
        have g2 := grown_trans H2.out.2.2.2.2.1 HP.out.1
        have m0 := HP.out.2.1.cell 0
        have m1 := (H2.out.1.grown HP.out.1 (by simp)).cell 0
        have m2 := (HN.out.2.1.grown g2).blk.cell 1
        have m3 := g2.cell hct (by simp)
        simp at m0 m1 m2
        have i1 : ¬ ((ln : Int) < (j : Int) + 1) := by have := HJ.out; omega
        have i2 : (j : Int) < (ln : Int) := by have := HJ.out; omega
        have i3 : (0 : Int) ≤ (j : Int) := by omega
        have d1 : IntKind.i64.wrap ((j : Int) + 1 - 1) = (j : Int) := by have := HJ.out; have := HN.out; rw [IntKind.wrap_i64]; omega
        have d2 : IntKind.i64.wrap (j : Int) = (j : Int) := by have := HJ.out; have := HN.out; rw [IntKind.wrap_i64]; omega
        have s4 : (((j : Int) + 1) != ((j : Int) + 1)) = false := by simp
        have s5 : (t.toList != t.toList) = false := by simp
        clear g2 hct hTj HQ HM HW
        refine wpIn_seq (wpIn_seq ?_)
        refine region_round_hold 1000 (fun y => we.grownBy y none) (by rintro ⟨_, _, h⟩; exact h) rfl (by kernel_rfl) ?_
        have G1 : Hid (we.grownBy we.drew none) := grown_drew _ _
        generalize we.drew = wz at G1 ⊢
        have J : Idx [0, 1, 2, 3, 4, 5, 6, 7, 8, 9, 10, 11, 12, 13, 14, 15, 16, 17, 18, 19, 20, 21, 22, 23] := trivial
        iterate 24 (refine tk J (G1.out) rfl rfl (fun wk hk => by have k0 := hk.cell m0 (by simp); have k1 := hk.cell m1 (by simp); have k2 := hk.cell m2 (by simp); have k3 := hk.cell m3 (by simp); go_simp; try rfl) ?_; replace J := J.tl; try simp only [Act.put, List.setIfInBounds_toArray, List.set_cons_zero, List.set_cons_succ])
        clear J
        refine wpHold_done (by kernel_rfl) ?_
        refine wpIn_cond_false (by first | rfl | simp [Act.eval]) (wpIn_skip ?_)
        clear m0 m1 m2 m3 i1 i2 i3 d1 d2 s4 s5
        have HZ : Hid (w2.grownBy wz none ∧ Blk wz x8 2 #[.int .i64 ((j : Int) + 1)] ∧ Blk wz x9 2 #[.int .i64 (outN L k : Nat)] ∧ (∀ q, q ≠ x8 → q < W4.heap.size → wz.heap[q]? = W4.heap[q]?) ∧ W4.heap.size ≤ wz.heap.size) := by
          have h := HP.out
          have s := G1.out.size
          exact ⟨grown_trans h.1 G1.out, h.2.1.grown G1.out (by simp), h.2.2.1.grown G1.out (by simp), fun q h1 h2 => (G1.out.block q (by omega) (by simp)).trans (h.2.2.2.1 q h1 h2), by omega⟩
        obtain ⟨c, hc⟩ : ∃ c, outN L k = c := ⟨_, rfl⟩
        have HC : Hid (outN L k = c ∧ c ≤ 800000) := ⟨hc, by have := outN_le L k; have := HN.out; omega⟩
        have v0 := HZ.out.2.2.1.cell 0
        have v1 := HZ.out.2.2.1.free 0
        rw [hc] at v0
        simp at v0
        have v2 : IntKind.i64.wrap ((c : Int) + 1) = (c : Int) + 1 := by have := HC.out; rw [IntKind.wrap_i64]; omega
        clear hc
        refine wpIn_seq ?_
        refine region_round (by rintro ⟨_, _, h⟩; exact h) rfl ?_
        go_wp2_with fail
        have gs := grown_setCell wz x9 0 (.int .i64 ((c : Int) + 1))
        have hb5 := HZ.out.2.2.1.store 0 (.int .i64 ((c : Int) + 1))
        have hzs : (wz.setCell ⟨x9, 0, none⟩ (.int .i64 ((c : Int) + 1))).heap.size = wz.heap.size := by simp
        generalize wz.setCell ⟨x9, 0, none⟩ (.int .i64 ((c : Int) + 1)) = W7 at gs hb5 hzs ⊢
        have H7 : Hid (w2.grownBy W7 none ∧ Blk W7 x8 2 #[.int .i64 ((j : Int) + 1)] ∧ Blk W7 x9 2 #[.int .i64 ((c : Int) + 1)] ∧ (∀ q, q ≠ x8 → q ≠ x9 → q < W4.heap.size → W7.heap[q]? = W4.heap[q]?) ∧ W4.heap.size ≤ W7.heap.size) := by
          have h := HZ.out
          have h3 := H3.out
          refine ⟨grown_new h.1 gs (fun x hx => by simp at hx; omega), h.2.1.grown gs (by simp; omega), by simpa using hb5, fun q h1 h2 h4 => ?_, by omega⟩
          rw [gs.block q (by omega) (by simp; omega)]
          exact h.2.2.2.1 q h1 h4
        clear gs hb5 hzs v0 v1 v2
        have v0 := H7.out.2.2.1.cell 0
        have v1 := (H2.out.2.1.grown H7.out.1 (by simp)).cell 0
        simp at v0 v1
        refine wpIn_seq ?_
        by_cases hlv : ((c : Int) + 1) = lv
        · have s1 : (((c : Int) + 1) == lv) = true := by simp [hlv]
          have HLV : Hid ((c : Int) + 1 = lv) := hlv
          clear hlv
          refine region_round (by rintro ⟨_, _, h⟩; exact h) rfl ?_
          go_wp2_with fail
          refine wpIn_cond_true (by first | rfl | simp [Act.eval, HLV.out]) ?_
          clear v0 v1 s1
          have v0 := (H2.out.2.2.1.grown H7.out.1 (by simp)).cell 0
          have v1 := (H2.out.2.2.1.grown H7.out.1 (by simp)).free 0
          simp at v0
          refine wpIn_seq ?_
          refine region_round (by rintro ⟨_, _, h⟩; exact h) rfl ?_
          go_wp2_with fail
          have gs := grown_setCell W7 x6 0 (.bool true)
          have hb5 := (H2.out.2.2.1.grown H7.out.1 (by simp)).store 0 (.bool true)
          have hzs : (W7.setCell ⟨x6, 0, none⟩ (.bool true)).heap.size = W7.heap.size := by simp
          generalize W7.setCell ⟨x6, 0, none⟩ (.bool true) = W8 at gs hb5 hzs ⊢
          refine wpIn_ret ?_
          have h7 := H7.out
          have h3 := H3.out
          have h2 := H2.out
          have h4 := HG4.out
          have ht := HT4.out
          have keep : ∀ q, q ≠ x6 → q ≠ x8 → q ≠ x9 → q < W4.heap.size → W8.heap[q]? = W4.heap[q]? := fun q a1 a2 a3 a4 => (gs.block q (by omega) (by simp; omega)).trans (h7.2.2.2.1 q a2 a3 a4)
          refine ⟨⟨keep _ (by omega) (by omega) (by omega) (by omega), keep _ (by omega) (by omega) (by omega) (by omega)⟩, ⟨by omega, fun q a1 a2 a3 _ _ => ?_⟩, grown_new (grown_trans h2.2.2.2.2.1 h7.1) gs (fun x hx => by simp at hx; omega), by simpa using hb5, by omega⟩
          rw [keep q (fun e => a3 (.inl e)) (fun e => a3 (.inr (.inl e))) (fun e => a3 (.inr (.inr e))) (by omega)]
          exact ht.2.2 q (by omega)
        · have s1 : (((c : Int) + 1) == lv) = false := by simp [hlv]
          have HLV : Hid (¬ (c : Int) + 1 = lv) := hlv
          have s2 : ((c : Int) + 1 = lv) = False := eq_false hlv
          clear hlv
          refine region_round (by rintro ⟨_, _, h⟩; exact h) rfl ?_
          go_wp2_with fail
          refine wpIn_cond_false (by first | rfl | simp [Act.eval, HLV.out]) (wpIn_skip ?_)
          have h7 := H7.out
          have h3 := H3.out
          have h2 := H2.out
          have h4 := HG4.out
          have ht := HT4.out
          have hj := HJ.out
          have hc := HC.out
          refine ⟨⟨h7.2.2.2.1 _ (by omega) (by omega) (by omega), h7.2.2.2.1 _ (by omega) (by omega) (by omega)⟩, fun _ => False, fun _ h => h.elim, ⟨by omega, fun q a1 a2 a3 _ _ => ?_⟩, by omega, h7.1, by simpa using h7.2.1, by rw [hj.2.2.2.2, hc.1]; simpa using h7.2.2.1, by omega, fun _ h => h⟩
          rw [h7.2.2.2.1 q (fun e => a3 (.inr (.inl e))) (fun e => a3 (.inr (.inr e))) (by omega)]
          exact ht.2.2 q (by omega)
  case hdone =>
    rintro A k G hfin HB hd
    have HD : Hid (A.heap[w3.heap.size]? = some (.deferred (some [])) ∧ outN L k = outN L L.length) := ⟨hd, outN_fin hfin⟩
    have HA : Hid (w2.grownBy A none ∧ Blk A x9 2 #[.int .i64 (outN L L.length : Nat)]) := ⟨HB.out.2.1, by rw [← HD.out.2]; exact HB.out.2.2.2.1⟩
    have g2 : Hid (w.grownBy A none) := grown_trans H2.out.2.2.2.2.1 HA.out.1
    have m0 := HA.out.2.cell 0
    have m1 := (H2.out.1.grown HA.out.1 (by simp)).cell 0
    simp at m0 m1
    obtain ⟨c, hc⟩ : ∃ c, outN L L.length = c := ⟨_, rfl⟩
    have HC : Hid (outN L L.length = c) := hc
    rw [hc] at m0
    clear hd hfin hc
    go_upto_region 16 with fail
    refine wp_region_noPanic ?_
    refine wp_region_hold 4 (fun y => A.grownBy y none) (by kernel_rfl) ?_
    have G0 : Hid (A.grownBy A.drew none) := grown_drew _ _
    generalize A.drew = wd at G0 ⊢
    have J : Idx [0, 1] := trivial
    iterate 2 (refine tk J (G0.out) rfl rfl (fun wk hk => by have k0 := hk.cell m0 (by simp); have k1 := hk.cell m1 (by simp); go_simp; try rfl) ?_; replace J := J.tl; try simp only [Act.put, List.setIfInBounds_toArray, List.set_cons_zero, List.set_cons_succ])
    clear J
    refine wpHold_one (i := 2) rfl (by kernel_rfl) (by rfl) (fun K hK => ?_)
    go_wp2_with fail
    refine (rlen16 rb _ _ n T Ks wd (HN.out.2.1.grown (grown_trans g2.out G0.out))).mono ?_
    rintro e we ⟨rfl, rfl⟩
    rw [HN.out.2.2.1, HC.out]
    go_wp2_with fail
    refine hK.out _ _ (fun _ => G0.out) ?_
    clear hK K
    try simp only [Act.put, List.setIfInBounds_toArray, List.set_cons_zero, List.set_cons_succ]
    have J : Idx [3] := trivial
    iterate 1 (refine tk J (G0.out) rfl rfl (fun wk hk => by have k0 := hk.cell m0 (by simp); have k1 := hk.cell m1 (by simp); go_simp; try rfl) ?_; replace J := J.tl; try simp only [Act.put, List.setIfInBounds_toArray, List.set_cons_zero, List.set_cons_succ])
    clear J
    refine wpHold_one (i := 4) rfl (by kernel_rfl) (by rfl) (fun K hK => ?_)
    have r0 := ((H2.out.2.2.1.grown HA.out.1 (by simp)).grown G0.out (by simp)).cell 0
    have r1 := ((H2.out.2.2.1.grown HA.out.1 (by simp)).grown G0.out (by simp)).free 0
    simp at r0
    go_wp2_with fail
    refine hK.out _ _ (fun h => absurd rfl h) ?_
    clear hK K
    try simp only [Act.put, List.setIfInBounds_toArray, List.set_cons_zero, List.set_cons_succ]
    refine wpHold_done (by kernel_rfl) ?_
    refine (‹∀ (a : Act) (w : World), Code.wp Try.prog _ _ a w → _› _ _ ?_)
    have gs := grown_setCell we x6 0 (.bool true)
    have hb5 := ((H2.out.2.2.1.grown HA.out.1 (by simp)).grown G0.out (by simp)).store 0 (.bool true)
    clear m0 m1
    try clear r0 r1
    generalize we.setCell ⟨x6, 0, none⟩ (.bool true) = W8 at gs hb5 ⊢
    have HE : Hid (w.grownBy W8 none ∧ Blk W8 x6 4 #[.bool true] ∧ W8.heap[w3.heap.size]? = some (.deferred (some []))) := by
      have h2 := H2.out
      have h3 := H3.out
      have hs := (Array.getElem?_eq_some_iff.1 HD.out.1).1
      have s0 := G0.out.size
      exact ⟨grown_new (grown_trans g2.out G0.out) gs (fun x hx => by simp at hx; omega), by simpa using hb5, (gs.block _ (by omega) (by simp; omega)).trans ((G0.out.block _ hs (by simp)).trans HD.out.1)⟩
    clear gs hb5
    go_wp2_with fail
    refine ⟨by simp, .inl ⟨_, _, rfl, run_takeDeferred HE.out.2.2, ?_⟩⟩
    have t1 := Tx.putD (n0 := w.heap.size) (.deferred none) HE.out.2.2 (by have := H2.out; have := H3.out; omega)
    have z4 := (t1.blk HE.out.2.1 (.inl (by decide))).cell 0
    simp at z4
    exact ⟨.bool true, by simp [results, Try.results18, go_sem, z4], rfl, tx_grown t1 HE.out.1 (Nat.le_refl _)⟩
  case hstop =>
    intro A HB hd
    have HE : Hid (A.heap[w3.heap.size]? = some (.deferred (some []))) := hd
    clear hd
    go_wp2_with fail
    refine ⟨by simp, .inl ⟨_, _, rfl, run_takeDeferred HE.out, ?_⟩⟩
    have t1 := Tx.putD (n0 := w.heap.size) (.deferred none) HE.out (by have := H2.out; have := H3.out; omega)
    have z4 := (t1.blk HB.out.2.1 (.inl (by decide))).cell 0
    simp at z4
    exact ⟨.bool true, by simp [results, Try.results18, go_sem, z4], rfl, tx_grown t1 HB.out.1 (Nat.le_refl _)⟩
end Go.Proofs.Ytignmnmhigncjaa
