/-
  Len: how many are out.
-/
import Derived.Test.YtignmnmhigncjaaSF
import Derived.Shelf.Abstract
namespace Go.Proofs.Ytignmnmhigncjaa.S
open Go.RowKit Disk Table
variable {Q : Nat → Prop}

/-- What is gone over, whatever is made by the way. -/
def Goes (a : Option Addr) (L : List (Option ByteArray)) (w : World) : Prop := ∀ (bx : Nat) (w2 : World), w.grownBy w2 none → Blk w2 bx 23 #[.pointer a] → ∀ Fw : Nat → Prop, (∀ i, Fw i → w.heap.size ≤ i ∧ i < w2.heap.size) → GivesS Try.prog 48 #[.pointer (some ⟨bx, 0, none⟩)] 0 (Fino L) (Xo L) Fw w2
theorem Win.goes {w : World} {b : Nat} {v : Value} {n : Nat} {L : List (Option ByteArray)} {m : Nat} (h : Win Q w b v n L m) (hL : L.length ≤ 900000) : Goes (some ⟨b, 0, none⟩) L w :=
  fun bx w2 hg hb Fw hF => overS Fw bx b v n L m w w2 hb h hg hF hL
theorem NoWin.goes {w : World} {a : Option Addr} (h : NoWin w (.pointer a)) : Goes a [] w :=
  fun bx w2 hg hb Fw _ => overS_no Fw bx (.pointer a) w w2 hb h hg

set_option maxRecDepth 100000 in
set_option maxHeartbeats 4000000 in
theorem len_of (a : Option Addr) (L : List (Option ByteArray)) (w : World) (h : Goes a L w) (hL : L.length ≤ 900000) : Calls Try.prog 15 #[.pointer a] w fun e w' => e = .returned (.int .i64 (outN L L.length : Nat)) ∧ w.grownBy w' none := by
  have HN : Hid (Goes a L w ∧ L.length ≤ 900000) := ⟨h, hL⟩
  clear h hL
  refine calls_marks Try.func15 rfl ?_
  simp only [Try.ntmps15, List.size_toArray, List.length_cons, List.length_nil, Nat.reduceAdd, Nat.reduceSub, Array.replicate_succ, Array.replicate_zero, List.push_toArray, List.append_toArray, List.nil_append, List.cons_append]
  go_upto_region 2 with fail
  obtain ⟨w1, hw1, H1⟩ := al1 w #[.int .i64 0] 3
  obtain ⟨z0, hz0⟩ : ∃ x, w.heap.size = x := ⟨_, rfl⟩
  rw [hw1]
  rw [hz0] at H1 ⊢
  have HZ : Hid (w.heap.size = z0) := hz0
  clear hw1 hz0
  go_wp2_with fail
  refine (all_any a w1).mono ?_
  rintro e w2 ⟨rfl, hbk, hg2, hsz2⟩
  obtain ⟨bx, hbx⟩ : ∃ x, w1.heap.size = x := ⟨_, rfl⟩
  rw [hbx] at hbk hsz2 ⊢
  have H2 : Hid (Blk w2 bx 23 #[.pointer a] ∧ w.grownBy w2 none ∧ Blk w2 z0 3 #[.int .i64 0] ∧ w2.heap.size = bx + 1 ∧ z0 < bx) := ⟨hbk, grown_trans H1.out.2.1 hg2, H1.out.1.grown hg2 (by simp), hsz2, by have := H1.out.2.2; have := HZ.out; omega⟩
  clear hbk hg2 hsz2 hbx H1
  go_wp2_with fail
  obtain ⟨sz, hsz⟩ : ∃ x, w2.heap.size = x := ⟨_, rfl⟩
  have HSZ : Hid (w2.heap.size = sz ∧ z0 < sz) := ⟨hsz, by have := H2.out; omega⟩
  clear hsz
  have HGV : Hid (GivesS Try.prog 48 #[.pointer (some ⟨bx, 0, none⟩)] 0 (Fino L) (Xo L) (fun i => i = z0) w2) := HN.out.1 bx w2 H2.out.2.1 H2.out.1 _ fun i hi => by
    have := HZ.out
    have := H2.out
    omega
  refine wp_rangeB (id := 0) (gf := 48) (lb := #[.pointer (some ⟨bx, 0, none⟩)]) rfl (enters_of Try.func48 (by kernel_rfl) rfl) HGV.out ?_
    (fun k G A => Hid (w.grownBy A none ∧ Blk A z0 3 #[.int .i64 (outN L k : Nat)] ∧ sz ≤ A.heap.size ∧ (∀ i, ¬ G i)))
    (fun _ => False) ?_ ?_ ?_ ?_
    (fun A => Hid (w.grownBy A none ∧ Blk A z0 3 #[.int .i64 (outN L L.length : Nat)] ∧ sz ≤ A.heap.size)) ?_ ?_ ?_
  · rintro k k' W0 W1 xs ⟨_, _, _, _, _, _, rfl⟩
    rfl
  · rintro k G A B HB ht
    have hz := HSZ.out
    have hz0 := HZ.out
    have h := HB.out
    exact ⟨tx_grown ht h.1 (by omega), ht.blk h.2.1 (.inl (by decide)), Nat.le_trans h.2.2.1 ht.size, h.2.2.2⟩
  · exact fun _ _ h _ => h
  · exact ⟨H2.out.2.1, by rw [outN_zero]; exact H2.out.2.2.1, Nat.le_of_eq HSZ.out.1.symm, fun _ h => h⟩
  · rintro l' k k' G W0 W1 xs HI hlt0 htn ⟨j, t, hkj, hj, hno, rfl, rfl⟩ ⟨rc, hrc⟩
    have HO : Hid (Tx (w2.heap.size + 2) W0 W1 ∧ w2.heap.size + 1 < W0.heap.size ∧ W1.heap[w2.heap.size + 1]? = some (.loop rc) ∧ outN L (j + 1) = outN L k + 1 ∧ j < L.length) := ⟨htn, hlt0, hrc, outN_step hkj hno hj, (List.getElem?_eq_some_iff.1 hj).1⟩
    clear htn hlt0 hrc hkj hj hno
    simp only [List.zip_toArray, List.zip_cons_cons, List.zip_nil_right, List.foldl_toArray', List.size_toArray, List.foldl_cons, List.foldl_nil, List.setIfInBounds_toArray, List.set_cons_zero, List.set_cons_succ]
    refine wpIn_skip ?_
    refine ⟨grown_refl _ _, fun r => ?_⟩
    obtain ⟨W3, hW3⟩ : ∃ W3, W1.putObj (w2.heap.size + 1) (.loop r) = W3 := ⟨_, rfl⟩
    have HT3 : Hid (Tx (w2.heap.size + 1) W0 W3 ∧ W3.heap.size = W1.heap.size ∧ (∀ i, i ≠ w2.heap.size + 1 → W3.heap[i]? = W1.heap[i]?)) := by
      have ht : Tx (w2.heap.size + 1) W1 W3 := by rw [← hW3]; exact Tx.put _ HO.out.2.2.1 (Nat.le_refl _)
      exact ⟨(HO.out.1.mono (Nat.le_succ _)).trans ht, by rw [← hW3]; simp [World.putObj], fun i hi => by rw [← hW3, World.putObj_heap_other hi]⟩
    rw [hW3]
    clear hW3
    have HG3 : Hid (w.grownBy W3 none ∧ Blk W3 z0 3 #[.int .i64 (outN L k : Nat)]) := by
      have h := HI.out
      have hz := HSZ.out
      have hz0 := HZ.out
      exact ⟨tx_grown HT3.out.1 h.1 (by omega), HT3.out.1.blk h.2.1 (.inl (by decide))⟩
    have m0 := HG3.out.2.cell 0
    have m1 := HG3.out.2.free 0
    simp at m0
    obtain ⟨c, hc⟩ : ∃ c, outN L k = c := ⟨_, rfl⟩
    have HCC : Hid (outN L k = c ∧ c ≤ 900000) := ⟨hc, by have := HO.out; have := outN_le L (j + 1); have := HN.out.2; omega⟩
    rw [hc] at m0
    have v2 : IntKind.i64.wrap ((c : Int) + 1) = (c : Int) + 1 := by have := HCC.out; rw [IntKind.wrap_i64]; omega
    clear hc
    refine wpIn_block ?_
    refine region_round (by rintro ⟨_, _, h⟩; exact h) rfl ?_
    go_wp2_with fail
    have gs := grown_setCell W3 z0 0 (.int .i64 ((c : Int) + 1))
    have hb5 := HG3.out.2.store 0 (.int .i64 ((c : Int) + 1))
    have hzs : (W3.setCell ⟨z0, 0, none⟩ (.int .i64 ((c : Int) + 1))).heap.size = W3.heap.size := by simp
    generalize W3.setCell ⟨z0, 0, none⟩ (.int .i64 ((c : Int) + 1)) = W5 at gs hb5 hzs ⊢
    have hz := HSZ.out
    have hz0 := HZ.out
    have z2 := HT3.out
    have z3 := HO.out
    have hz3 := z3.1.size
    have hi := HI.out
    have hcc := HCC.out
    have keep : ∀ i, i ≠ z0 → i < W3.heap.size → W5.heap[i]? = W3.heap[i]? := fun i h1 h2 => gs.block i (by omega) (by simp; omega)
    refine ⟨⟨keep _ (by omega) (by omega), keep _ (by omega) (by omega)⟩, fun _ => False, fun _ h => h.elim, ⟨by omega, fun i h1 h2 h3 _ _ => ?_⟩, grown_new HG3.out.1 gs (fun x hx => by simp at hx; omega), ?_, by omega, fun _ h => h⟩
    · rw [keep i h3 (by omega)]
      exact z2.2.2 i (by omega)
    · rw [z3.2.2.2.1, hcc.1]
      simpa using hb5
  · rintro A k G hfin HB
    have h := HB.out
    rw [outN_fin hfin] at h
    exact ⟨h.1, h.2.1, h.2.2.1⟩
  · exact fun _ h => h.elim
  · intro A HB hd
    refine (‹∀ (a : Act) (w : World), Code.wp Try.prog _ _ a w → _› _ _ ?_)
    have v0 := HB.out.2.1.cell 0
    simp at v0
    have HD : Hid (A.heap[w2.heap.size]? = some (.deferred (some []))) := hd
    clear hd
    go_wp2_with fail
    refine ⟨by simp, .inl ⟨_, _, rfl, run_takeDeferred HD.out, ?_⟩⟩
    have t1 := Tx.putD (n0 := w.heap.size) (.deferred none) HD.out (by have := HSZ.out; have := HZ.out; omega)
    exact ⟨_, by simp [results, Try.results15, go_sem], rfl, tx_grown t1 HB.out.1 (Nat.le_refl _)⟩
theorem len_yes (b : Nat) (v : Value) (n : Nat) (L : List (Option ByteArray)) (m : Nat) (w : World) (h : Win Q w b v n L m) (hL : L.length ≤ 900000) : Calls Try.prog 15 #[.pointer (some ⟨b, 0, none⟩)] w fun e w' => e = .returned (.int .i64 (outN L L.length : Nat)) ∧ w.grownBy w' none :=
  len_of _ L w (h.goes hL) hL
theorem len_no (a : Option Addr) (w : World) (h : NoWin w (.pointer a)) : Calls Try.prog 15 #[.pointer a] w fun e w' => e = .returned (.int .i64 0) ∧ w.grownBy w' none :=
  len_of a [] w h.goes (by simp)
end Go.Proofs.Ytignmnmhigncjaa.S
