/-
  What goes over a net, held against a list.
-/
import Derived.Test.YthobfpegbnkpfaaSG
import Derived.Test.YthobfpegbnkpfaaSL
import Derived.Shelf.Abstract
namespace Go.Proofs.Ythobfpegbnkpfaa.S
open Go.RowKit Disk Table

theorem al3 (w : World) (A B D : Array Value) (s t u : Nat) : ∃ W, ((w.alloc (.cells A s)).alloc (.cells B t)).alloc (.cells D u) = W ∧ Hid (Blk W w.heap.size s A ∧ Blk W (w.heap.size + 1) t B ∧ Blk W (w.heap.size + 1 + 1) u D ∧ w.grownBy W none ∧ W.heap.size = w.heap.size + 3) := by
  refine ⟨_, rfl, ?_, ?_, ?_, ?_, by simp⟩
  · exact Blk.grown (Blk.grown (heap_alloc_new _ _) (World.grownBy_alloc _ _ none) (by simp)) (World.grownBy_alloc _ _ none) (by simp)
  · have := Blk.grown (t := t) (c := B) (heap_alloc_new (w.alloc (.cells A s)) (.cells B t)) (World.grownBy_alloc _ (.cells D u) none) (by simp)
    simpa using this
  · have := heap_alloc_new ((w.alloc (.cells A s)).alloc (.cells B t)) (.cells D u)
    rw [show ((w.alloc (.cells A s)).alloc (.cells B t)).heap.size = w.heap.size + 1 + 1 by simp] at this
    exact this
  · exact grown_trans (World.grownBy_alloc _ _ _) (grown_trans (World.grownBy_alloc _ _ _) (World.grownBy_alloc _ _ _))

theorem _root_.Go.Proofs.Ythobfpegbnkpfaa.Tx.grown {n0 : Nat} {w W W' : World} (h : Tx n0 W W') (hg : w.grownBy W none) (hn : w.heap.size ≤ n0) : w.grownBy W' none :=
  ⟨h.os.trans hg.os, h.tape.trans hg.tape, h.output.trans hg.output, Nat.le_trans hg.size h.size, fun i hi _ => (h.block i (Nat.lt_of_lt_of_le hi hg.size) (.inl (by omega))).trans (hg.block i hi (by simp))⟩

set_option maxRecDepth 100000 in
set_option maxHeartbeats 8000000 in
theorem goes14 (b B : Nat) (v : Value) (q : List Pcl) (s : Int) (u : Value) (lv : Int) (w : World) (h : Net w b B v q s) (hu : Rd w u (q.map fun a => Value.string a.t)) :
    Calls Try.prog 14 #[.pointer (some ⟨b, 0, none⟩), u, .int .i64 lv] w fun e w' => e = .returned (.bool true) ∧ w.grownBy w' none := by
  obtain ⟨uo, uc, rfl⟩ := hu.shape
  rw [List.length_map] at hu ⊢
  obtain ⟨n, hn⟩ : ∃ n, q.length = n := ⟨_, rfl⟩
  rw [hn] at hu ⊢
  have HN : Hid (Net w b B v q s ∧ Rd w (.slice uo n uc) (q.map fun a => Value.string a.t) ∧ q.length = n ∧ n ≤ 65536) := ⟨h, hu, hn, by rw [← hn]; exact h.len⟩
  clear h hu hn
  refine calls_marks Try.func14 rfl ?_
  simp only [Try.ntmps14, List.size_toArray, List.length_cons, List.length_nil, Nat.reduceAdd, Nat.reduceSub, Array.replicate_succ, Array.replicate_zero, List.push_toArray, List.append_toArray, List.nil_append, List.cons_append]
  go_upto_region 1 with fail
  obtain ⟨w1, hw1, H1⟩ := al3 w #[.slice uo n uc] #[.int .i64 lv] #[.bool false] 25 3 4
  obtain ⟨x0, hx0⟩ : ∃ x, w.heap.size = x := ⟨_, rfl⟩
  obtain ⟨x1, hx1⟩ : ∃ x, x0 + 1 = x := ⟨_, rfl⟩
  obtain ⟨x2, hx2⟩ : ∃ x, x1 + 1 = x := ⟨_, rfl⟩
  rw [hw1]
  rw [hx0, hx1, hx2] at H1 ⊢
  clear hw1
  go_wp2_with fail
  refine (all_yes b B v q s w1 (HN.out.1.grown H1.out.2.2.2.1)).mono ?_
  rintro e w2 ⟨fb, u2, rfl, hfb, hb2, hw2, hg2⟩
  obtain ⟨fo, fc, rfl⟩ := hw2.sl
  rw [HN.out.2.2.1] at hb2 hw2
  have HA : Hid (Blk w2 x0 25 #[.slice uo n uc] ∧ Blk w2 x1 3 #[.int .i64 lv] ∧ Blk w2 x2 4 #[.bool false] ∧ Blk w2 fb 56 #[.slice fo n fc] ∧ Way w2 w1.heap.size (.slice fo n fc) q ∧ w.grownBy w2 none ∧ w.heap.size = x0 ∧ x0 < x1 ∧ x1 < x2 ∧ x2 < fb ∧ Rd w2 (.slice uo n uc) (q.map fun a => Value.string a.t) ∧ x2 < w1.heap.size) := ⟨H1.out.1.grown hg2 (by simp), H1.out.2.1.grown hg2 (by simp), H1.out.2.2.1.grown hg2 (by simp), hb2, hw2, grown_trans H1.out.2.2.2.1 hg2, hx0, by omega, by omega, by have := H1.out.2.2.2.2; omega, HN.out.2.1.grown (grown_trans H1.out.2.2.2.1 hg2), by have := H1.out.2.2.2.2; omega⟩
  have hfn : ∀ wk, (binOp .eql 66 (.func (.func 43) #[] #[.pointer (some ⟨fb, 0, none⟩)]) .nilFunc).run Try.prog wk = .ok (.bool false) wk := fun _ => rfl
  clear hfb hb2 hw2 hg2 H1 hx0 hx1 hx2
  obtain ⟨wx0, hw10, H10⟩ := al1 w2 #[.int .i64 0] 3
  obtain ⟨z0, hz0⟩ : ∃ x, w2.heap.size = x := ⟨_, rfl⟩
  have HZ : Hid (w2.heap.size = z0) := hz0
  rw [hz0] at H10
  have HW10 : Hid (w2.alloc (.cells #[.int .i64 0] 3) = wx0) := hw10
  clear hw10 hz0
  go_wp2_with fail
  rw [HW10.out, HZ.out]
  clear HW10
  have I0 : Hid (w2.grownBy wx0 none ∧ Blk wx0 z0 3 #[.int .i64 0] ∧ z0 ≤ z0) := ⟨H10.out.2.1, H10.out.1, Nat.le_refl _⟩
  clear H10
  refine wp_loop_rounds 3 ?_
  rw [rounds_succ]
  have c0 := I0.out.2.1.cell 0
  simp at c0
  obtain ⟨wy0, hwy, HY0⟩ := al1 wx0 #[.int .i64 0] 3
  obtain ⟨jb0, hjb⟩ : ∃ x, wx0.heap.size = x := ⟨_, rfl⟩
  rw [hjb] at HY0
  have HWY : Hid (wx0.alloc (.cells #[.int .i64 0] 3) = wy0) := hwy
  clear hwy
  go_wp2_with fail
  rw [HWY.out]
  try rw [hjb]
  clear c0 HWY
  have HJ0 : Hid (wx0.heap.size = jb0 ∧ z0 < jb0 ∧ z0 ≤ jb0) := ⟨hjb, by have := I0.out.2.1.lt; omega, by have := I0.out.1.size; have := HZ.out; omega⟩
  clear hjb
  obtain ⟨sz0, hsz⟩ : ∃ x, wy0.heap.size = x := ⟨_, rfl⟩
  have HSZ0 : Hid (wy0.heap.size = sz0 ∧ sz0 = jb0 + 1) := ⟨hsz, by have := HY0.out.2.2; have := HJ0.out.1; omega⟩
  clear hsz
  have HGV : Hid (GivesS Try.prog 43 #[.pointer (some ⟨fb, 0, none⟩)] 0 (fun k => k = q.length) (Xq q) (fun i => i = jb0) wy0) := by
    have g := grown_trans I0.out.1 HY0.out.2.1
    have h := HA.out
    have hj := HJ0.out
    have hz := HZ.out
    refine overS _ fb w1.heap.size (.slice fo n fc) q wy0 (h.2.2.2.1.grown g (by simp)) (h.2.2.2.2.1.grown g) (by have := HN.out; omega) (fun i hi e => ?_)
    have := h.2.2.2.2.1.ltF i hi
    omega
  refine wp_rangeB (id := 2) (gf := 43) (lb := #[.pointer (some ⟨fb, 0, none⟩)]) rfl (enters_of Try.func43 (by kernel_rfl) rfl) HGV.out ?_
    (fun k G A => Hid (k ≤ n ∧ w2.grownBy A none ∧ Blk A z0 3 #[.int .i64 0] ∧ Blk A jb0 3 #[.int .i64 (k : Int)] ∧ sz0 ≤ A.heap.size ∧ (∀ i, ¬ G i)))
    (fun A => Hid (0 = 0 ∧ w2.grownBy A none ∧ Blk A z0 3 #[.int .i64 0] ∧ Blk A jb0 3 #[.int .i64 lv] ∧ sz0 ≤ A.heap.size)) ?_ ?_ ?_ ?_
    (fun A => Hid (∃ j : Int, w2.grownBy A none ∧ Blk A z0 3 #[.int .i64 0] ∧ Blk A jb0 3 #[.int .i64 j] ∧ sz0 ≤ A.heap.size ∧ (j = (n : Int) ∨ (0 = 0 ∧ j = lv)))) ?_ ?_ ?_
  · rintro k k' W0 W1 xs ⟨_, _, _, rfl⟩
    rfl
  · rintro k G A B HB ht
    have hz := HSZ0.out
    have hj := HJ0.out
    have hz0 := HZ.out
    have h := HB.out
    exact ⟨h.1, ht.grown h.2.1 (by omega), ht.blk h.2.2.1 (.inl (by decide)), ht.blk h.2.2.2.1 (.inl (by decide)), Nat.le_trans h.2.2.2.2.1 ht.size, h.2.2.2.2.2⟩
  · rintro A B HB ht
    have hz := HSZ0.out
    have hj := HJ0.out
    have hz0 := HZ.out
    have h := HB.out
    exact ⟨h.1, ht.grown h.2.1 (by omega), ht.blk h.2.2.1 (.inl (by decide)), ht.blk h.2.2.2.1 (.inl (by decide)), Nat.le_trans h.2.2.2.2 ht.size⟩
  · exact ⟨Nat.zero_le _, grown_trans I0.out.1 HY0.out.2.1, I0.out.2.1.grown HY0.out.2.1 (by simp), HY0.out.1, Nat.le_of_eq HSZ0.out.1.symm, fun _ h => h⟩
  · rintro l' k k' G W0 W1 xs HI hlt0 htn ⟨a, ha, rfl, rfl⟩ ⟨rc, hrc⟩
    have HO : Hid (Tx (wy0.heap.size + 2) W0 W1 ∧ wy0.heap.size + 1 < W0.heap.size ∧ W1.heap[wy0.heap.size + 1]? = some (.loop rc) ∧ q[k]? = some a) := ⟨htn, hlt0, hrc, ha⟩
    clear htn hlt0 hrc ha
    have hkq := (List.getElem?_eq_some_iff.1 HO.out.2.2.2).1
    obtain ⟨ub, off, e1, hc⟩ := HA.out.2.2.2.2.2.2.2.2.2.2.1.at k (by simpa using hkq)
    have hkn : k < n := by have := HN.out.2.2.1; omega
    subst e1
    simp only [List.getElem_map, (List.getElem?_eq_some_iff.1 HO.out.2.2.2).2] at hc
    have HE : Hid (w2.cell? ⟨ub, off + k, none⟩ = some (Value.string a.t) ∧ k < n) := ⟨hc, hkn⟩
    clear hkq hc hkn
    simp only [List.zip_toArray, List.zip_cons_cons, List.zip_nil_right, List.foldl_toArray', List.size_toArray, List.foldl_cons, List.foldl_nil, List.setIfInBounds_toArray, List.set_cons_zero, List.set_cons_succ]
    refine wpIn_seq ?_
    refine region_round (by rintro ⟨_, _, h⟩; exact h) rfl ?_
    go_wp2_with fail
    refine region_round (by rintro ⟨_, _, h⟩; exact h) rfl ?_
    go_wp2_with fail
    refine ⟨grown_refl _ _, fun r => ?_⟩
    obtain ⟨W3, hW3⟩ : ∃ W3, W1.putObj (wy0.heap.size + 1) (.loop r) = W3 := ⟨_, rfl⟩
    have HT3 : Hid (Tx (wy0.heap.size + 1) W0 W3 ∧ W3.heap.size = W1.heap.size ∧ (∀ i, i ≠ wy0.heap.size + 1 → W3.heap[i]? = W1.heap[i]?)) := by
      have ht : Tx (wy0.heap.size + 1) W1 W3 := by rw [← hW3]; exact Tx.put _ HO.out.2.2.1 (Nat.le_refl _)
      exact ⟨(HO.out.1.mono (Nat.le_succ _)).trans ht, by rw [← hW3]; simp [World.putObj], fun i hi => by rw [← hW3, World.putObj_heap_other hi]⟩
    rw [hW3]
    clear hW3
    have HG3 : Hid (w2.grownBy W3 none ∧ Blk W3 z0 3 #[.int .i64 0] ∧ Blk W3 jb0 3 #[.int .i64 (k : Int)]) := by
      have h := HI.out
      have hz := HSZ0.out
      have hj := HJ0.out
      have hz0 := HZ.out
      exact ⟨HT3.out.1.grown h.2.1 (by omega), HT3.out.1.blk h.2.2.1 (.inl (by decide)), HT3.out.1.blk h.2.2.2.1 (.inl (by decide))⟩
    have m0 := HG3.out.2.2.cell 0
    have m1 := (HA.out.1.grown HG3.out.1 (by simp)).cell 0
    have m2 := HG3.out.1.cell HE.out.1 (by simp)
    simp at m0 m1
    have s0 : (0 : Int) ≤ (k : Int) := by omega
    have s1 : (k : Int) < (n : Int) := by have := HE.out.2; omega
    have s2 : decide ((n : Int) ≤ (k : Int)) = false := by simp; omega
    have s3 : ((n : Int) ≤ (k : Int)) = False := eq_false (by omega)
    have s3' : (n ≤ k) = False := eq_false (by omega)
    have s4 : ((k : Int) != (k : Int)) = false := by simp
    have s5 : (a.t.toList != a.t.toList) = false := by simp
    refine wpIn_block (wpIn_seq (wpIn_seq ?_))
    refine region_round (by rintro ⟨_, _, h⟩; exact h) rfl ?_
    go_wp2_with fail
    refine wpIn_cond_false rfl (wpIn_skip ?_)
    clear m0 m1 m2 s0 s1 s2 s3 s3' s4 s5
    have v0 := HG3.out.2.2.cell 0
    have v1 := HG3.out.2.2.free 0
    simp at v0
    have v2 : IntKind.i64.wrap ((k : Int) + 1) = ((k + 1 : Nat) : Int) := by
      have := HE.out.2
      have := HN.out
      rw [IntKind.wrap_i64]
      omega
    refine wpIn_seq ?_
    refine region_round (by rintro ⟨_, _, h⟩; exact h) rfl ?_
    go_wp2_with fail
    have gs := grown_setCell W3 jb0 0 (.int .i64 ((k : Int) + 1))
    have hb5 := HG3.out.2.2.store 0 (.int .i64 ((k : Int) + 1))
    have hzs : (W3.setCell ⟨jb0, 0, none⟩ (.int .i64 ((k : Int) + 1))).heap.size = W3.heap.size := by simp
    generalize W3.setCell ⟨jb0, 0, none⟩ (.int .i64 ((k : Int) + 1)) = W5 at gs hb5 hzs ⊢
    have H5' : Hid (Blk W5 jb0 3 #[.int .i64 ((k + 1 : Nat) : Int)] ∧ Blk W5 z0 3 #[.int .i64 0] ∧ w2.grownBy W5 none ∧ Blk W5 x1 3 #[.int .i64 lv] ∧ (W5.heap[wy0.heap.size]? = W3.heap[wy0.heap.size]? ∧ W5.heap[wy0.heap.size + 1]? = W3.heap[wy0.heap.size + 1]?) ∧ KeptG wy0.heap.size (wy0.heap.size + 2) (fun i => i = jb0) G #[.int .i64 (k : Nat), Value.string a.t] W1 W5 ∧ sz0 ≤ W5.heap.size) := by
      have hj := HJ0.out
      have hz := HSZ0.out
      have hz0 := HZ.out
      have z2 := HT3.out
      have z3 := HO.out
      have hz3 := z3.1.size
      have ha := HA.out
      have hx1 := ha.2.1.lt
      have keep : ∀ i, i ≠ jb0 → i < W3.heap.size → W5.heap[i]? = W3.heap[i]? := fun i h1 h2 => gs.block i (by omega) (by simp; omega)
      refine ⟨by simpa using hb5, HG3.out.2.1.grown gs (by simp; omega), grown_new HG3.out.1 gs (fun x hx => by simp at hx; omega), (ha.2.1.grown HG3.out.1 (by simp)).grown gs (by simp; omega), ⟨keep _ (by omega) (by omega), keep _ (by omega) (by omega)⟩, ⟨by omega, fun i h1 h2 h3 _ _ => ?_⟩, by omega⟩
      rw [keep i h3 (by omega)]
      exact z2.2.2 i (by omega)
    clear gs hb5 hzs v0 v1 v2
    have v0 := H5'.out.1.cell 0
    have v1 := H5'.out.2.1.cell 0
    have v2 := H5'.out.2.2.2.1.cell 0
    simp at v0 v1 v2
    refine wpIn_seq ?_
    by_cases hn : ((k + 1 : Nat) : Int) = lv
    · have hq : ((k + 1 : Nat) : Int) = lv := hn
      have hq' : (k : Int) + 1 = lv := by omega
      refine region_round (by rintro ⟨_, _, h⟩; exact h) rfl ?_
      go_wp2_with fail
      refine wpIn_cond_true rfl (wpIn_exit ?_)
      refine ⟨rfl, H5'.out.2.2.2.2.1, H5'.out.2.2.2.2.2.1, by simp, H5'.out.2.2.1, H5'.out.2.1, by rw [← hq]; exact H5'.out.1, H5'.out.2.2.2.2.2.2⟩
    · have hq : ((k : Int) + 1 == lv) = false := by simp; omega
      have hq' : ((k : Int) + 1 = lv) = False := eq_false (by omega)
      refine region_round (by rintro ⟨_, _, h⟩; exact h) rfl ?_
      go_wp2_with fail
      refine wpIn_cond_false rfl (wpIn_skip ?_)
      refine ⟨H5'.out.2.2.2.2.1, fun _ => False, fun _ h => h.elim, H5'.out.2.2.2.2.2.1, by have := HE.out.2; omega, H5'.out.2.2.1, H5'.out.2.1, H5'.out.1, H5'.out.2.2.2.2.2.2, fun _ h => h⟩
  · rintro A k G hfin HB
    have h := HB.out
    have hkn : k = n := by rw [hfin]; exact HN.out.2.2.1
    subst hkn
    exact ⟨(k : Int), h.2.1, h.2.2.1, h.2.2.2.1, h.2.2.2.2.1, .inl rfl⟩
  · intro A HB
    have h := HB.out
    exact ⟨lv, h.2.1, h.2.2.1, h.2.2.2.1, h.2.2.2.2, .inr ⟨h.1, rfl⟩⟩
  intro A0 HP hd
  have HD0 : Hid (A0.heap[sz0]? = some (.deferred (some [])) ∧ jb0 < sz0) := ⟨by rw [← HSZ0.out.1]; exact hd, by have := HSZ0.out; omega⟩
  rw [HSZ0.out.1]
  clear hd
  refine (‹∀ (a : Act) (w : World), Code.wp Try.prog _ _ a w → _› _ _ ?_)
  obtain ⟨j, HP'⟩ : ∃ j : Int, Hid (w2.grownBy A0 none ∧ Blk A0 z0 3 #[.int .i64 0] ∧ Blk A0 jb0 3 #[.int .i64 j] ∧ sz0 ≤ A0.heap.size ∧ (j = (n : Int) ∨ (0 = 0 ∧ j = lv))) := by
    obtain ⟨j, h⟩ := HP.out
    exact ⟨j, h⟩
  clear HP
  have HTB : Hid (Blk A0 x0 25 #[.slice uo n uc] ∧ Blk A0 x1 3 #[.int .i64 lv]) := ⟨HA.out.1.grown HP'.out.1 (by simp), HA.out.2.1.grown HP'.out.1 (by simp)⟩
  have v0 := HP'.out.2.2.1.cell 0
  have v1 := HP'.out.2.1.cell 0
  have v2 := HTB.out.1.cell 0
  have v3 := HTB.out.2.cell 0
  simp at v0 v1 v2 v3
  have HC : Hid (j = (n : Int) ∨ (¬ j = (n : Int) ∧ (0 = 0 ∧ j = lv))) := by
    rcases HP'.out.2.2.2.2 with h | h
    · exact .inl h
    · by_cases hj : j = (n : Int)
      · exact .inl hj
      · exact .inr ⟨hj, h⟩
  obtain ⟨wn0, hwn, HN0⟩ := al1 A0 #[.int .i64 0] 3
  obtain ⟨pn0, hpn⟩ : ∃ x, A0.heap.size = x := ⟨_, rfl⟩
  rw [hpn] at HN0
  have HWN : Hid (A0.alloc (.cells #[.int .i64 0] 3) = wn0 ∧ A0.heap.size = pn0) := ⟨hwn, hpn⟩
  clear hwn hpn
  rcases HC.out with h | ⟨h2, _, h3⟩
  rotate_left
  have q1 : (lv == (n : Int)) = false := by simp; omega
  have q2 : (lv = (n : Int)) = False := eq_false (by omega)
  have h := h3
  clear h2 h3
  rotate_left
  all_goals
    clear HC
    rw [h] at v0
    clear h
    go_upto_region 6 with fail
    rw [HWN.out.1, HWN.out.2]
    have b0 := HN0.out.1.cell 0
    have b1 := HN0.out.1.free 0
    simp at b0
    clear v0 v1 v2 v3
    try clear q1 q2
    go_wp2_with fail
    have gs := grown_setCell wn0 pn0 0 (.int .i64 1)
    have hb5 := HN0.out.1.store 0 (.int .i64 1)
    have hzs : (wn0.setCell ⟨pn0, 0, none⟩ (.int .i64 1)).heap.size = wn0.heap.size := by simp
    generalize wn0.setCell ⟨pn0, 0, none⟩ (.int .i64 1) = wx1 at gs hb5 hzs ⊢
    have I1 : Hid (w2.grownBy wx1 none ∧ Blk wx1 pn0 3 #[.int .i64 1] ∧ z0 ≤ pn0 ∧ wx1.heap[sz0]? = some (.deferred (some [])) ∧ sz0 < wx1.heap.size ∧ z0 ≤ sz0) := by
      have hz0 := HZ.out
      have hi := I0.out
      have hg := HP'.out.1.size
      have hpn := HWN.out.2
      have hd := HD0.out
      have hj := HJ0.out
      have hsl := (Array.getElem?_eq_some_iff.1 hd.1).1
      have hn2 := HN0.out.2.2
      refine ⟨grown_new (grown_trans HP'.out.1 HN0.out.2.1) gs (fun x hx => by simp at hx; omega), by simpa using hb5, by omega, ((gs.block _ (by omega) (by simp; omega)).trans (HN0.out.2.1.block _ hsl (by simp))).trans hd.1, by omega, by omega⟩
    clear gs hb5 hzs b0 b1 HTB HP' HWN HN0 HD0 HSZ0 HY0 HGV I0 HJ0
    rw [rounds_succ]
    have c0 := I1.out.2.1.cell 0
    simp at c0
    obtain ⟨wy1, hwy, HY1⟩ := al1 wx1 #[.int .i64 0] 3
    obtain ⟨jb1, hjb⟩ : ∃ x, wx1.heap.size = x := ⟨_, rfl⟩
    rw [hjb] at HY1
    have HWY : Hid (wx1.alloc (.cells #[.int .i64 0] 3) = wy1) := hwy
    clear hwy
    go_wp2_with fail
    rw [HWY.out]
    try rw [hjb]
    clear c0 HWY
    have HJ1 : Hid (wx1.heap.size = jb1 ∧ pn0 < jb1 ∧ z0 ≤ jb1) := ⟨hjb, by have := I1.out.2.1.lt; omega, by have := I1.out.1.size; have := HZ.out; omega⟩
    clear hjb
    obtain ⟨spn0, hsz⟩ : ∃ x, wy1.heap.size = x := ⟨_, rfl⟩
    have HSZ1 : Hid (wy1.heap.size = spn0 ∧ spn0 = jb1 + 1) := ⟨hsz, by have := HY1.out.2.2; have := HJ1.out.1; omega⟩
    clear hsz
    have HGV : Hid (GivesS Try.prog 43 #[.pointer (some ⟨fb, 0, none⟩)] 0 (fun k => k = q.length) (Xq q) (fun i => i = jb1) wy1) := by
      have g := grown_trans I1.out.1 HY1.out.2.1
      have h := HA.out
      have hj := HJ1.out
      have hz := HZ.out
      refine overS _ fb w1.heap.size (.slice fo n fc) q wy1 (h.2.2.2.1.grown g (by simp)) (h.2.2.2.2.1.grown g) (by have := HN.out; omega) (fun i hi e => ?_)
      have := h.2.2.2.2.1.ltF i hi
      omega
    refine wp_rangeB (id := 2) (gf := 43) (lb := #[.pointer (some ⟨fb, 0, none⟩)]) rfl (enters_of Try.func43 (by kernel_rfl) rfl) HGV.out ?_
      (fun k G A => Hid (k ≤ n ∧ w2.grownBy A none ∧ Blk A pn0 3 #[.int .i64 1] ∧ Blk A jb1 3 #[.int .i64 (k : Int)] ∧ spn0 ≤ A.heap.size ∧ (∀ i, ¬ G i) ∧ A.heap[sz0]? = some (.deferred (some []))))
      (fun A => Hid (1 = 0 ∧ w2.grownBy A none ∧ Blk A pn0 3 #[.int .i64 1] ∧ Blk A jb1 3 #[.int .i64 lv] ∧ spn0 ≤ A.heap.size ∧ A.heap[sz0]? = some (.deferred (some [])))) ?_ ?_ ?_ ?_
      (fun A => Hid (∃ j : Int, w2.grownBy A none ∧ Blk A pn0 3 #[.int .i64 1] ∧ Blk A jb1 3 #[.int .i64 j] ∧ spn0 ≤ A.heap.size ∧ (j = (n : Int) ∨ (1 = 0 ∧ j = lv)) ∧ A.heap[sz0]? = some (.deferred (some [])))) ?_ ?_ ?_
    · rintro k k' W0 W1 xs ⟨_, _, _, rfl⟩
      rfl
    · rintro k G A B HB ht
      have hz := HSZ1.out
      have hj := HJ1.out
      have hz0 := HZ.out
      have h := HB.out
      exact ⟨h.1, ht.grown h.2.1 (by omega), ht.blk h.2.2.1 (.inl (by decide)), ht.blk h.2.2.2.1 (.inl (by decide)), Nat.le_trans h.2.2.2.2.1 ht.size, h.2.2.2.2.2.1, (ht.block sz0 (Array.getElem?_eq_some_iff.1 h.2.2.2.2.2.2).1 (.inl (by have := I1.out; omega))).trans h.2.2.2.2.2.2⟩
    · rintro A B HB ht
      have hz := HSZ1.out
      have hj := HJ1.out
      have hz0 := HZ.out
      have h := HB.out
      exact ⟨h.1, ht.grown h.2.1 (by omega), ht.blk h.2.2.1 (.inl (by decide)), ht.blk h.2.2.2.1 (.inl (by decide)), Nat.le_trans h.2.2.2.2.1 ht.size, (ht.block sz0 (Array.getElem?_eq_some_iff.1 h.2.2.2.2.2).1 (.inl (by have := I1.out; omega))).trans h.2.2.2.2.2⟩
    · exact ⟨Nat.zero_le _, grown_trans I1.out.1 HY1.out.2.1, I1.out.2.1.grown HY1.out.2.1 (by simp), HY1.out.1, Nat.le_of_eq HSZ1.out.1.symm, fun _ h => h, (HY1.out.2.1.block _ (Array.getElem?_eq_some_iff.1 I1.out.2.2.2.1).1 (by simp)).trans I1.out.2.2.2.1⟩
    · rintro l' k k' G W0 W1 xs HI hlt0 htn ⟨a, ha, rfl, rfl⟩ ⟨rc, hrc⟩
      have HO : Hid (Tx (wy1.heap.size + 2) W0 W1 ∧ wy1.heap.size + 1 < W0.heap.size ∧ W1.heap[wy1.heap.size + 1]? = some (.loop rc) ∧ q[k]? = some a) := ⟨htn, hlt0, hrc, ha⟩
      clear htn hlt0 hrc ha
      have hkq := (List.getElem?_eq_some_iff.1 HO.out.2.2.2).1
      obtain ⟨ub, off, e1, hc⟩ := HA.out.2.2.2.2.2.2.2.2.2.2.1.at k (by simpa using hkq)
      have hkn : k < n := by have := HN.out.2.2.1; omega
      subst e1
      simp only [List.getElem_map, (List.getElem?_eq_some_iff.1 HO.out.2.2.2).2] at hc
      have HE : Hid (w2.cell? ⟨ub, off + k, none⟩ = some (Value.string a.t) ∧ k < n) := ⟨hc, hkn⟩
      clear hkq hc hkn
      simp only [List.zip_toArray, List.zip_cons_cons, List.zip_nil_right, List.foldl_toArray', List.size_toArray, List.foldl_cons, List.foldl_nil, List.setIfInBounds_toArray, List.set_cons_zero, List.set_cons_succ]
      refine wpIn_seq ?_
      refine region_round (by rintro ⟨_, _, h⟩; exact h) rfl ?_
      go_wp2_with fail
      refine region_round (by rintro ⟨_, _, h⟩; exact h) rfl ?_
      go_wp2_with fail
      refine ⟨grown_refl _ _, fun r => ?_⟩
      obtain ⟨W3, hW3⟩ : ∃ W3, W1.putObj (wy1.heap.size + 1) (.loop r) = W3 := ⟨_, rfl⟩
      have HT3 : Hid (Tx (wy1.heap.size + 1) W0 W3 ∧ W3.heap.size = W1.heap.size ∧ (∀ i, i ≠ wy1.heap.size + 1 → W3.heap[i]? = W1.heap[i]?)) := by
        have ht : Tx (wy1.heap.size + 1) W1 W3 := by rw [← hW3]; exact Tx.put _ HO.out.2.2.1 (Nat.le_refl _)
        exact ⟨(HO.out.1.mono (Nat.le_succ _)).trans ht, by rw [← hW3]; simp [World.putObj], fun i hi => by rw [← hW3, World.putObj_heap_other hi]⟩
      rw [hW3]
      clear hW3
      have HG3 : Hid (w2.grownBy W3 none ∧ Blk W3 pn0 3 #[.int .i64 1] ∧ Blk W3 jb1 3 #[.int .i64 (k : Int)] ∧ W3.heap[sz0]? = some (.deferred (some []))) := by
        have h := HI.out
        have hz := HSZ1.out
        have hj := HJ1.out
        have hz0 := HZ.out
        exact ⟨HT3.out.1.grown h.2.1 (by omega), HT3.out.1.blk h.2.2.1 (.inl (by decide)), HT3.out.1.blk h.2.2.2.1 (.inl (by decide)), (HT3.out.1.block sz0 (Array.getElem?_eq_some_iff.1 h.2.2.2.2.2.2).1 (.inl (by have := I1.out; omega))).trans h.2.2.2.2.2.2⟩
      have m0 := HG3.out.2.2.1.cell 0
      have m1 := (HA.out.1.grown HG3.out.1 (by simp)).cell 0
      have m2 := HG3.out.1.cell HE.out.1 (by simp)
      simp at m0 m1
      have s0 : (0 : Int) ≤ (k : Int) := by omega
      have s1 : (k : Int) < (n : Int) := by have := HE.out.2; omega
      have s2 : decide ((n : Int) ≤ (k : Int)) = false := by simp; omega
      have s3 : ((n : Int) ≤ (k : Int)) = False := eq_false (by omega)
      have s3' : (n ≤ k) = False := eq_false (by omega)
      have s4 : ((k : Int) != (k : Int)) = false := by simp
      have s5 : (a.t.toList != a.t.toList) = false := by simp
      refine wpIn_block (wpIn_seq (wpIn_seq ?_))
      refine region_round (by rintro ⟨_, _, h⟩; exact h) rfl ?_
      go_wp2_with fail
      refine wpIn_cond_false rfl (wpIn_skip ?_)
      clear m0 m1 m2 s0 s1 s2 s3 s3' s4 s5
      have v0 := HG3.out.2.2.1.cell 0
      have v1 := HG3.out.2.2.1.free 0
      simp at v0
      have v2 : IntKind.i64.wrap ((k : Int) + 1) = ((k + 1 : Nat) : Int) := by
        have := HE.out.2
        have := HN.out
        rw [IntKind.wrap_i64]
        omega
      refine wpIn_seq ?_
      refine region_round (by rintro ⟨_, _, h⟩; exact h) rfl ?_
      go_wp2_with fail
      have gs := grown_setCell W3 jb1 0 (.int .i64 ((k : Int) + 1))
      have hb5 := HG3.out.2.2.1.store 0 (.int .i64 ((k : Int) + 1))
      have hzs : (W3.setCell ⟨jb1, 0, none⟩ (.int .i64 ((k : Int) + 1))).heap.size = W3.heap.size := by simp
      generalize W3.setCell ⟨jb1, 0, none⟩ (.int .i64 ((k : Int) + 1)) = W5 at gs hb5 hzs ⊢
      have H5' : Hid (Blk W5 jb1 3 #[.int .i64 ((k + 1 : Nat) : Int)] ∧ Blk W5 pn0 3 #[.int .i64 1] ∧ w2.grownBy W5 none ∧ Blk W5 x1 3 #[.int .i64 lv] ∧ (W5.heap[wy1.heap.size]? = W3.heap[wy1.heap.size]? ∧ W5.heap[wy1.heap.size + 1]? = W3.heap[wy1.heap.size + 1]?) ∧ KeptG wy1.heap.size (wy1.heap.size + 2) (fun i => i = jb1) G #[.int .i64 (k : Nat), Value.string a.t] W1 W5 ∧ spn0 ≤ W5.heap.size ∧ W5.heap[sz0]? = some (.deferred (some []))) := by
        have hj := HJ1.out
        have hz := HSZ1.out
        have hz0 := HZ.out
        have z2 := HT3.out
        have z3 := HO.out
        have hz3 := z3.1.size
        have ha := HA.out
        have hx1 := ha.2.1.lt
        have keep : ∀ i, i ≠ jb1 → i < W3.heap.size → W5.heap[i]? = W3.heap[i]? := fun i h1 h2 => gs.block i (by omega) (by simp; omega)
        refine ⟨by simpa using hb5, HG3.out.2.1.grown gs (by simp; omega), grown_new HG3.out.1 gs (fun x hx => by simp at hx; omega), (ha.2.1.grown HG3.out.1 (by simp)).grown gs (by simp; omega), ⟨keep _ (by omega) (by omega), keep _ (by omega) (by omega)⟩, ⟨by omega, fun i h1 h2 h3 _ _ => ?_⟩, by omega, (keep _ (by have := I1.out; omega) (by have := I1.out; omega)).trans HG3.out.2.2.2⟩
        rw [keep i h3 (by omega)]
        exact z2.2.2 i (by omega)
      clear gs hb5 hzs v0 v1 v2
      have v0 := H5'.out.1.cell 0
      have v1 := H5'.out.2.1.cell 0
      have v2 := H5'.out.2.2.2.1.cell 0
      simp at v0 v1 v2
      refine wpIn_seq ?_
      refine region_round (by rintro ⟨_, _, h⟩; exact h) rfl ?_
      go_wp2_with fail
      refine wpIn_cond_false rfl (wpIn_skip ?_)
      refine ⟨H5'.out.2.2.2.2.1, fun _ => False, fun _ h => h.elim, H5'.out.2.2.2.2.2.1, by have := HE.out.2; omega, H5'.out.2.2.1, H5'.out.2.1, H5'.out.1, H5'.out.2.2.2.2.2.2.1, fun _ h => h, H5'.out.2.2.2.2.2.2.2⟩
    · rintro A k G hfin HB
      have h := HB.out
      have hkn : k = n := by rw [hfin]; exact HN.out.2.2.1
      subst hkn
      exact ⟨(k : Int), h.2.1, h.2.2.1, h.2.2.2.1, h.2.2.2.2.1, .inl rfl, h.2.2.2.2.2.2⟩
    · intro A HB
      have h := HB.out
      exact ⟨lv, h.2.1, h.2.2.1, h.2.2.2.1, h.2.2.2.2.1, .inr ⟨h.1, rfl⟩, h.2.2.2.2.2⟩
    intro A1 HP hd
    have HD1 : Hid (A1.heap[spn0]? = some (.deferred (some [])) ∧ jb1 < spn0) := ⟨by rw [← HSZ1.out.1]; exact hd, by have := HSZ1.out; omega⟩
    rw [HSZ1.out.1]
    clear hd
    refine (‹∀ (a : Act) (w : World), Code.wp Try.prog _ _ a w → _› _ _ ?_)
    obtain ⟨j, HP'⟩ : ∃ j : Int, Hid (w2.grownBy A1 none ∧ Blk A1 pn0 3 #[.int .i64 1] ∧ Blk A1 jb1 3 #[.int .i64 j] ∧ spn0 ≤ A1.heap.size ∧ (j = (n : Int) ∨ (1 = 0 ∧ j = lv)) ∧ A1.heap[sz0]? = some (.deferred (some []))) := by
      obtain ⟨j, h⟩ := HP.out
      exact ⟨j, h⟩
    clear HP
    have HTB : Hid (Blk A1 x0 25 #[.slice uo n uc] ∧ Blk A1 x1 3 #[.int .i64 lv]) := ⟨HA.out.1.grown HP'.out.1 (by simp), HA.out.2.1.grown HP'.out.1 (by simp)⟩
    have v0 := HP'.out.2.2.1.cell 0
    have v1 := HP'.out.2.1.cell 0
    have v2 := HTB.out.1.cell 0
    have v3 := HTB.out.2.cell 0
    simp at v0 v1 v2 v3
    have HC : Hid (j = (n : Int)) := by
      rcases HP'.out.2.2.2.2.1 with h | h
      · exact h
      · have := h.1; omega
    obtain ⟨wn1, hwn, HN1⟩ := al1 A1 #[.int .i64 1] 3
    obtain ⟨pn1, hpn⟩ : ∃ x, A1.heap.size = x := ⟨_, rfl⟩
    rw [hpn] at HN1
    have HWN : Hid (A1.alloc (.cells #[.int .i64 1] 3) = wn1 ∧ A1.heap.size = pn1) := ⟨hwn, hpn⟩
    clear hwn hpn
    rw [HC.out] at v0
    clear HC
    go_upto_region 6 with fail
    rw [HWN.out.1, HWN.out.2]
    have b0 := HN1.out.1.cell 0
    have b1 := HN1.out.1.free 0
    simp at b0
    clear v0 v1 v2 v3
    go_wp2_with fail
    have gs := grown_setCell wn1 pn1 0 (.int .i64 2)
    have hb5 := HN1.out.1.store 0 (.int .i64 2)
    have hzs : (wn1.setCell ⟨pn1, 0, none⟩ (.int .i64 2)).heap.size = wn1.heap.size := by simp
    generalize wn1.setCell ⟨pn1, 0, none⟩ (.int .i64 2) = wx2 at gs hb5 hzs ⊢
    have I2 : Hid (w2.grownBy wx2 none ∧ Blk wx2 pn1 3 #[.int .i64 2] ∧ z0 ≤ pn1 ∧ wx2.heap[spn0]? = some (.deferred (some [])) ∧ spn0 < wx2.heap.size ∧ z0 ≤ spn0 ∧ wx2.heap[sz0]? = some (.deferred (some [])) ∧ sz0 < spn0 ∧ z0 ≤ sz0) := by
      have hz0 := HZ.out
      have hi := I1.out
      have hg := HP'.out.1.size
      have hpn := HWN.out.2
      have hd := HD1.out
      have hj := HJ1.out
      have hsl := (Array.getElem?_eq_some_iff.1 hd.1).1
      have hn2 := HN1.out.2.2
      refine ⟨grown_new (grown_trans HP'.out.1 HN1.out.2.1) gs (fun x hx => by simp at hx; omega), by simpa using hb5, by omega, ((gs.block _ (by omega) (by simp; omega)).trans (HN1.out.2.1.block _ hsl (by simp))).trans hd.1, by omega, by omega, ((gs.block _ (by omega) (by simp; omega)).trans (HN1.out.2.1.block _ (by omega) (by simp))).trans HP'.out.2.2.2.2.2, by have := I1.out; have := HY1.out; have := HSZ1.out; omega, by have := I1.out; omega⟩
    clear gs hb5 hzs b0 b1 HTB HP' HWN HN1 HD1 HSZ1 HY1 HGV I1 HJ1
    try rw [rounds_succ]
    have c0 := I2.out.2.1.cell 0
    simp at c0
    have HRB : Hid (Blk wx2 x2 4 #[.bool false] ∧ w2.grownBy wx2 none) := ⟨HA.out.2.2.1.grown I2.out.1 (by simp), I2.out.1⟩
    have r0 := HRB.out.1.cell 0
    have r1 := HRB.out.1.free 0
    simp at r0
    go_wp2_with fail
    have gs := grown_setCell wx2 x2 0 (.bool true)
    have hb5 := HRB.out.1.store 0 (.bool true)
    generalize wx2.setCell ⟨x2, 0, none⟩ (.bool true) = we at gs hb5 ⊢
    have HE : Hid (w.grownBy we none ∧ Blk we x2 4 #[.bool true] ∧ we.heap[spn0]? = some (.deferred (some [])) ∧ we.heap[sz0]? = some (.deferred (some [])) ∧ sz0 < spn0 ∧ z0 ≤ sz0 ∧ w.heap.size ≤ z0) := by
      have hi := I2.out
      have hz := HZ.out
      have ha := HA.out
      have hlt := ha.2.2.1.lt
      have hw := ha.2.2.2.2.2.1
      exact ⟨grown_new (grown_trans hw HRB.out.2) gs (fun x hx => by simp at hx; omega), by simpa using hb5, (gs.block _ (by omega) (by simp; omega)).trans hi.2.2.2.1, (gs.block _ (by omega) (by simp; omega)).trans hi.2.2.2.2.2.2.1, hi.2.2.2.2.2.2.2.1, hi.2.2.2.2.2.2.2.2, by have := hw.size; omega⟩
    clear gs hb5 r0 r1 c0
    refine ⟨by simp, .inl ⟨_, _, rfl, run_takeDeferred HE.out.2.2.1, ?_⟩⟩
    refine ⟨by simp, .inl ⟨_, _, rfl, run_takeDeferred ((World.putObj_heap_other (by have := HE.out; omega)).trans HE.out.2.2.2.1), ?_⟩⟩
    have t1 := Tx.putD (n0 := z0) (.deferred none) HE.out.2.2.1 (by have := HE.out; omega)
    have t2 := t1.trans (Tx.putD (n0 := z0) (.deferred none) ((World.putObj_heap_other (by have := HE.out; omega)).trans HE.out.2.2.2.1) (by have := HE.out; omega))
    have z4 := (t2.blk HE.out.2.1 (.inl (by decide))).cell 0
    simp at z4
    exact ⟨.bool true, by simp [results, Try.results14, go_sem, z4], rfl, t2.grown HE.out.1 (by have := HE.out; omega)⟩
end Go.Proofs.Ythobfpegbnkpfaa.S
