/-
  goes: a going over held against rows.
-/
import Derived.Test.YtlehikdlkdbacaaAl
import Derived.Test.YtlehikdlkdbacaaSp
import Derived.Test.YtlehikdlkdbacaaD
namespace Go.Proofs.Ytlehikdlkdbacaa
open Go.RowKit Disk

theorem Tn.vec {n0 size n : Nat} {w w' : World} {v : Value} {xs : List Value} (ht : Tn n0 w w') (h : Vec w size v n xs) : Vec w' size v n xs := h.cells fun _ _ _ _ hx => ht.cell hx
theorem Tn.rws {n0 : Nat} {w w' : World} {v : Value} {l : List PRow} (ht : Tn n0 w w') (h : Rws w v l) : Rws w' v l := by
  obtain ⟨ks, h1, h2⟩ := h
  exact ⟨ks, ⟨h1.1, fun j a b => ⟨ht.seg (h1.2 j a b).1, ht.seg (h1.2 j a b).2⟩⟩, ht.vec h2⟩
theorem Tn.after {n0 : Nat} {a w w' : World} (ht : Tn n0 w w') (ha : a.grownBy w none) (hn : a.heap.size ≤ n0) : a.grownBy w' none :=
  ⟨ht.os.trans ha.os, ht.tape.trans ha.tape, ht.output.trans ha.output, Nat.le_trans ha.size ht.size, fun k hk _ => (ht.block k (Nat.lt_of_lt_of_le hk ha.size) (.inl (by omega))).trans (ha.block k hk (by simp))⟩

/-- The rows in the order in which they come. -/
def ordL (turned : Bool) (rs : List PRow) : List PRow := if turned = true then rs.reverse else rs

/-- Between two rounds. -/
structure GoI (w : World) (b : Nat) (v : Value) (turned : Bool) (leave : Int) (wl : List PRow) (k : Nat) (A : World) : Prop where
  bw : Blk A b 22 #[v]
  bt : Blk A (b + 1) 4 #[.bool turned]
  bl : Blk A (b + 2) 3 #[.int .i64 leave]
  br : Blk A (b + 3) 4 #[.bool false]
  bi : Blk A (b + 4) 3 #[.int .i64 (k : Int)]
  rows : Rws A v wl
  grown : w.grownBy A none
theorem GoI.tn {w : World} {b : Nat} {v : Value} {turned : Bool} {leave : Int} {wl : List PRow} {k n0 : Nat} {A B : World} (h : GoI w b v turned leave wl k A) (ht : Tn n0 A B) (hn : w.heap.size ≤ n0) : GoI w b v turned leave wl k B :=
  ⟨ht.blk h.bw, ht.blk h.bt, ht.blk h.bl, ht.blk h.br, ht.blk h.bi, ht.rws h.rows, ht.after h.grown hn⟩
def GoX (w : World) (b : Nat) (A : World) : Prop := Blk A (b + 3) 4 #[.bool true] ∧ w.grownBy A none

theorem fn40 (gf : Nat) (lb : Array Value) (w : World) : (binOp .eql 40 (.func (.func gf) #[] lb) .nilFunc).run Try.prog w = .ok (.bool false) w := by kernel_rfl
theorem ord_at (turned : Bool) (rs : List PRow) (k j : Nat) (hk : k < rs.length) (hj : j = if turned = true then rs.length - 1 - k else k) : ∃ h : j < (ordL turned rs).length, (ordL turned rs)[j] = rs[k] := by
  cases turned with
  | false =>
    simp at hj
    subst hj
    exact ⟨hk, rfl⟩
  | true =>
    simp at hj
    subst hj
    refine ⟨by simp [ordL]; omega, ?_⟩
    simp only [ordL, if_true, List.getElem_reverse]
    congr 1
    omega

set_option maxRecDepth 100000 in
set_option maxHeartbeats 16000000 in
theorem goes13 (gf : Nat) (lb : Array Value) (v : Value) (turned : Bool) (leave : Int) (rs : List PRow) (eg : ∀ args w, (callFunc gf args).run Try.prog w = .ok (.enter gf args) w) (hz : rs.length ≤ 1000000) (w : World) (hv : Rws w v (ordL turned rs))
    (hseq : ∀ W' Fw, w.grownBy W' none → (∀ i, Fw i → w.heap.size ≤ i ∧ i < W'.heap.size) → Apart W' Fw → Gives Try.prog gf lb rs.length (Xt rs) Fw W') :
    Calls Try.prog 13 #[.func (.func gf) #[] lb, v, .bool turned, .int .i64 leave] w fun e w' => e = .returned (.bool true) ∧ w.grownBy w' none := by
  obtain ⟨av, n, cv, rfl, hn, hc1, hc2, HV⟩ := rws_open hv
  have hnr : rs.length = n := by rw [← hn]; unfold ordL; split <;> simp
  have HN : Hid (rs.length = n) := hnr
  have HQ : Hid _ := hseq
  have HEG : Hid _ := eg
  have hn6 : n ≤ 1000000 := by omega
  have hfn := fn40 gf lb
  clear hv hn hseq eg hz hnr
  refine calls_marks Try.func13 rfl ?_
  simp only [Try.ntmps13, List.size_toArray, List.length_cons, List.length_nil, Nat.reduceAdd, Nat.reduceSub, Array.replicate_succ, Array.replicate_zero, List.push_toArray, List.append_toArray, List.nil_append, List.cons_append]
  go_wp2_with fail
  obtain ⟨Wr_, hWr⟩ : ∃ W, ((((w.alloc (.cells #[.slice av n cv] 22)).alloc (.cells #[.bool turned] 4)).alloc (.cells #[.int .i64 leave] 3)).alloc (.cells #[.bool false] 4)).alloc (.cells #[.int .i64 0] 3) = W := ⟨_, rfl⟩
  have HI0 : Hid (GoI w w.heap.size (.slice av n cv) turned leave (ordL turned rs) 0 Wr_ ∧ Wr_.heap.size = w.heap.size + 5) := by
    obtain ⟨y1, e1, Y1⟩ := al w #[.slice av n cv] 22
    rw [e1] at hWr
    obtain ⟨y2, e2, Y2⟩ := al y1 #[.bool turned] 4
    rw [e2] at hWr
    obtain ⟨y3, e3, Y3⟩ := al y2 #[.int .i64 leave] 3
    rw [e3] at hWr
    obtain ⟨y4, e4, Y4⟩ := al y3 #[.bool false] 4
    rw [e4] at hWr
    obtain ⟨y5, e5, Y5⟩ := al y4 #[.int .i64 0] 3
    rw [e5] at hWr
    subst hWr
    have g2 := Y2.out.2.1
    have g3 := Y3.out.2.1
    have g4 := Y4.out.2.1
    have g5 := Y5.out.2.1
    have s1 := Y1.out.2.2
    have s2 := Y2.out.2.2
    have s3 := Y3.out.2.2
    have s4 := Y4.out.2.2
    have s5 := Y5.out.2.2
    have gg := grown_trans Y1.out.2.1 (grown_trans g2 (grown_trans g3 (grown_trans g4 g5)))
    refine ⟨⟨(((Y1.out.1.grown g2 (by simp)).grown g3 (by simp)).grown g4 (by simp)).grown g5 (by simp), ?_, ?_, ?_, ?_, HV.out.grown gg, gg⟩, by omega⟩
    · have := ((Y2.out.1.grown g3 (by simp)).grown g4 (by simp)).grown g5 (by simp)
      rwa [s1] at this
    · have := (Y3.out.1.grown g4 (by simp)).grown g5 (by simp)
      rwa [s2, s1] at this
    · have := Y4.out.1.grown g5 (by simp)
      rwa [s3, s2, s1] at this
    · have := Y5.out.1
      rwa [s4, s3, s2, s1] at this
  rw [hWr]
  clear hWr
  obtain ⟨b, hb⟩ : ∃ b, w.heap.size = b := ⟨_, rfl⟩
  rw [hb] at HI0 ⊢
  have HBB : Hid (w.heap.size = b) := hb
  clear hb
  have hap : Apart Wr_ (fun i => b ≤ i ∧ i < Wr_.heap.size) := by
    intro i hi _
    have hz := HI0.out.2
    have h0 := HI0.out.1
    have hcase : i = b ∨ i = b + 1 ∨ i = b + 2 ∨ i = b + 3 ∨ i = b + 4 := by omega
    rcases hcase with rfl | rfl | rfl | rfl | rfl
    · exact ⟨22, _, h0.bw, by decide, by decide, fun j p => by rcases j with _ | j <;> simp [ptr]⟩
    · exact ⟨4, _, h0.bt, by decide, by decide, fun j p => by rcases j with _ | j <;> simp [ptr]⟩
    · exact ⟨3, _, h0.bl, by decide, by decide, fun j p => by rcases j with _ | j <;> simp [ptr]⟩
    · exact ⟨4, _, h0.br, by decide, by decide, fun j p => by rcases j with _ | j <;> simp [ptr]⟩
    · exact ⟨3, _, h0.bi, by decide, by decide, fun j p => by rcases j with _ | j <;> simp [ptr]⟩
  refine wp_range (gf := gf) (lb := lb) rfl HEG.out (HQ.out Wr_ (fun i => b ≤ i ∧ i < Wr_.heap.size) HI0.out.1.grown (fun i hi => by rw [HBB.out]; exact hi) hap) ?hps (fun k A => GoI w b (.slice av n cv) turned leave (ordL turned rs) k A) (GoX w b) ?hIg ?hXg HI0.out.1 ?hround ?hdone ?hstop
  case hps =>
    rintro k W0 W1 xs ⟨_, x, y, rfl, _⟩
    rfl
  case hIg => exact fun k A B h ht => h.tn ht (by have := HBB.out; have := HI0.out.2; omega)
  case hXg => exact fun A B h ht => ⟨ht.blk h.1, ht.after h.2 (by have := HBB.out; have := HI0.out.2; omega)⟩
  case hstop =>
    intro A hA hd
    have HA : Hid (GoX w b A) := hA
    have HD : Hid _ := hd
    clear hA hd
    go_wp2_with fail
    refine ⟨by simp, .inl ⟨_, _, rfl, run_takeDeferred HD.out, ?_⟩⟩
    have ht : Tn (b + 5) A (A.putObj Wr_.heap.size (.deferred none)) := Tn.putD _ HD.out (by have := HI0.out.2; omega)
    have q0 := (ht.blk HA.out.1).cell 0
    simp at q0
    exact ⟨.bool true, by simp [results, Try.results13, go_sem, q0], rfl, ht.after HA.out.2 (by have := HBB.out; omega)⟩
  case hdone =>
    intro A hA hd
    have HA : Hid (GoI w b (.slice av n cv) turned leave (ordL turned rs) rs.length A) := hA
    have HD : Hid _ := hd
    clear hA hd
    refine (‹∀ (a : Act) (w : World), Code.wp Try.prog _ _ a w → _› _ _ ?_)
    have q0 := HA.out.bi.cell 0
    have q1 := HA.out.bw.cell 0
    have q2 := HA.out.br.cell 0
    have f2 := HA.out.br.free 0
    simp at q0 q1 q2
    rw [HN.out] at q0
    go_wp2_with fail
    obtain ⟨A2, hA2⟩ : ∃ A2, A.setCell ⟨b + 3, 0, none⟩ (.bool true) = A2 := ⟨_, rfl⟩
    have hg2 : A.grownBy A2 (some (b + 3)) := by rw [← hA2]; exact grown_setCell _ _ _ _
    have hb2 : Blk A2 (b + 3) 4 #[.bool true] := by rw [← hA2]; exact HA.out.br.store 0 _
    have hD2 : A2.heap[Wr_.heap.size]? = some (.deferred (some [])) := (hg2.block _ (Array.getElem?_eq_some_iff.1 HD.out).1 (by have := HI0.out.2; simp; omega)).trans HD.out
    rw [hA2]
    clear hA2
    refine ⟨by simp, .inl ⟨_, _, rfl, run_takeDeferred hD2, ?_⟩⟩
    have ht : Tn (b + 5) A2 (A2.putObj Wr_.heap.size (.deferred none)) := Tn.putD _ hD2 (by have := HI0.out.2; omega)
    have q4 := (ht.blk hb2).cell 0
    simp at q4
    exact ⟨.bool true, by simp [results, Try.results13, go_sem, q4], rfl, ht.after (grown_new HA.out.grown hg2 (fun i hi => by simp at hi; have := HBB.out; omega)) (by have := HBB.out; omega)⟩
  case hround =>
    rintro l k W0 W1 xs hk hI hlt htn ⟨hkr, x, y, rfl, ox, oy⟩ ⟨rc, hrc⟩
    simp only [List.zip_toArray, List.zip_cons_cons, List.zip_nil_right, List.foldl_toArray', List.size_toArray, List.foldl_cons, List.foldl_nil, List.setIfInBounds_toArray, List.set_cons_zero, List.set_cons_succ]
    obtain ⟨r, hr⟩ : ∃ r, rs[k] = r := ⟨_, rfl⟩
    rw [hr] at ox oy
    obtain ⟨ax, cx, ex⟩ := ox.seg.shape
    obtain ⟨ay, cy, ey⟩ := oy.seg.shape
    obtain ⟨mx, hmx⟩ : ∃ m, r.1.length = m := ⟨_, rfl⟩
    obtain ⟨my, hmy⟩ : ∃ m, r.2.length = m := ⟨_, rfl⟩
    rw [hmx] at ex
    rw [hmy] at ey
    subst ex ey
    have HO : Hid (Disk.Own W1 W0.heap.size (.slice ax mx cx) r.1 ∧ Disk.Own W1 W0.heap.size (.slice ay my cy) r.2 ∧ r.1.length = mx ∧ r.2.length = my) := ⟨ox, oy, hmx, hmy⟩
    have HRC : Hid (W1.heap[Wr_.heap.size + 1]? = some (.loop rc)) := hrc
    have HI1 : Hid (GoI w b (.slice av n cv) turned leave (ordL turned rs) k W1 ∧ W0.heap.size ≤ W1.heap.size ∧ Wr_.heap.size + 1 < W0.heap.size) := ⟨hI.tn htn (by have := HBB.out; have := HI0.out.2; omega), htn.size, hlt⟩
    obtain ⟨j, hj⟩ : ∃ j, (if turned = true then rs.length - 1 - k else k) = j := ⟨_, rfl⟩
    obtain ⟨hjl, hjr⟩ := ord_at turned rs k j hk hj.symm
    rw [hr] at hjr
    obtain ⟨gb, off, xw, yw, eav, wc0, wc1, ws0, ws1⟩ := rws_at HV.out j hjl
    subst eav
    rw [hjr] at ws0 ws1
    have HJ : Hid ((if turned = true then rs.length - 1 - k else k) = j ∧ j < n ∧ k < n) := by
      refine ⟨hj, ?_, by rw [← HN.out]; exact hk⟩
      have : (ordL turned rs).length = rs.length := by unfold ordL; split <;> simp
      rw [this, HN.out] at hjl
      exact hjl
    have hjn : j < n := HJ.out.2.1
    have hkn : k < n := HJ.out.2.2
    have i0 : (0 : Int) ≤ (j : Int) := by omega
    have i1 : (j : Int) < (n : Int) := by omega
    have i2 : ¬ (j : Int) < 0 := by omega
    have i3 : ((n : Int) ≤ (j : Int)) = False := by simp; omega
    have i4 : decide ((n : Int) ≤ (j : Int)) = false := by simp; omega
    clear hrc hI hlt htn ox oy hmx hmy hr hj hjr hkr hk
    refine wpIn_seq ?_
    refine region_round (by rintro ⟨_, _, h⟩; exact h) rfl ?_
    go_wp2_with fail
    refine region_round (by rintro ⟨_, _, h⟩; exact h) rfl ?_
    go_wp2_with fail
    refine ⟨grown_refl _ _, fun rec2 => ?_⟩
    obtain ⟨W2, hW2⟩ : ∃ W2, W1.putObj (Wr_.heap.size + 1) (.loop rec2) = W2 := ⟨_, rfl⟩
    have HT2 : Hid (Tn (b + 5) W1 W2 ∧ W2.heap.size = W1.heap.size ∧ ∀ i, i ≠ Wr_.heap.size + 1 → W2.heap[i]? = W1.heap[i]?) := by
      rw [← hW2]
      exact ⟨Tn.put _ HRC.out (by have := HI0.out.2; omega), by simp [World.putObj], fun i hi => World.putObj_heap_other hi⟩
    rw [hW2]
    clear hW2
    have HI2 : Hid (GoI w b (.slice (some ⟨gb, off, none⟩) n cv) turned leave (ordL turned rs) k W2 ∧ Disk.Own W2 W0.heap.size (.slice ax mx cx) r.1 ∧ Disk.Own W2 W0.heap.size (.slice ay my cy) r.2) := ⟨HI1.out.1.tn HT2.out.1 (by have := HBB.out; omega), HT2.out.1.own HO.out.1, HT2.out.1.own HO.out.2.1⟩
    obtain ⟨X, hX⟩ : ∃ X, (⟨r.1.toArray⟩ : ByteArray) = X := ⟨_, rfl⟩
    obtain ⟨Y, hY⟩ : ∃ X, (⟨r.2.toArray⟩ : ByteArray) = X := ⟨_, rfl⟩
    have HM : Hid (∀ y : World, W2.grownBy y none → (y.cell? ⟨b, 0, none⟩ = some (.slice (some ⟨gb, off, none⟩) n cv) ∧ y.cell? ⟨gb, off + j * 2, none⟩ = some xw ∧ y.cell? ⟨gb, off + j * 2 + 1, none⟩ = some yw) ∧ (convert 30 9 (.slice ax mx cx)).run Try.prog y = .ok (.string X) y ∧ (convert 30 9 (.slice ay my cy)).run Try.prog y = .ok (.string Y) y ∧ (convert 30 9 xw).run Try.prog y = .ok (.string X) y ∧ (convert 30 9 yw).run Try.prog y = .ok (.string Y) y) := by
      intro y hy
      have g0 := grown_trans HI2.out.1.grown hy
      refine ⟨⟨(HI2.out.1.bw.grown hy (by simp)).cell 0, g0.cell wc0 (by simp), g0.cell wc1 (by simp)⟩, ?_, ?_, ?_, ?_⟩
      · rw [← hX]; exact seg_str (HI2.out.2.1.seg.grown hy)
      · rw [← hY]; exact seg_str (HI2.out.2.2.seg.grown hy)
      · rw [← hX]; exact seg_str (ws0.grown g0)
      · rw [← hY]; exact seg_str (ws1.grown g0)
    clear hX hY wc0 wc1 ws0 ws1 hfn hap
    have d0 := HI2.out.1.bi.cell 0
    simp at d0
    refine wpIn_block (wpIn_seq ?_)
    refine region_round (by rintro ⟨_, _, h⟩; exact h) rfl ?_
    go_wp2_with fail
    cases turned with
    | false =>
      have hjk : j = k := by have := HJ.out.1; simpa using this.symm
      subst hjk
      have d1 := HI2.out.1.bt.cell 0
      simp at d1
      refine wpIn_seq ?_
      refine wpIn_seq ?_
      refine region_round (by rintro ⟨_, _, h⟩; exact h) rfl ?_
      go_wp2_with fail
      refine wpIn_cond_false rfl (wpIn_skip ?_)
      show Code.wpIn _ _ _ _ _ _ _
      refine wpIn_seq ?_
      refine wpIn_seq ?_
      refine region_round_hold 1000 (fun y => W2.grownBy y none) (by rintro ⟨_, _, h⟩; exact h) rfl (by kernel_rfl) ?_
      have G0 : Hid (W2.grownBy W2.drew none) := grown_drew _ _
      generalize W2.drew = wd at G0 ⊢
      refine wpHold_take (i := 0) (v := _) (G0.out) rfl rfl (by kernel_rfl) (by kernel_rfl) (by kernel_rfl) (by kernel_rfl) (by kernel_rfl) (fun _ _ _ h => h) (by rfl) (fun wk hk => by obtain ⟨⟨z0, z1, z2⟩, z3, z4, z5, z6⟩ := HM.out wk hk; go_simp; try rfl) ?_
      try simp only [Act.put, List.setIfInBounds_toArray, List.set_cons_zero, List.set_cons_succ]
      refine wpHold_one (i := 1) rfl (by kernel_rfl) (by rfl) (fun K hK => ?_)
      go_wp2_with fail
      refine hK.out _ _ (fun _ => G0.out) ?_
      clear hK K
      try simp only [Act.put, List.setIfInBounds_toArray, List.set_cons_zero, List.set_cons_succ]
      refine wpHold_take (i := 2) (v := _) (G0.out) rfl rfl (by kernel_rfl) (by kernel_rfl) (by kernel_rfl) (by kernel_rfl) (by kernel_rfl) (fun _ _ _ h => h) (by rfl) (fun wk hk => by obtain ⟨⟨z0, z1, z2⟩, z3, z4, z5, z6⟩ := HM.out wk hk; go_simp; try rfl) ?_
      try simp only [Act.put, List.setIfInBounds_toArray, List.set_cons_zero, List.set_cons_succ]
      refine wpHold_take (i := 3) (v := _) (G0.out) rfl rfl (by kernel_rfl) (by kernel_rfl) (by kernel_rfl) (by kernel_rfl) (by kernel_rfl) (fun _ _ _ h => h) (by rfl) (fun wk hk => by obtain ⟨⟨z0, z1, z2⟩, z3, z4, z5, z6⟩ := HM.out wk hk; go_simp; try rfl) ?_
      try simp only [Act.put, List.setIfInBounds_toArray, List.set_cons_zero, List.set_cons_succ]
      refine wpHold_take (i := 4) (v := _) (G0.out) rfl rfl (by kernel_rfl) (by kernel_rfl) (by kernel_rfl) (by kernel_rfl) (by kernel_rfl) (fun _ _ _ h => h) (by rfl) (fun wk hk => by obtain ⟨⟨z0, z1, z2⟩, z3, z4, z5, z6⟩ := HM.out wk hk; go_simp; try rfl) ?_
      try simp only [Act.put, List.setIfInBounds_toArray, List.set_cons_zero, List.set_cons_succ]
      refine wpHold_take (i := 5) (v := _) (G0.out) rfl rfl (by kernel_rfl) (by kernel_rfl) (by kernel_rfl) (by kernel_rfl) (by kernel_rfl) (fun _ _ _ h => h) (by rfl) (fun wk hk => by obtain ⟨⟨z0, z1, z2⟩, z3, z4, z5, z6⟩ := HM.out wk hk; go_simp; try rfl) ?_
      try simp only [Act.put, List.setIfInBounds_toArray, List.set_cons_zero, List.set_cons_succ]
      refine wpHold_one (i := 6) rfl (by kernel_rfl) (by rfl) (fun K hK => ?_)
      go_wp2_with fail
      refine hK.out _ _ (fun _ => G0.out) ?_
      clear hK K
      try simp only [Act.put, List.setIfInBounds_toArray, List.set_cons_zero, List.set_cons_succ]
      refine wpHold_take (i := 7) (v := _) (G0.out) rfl rfl (by kernel_rfl) (by kernel_rfl) (by kernel_rfl) (by kernel_rfl) (by kernel_rfl) (fun _ _ _ h => h) (by rfl) (fun wk hk => by obtain ⟨⟨z0, z1, z2⟩, z3, z4, z5, z6⟩ := HM.out wk hk; go_simp; try rfl) ?_
      try simp only [Act.put, List.setIfInBounds_toArray, List.set_cons_zero, List.set_cons_succ]
      refine wpHold_take (i := 8) (v := _) (G0.out) rfl rfl (by kernel_rfl) (by kernel_rfl) (by kernel_rfl) (by kernel_rfl) (by kernel_rfl) (fun _ _ _ h => h) (by rfl) (fun wk hk => by obtain ⟨⟨z0, z1, z2⟩, z3, z4, z5, z6⟩ := HM.out wk hk; go_simp; try rfl) ?_
      try simp only [Act.put, List.setIfInBounds_toArray, List.set_cons_zero, List.set_cons_succ]
      refine wpHold_take (i := 9) (v := _) (G0.out) rfl rfl (by kernel_rfl) (by kernel_rfl) (by kernel_rfl) (by kernel_rfl) (by kernel_rfl) (fun _ _ _ h => h) (by rfl) (fun wk hk => by obtain ⟨⟨z0, z1, z2⟩, z3, z4, z5, z6⟩ := HM.out wk hk; go_simp; try rfl) ?_
      try simp only [Act.put, List.setIfInBounds_toArray, List.set_cons_zero, List.set_cons_succ]
      refine wpHold_take (i := 10) (v := _) (G0.out) rfl rfl (by kernel_rfl) (by kernel_rfl) (by kernel_rfl) (by kernel_rfl) (by kernel_rfl) (fun _ _ _ h => h) (by rfl) (fun wk hk => by obtain ⟨⟨z0, z1, z2⟩, z3, z4, z5, z6⟩ := HM.out wk hk; go_simp; try rfl) ?_
      try simp only [Act.put, List.setIfInBounds_toArray, List.set_cons_zero, List.set_cons_succ]
      refine wpHold_take (i := 11) (v := _) (G0.out) rfl rfl (by kernel_rfl) (by kernel_rfl) (by kernel_rfl) (by kernel_rfl) (by kernel_rfl) (fun _ _ _ h => h) (by rfl) (fun wk hk => by obtain ⟨⟨z0, z1, z2⟩, z3, z4, z5, z6⟩ := HM.out wk hk; go_simp; try rfl) ?_
      try simp only [Act.put, List.setIfInBounds_toArray, List.set_cons_zero, List.set_cons_succ]
      refine wpHold_take (i := 12) (v := _) (G0.out) rfl rfl (by kernel_rfl) (by kernel_rfl) (by kernel_rfl) (by kernel_rfl) (by kernel_rfl) (fun _ _ _ h => h) (by rfl) (fun wk hk => by obtain ⟨⟨z0, z1, z2⟩, z3, z4, z5, z6⟩ := HM.out wk hk; go_simp; try rfl) ?_
      try simp only [Act.put, List.setIfInBounds_toArray, List.set_cons_zero, List.set_cons_succ]
      refine wpHold_take (i := 13) (v := _) (G0.out) rfl rfl (by kernel_rfl) (by kernel_rfl) (by kernel_rfl) (by kernel_rfl) (by kernel_rfl) (fun _ _ _ h => h) (by rfl) (fun wk hk => by obtain ⟨⟨z0, z1, z2⟩, z3, z4, z5, z6⟩ := HM.out wk hk; go_simp; try rfl) ?_
      try simp only [Act.put, List.setIfInBounds_toArray, List.set_cons_zero, List.set_cons_succ]
      refine wpHold_take (i := 14) (v := _) (G0.out) rfl rfl (by kernel_rfl) (by kernel_rfl) (by kernel_rfl) (by kernel_rfl) (by kernel_rfl) (fun _ _ _ h => h) (by rfl) (fun wk hk => by obtain ⟨⟨z0, z1, z2⟩, z3, z4, z5, z6⟩ := HM.out wk hk; go_simp; try rfl) ?_
      try simp only [Act.put, List.setIfInBounds_toArray, List.set_cons_zero, List.set_cons_succ]
      refine wpHold_take (i := 15) (v := _) (G0.out) rfl rfl (by kernel_rfl) (by kernel_rfl) (by kernel_rfl) (by kernel_rfl) (by kernel_rfl) (fun _ _ _ h => h) (by rfl) (fun wk hk => by obtain ⟨⟨z0, z1, z2⟩, z3, z4, z5, z6⟩ := HM.out wk hk; go_simp; try rfl) ?_
      try simp only [Act.put, List.setIfInBounds_toArray, List.set_cons_zero, List.set_cons_succ]
      refine wpHold_take (i := 16) (v := _) (G0.out) rfl rfl (by kernel_rfl) (by kernel_rfl) (by kernel_rfl) (by kernel_rfl) (by kernel_rfl) (fun _ _ _ h => h) (by rfl) (fun wk hk => by obtain ⟨⟨z0, z1, z2⟩, z3, z4, z5, z6⟩ := HM.out wk hk; go_simp; try rfl) ?_
      try simp only [Act.put, List.setIfInBounds_toArray, List.set_cons_zero, List.set_cons_succ]
      refine wpHold_one (i := 17) rfl (by kernel_rfl) (by rfl) (fun K hK => ?_)
      go_wp2_with fail
      refine hK.out _ _ (fun _ => G0.out) ?_
      clear hK K
      try simp only [Act.put, List.setIfInBounds_toArray, List.set_cons_zero, List.set_cons_succ]
      refine wpHold_take (i := 18) (v := _) (G0.out) rfl rfl (by kernel_rfl) (by kernel_rfl) (by kernel_rfl) (by kernel_rfl) (by kernel_rfl) (fun _ _ _ h => h) (by rfl) (fun wk hk => by obtain ⟨⟨z0, z1, z2⟩, z3, z4, z5, z6⟩ := HM.out wk hk; go_simp; try rfl) ?_
      try simp only [Act.put, List.setIfInBounds_toArray, List.set_cons_zero, List.set_cons_succ]
      refine wpHold_take (i := 19) (v := _) (G0.out) rfl rfl (by kernel_rfl) (by kernel_rfl) (by kernel_rfl) (by kernel_rfl) (by kernel_rfl) (fun _ _ _ h => h) (by rfl) (fun wk hk => by obtain ⟨⟨z0, z1, z2⟩, z3, z4, z5, z6⟩ := HM.out wk hk; go_simp; try rfl) ?_
      try simp only [Act.put, List.setIfInBounds_toArray, List.set_cons_zero, List.set_cons_succ]
      refine wpHold_take (i := 20) (v := _) (G0.out) rfl rfl (by kernel_rfl) (by kernel_rfl) (by kernel_rfl) (by kernel_rfl) (by kernel_rfl) (fun _ _ _ h => h) (by rfl) (fun wk hk => by obtain ⟨⟨z0, z1, z2⟩, z3, z4, z5, z6⟩ := HM.out wk hk; go_simp; try rfl) ?_
      try simp only [Act.put, List.setIfInBounds_toArray, List.set_cons_zero, List.set_cons_succ]
      refine wpHold_take (i := 21) (v := _) (G0.out) rfl rfl (by kernel_rfl) (by kernel_rfl) (by kernel_rfl) (by kernel_rfl) (by kernel_rfl) (fun _ _ _ h => h) (by rfl) (fun wk hk => by obtain ⟨⟨z0, z1, z2⟩, z3, z4, z5, z6⟩ := HM.out wk hk; go_simp; try rfl) ?_
      try simp only [Act.put, List.setIfInBounds_toArray, List.set_cons_zero, List.set_cons_succ]
      refine wpHold_take (i := 22) (v := _) (G0.out) rfl rfl (by kernel_rfl) (by kernel_rfl) (by kernel_rfl) (by kernel_rfl) (by kernel_rfl) (fun _ _ _ h => h) (by rfl) (fun wk hk => by obtain ⟨⟨z0, z1, z2⟩, z3, z4, z5, z6⟩ := HM.out wk hk; go_simp; try rfl) ?_
      try simp only [Act.put, List.setIfInBounds_toArray, List.set_cons_zero, List.set_cons_succ]
      refine wpHold_take (i := 23) (v := _) (G0.out) rfl rfl (by kernel_rfl) (by kernel_rfl) (by kernel_rfl) (by kernel_rfl) (by kernel_rfl) (fun _ _ _ h => h) (by rfl) (fun wk hk => by obtain ⟨⟨z0, z1, z2⟩, z3, z4, z5, z6⟩ := HM.out wk hk; go_simp; try rfl) ?_
      try simp only [Act.put, List.setIfInBounds_toArray, List.set_cons_zero, List.set_cons_succ]
      refine wpHold_take (i := 24) (v := _) (G0.out) rfl rfl (by kernel_rfl) (by kernel_rfl) (by kernel_rfl) (by kernel_rfl) (by kernel_rfl) (fun _ _ _ h => h) (by rfl) (fun wk hk => by obtain ⟨⟨z0, z1, z2⟩, z3, z4, z5, z6⟩ := HM.out wk hk; go_simp; try rfl) ?_
      try simp only [Act.put, List.setIfInBounds_toArray, List.set_cons_zero, List.set_cons_succ]
      refine wpHold_take (i := 25) (v := _) (G0.out) rfl rfl (by kernel_rfl) (by kernel_rfl) (by kernel_rfl) (by kernel_rfl) (by kernel_rfl) (fun _ _ _ h => h) (by rfl) (fun wk hk => by obtain ⟨⟨z0, z1, z2⟩, z3, z4, z5, z6⟩ := HM.out wk hk; go_simp; try rfl) ?_
      try simp only [Act.put, List.setIfInBounds_toArray, List.set_cons_zero, List.set_cons_succ]
      refine wpHold_take (i := 26) (v := _) (G0.out) rfl rfl (by kernel_rfl) (by kernel_rfl) (by kernel_rfl) (by kernel_rfl) (by kernel_rfl) (fun _ _ _ h => h) (by rfl) (fun wk hk => by obtain ⟨⟨z0, z1, z2⟩, z3, z4, z5, z6⟩ := HM.out wk hk; go_simp; try rfl) ?_
      try simp only [Act.put, List.setIfInBounds_toArray, List.set_cons_zero, List.set_cons_succ]
      refine wpHold_take (i := 27) (v := _) (G0.out) rfl rfl (by kernel_rfl) (by kernel_rfl) (by kernel_rfl) (by kernel_rfl) (by kernel_rfl) (fun _ _ _ h => h) (by rfl) (fun wk hk => by obtain ⟨⟨z0, z1, z2⟩, z3, z4, z5, z6⟩ := HM.out wk hk; go_simp; try rfl) ?_
      try simp only [Act.put, List.setIfInBounds_toArray, List.set_cons_zero, List.set_cons_succ]
      refine wpHold_one (i := 28) rfl (by kernel_rfl) (by rfl) (fun K hK => ?_)
      go_wp2_with fail
      refine hK.out _ _ (fun _ => G0.out) ?_
      clear hK K
      try simp only [Act.put, List.setIfInBounds_toArray, List.set_cons_zero, List.set_cons_succ]
      refine wpHold_take (i := 29) (v := _) (G0.out) rfl rfl (by kernel_rfl) (by kernel_rfl) (by kernel_rfl) (by kernel_rfl) (by kernel_rfl) (fun _ _ _ h => h) (by rfl) (fun wk hk => by obtain ⟨⟨z0, z1, z2⟩, z3, z4, z5, z6⟩ := HM.out wk hk; go_simp; try rfl) ?_
      try simp only [Act.put, List.setIfInBounds_toArray, List.set_cons_zero, List.set_cons_succ]
      refine wpHold_done (by kernel_rfl) ?_
      show Code.wpIn _ _ _ _ _ _ _
      refine wpIn_cond_false rfl (wpIn_skip ?_)
      show Code.wpIn _ _ _ _ _ _ _
      refine wpIn_seq ?_
      refine region_round (by rintro ⟨_, _, h⟩; exact h) rfl ?_
      go_wp2_with fail
      obtain ⟨W3, hW3, H3⟩ := al wd #[.slice ax mx cx, .slice ay my cy] 30
      rw [hW3]
      clear hW3
      have G3 : Hid (W2.grownBy W3 none) := grown_trans G0.out H3.out.2.1
      have hox := HI2.out.2.1.grown G3.out
      have hoy := HI2.out.2.2.grown G3.out
      have HOX : Hid (OwnX W3 (Handed #[.slice ax mx cx, .slice ay my cy]) (.slice ax mx cx) mx ∧ OwnX W3 (Handed #[.slice ax mx cx, .slice ay my cy]) (.slice ay my cy) my) := by
        have h1 := ownx_of (G := Handed #[.slice ax mx cx, .slice ay my cy]) hox (fun g hg => ⟨_, by simp, hg⟩)
        have h2 := ownx_of (G := Handed #[.slice ax mx cx, .slice ay my cy]) hoy (fun g hg => ⟨_, by simp, hg⟩)
        rw [HO.out.2.2.1] at h1
        rw [HO.out.2.2.2] at h2
        exact ⟨h1, h2⟩
      have HHD : Hid (∀ i, Handed #[.slice ax mx cx, .slice ay my cy] i → W0.heap.size ≤ i) := by
        rintro i ⟨u, hu, hbk⟩
        simp at hu
        rcases hu with rfl | rfl
        · exact (HO.out.1.lt i hbk).1
        · exact (HO.out.2.1.lt i hbk).1
      clear hox hoy
      refine (spoil33 wd.heap.size 2 (Handed #[.slice ax mx cx, .slice ay my cy]) [.slice ax mx cx, .slice ay my cy] [mx, my] rfl rfl (by decide) W3 H3.out.1 ?_).mono ?_
      · intro q h1 h2
        rcases q with _ | _ | q
        · exact HOX.out.1
        · exact HOX.out.2
        · simp at h1; omega
      rintro e W4 ⟨rfl, hwr4⟩
      have hw0 : w.heap.size ≤ W0.heap.size := by have := HI1.out.2.2; have := HI0.out.2; have := HBB.out; omega
      have H4 : Hid (GoI w b (.slice (some ⟨gb, off, none⟩) n cv) false leave (ordL false rs) j W4 ∧ Wr (Handed #[.slice ax mx cx, .slice ay my cy]) W3 W4) := by
        have h2 := HI2.out.1
        have gw := grown_trans h2.grown G3.out
        have gw4 := hwr4.after gw (fun i hi => by have := HHD.out i hi; omega)
        exact ⟨⟨hwr4.blk (h2.bw.grown G3.out (by simp)) (by decide), hwr4.blk (h2.bt.grown G3.out (by simp)) (by decide), hwr4.blk (h2.bl.grown G3.out (by simp)) (by decide), hwr4.blk (h2.br.grown G3.out (by simp)) (by decide), hwr4.blk (h2.bi.grown G3.out (by simp)) (by decide), HV.out.grown gw4, gw4⟩, hwr4⟩
      clear hwr4
      go_wp2_with fail
      refine wpIn_seq ?_
      have q0 := H4.out.1.bi.cell 0
      have f0 := H4.out.1.bi.free 0
      simp at q0
      refine region_round (by rintro ⟨_, _, h⟩; exact h) rfl ?_
      go_wp2_with fail
      obtain ⟨W5, hW5⟩ : ∃ W5, W4.setCell ⟨b + 4, 0, none⟩ (.int .i64 ((j : Int) + 1)) = W5 := ⟨_, rfl⟩
      have H5 : Hid (GoI w b (.slice (some ⟨gb, off, none⟩) n cv) false leave (ordL false rs) (j + 1) W5 ∧ W4.grownBy W5 (some (b + 4))) := by
        have h4 := H4.out.1
        have g5 : W4.grownBy W5 (some (b + 4)) := by rw [← hW5]; exact grown_setCell _ _ _ _
        have gw5 := grown_new h4.grown g5 (fun i hi => by simp at hi; have := HBB.out; omega)
        refine ⟨⟨h4.bw.grown g5 (by simp), h4.bt.grown g5 (by simp), h4.bl.grown g5 (by simp), h4.br.grown g5 (by simp), ?_, HV.out.grown gw5, gw5⟩, g5⟩
        rw [← hW5]
        exact h4.bi.store 0 _
      rw [hW5]
      clear hW5 q0 f0
      have keep : ∀ W', W5.grownBy W' (some (b + 3)) → (W'.heap[Wr_.heap.size]? = W2.heap[Wr_.heap.size]? ∧ W'.heap[Wr_.heap.size + 1]? = W2.heap[Wr_.heap.size + 1]?) ∧ KeptX Wr_.heap.size (Wr_.heap.size + 2) (fun i => b ≤ i ∧ i < Wr_.heap.size) #[.slice ax mx cx, .slice ay my cy] W1 W' := by
        intro W' hg'
        have z0 := HI0.out.2
        have z1 := HI1.out.2
        have z2 := HT2.out
        have z3 := G3.out.size
        have z4 := H4.out.2.size
        have z5 := H5.out.2.size
        have z6 := hg'.size
        have hnh : ∀ i, i < W0.heap.size → ¬ Handed #[.slice ax mx cx, .slice ay my cy] i := fun i hi hh => by have := HHD.out i hh; omega
        have hsame : ∀ i, i < W2.heap.size → ¬ (b ≤ i ∧ i < Wr_.heap.size) → ¬ Handed #[.slice ax mx cx, .slice ay my cy] i → W'.heap[i]? = W2.heap[i]? := fun i hi hf hh => by
          rw [hg'.block i (by omega) (by simp; omega), H5.out.2.block i (by omega) (by simp; omega), H4.out.2.low i hh, G3.out.block i hi (by simp)]
        refine ⟨⟨hsame _ (by omega) (by omega) (hnh _ (by omega)), hsame _ (by omega) (by omega) (hnh _ (by omega))⟩, by omega, fun i hi hc hf hh => ?_⟩
        rw [hsame i (by omega) hf hh]
        exact z2.2.2 i (by omega)
      have HKP : Hid _ := keep
      clear keep
      have e0 := H5.out.1.bi.cell 0
      have e1 := H5.out.1.bl.cell 0
      have e2 := H5.out.1.br.cell 0
      have e3 := H5.out.1.br.free 0
      simp at e0 e1 e2
      refine wpIn_seq ?_
      refine region_round (by rintro ⟨_, _, h⟩; exact h) rfl ?_
      go_wp2_with fail
      by_cases hlv : (j : Int) + 1 = leave
      · have hd : ((j : Int) + 1 == leave) = true := by simp [hlv]
        refine wpIn_cond_true (by simp [Act.eval, hd]) ?_
        refine wpIn_seq ?_
        refine region_round (by rintro ⟨_, _, h⟩; exact h) rfl ?_
        go_wp2_with fail
        refine wpIn_ret ?_
        have g6 := grown_setCell W5 (b + 3) 0 (.bool true)
        have kk := HKP.out _ g6
        refine ⟨kk.1, kk.2, H5.out.1.br.store 0 _, grown_new H5.out.1.grown g6 (fun i hi => by simp at hi; have := HBB.out; omega)⟩
      · have hd : ((j : Int) + 1 == leave) = false := by simp [hlv]
        refine wpIn_cond_false (by simp [Act.eval, hd]) (wpIn_skip ?_)
        have kk := HKP.out W5 (grown_refl _ _)
        exact ⟨kk.1, kk.2, H5.out.1⟩
    | true =>
      have hjk : (n : Int) - 1 - (k : Int) = (j : Int) := by have := HJ.out.1; simp at this; have := HN.out; omega
      have d1 := HI2.out.1.bt.cell 0
      simp at d1
      refine wpIn_seq ?_
      refine wpIn_seq ?_
      refine region_round (by rintro ⟨_, _, h⟩; exact h) rfl ?_
      go_wp2_with fail
      refine wpIn_cond_true rfl ?_
      have d2 := HI2.out.1.bw.cell 0
      have d3 := HI2.out.1.bi.cell 0
      simp at d2 d3
      refine region_round (by rintro ⟨_, _, h⟩; exact h) rfl ?_
      go_wp2_with fail
      show Code.wpIn _ _ _ _ _ _ _
      refine wpIn_seq ?_
      refine wpIn_seq ?_
      refine region_round_hold 1000 (fun y => W2.grownBy y none) (by rintro ⟨_, _, h⟩; exact h) rfl (by kernel_rfl) ?_
      have G0 : Hid (W2.grownBy W2.drew none) := grown_drew _ _
      generalize W2.drew = wd at G0 ⊢
      refine wpHold_take (i := 0) (v := _) (G0.out) rfl rfl (by kernel_rfl) (by kernel_rfl) (by kernel_rfl) (by kernel_rfl) (by kernel_rfl) (fun _ _ _ h => h) (by rfl) (fun wk hk => by obtain ⟨⟨z0, z1, z2⟩, z3, z4, z5, z6⟩ := HM.out wk hk; go_simp; try rfl) ?_
      try simp only [Act.put, List.setIfInBounds_toArray, List.set_cons_zero, List.set_cons_succ]
      refine wpHold_one (i := 1) rfl (by kernel_rfl) (by rfl) (fun K hK => ?_)
      go_wp2_with fail
      refine hK.out _ _ (fun _ => G0.out) ?_
      clear hK K
      try simp only [Act.put, List.setIfInBounds_toArray, List.set_cons_zero, List.set_cons_succ]
      refine wpHold_take (i := 2) (v := _) (G0.out) rfl rfl (by kernel_rfl) (by kernel_rfl) (by kernel_rfl) (by kernel_rfl) (by kernel_rfl) (fun _ _ _ h => h) (by rfl) (fun wk hk => by obtain ⟨⟨z0, z1, z2⟩, z3, z4, z5, z6⟩ := HM.out wk hk; go_simp; try rfl) ?_
      try simp only [Act.put, List.setIfInBounds_toArray, List.set_cons_zero, List.set_cons_succ]
      refine wpHold_take (i := 3) (v := _) (G0.out) rfl rfl (by kernel_rfl) (by kernel_rfl) (by kernel_rfl) (by kernel_rfl) (by kernel_rfl) (fun _ _ _ h => h) (by rfl) (fun wk hk => by obtain ⟨⟨z0, z1, z2⟩, z3, z4, z5, z6⟩ := HM.out wk hk; go_simp; try rfl) ?_
      try simp only [Act.put, List.setIfInBounds_toArray, List.set_cons_zero, List.set_cons_succ]
      refine wpHold_take (i := 4) (v := _) (G0.out) rfl rfl (by kernel_rfl) (by kernel_rfl) (by kernel_rfl) (by kernel_rfl) (by kernel_rfl) (fun _ _ _ h => h) (by rfl) (fun wk hk => by obtain ⟨⟨z0, z1, z2⟩, z3, z4, z5, z6⟩ := HM.out wk hk; go_simp; try rfl) ?_
      try simp only [Act.put, List.setIfInBounds_toArray, List.set_cons_zero, List.set_cons_succ]
      refine wpHold_take (i := 5) (v := _) (G0.out) rfl rfl (by kernel_rfl) (by kernel_rfl) (by kernel_rfl) (by kernel_rfl) (by kernel_rfl) (fun _ _ _ h => h) (by rfl) (fun wk hk => by obtain ⟨⟨z0, z1, z2⟩, z3, z4, z5, z6⟩ := HM.out wk hk; go_simp; try rfl) ?_
      try simp only [Act.put, List.setIfInBounds_toArray, List.set_cons_zero, List.set_cons_succ]
      refine wpHold_one (i := 6) rfl (by kernel_rfl) (by rfl) (fun K hK => ?_)
      go_wp2_with fail
      refine hK.out _ _ (fun _ => G0.out) ?_
      clear hK K
      try simp only [Act.put, List.setIfInBounds_toArray, List.set_cons_zero, List.set_cons_succ]
      refine wpHold_take (i := 7) (v := _) (G0.out) rfl rfl (by kernel_rfl) (by kernel_rfl) (by kernel_rfl) (by kernel_rfl) (by kernel_rfl) (fun _ _ _ h => h) (by rfl) (fun wk hk => by obtain ⟨⟨z0, z1, z2⟩, z3, z4, z5, z6⟩ := HM.out wk hk; go_simp; try rfl) ?_
      try simp only [Act.put, List.setIfInBounds_toArray, List.set_cons_zero, List.set_cons_succ]
      refine wpHold_take (i := 8) (v := _) (G0.out) rfl rfl (by kernel_rfl) (by kernel_rfl) (by kernel_rfl) (by kernel_rfl) (by kernel_rfl) (fun _ _ _ h => h) (by rfl) (fun wk hk => by obtain ⟨⟨z0, z1, z2⟩, z3, z4, z5, z6⟩ := HM.out wk hk; go_simp; try rfl) ?_
      try simp only [Act.put, List.setIfInBounds_toArray, List.set_cons_zero, List.set_cons_succ]
      refine wpHold_take (i := 9) (v := _) (G0.out) rfl rfl (by kernel_rfl) (by kernel_rfl) (by kernel_rfl) (by kernel_rfl) (by kernel_rfl) (fun _ _ _ h => h) (by rfl) (fun wk hk => by obtain ⟨⟨z0, z1, z2⟩, z3, z4, z5, z6⟩ := HM.out wk hk; go_simp; try rfl) ?_
      try simp only [Act.put, List.setIfInBounds_toArray, List.set_cons_zero, List.set_cons_succ]
      refine wpHold_take (i := 10) (v := _) (G0.out) rfl rfl (by kernel_rfl) (by kernel_rfl) (by kernel_rfl) (by kernel_rfl) (by kernel_rfl) (fun _ _ _ h => h) (by rfl) (fun wk hk => by obtain ⟨⟨z0, z1, z2⟩, z3, z4, z5, z6⟩ := HM.out wk hk; go_simp; try rfl) ?_
      try simp only [Act.put, List.setIfInBounds_toArray, List.set_cons_zero, List.set_cons_succ]
      refine wpHold_take (i := 11) (v := _) (G0.out) rfl rfl (by kernel_rfl) (by kernel_rfl) (by kernel_rfl) (by kernel_rfl) (by kernel_rfl) (fun _ _ _ h => h) (by rfl) (fun wk hk => by obtain ⟨⟨z0, z1, z2⟩, z3, z4, z5, z6⟩ := HM.out wk hk; go_simp; try rfl) ?_
      try simp only [Act.put, List.setIfInBounds_toArray, List.set_cons_zero, List.set_cons_succ]
      refine wpHold_take (i := 12) (v := _) (G0.out) rfl rfl (by kernel_rfl) (by kernel_rfl) (by kernel_rfl) (by kernel_rfl) (by kernel_rfl) (fun _ _ _ h => h) (by rfl) (fun wk hk => by obtain ⟨⟨z0, z1, z2⟩, z3, z4, z5, z6⟩ := HM.out wk hk; go_simp; try rfl) ?_
      try simp only [Act.put, List.setIfInBounds_toArray, List.set_cons_zero, List.set_cons_succ]
      refine wpHold_take (i := 13) (v := _) (G0.out) rfl rfl (by kernel_rfl) (by kernel_rfl) (by kernel_rfl) (by kernel_rfl) (by kernel_rfl) (fun _ _ _ h => h) (by rfl) (fun wk hk => by obtain ⟨⟨z0, z1, z2⟩, z3, z4, z5, z6⟩ := HM.out wk hk; go_simp; try rfl) ?_
      try simp only [Act.put, List.setIfInBounds_toArray, List.set_cons_zero, List.set_cons_succ]
      refine wpHold_take (i := 14) (v := _) (G0.out) rfl rfl (by kernel_rfl) (by kernel_rfl) (by kernel_rfl) (by kernel_rfl) (by kernel_rfl) (fun _ _ _ h => h) (by rfl) (fun wk hk => by obtain ⟨⟨z0, z1, z2⟩, z3, z4, z5, z6⟩ := HM.out wk hk; go_simp; try rfl) ?_
      try simp only [Act.put, List.setIfInBounds_toArray, List.set_cons_zero, List.set_cons_succ]
      refine wpHold_take (i := 15) (v := _) (G0.out) rfl rfl (by kernel_rfl) (by kernel_rfl) (by kernel_rfl) (by kernel_rfl) (by kernel_rfl) (fun _ _ _ h => h) (by rfl) (fun wk hk => by obtain ⟨⟨z0, z1, z2⟩, z3, z4, z5, z6⟩ := HM.out wk hk; go_simp; try rfl) ?_
      try simp only [Act.put, List.setIfInBounds_toArray, List.set_cons_zero, List.set_cons_succ]
      refine wpHold_take (i := 16) (v := _) (G0.out) rfl rfl (by kernel_rfl) (by kernel_rfl) (by kernel_rfl) (by kernel_rfl) (by kernel_rfl) (fun _ _ _ h => h) (by rfl) (fun wk hk => by obtain ⟨⟨z0, z1, z2⟩, z3, z4, z5, z6⟩ := HM.out wk hk; go_simp; try rfl) ?_
      try simp only [Act.put, List.setIfInBounds_toArray, List.set_cons_zero, List.set_cons_succ]
      refine wpHold_one (i := 17) rfl (by kernel_rfl) (by rfl) (fun K hK => ?_)
      go_wp2_with fail
      refine hK.out _ _ (fun _ => G0.out) ?_
      clear hK K
      try simp only [Act.put, List.setIfInBounds_toArray, List.set_cons_zero, List.set_cons_succ]
      refine wpHold_take (i := 18) (v := _) (G0.out) rfl rfl (by kernel_rfl) (by kernel_rfl) (by kernel_rfl) (by kernel_rfl) (by kernel_rfl) (fun _ _ _ h => h) (by rfl) (fun wk hk => by obtain ⟨⟨z0, z1, z2⟩, z3, z4, z5, z6⟩ := HM.out wk hk; go_simp; try rfl) ?_
      try simp only [Act.put, List.setIfInBounds_toArray, List.set_cons_zero, List.set_cons_succ]
      refine wpHold_take (i := 19) (v := _) (G0.out) rfl rfl (by kernel_rfl) (by kernel_rfl) (by kernel_rfl) (by kernel_rfl) (by kernel_rfl) (fun _ _ _ h => h) (by rfl) (fun wk hk => by obtain ⟨⟨z0, z1, z2⟩, z3, z4, z5, z6⟩ := HM.out wk hk; go_simp; try rfl) ?_
      try simp only [Act.put, List.setIfInBounds_toArray, List.set_cons_zero, List.set_cons_succ]
      refine wpHold_take (i := 20) (v := _) (G0.out) rfl rfl (by kernel_rfl) (by kernel_rfl) (by kernel_rfl) (by kernel_rfl) (by kernel_rfl) (fun _ _ _ h => h) (by rfl) (fun wk hk => by obtain ⟨⟨z0, z1, z2⟩, z3, z4, z5, z6⟩ := HM.out wk hk; go_simp; try rfl) ?_
      try simp only [Act.put, List.setIfInBounds_toArray, List.set_cons_zero, List.set_cons_succ]
      refine wpHold_take (i := 21) (v := _) (G0.out) rfl rfl (by kernel_rfl) (by kernel_rfl) (by kernel_rfl) (by kernel_rfl) (by kernel_rfl) (fun _ _ _ h => h) (by rfl) (fun wk hk => by obtain ⟨⟨z0, z1, z2⟩, z3, z4, z5, z6⟩ := HM.out wk hk; go_simp; try rfl) ?_
      try simp only [Act.put, List.setIfInBounds_toArray, List.set_cons_zero, List.set_cons_succ]
      refine wpHold_take (i := 22) (v := _) (G0.out) rfl rfl (by kernel_rfl) (by kernel_rfl) (by kernel_rfl) (by kernel_rfl) (by kernel_rfl) (fun _ _ _ h => h) (by rfl) (fun wk hk => by obtain ⟨⟨z0, z1, z2⟩, z3, z4, z5, z6⟩ := HM.out wk hk; go_simp; try rfl) ?_
      try simp only [Act.put, List.setIfInBounds_toArray, List.set_cons_zero, List.set_cons_succ]
      refine wpHold_take (i := 23) (v := _) (G0.out) rfl rfl (by kernel_rfl) (by kernel_rfl) (by kernel_rfl) (by kernel_rfl) (by kernel_rfl) (fun _ _ _ h => h) (by rfl) (fun wk hk => by obtain ⟨⟨z0, z1, z2⟩, z3, z4, z5, z6⟩ := HM.out wk hk; go_simp; try rfl) ?_
      try simp only [Act.put, List.setIfInBounds_toArray, List.set_cons_zero, List.set_cons_succ]
      refine wpHold_take (i := 24) (v := _) (G0.out) rfl rfl (by kernel_rfl) (by kernel_rfl) (by kernel_rfl) (by kernel_rfl) (by kernel_rfl) (fun _ _ _ h => h) (by rfl) (fun wk hk => by obtain ⟨⟨z0, z1, z2⟩, z3, z4, z5, z6⟩ := HM.out wk hk; go_simp; try rfl) ?_
      try simp only [Act.put, List.setIfInBounds_toArray, List.set_cons_zero, List.set_cons_succ]
      refine wpHold_take (i := 25) (v := _) (G0.out) rfl rfl (by kernel_rfl) (by kernel_rfl) (by kernel_rfl) (by kernel_rfl) (by kernel_rfl) (fun _ _ _ h => h) (by rfl) (fun wk hk => by obtain ⟨⟨z0, z1, z2⟩, z3, z4, z5, z6⟩ := HM.out wk hk; go_simp; try rfl) ?_
      try simp only [Act.put, List.setIfInBounds_toArray, List.set_cons_zero, List.set_cons_succ]
      refine wpHold_take (i := 26) (v := _) (G0.out) rfl rfl (by kernel_rfl) (by kernel_rfl) (by kernel_rfl) (by kernel_rfl) (by kernel_rfl) (fun _ _ _ h => h) (by rfl) (fun wk hk => by obtain ⟨⟨z0, z1, z2⟩, z3, z4, z5, z6⟩ := HM.out wk hk; go_simp; try rfl) ?_
      try simp only [Act.put, List.setIfInBounds_toArray, List.set_cons_zero, List.set_cons_succ]
      refine wpHold_take (i := 27) (v := _) (G0.out) rfl rfl (by kernel_rfl) (by kernel_rfl) (by kernel_rfl) (by kernel_rfl) (by kernel_rfl) (fun _ _ _ h => h) (by rfl) (fun wk hk => by obtain ⟨⟨z0, z1, z2⟩, z3, z4, z5, z6⟩ := HM.out wk hk; go_simp; try rfl) ?_
      try simp only [Act.put, List.setIfInBounds_toArray, List.set_cons_zero, List.set_cons_succ]
      refine wpHold_one (i := 28) rfl (by kernel_rfl) (by rfl) (fun K hK => ?_)
      go_wp2_with fail
      refine hK.out _ _ (fun _ => G0.out) ?_
      clear hK K
      try simp only [Act.put, List.setIfInBounds_toArray, List.set_cons_zero, List.set_cons_succ]
      refine wpHold_take (i := 29) (v := _) (G0.out) rfl rfl (by kernel_rfl) (by kernel_rfl) (by kernel_rfl) (by kernel_rfl) (by kernel_rfl) (fun _ _ _ h => h) (by rfl) (fun wk hk => by obtain ⟨⟨z0, z1, z2⟩, z3, z4, z5, z6⟩ := HM.out wk hk; go_simp; try rfl) ?_
      try simp only [Act.put, List.setIfInBounds_toArray, List.set_cons_zero, List.set_cons_succ]
      refine wpHold_done (by kernel_rfl) ?_
      show Code.wpIn _ _ _ _ _ _ _
      refine wpIn_cond_false rfl (wpIn_skip ?_)
      show Code.wpIn _ _ _ _ _ _ _
      refine wpIn_seq ?_
      refine region_round (by rintro ⟨_, _, h⟩; exact h) rfl ?_
      go_wp2_with fail
      obtain ⟨W3, hW3, H3⟩ := al wd #[.slice ax mx cx, .slice ay my cy] 30
      rw [hW3]
      clear hW3
      have G3 : Hid (W2.grownBy W3 none) := grown_trans G0.out H3.out.2.1
      have hox := HI2.out.2.1.grown G3.out
      have hoy := HI2.out.2.2.grown G3.out
      have HOX : Hid (OwnX W3 (Handed #[.slice ax mx cx, .slice ay my cy]) (.slice ax mx cx) mx ∧ OwnX W3 (Handed #[.slice ax mx cx, .slice ay my cy]) (.slice ay my cy) my) := by
        have h1 := ownx_of (G := Handed #[.slice ax mx cx, .slice ay my cy]) hox (fun g hg => ⟨_, by simp, hg⟩)
        have h2 := ownx_of (G := Handed #[.slice ax mx cx, .slice ay my cy]) hoy (fun g hg => ⟨_, by simp, hg⟩)
        rw [HO.out.2.2.1] at h1
        rw [HO.out.2.2.2] at h2
        exact ⟨h1, h2⟩
      have HHD : Hid (∀ i, Handed #[.slice ax mx cx, .slice ay my cy] i → W0.heap.size ≤ i) := by
        rintro i ⟨u, hu, hbk⟩
        simp at hu
        rcases hu with rfl | rfl
        · exact (HO.out.1.lt i hbk).1
        · exact (HO.out.2.1.lt i hbk).1
      clear hox hoy
      refine (spoil33 wd.heap.size 2 (Handed #[.slice ax mx cx, .slice ay my cy]) [.slice ax mx cx, .slice ay my cy] [mx, my] rfl rfl (by decide) W3 H3.out.1 ?_).mono ?_
      · intro q h1 h2
        rcases q with _ | _ | q
        · exact HOX.out.1
        · exact HOX.out.2
        · simp at h1; omega
      rintro e W4 ⟨rfl, hwr4⟩
      have hw0 : w.heap.size ≤ W0.heap.size := by have := HI1.out.2.2; have := HI0.out.2; have := HBB.out; omega
      have H4 : Hid (GoI w b (.slice (some ⟨gb, off, none⟩) n cv) true leave (ordL true rs) k W4 ∧ Wr (Handed #[.slice ax mx cx, .slice ay my cy]) W3 W4) := by
        have h2 := HI2.out.1
        have gw := grown_trans h2.grown G3.out
        have gw4 := hwr4.after gw (fun i hi => by have := HHD.out i hi; omega)
        exact ⟨⟨hwr4.blk (h2.bw.grown G3.out (by simp)) (by decide), hwr4.blk (h2.bt.grown G3.out (by simp)) (by decide), hwr4.blk (h2.bl.grown G3.out (by simp)) (by decide), hwr4.blk (h2.br.grown G3.out (by simp)) (by decide), hwr4.blk (h2.bi.grown G3.out (by simp)) (by decide), HV.out.grown gw4, gw4⟩, hwr4⟩
      clear hwr4
      go_wp2_with fail
      refine wpIn_seq ?_
      have q0 := H4.out.1.bi.cell 0
      have f0 := H4.out.1.bi.free 0
      simp at q0
      refine region_round (by rintro ⟨_, _, h⟩; exact h) rfl ?_
      go_wp2_with fail
      obtain ⟨W5, hW5⟩ : ∃ W5, W4.setCell ⟨b + 4, 0, none⟩ (.int .i64 ((k : Int) + 1)) = W5 := ⟨_, rfl⟩
      have H5 : Hid (GoI w b (.slice (some ⟨gb, off, none⟩) n cv) true leave (ordL true rs) (k + 1) W5 ∧ W4.grownBy W5 (some (b + 4))) := by
        have h4 := H4.out.1
        have g5 : W4.grownBy W5 (some (b + 4)) := by rw [← hW5]; exact grown_setCell _ _ _ _
        have gw5 := grown_new h4.grown g5 (fun i hi => by simp at hi; have := HBB.out; omega)
        refine ⟨⟨h4.bw.grown g5 (by simp), h4.bt.grown g5 (by simp), h4.bl.grown g5 (by simp), h4.br.grown g5 (by simp), ?_, HV.out.grown gw5, gw5⟩, g5⟩
        rw [← hW5]
        exact h4.bi.store 0 _
      rw [hW5]
      clear hW5 q0 f0
      have keep : ∀ W', W5.grownBy W' (some (b + 3)) → (W'.heap[Wr_.heap.size]? = W2.heap[Wr_.heap.size]? ∧ W'.heap[Wr_.heap.size + 1]? = W2.heap[Wr_.heap.size + 1]?) ∧ KeptX Wr_.heap.size (Wr_.heap.size + 2) (fun i => b ≤ i ∧ i < Wr_.heap.size) #[.slice ax mx cx, .slice ay my cy] W1 W' := by
        intro W' hg'
        have z0 := HI0.out.2
        have z1 := HI1.out.2
        have z2 := HT2.out
        have z3 := G3.out.size
        have z4 := H4.out.2.size
        have z5 := H5.out.2.size
        have z6 := hg'.size
        have hnh : ∀ i, i < W0.heap.size → ¬ Handed #[.slice ax mx cx, .slice ay my cy] i := fun i hi hh => by have := HHD.out i hh; omega
        have hsame : ∀ i, i < W2.heap.size → ¬ (b ≤ i ∧ i < Wr_.heap.size) → ¬ Handed #[.slice ax mx cx, .slice ay my cy] i → W'.heap[i]? = W2.heap[i]? := fun i hi hf hh => by
          rw [hg'.block i (by omega) (by simp; omega), H5.out.2.block i (by omega) (by simp; omega), H4.out.2.low i hh, G3.out.block i hi (by simp)]
        refine ⟨⟨hsame _ (by omega) (by omega) (hnh _ (by omega)), hsame _ (by omega) (by omega) (hnh _ (by omega))⟩, by omega, fun i hi hc hf hh => ?_⟩
        rw [hsame i (by omega) hf hh]
        exact z2.2.2 i (by omega)
      have HKP : Hid _ := keep
      clear keep
      have e0 := H5.out.1.bi.cell 0
      have e1 := H5.out.1.bl.cell 0
      have e2 := H5.out.1.br.cell 0
      have e3 := H5.out.1.br.free 0
      simp at e0 e1 e2
      refine wpIn_seq ?_
      refine region_round (by rintro ⟨_, _, h⟩; exact h) rfl ?_
      go_wp2_with fail
      by_cases hlv : (k : Int) + 1 = leave
      · have hd : ((k : Int) + 1 == leave) = true := by simp [hlv]
        refine wpIn_cond_true (by simp [Act.eval, hd]) ?_
        refine wpIn_seq ?_
        refine region_round (by rintro ⟨_, _, h⟩; exact h) rfl ?_
        go_wp2_with fail
        refine wpIn_ret ?_
        have g6 := grown_setCell W5 (b + 3) 0 (.bool true)
        have kk := HKP.out _ g6
        refine ⟨kk.1, kk.2, H5.out.1.br.store 0 _, grown_new H5.out.1.grown g6 (fun i hi => by simp at hi; have := HBB.out; omega)⟩
      · have hd : ((k : Int) + 1 == leave) = false := by simp [hlv]
        refine wpIn_cond_false (by simp [Act.eval, hd]) (wpIn_skip ?_)
        have kk := HKP.out W5 (grown_refl _ _)
        exact ⟨kk.1, kk.2, H5.out.1⟩
end Go.Proofs.Ytlehikdlkdbacaa
