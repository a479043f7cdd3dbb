/-
  tell: copies of the rows' bytes handed out.
-/
import Derived.Test.YtlehikdlkdbacaaIt
namespace Go.Proofs.Ytlehikdlkdbacaa
open Go.RowKit Disk

/-- What is handed out: bytes of the round's own. -/
def Xt (rs : List PRow) (k : Nat) (W0 W1 : World) (xs : Array Value) : Prop := ∃ (h : k < rs.length) (x y : Value), xs = #[x, y] ∧ Disk.Own W1 W0.heap.size x rs[k].1 ∧ Disk.Own W1 W0.heap.size y rs[k].2
/-- Rows at pointers, in blocks of F. -/
def AtsIn (w : World) (F : Nat → Prop) (qs : List Nat) (rs : List PRow) : Prop := qs.length = rs.length ∧ ∀ j (_ : j < qs.length) (_ : j < rs.length), F qs[j] ∧ ∃ k v, Blk w qs[j] 45 #[k, v] ∧ Disk.Own w 0 k rs[j].1 ∧ Disk.Own w 0 v rs[j].2 ∧ (∀ b, k.ownBlock = some b → F b) ∧ (∀ b, v.ownBlock = some b → F b)
theorem AtsIn.same {w w' : World} {F : Nat → Prop} {qs : List Nat} {rs : List PRow} (h : AtsIn w F qs rs) (hs : ∀ k, F k → k < w.heap.size → w'.heap[k]? = w.heap[k]?) : AtsIn w' F qs rs := by
  refine ⟨h.1, fun j h1 h2 => ?_⟩
  obtain ⟨hF, k, v, hb, hk, hv, f1, f2⟩ := h.2 j h1 h2
  exact ⟨hF, k, v, hb.same (hs _ hF hb.lt), hk.same fun g hg => hs g (f1 g hg) (hk.lt g hg).2, hv.same fun g hg => hs g (f2 g hg) (hv.lt g hg).2, f1, f2⟩
theorem AtsIn.grown {w w' : World} {F : Nat → Prop} {qs : List Nat} {rs : List PRow} (h : AtsIn w F qs rs) (hg : w.grownBy w' none) : AtsIn w' F qs rs := h.same fun k _ hk => hg.block k hk (by simp)
theorem AtsIn.tn {n0 : Nat} {w w' : World} {F : Nat → Prop} {qs : List Nat} {rs : List PRow} (h : AtsIn w F qs rs) (ht : Tn n0 w w') : AtsIn w' F qs rs := by
  refine ⟨h.1, fun j h1 h2 => ?_⟩
  obtain ⟨hF, k, v, hb, hk, hv, f1, f2⟩ := h.2 j h1 h2
  exact ⟨hF, k, v, ht.blk hb, ht.own hk, ht.own hv, f1, f2⟩
theorem own_put {W : World} {b : Nat} {r : Loop} {o : Obj} {B : Nat} {v : Value} {L : List UInt8} (h : Disk.Own W B v L) (hb : W.heap[b]? = some (.loop r)) : Disk.Own (W.putObj b o) B v L := (Tn.put (n0 := 0) o hb (Nat.zero_le _)).own h

set_option maxRecDepth 100000 in
set_option maxHeartbeats 8000000 in
theorem tell46 (l gf Bx n1 : Nat) (eg : ∀ args w, (callFunc gf args).run Try.prog w = .ok (.enter gf args) w) (qs : List Nat) (rs : List PRow) (X : Nat → World → World → Array Value → Prop) (Fw : Nat → Prop) (J : Nat → World → Prop) (Jx : World → Prop) (W Wt : World)
    (hX : ∀ k W0 W1 xs, X k W0 W1 xs → W1 = W0 ∧ ∃ (h : k < qs.length) (i : Int), xs = #[.int .i64 i, .pointer (some ⟨qs[k], 0, none⟩)])
    (hn1 : n1 ≤ W.heap.size) (hgt : W.grownBy Wt none) (hats : AtsIn W (fun k => k < n1 ∧ ¬ Fw k) qs rs) (hlen : ∀ r ∈ rs, r.1.length ≤ 100000 ∧ r.2.length ≤ 100000)
    (hseq : ∀ Wb, Wt.grownBy Wb none → Gives Try.prog gf #[.pointer (some ⟨Bx, 0, none⟩)] qs.length X (fun i => Fw i ∨ (n1 ≤ i ∧ i < W.heap.size)) Wb)
    (hJ : ∀ k A B, J k A → Tn W.heap.size A B → J k B) (hJx : ∀ A B, Jx A → Tn W.heap.size A B → Jx B)
    (hY : ∀ k W0 W1 xs, k < rs.length → J k W0 → W.heap.size ≤ W0.heap.size → Tn W.heap.size W0 W1 → Xt rs k W0 W1 xs → YieldAt Fence.wide 0 Try.prog l xs W1 fun e W' => (e = .returned (.bool true) ∧ J (k + 1) W' ∧ KeptX n1 W.heap.size Fw xs W1 W') ∨ (e = .returned (.bool false) ∧ Jx W' ∧ KeptX n1 W.heap.size Fw xs W1 W'))
    (hFw : ∀ i, Fw i → i < n1) (h0 : J 0 W) :
    Calls Try.prog 46 #[.func (.func gf) #[] #[.pointer (some ⟨Bx, 0, none⟩)], .func (.yield l) #[] #[]] Wt fun e W' => (∃ v, e = .returned v) ∧ (J qs.length W' ∨ Jx W') := by
  have HS : Hid (n1 ≤ W.heap.size ∧ W.grownBy Wt none ∧ AtsIn W (fun k => k < n1 ∧ ¬ Fw k) qs rs ∧ (∀ r ∈ rs, r.1.length ≤ 100000 ∧ r.2.length ≤ 100000)) := ⟨hn1, hgt, hats, hlen⟩
  have HQ : Hid _ := hseq
  have HJ : Hid (∀ k A B, J k A → Tn W.heap.size A B → J k B) := hJ
  have HJX : Hid (∀ A B, Jx A → Tn W.heap.size A B → Jx B) := hJx
  have HY : Hid _ := hY
  have HX : Hid _ := hX
  have HFW : Hid (∀ i, Fw i → i < n1) := hFw
  have H0 : Hid (J 0 W) := h0
  have HEG : Hid _ := eg
  clear hn1 hgt hats hlen hseq hJ hJx hY hX hFw h0 eg
  refine calls_marks Try.func46 rfl ?_
  simp only [Try.ntmps46, List.size_toArray, List.length_cons, List.length_nil, Nat.reduceAdd, Nat.reduceSub, Array.replicate_succ, Array.replicate_zero, List.push_toArray, List.append_toArray, List.nil_append, List.cons_append]
  go_wp2_with fail
  obtain ⟨Wb, hWb, HB⟩ := al Wt #[.func (.yield l) #[] #[]] 79
  rw [hWb]
  clear hWb
  obtain ⟨b3, hb3⟩ : ∃ b, Wt.heap.size = b := ⟨_, rfl⟩
  rw [hb3] at HB ⊢
  have HB3 : Hid (W.heap.size ≤ b3 ∧ W.grownBy Wb none ∧ Wb.heap.size = b3 + 1) := ⟨by rw [← hb3]; exact HS.out.2.1.size, grown_trans HS.out.2.1 HB.out.2.1, HB.out.2.2⟩
  clear hb3
  refine wp_range (gf := gf) (lb := #[.pointer (some ⟨Bx, 0, none⟩)]) rfl HEG.out (HQ.out Wb HB.out.2.1) ?hps (fun k A => J k A ∧ Blk A b3 79 #[.func (.yield l) #[] #[]] ∧ AtsIn A (fun k => k < n1 ∧ ¬ Fw k) qs rs ∧ Wb.heap.size ≤ A.heap.size) Jx ?hIg ?hXg ?h0 ?hround ?hdone ?hstop
  case hps =>
    intro k W0 W1 xs hx
    obtain ⟨_, _, i, rfl⟩ := HX.out k W0 W1 xs hx
    rfl
  case hIg =>
    rintro k A B ⟨h1, h2, h3, h4⟩ ht
    exact ⟨HJ.out k A B h1 (ht.mono (by have := HB3.out.2.1.size; omega)), ht.blk h2, h3.tn ht, Nat.le_trans h4 ht.size⟩
  case hXg => exact fun A B h ht => HJX.out A B h (ht.mono (by have := HB3.out.2.1.size; omega))
  case h0 => exact ⟨HJ.out 0 W Wb H0.out (Tn.of_grown HB3.out.2.1), HB.out.1, HS.out.2.2.1.grown HB3.out.2.1, Nat.le_refl _⟩
  case hstop =>
    intro A hA hd
    have HA : Hid (Jx A) := hA
    have HD : Hid _ := hd
    clear hA hd
    go_wp2_with fail
    refine ⟨by simp, .inl ⟨_, _, rfl, run_takeDeferred HD.out, ?_⟩⟩
    exact ⟨_, results_none rfl _ _ _, ⟨_, rfl⟩, .inr (HJX.out _ _ HA.out (Tn.putD _ HD.out (by have := HB3.out.2.1.size; omega)))⟩
  case hdone =>
    rintro A ⟨hA, _⟩ hd
    have HA : Hid (J qs.length A) := hA
    have HD : Hid _ := hd
    clear hA hd
    go_wp2_with fail
    refine ⟨by simp, .inl ⟨_, _, rfl, run_takeDeferred HD.out, ?_⟩⟩
    exact ⟨_, results_none rfl _ _ _, ⟨_, rfl⟩, .inl (HJ.out _ _ _ HA.out (Tn.putD _ HD.out (by have := HB3.out.2.1.size; omega)))⟩
  case hround =>
    rintro l' k W0 W1 xs hk ⟨i1, i2, i3, i4⟩ hlt htn hx hrec
    obtain ⟨hw1, hkq, ix, rfl⟩ := HX.out k W0 W1 xs hx
    subst hw1
    clear hx
    have hkr : k < rs.length := by rw [← i3.1]; exact hkq
    obtain ⟨hF, kx, vx, hbk, hok, hov, fk, fv⟩ := i3.2 k hkq hkr
    obtain ⟨q, hq⟩ : ∃ q, qs[k] = q := ⟨_, rfl⟩
    rw [hq] at hF hbk ⊢
    simp only [List.zip_toArray, List.zip_cons_cons, List.zip_nil_right, List.foldl_toArray', List.size_toArray, List.foldl_cons, List.foldl_nil, List.setIfInBounds_toArray, List.set_cons_zero, List.set_cons_succ]
    have HI : Hid (J k W1 ∧ Blk W1 b3 79 #[.func (.yield l) #[] #[]] ∧ AtsIn W1 (fun k => k < n1 ∧ ¬ Fw k) qs rs ∧ Wb.heap.size ≤ W1.heap.size ∧ Wb.heap.size + 1 < W1.heap.size) := ⟨i1, i2, i3, i4, hlt⟩
    have HRW : Hid (Blk W1 q 45 #[kx, vx] ∧ Disk.Own W1 0 kx rs[k].1 ∧ Disk.Own W1 0 vx rs[k].2 ∧ rs[k].1.length ≤ 100000 ∧ rs[k].2.length ≤ 100000) := ⟨hbk, hok, hov, HS.out.2.2.2 _ (List.getElem_mem _)⟩
    obtain ⟨rc, hrc⟩ := hrec
    have HRC : Hid (W1.heap[Wb.heap.size + 1]? = some (.loop rc)) := hrc
    clear hrc i1 i2 i3 i4 hbk hok hov fk fv hF hq hlt htn
    refine region_round (by rintro ⟨_, _, h⟩; exact h) rfl ?_
    go_wp2_with fail
    refine ⟨grown_refl _ _, fun r => ?_⟩
    obtain ⟨W2, hW2⟩ : ∃ W2, W1.putObj (Wb.heap.size + 1) (.loop r) = W2 := ⟨_, rfl⟩
    have HT2 : Hid (Tn W.heap.size W1 W2 ∧ W2.heap.size = W1.heap.size ∧ ∀ i, i ≠ Wb.heap.size + 1 → W2.heap[i]? = W1.heap[i]?) := by
      rw [← hW2]
      exact ⟨Tn.put _ HRC.out (by have := HB3.out.2.1.size; omega), by simp [World.putObj], fun i hi => World.putObj_heap_other hi⟩
    rw [hW2]
    clear hW2
    have HM : Hid (∀ y : World, W2.grownBy y none → y.cell? ⟨b3, 0, none⟩ = some (.func (.yield l) #[] #[]) ∧ y.cell? ⟨q, 0, none⟩ = some kx ∧ y.cell? ⟨q, 1, none⟩ = some vx) := fun y hy => ⟨((HT2.out.1.blk HI.out.2.1).grown hy (by simp)).cell 0, ((HT2.out.1.blk HRW.out.1).grown hy (by simp)).cell 0, ((HT2.out.1.blk HRW.out.1).grown hy (by simp)).cell 1⟩
    refine wpIn_block (wpIn_seq ?_)
    refine region_round_holdY 11 (fun y => W2.grownBy y none) (fun K a w => wpOpIn (Fence.wide.inRound l') 0 Try.prog _ _ 11 K a w) (by rintro ⟨_, _, h⟩; exact h) rfl (by kernel_rfl) (fun K K' a w h hh => wpOpIn_mono h hh) ?_
    have G0 : Hid (W2.grownBy W2.drew none) := grown_drew _ _
    generalize W2.drew = wd at G0 ⊢
    have HGT : Hid (∀ y : World, W2.grownBy y none → W2.grownBy y none) := fun _ h => h
    refine wpHoldY_take (i := 0) (v := _) (HGT.out _ G0.out) rfl rfl (by decide) (by kernel_rfl) (by kernel_rfl) (by kernel_rfl) (by kernel_rfl) (by kernel_rfl) (by kernel_rfl) (fun _ _ _ h => h) (by rfl) (fun wk hk => by obtain ⟨z0, z1, z2⟩ := HM.out wk hk; go_simp; try rfl) ?_
    try simp only [Act.put, List.setIfInBounds_toArray, List.set_cons_zero, List.set_cons_succ]
    refine wpHoldY_take (i := 1) (v := _) (HGT.out _ G0.out) rfl rfl (by decide) (by kernel_rfl) (by kernel_rfl) (by kernel_rfl) (by kernel_rfl) (by kernel_rfl) (by kernel_rfl) (fun _ _ _ h => h) (by rfl) (fun wk hk => by obtain ⟨z0, z1, z2⟩ := HM.out wk hk; go_simp; try rfl) ?_
    try simp only [Act.put, List.setIfInBounds_toArray, List.set_cons_zero, List.set_cons_succ]
    refine wpHoldY_take (i := 2) (v := _) (HGT.out _ G0.out) rfl rfl (by decide) (by kernel_rfl) (by kernel_rfl) (by kernel_rfl) (by kernel_rfl) (by kernel_rfl) (by kernel_rfl) (fun _ _ _ h => h) (by rfl) (fun wk hk => by obtain ⟨z0, z1, z2⟩ := HM.out wk hk; go_simp; try rfl) ?_
    try simp only [Act.put, List.setIfInBounds_toArray, List.set_cons_zero, List.set_cons_succ]
    refine wpHoldY_take (i := 3) (v := _) (HGT.out _ G0.out) rfl rfl (by decide) (by kernel_rfl) (by kernel_rfl) (by kernel_rfl) (by kernel_rfl) (by kernel_rfl) (by kernel_rfl) (fun _ _ _ h => h) (by rfl) (fun wk hk => by obtain ⟨z0, z1, z2⟩ := HM.out wk hk; go_simp; try rfl) ?_
    try simp only [Act.put, List.setIfInBounds_toArray, List.set_cons_zero, List.set_cons_succ]
    refine wpHoldY_take (i := 4) (v := _) (HGT.out _ G0.out) rfl rfl (by decide) (by kernel_rfl) (by kernel_rfl) (by kernel_rfl) (by kernel_rfl) (by kernel_rfl) (by kernel_rfl) (fun _ _ _ h => h) (by rfl) (fun wk hk => by obtain ⟨z0, z1, z2⟩ := HM.out wk hk; go_simp; try rfl) ?_
    try simp only [Act.put, List.setIfInBounds_toArray, List.set_cons_zero, List.set_cons_succ]
    refine wpHoldY_take (i := 6) (v := _) (HGT.out _ G0.out) rfl rfl (by decide) (by kernel_rfl) (by kernel_rfl) (by kernel_rfl) (by kernel_rfl) (by kernel_rfl) (by kernel_rfl) (fun _ _ _ h => h) (by rfl) (fun wk hk => by obtain ⟨z0, z1, z2⟩ := HM.out wk hk; go_simp; try rfl) ?_
    try simp only [Act.put, List.setIfInBounds_toArray, List.set_cons_zero, List.set_cons_succ]
    refine wpHoldY_take (i := 7) (v := _) (HGT.out _ G0.out) rfl rfl (by decide) (by kernel_rfl) (by kernel_rfl) (by kernel_rfl) (by kernel_rfl) (by kernel_rfl) (by kernel_rfl) (fun _ _ _ h => h) (by rfl) (fun wk hk => by obtain ⟨z0, z1, z2⟩ := HM.out wk hk; go_simp; try rfl) ?_
    try simp only [Act.put, List.setIfInBounds_toArray, List.set_cons_zero, List.set_cons_succ]
    refine wpHoldY_take (i := 8) (v := _) (HGT.out _ G0.out) rfl rfl (by decide) (by kernel_rfl) (by kernel_rfl) (by kernel_rfl) (by kernel_rfl) (by kernel_rfl) (by kernel_rfl) (fun _ _ _ h => h) (by rfl) (fun wk hk => by obtain ⟨z0, z1, z2⟩ := HM.out wk hk; go_simp; try rfl) ?_
    try simp only [Act.put, List.setIfInBounds_toArray, List.set_cons_zero, List.set_cons_succ]
    refine wpHoldY_take (i := 9) (v := _) (HGT.out _ G0.out) rfl rfl (by decide) (by kernel_rfl) (by kernel_rfl) (by kernel_rfl) (by kernel_rfl) (by kernel_rfl) (by kernel_rfl) (fun _ _ _ h => h) (by rfl) (fun wk hk => by obtain ⟨z0, z1, z2⟩ := HM.out wk hk; go_simp; try rfl) ?_
    try simp only [Act.put, List.setIfInBounds_toArray, List.set_cons_zero, List.set_cons_succ]
    refine wpHoldY_one (i := 5) rfl (by decide) (by kernel_rfl) (by rfl) (fun K hK => ?_)
    go_wp2_with (go_at_call 48; refine (Disk.clone25 kx rs[k].1 wd ((HT2.out.1.own HRW.out.2.1).seg.grown G0.out) (by have := HRW.out.2.2.2.1; omega)).mono ?_)
    rintro e w3 ⟨x3, rfl, ox, g3⟩
    have H3 : Hid (W2.grownBy w3 none ∧ Disk.Own w3 W1.heap.size x3 rs[k].1) := ⟨grown_trans G0.out g3, ox.mono (by have := G0.out.size; have := HT2.out.2.1; omega)⟩
    clear ox g3
    go_wp2_with fail
    refine hK.out _ _ (fun _ => H3.out.1) ?_
    clear hK K
    try simp only [Act.put, List.setIfInBounds_toArray, List.set_cons_zero, List.set_cons_succ]
    refine wpHoldY_one (i := 10) rfl (by decide) (by kernel_rfl) (by rfl) (fun K hK => ?_)
    go_wp2_with (go_at_call 48; refine (Disk.clone25 vx rs[k].2 w3 ((HT2.out.1.own HRW.out.2.2.1).seg.grown H3.out.1) (by have := HRW.out.2.2.2.2; omega)).mono ?_)
    rintro e w4 ⟨y4, rfl, oy, g4⟩
    have H4 : Hid (W2.grownBy w4 none ∧ Disk.Own w4 W1.heap.size x3 rs[k].1 ∧ Disk.Own w4 W1.heap.size y4 rs[k].2) := ⟨grown_trans H3.out.1 g4, H3.out.2.grown g4, oy.mono (by have := H3.out.1.size; have := HT2.out.2.1; omega)⟩
    clear oy g4 H3
    go_wp2_with fail
    refine hK.out _ _ (fun _ => H4.out.1) ?_
    clear hK K
    try simp only [Act.put, List.setIfInBounds_toArray, List.set_cons_zero, List.set_cons_succ]
    refine wpHoldY_z (by kernel_rfl) ?_
    show wpOpIn _ _ _ _ _ 11 _ _ _
    have HXT : Hid (Xt rs k W1 w4 #[x3, y4]) := ⟨hkr, x3, y4, rfl, H4.out.2.1, H4.out.2.2⟩
    have HTN : Hid (Tn W.heap.size W1 w4) := HT2.out.1.trans (Tn.of_grown H4.out.1)
    have HYY := HY.out k W1 w4 #[x3, y4] hkr HI.out.1 (by have := HI.out.2.2.2.1; have := HB3.out.2.1.size; omega) HTN.out HXT.out
    have keep : ∀ W', KeptX n1 W.heap.size Fw #[x3, y4] w4 W' → (W'.heap[Wb.heap.size]? = W2.heap[Wb.heap.size]? ∧ W'.heap[Wb.heap.size + 1]? = W2.heap[Wb.heap.size + 1]?) ∧ KeptX Wb.heap.size (Wb.heap.size + 2) (fun i => Fw i ∨ n1 ≤ i ∧ i < W.heap.size) #[.int .i64 ix, .pointer (some ⟨q, 0, none⟩)] W1 W' ∧ Blk W' b3 79 #[.func (.yield l) #[] #[]] ∧ AtsIn W' (fun k => k < n1 ∧ ¬ Fw k) qs rs ∧ Wb.heap.size ≤ W'.heap.size := by
      intro W' hkp
      have z1 := HB3.out
      have z2 := HT2.out
      have z3 := H4.out.1.size
      have z4 := HI.out.2.2.2
      have z5 := HS.out.1
      have z6 := z1.2.1.size
      have hnh : ∀ i, i < W1.heap.size → ¬ Handed #[x3, y4] i := by
        rintro i hi ⟨u, hu, hb⟩
        simp at hu
        rcases hu with rfl | rfl
        · have := (H4.out.2.1.lt i hb).1; omega
        · have := (H4.out.2.2.lt i hb).1; omega
      have hsame : ∀ i, i < W1.heap.size → (i < n1 ∨ W.heap.size ≤ i) → ¬ Fw i → W'.heap[i]? = W2.heap[i]? := fun i hi hc hf => (hkp.2 i (by omega) hc hf (hnh i hi)).trans (H4.out.1.block i (by omega) (by simp))
      have hnF : ∀ i, n1 ≤ i → ¬ Fw i := fun i hi hf => by have := HFW.out i hf; omega
      refine ⟨⟨hsame _ (by omega) (.inr (by omega)) (hnF _ (by omega)), hsame _ (by omega) (.inr (by omega)) (hnF _ (by omega))⟩, ⟨by have := hkp.1; omega, fun i hi hc hf _ => ?_⟩, ?_, ?_, by have := hkp.1; omega⟩
      · have hff : ¬ Fw i := fun h => hf (.inl h)
        have hcc : i < n1 ∨ W.heap.size ≤ i := by
          rcases Nat.lt_or_ge i n1 with h | h
          · exact .inl h
          · rcases Nat.lt_or_ge i W.heap.size with h2 | h2
            · exact absurd (.inr ⟨h, h2⟩) hf
            · exact .inr h2
        rw [hsame i hi hcc hff]
        exact z2.2.2 i (by omega)
      · have hb2 := z2.1.blk HI.out.2.1
        exact hb2.same (hsame b3 (by omega) (.inr z1.1) (hnF _ (by omega)))
      · exact (HI.out.2.2.1.tn z2.1).same fun i hi hlt => hsame i (by omega) (.inl hi.1) hi.2
    refine yield_round (l' := l') HYY rfl rfl rfl rfl ?_
    rintro e W' (⟨rfl, hJ', hkept⟩ | ⟨rfl, hx, hkept⟩)
    · refine ⟨_, rfl, ?_⟩
      simp only [Act.put, List.setIfInBounds_toArray]
      have HK : Hid (J (k + 1) W' ∧ KeptX n1 W.heap.size Fw #[x3, y4] w4 W') := ⟨hJ', hkept⟩
      clear hJ' hkept HYY
      refine wpHoldY_one (i := 12) rfl (by decide) (by kernel_rfl) (by rfl) (fun K hK => ?_)
      go_wp2_with fail
      refine hK.out _ _ (fun h => by simp at h) ?_
      clear hK K
      try simp only [Act.put, List.setIfInBounds_toArray, List.set_cons_zero, List.set_cons_succ]
      refine wpHoldY_done (by kernel_rfl) ?_
      refine wpIn_cond_false rfl (wpIn_skip ?_)
      have hh := keep W' HK.out.2
      refine ⟨hh.1, hh.2.1, HK.out.1, hh.2.2.1, hh.2.2.2.1, hh.2.2.2.2⟩
    · refine ⟨_, rfl, ?_⟩
      simp only [Act.put, List.setIfInBounds_toArray]
      have HXX : Hid (Jx W' ∧ KeptX n1 W.heap.size Fw #[x3, y4] w4 W') := ⟨hx, hkept⟩
      clear hx HYY hkept
      refine wpHoldY_one (i := 12) rfl (by decide) (by kernel_rfl) (by rfl) (fun K hK => ?_)
      go_wp2_with fail
      refine hK.out _ _ (fun h => by simp at h) ?_
      clear hK K
      try simp only [Act.put, List.setIfInBounds_toArray, List.set_cons_zero, List.set_cons_succ]
      refine wpHoldY_done (by kernel_rfl) ?_
      refine wpIn_cond_true rfl (wpIn_ret ?_)
      have hh := keep W' HXX.out.2
      exact ⟨hh.1, hh.2.1, HXX.out.1⟩
end Go.Proofs.Ytlehikdlkdbacaa
