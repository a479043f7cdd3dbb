/-
  tells: a disk stands as the document's does.
-/
import Derived.Test.YtegacmcekladfaaRy
namespace Go.Proofs.Ytegacmcekladfaa
open Go.RowKit

set_option maxRecDepth 100000 in
set_option maxHeartbeats 1000000 in
theorem tells10_gone (v : Value) (w : World) (h : Gone w v) : Calls Try.prog 10 #[v, .pointer none] w fun e w' => e = .returned (.bool true) ∧ w.grownBy w' none := by
  have H : Hid _ := h
  clear h
  go_enter Try.func10, Try.ntmps10
  go_wp2_with fail
  refine (two16_gone _ _ H.out).mono ?_
  rintro e w1 ⟨rfl, he⟩; subst he
  go_wp2_with fail
  refine (ref28_nil _).mono ?_
  rintro e w1 ⟨rfl, he⟩; subst he
  go_wp2_with fail
  refine (two29_gone _ _ H.out).mono ?_
  rintro e w1 ⟨rfl, he⟩; subst he
  go_wp2_with fail
  refine (ref30_nil _).mono ?_
  rintro e w2 ⟨rfl, g2⟩
  have G2 : Hid (w1.grownBy w2 none ∧ Gone w2 v) := ⟨g2, Gone.grown H.out g2⟩
  clear g2 H
  go_wp2_with fail
  refine (log13_gone _ _ G2.out.2).mono ?_
  rintro e w3 ⟨rfl, he⟩; subst he
  go_wp2_with fail
  refine (int15_gone _ _ G2.out.2).mono ?_
  rintro e w3 ⟨rfl, he⟩; subst he
  go_wp2_with fail
  refine (int31_gone _ _ G2.out.2).mono ?_
  rintro e w3 ⟨rfl, he⟩; subst he
  go_wp2_with fail
  refine (int32_gone _ _ G2.out.2).mono ?_
  rintro e w3 ⟨rfl, he⟩; subst he
  go_wp2_with fail
  go_ret
  exact ⟨rfl, G2.out.1⟩

/-- A row that is written over, if there is one. -/
def OverV (w wr : World) (ao : Option Addr) (n : Nat) : Prop := w.grownBy wr (ao.map (·.block)) ∧ ∀ g, ao = some ⟨g, 0, none⟩ → Over w wr g n

theorem Own.overV {w : World} {B : Nat} {ao : Option Addr} {n cap : Nat} {L : List UInt8} (h : Own w B (.slice ao n cap) L) (hn : L.length = n) : OverV w w ao n :=
  ⟨grown_refl _ _, fun g e => by subst e; exact h.over n (by omega)⟩
theorem Own.some {w : World} {B : Nat} {ao : Option Addr} {n cap : Nat} {L : List UInt8} (h : Own w B (.slice ao n cap) L) (hn : 0 < L.length) : ∃ g, ao = .some ⟨g, 0, none⟩ := by
  rcases h.shape with ⟨_, rfl⟩ | ⟨g, c, e, _⟩
  · simp at hn
  · simp at e
    exact ⟨g, e.1⟩
theorem OverV.step {w wr : World} {g n : Nat} (h : OverV w wr (some ⟨g, 0, none⟩) n) (k : Nat) : OverV w (wr.setCell ⟨g, k, none⟩ (.int .u8 99)) (some ⟨g, 0, none⟩) n :=
  ⟨grown_trans h.1 (grown_setCell _ _ _ _), fun g' e => by simp at e; subst e; exact (h.2 g rfl).step k⟩
theorem ownBlock_map (ao : Option Addr) (n c : Nat) : (Value.slice ao n c).ownBlock = ao.map (·.block) := by cases ao <;> rfl

set_option maxRecDepth 100000 in
set_option maxHeartbeats 4000000 in
theorem tells10 (F G : Nat → Prop) (d r : Value) (S : St) (w : World) (hd : DK w F d S) (hr : RK w G r S) : Calls Try.prog 10 #[d, r] w fun e w' => e = .returned (.bool true) ∧ w.grownBy w' none := by
  have hr0 := hr
  obtain ⟨rb, lv, v0, v1, rfl, hrb⟩ := hr0
  have HD : Hid (DK w F d S ∧ RK w G (.pointer (some ⟨rb, 0, none⟩)) S) := ⟨hd, hr⟩
  have HR : Hid (RKb w G rb lv v0 v1 S) := hrb
  clear hd hr hrb
  go_enter Try.func10, Try.ntmps10
  go_wp2_with fail
  refine (snapshot16 F _ S _ HD.out.1).mono ?_
  rintro e w1 ⟨ua, rfl, oa, ga⟩
  have HA : Hid (Own w1 w.heap.size ua S.snap.1 ∧ w.grownBy w1 none) := ⟨oa, ga⟩
  clear oa ga
  go_wp2_with fail
  refine (ref28 G _ S _ (HD.out.2.grown HA.out.2)).mono ?_
  rintro e w2 ⟨ub, rfl, ob, gb⟩
  have HB : Hid (Own w2 w.heap.size ua S.snap.1 ∧ Own w2 w1.heap.size ub S.snap.1 ∧ w.grownBy w2 none) := ⟨Own.grown HA.out.1 gb, ob, grown_trans HA.out.2 gb⟩
  clear HA ob gb
  go_wp2_with fail
  refine (spare29 F _ S _ (HD.out.1.grown HB.out.2.2)).mono ?_
  rintro e w3 ⟨uc, rfl, oc, gc⟩
  have HC : Hid (Own w3 w.heap.size ua S.snap.1 ∧ Own w3 w1.heap.size ub S.snap.1 ∧ w.grownBy w3 none ∧ (∀ k, ua.ownBlock = some k → k < w2.heap.size) ∧ Own w3 w2.heap.size uc S.spare.1 ∧ w.heap.size ≤ w2.heap.size ∧ w2.heap.size ≤ w3.heap.size) := ⟨Own.grown HB.out.1 gc, Own.grown HB.out.2.1 gc, grown_trans HB.out.2.2 gc, fun k hk => (Own.lt HB.out.1 k hk).2, oc, HB.out.2.2.size, gc.size⟩
  clear HB oc gc
  go_wp2_with fail
  refine (ref30 G _ S _ (HD.out.2.grown HC.out.2.2.1)).mono ?_
  rintro e w4 ⟨ue, rfl, oe, ge⟩
  have HE : Hid (Own w4 w.heap.size ua S.snap.1 ∧ Own w4 w1.heap.size ub S.snap.1 ∧ w.grownBy w4 none ∧ (∀ k, ua.ownBlock = some k → k < w2.heap.size) ∧ Own w4 w2.heap.size uc S.spare.1 ∧ w.heap.size ≤ w2.heap.size ∧ Own w4 w3.heap.size ue S.spare.1 ∧ w2.heap.size ≤ w4.heap.size) := ⟨Own.grown HC.out.1 ge, Own.grown HC.out.2.1 ge, grown_trans HC.out.2.2.1 ge, HC.out.2.2.2.1, Own.grown HC.out.2.2.2.2.1 ge, HC.out.2.2.2.2.2.1, oe, Nat.le_trans HC.out.2.2.2.2.2.2 ge.size⟩
  clear HC oe ge
  go_wp2_with fail
  refine (log13 F _ S _ (HD.out.1.grown HE.out.2.2.1)).mono ?_
  rintro e w5 ⟨ul, rfl, ol, gl⟩
  have HL : Hid (Own w5 w.heap.size ua S.snap.1 ∧ Own w5 w1.heap.size ub S.snap.1 ∧ w.grownBy w5 none ∧ (∀ k, ua.ownBlock = some k → k < w2.heap.size) ∧ Own w5 w2.heap.size uc S.spare.1 ∧ w.heap.size ≤ w2.heap.size ∧ Own w5 w3.heap.size ue S.spare.1 ∧ (∀ k, uc.ownBlock = some k → k < w4.heap.size) ∧ Own w5 w4.heap.size ul S.log ∧ w2.heap.size ≤ w4.heap.size) := by
    obtain ⟨h1, h2, h3, h4, h5, h6, h7, h8⟩ := HE.out
    exact ⟨h1.grown gl, h2.grown gl, grown_trans h3 gl, h4, h5.grown gl, h6, h7.grown gl, fun k hk => (Own.lt h5 k hk).2, ol, h8⟩
  clear HE ol gl
  go_wp2_with fail
  have HLR : Hid (Seg w lv S.log ∧ w.cell? ⟨rb, 1, none⟩ = some lv ∧ w.cell? ⟨rb, 2, none⟩ = some (.int .i64 S.sure) ∧ w.cell? ⟨rb, 8, none⟩ = some (.int .i64 S.steps)) := ⟨HR.out.log.seg, HR.out.cells.2.1, HR.out.cells.2.2.1, HR.out.cells.2.2.2.2.2.2.2.2⟩
  clear HR
  generalize S.snap = SA at HL ⊢
  generalize S.spare = SC at HL ⊢
  obtain ⟨SA, sa⟩ := SA
  obtain ⟨SC, sc⟩ := SC
  simp only at HL
  obtain ⟨xa, ya, ea⟩ := HL.out.1.seg.shape
  obtain ⟨xb, yb, eb⟩ := HL.out.2.1.seg.shape
  obtain ⟨xc, yc, ec⟩ := HL.out.2.2.2.2.1.seg.shape
  obtain ⟨xe, ye, ee⟩ := HL.out.2.2.2.2.2.2.1.seg.shape
  obtain ⟨xl, yl, el⟩ := HL.out.2.2.2.2.2.2.2.2.1.seg.shape
  obtain ⟨xr, yr, er⟩ := HLR.out.1.shape
  subst ea eb ec ee el er
  obtain ⟨na, hna⟩ : ∃ n, SA.length = n := ⟨_, rfl⟩
  obtain ⟨nc, hnc⟩ : ∃ n, SC.length = n := ⟨_, rfl⟩
  obtain ⟨nl, hnl⟩ : ∃ n, S.log.length = n := ⟨_, rfl⟩
  have bna : na ≤ 9223372036854775807 := by rw [← hna]; exact HL.out.1.seg.len
  have bnc : nc ≤ 9223372036854775807 := by rw [← hnc]; exact HL.out.2.2.2.2.1.seg.len
  have bnl : nl ≤ 9223372036854775807 := by rw [← hnl]; exact HLR.out.1.len
  rw [hna, hnc, hnl] at HL
  rw [hnl] at HLR
  rw [hna, hnc, hnl]
  have Hna : Hid (SA.length = na) := hna
  have Hnc : Hid (SC.length = nc) := hnc
  have Hnl : Hid (S.log.length = nl) := hnl
  clear hna hnc hnl
  have HQ : Hid (∀ x : World, w5.grownBy x none → (convert 22 9 (.slice xa na ya)).run Try.prog x = .ok (.string ⟨SA.toArray⟩) x ∧ (convert 22 9 (.slice xb na yb)).run Try.prog x = .ok (.string ⟨SA.toArray⟩) x ∧ (convert 22 9 (.slice xc nc yc)).run Try.prog x = .ok (.string ⟨SC.toArray⟩) x ∧ (convert 22 9 (.slice xe nc ye)).run Try.prog x = .ok (.string ⟨SC.toArray⟩) x ∧ (convert 22 9 (.slice xl nl yl)).run Try.prog x = .ok (.string ⟨S.log.toArray⟩) x ∧ (convert 22 9 (.slice xr nl yr)).run Try.prog x = .ok (.string ⟨S.log.toArray⟩) x ∧ x.cell? ⟨rb, 1, none⟩ = some (.slice xr nl yr) ∧ x.cell? ⟨rb, 2, none⟩ = some (.int .i64 S.sure) ∧ x.cell? ⟨rb, 8, none⟩ = some (.int .i64 S.steps)) := fun x hx => by
    obtain ⟨h1, h2, h3, h4, h5, h6, h7, h8, h9, h10⟩ := HL.out
    have hg := grown_trans h3 hx
    obtain ⟨l1, l2, l3, l4⟩ := HLR.out
    exact ⟨seg_str (h1.seg.grown hx), seg_str (h2.seg.grown hx), seg_str (h5.seg.grown hx), seg_str (h7.seg.grown hx), seg_str (h9.seg.grown hx), seg_str (l1.grown hg), hg.cell l2 (by simp), hg.cell l3 (by simp), hg.cell l4 (by simp)⟩
  refine wp_region_noPanic ?_
  refine wp_region_hold 1000 (fun x => w5.grownBy x none) (by kernel_rfl) ?_
  refine wpHold_take (i := 0) (v := _) (grown_drew _ _) rfl rfl (by kernel_rfl) (by kernel_rfl) (by kernel_rfl) (by kernel_rfl) (by kernel_rfl) (fun _ _ _ h => h) (by rfl) (fun wk hk => by obtain ⟨k0, k1, k2, k3, k4, k5, k6, k7, k8⟩ := HQ.out wk hk; go_simp; try rfl) ?_
  try simp only [Act.put, List.setIfInBounds_toArray, List.set_cons_zero, List.set_cons_succ]
  refine wpHold_take (i := 1) (v := _) (grown_drew _ _) rfl rfl (by kernel_rfl) (by kernel_rfl) (by kernel_rfl) (by kernel_rfl) (by kernel_rfl) (fun _ _ _ h => h) (by rfl) (fun wk hk => by obtain ⟨k0, k1, k2, k3, k4, k5, k6, k7, k8⟩ := HQ.out wk hk; go_simp; try rfl) ?_
  try simp only [Act.put, List.setIfInBounds_toArray, List.set_cons_zero, List.set_cons_succ]
  refine wpHold_take (i := 2) (v := _) (grown_drew _ _) rfl rfl (by kernel_rfl) (by kernel_rfl) (by kernel_rfl) (by kernel_rfl) (by kernel_rfl) (fun _ _ _ h => h) (by rfl) (fun wk hk => by obtain ⟨k0, k1, k2, k3, k4, k5, k6, k7, k8⟩ := HQ.out wk hk; go_simp; try rfl) ?_
  try simp only [Act.put, List.setIfInBounds_toArray, List.set_cons_zero, List.set_cons_succ]
  refine wpHold_take (i := 3) (v := _) (grown_drew _ _) rfl rfl (by kernel_rfl) (by kernel_rfl) (by kernel_rfl) (by kernel_rfl) (by kernel_rfl) (fun _ _ _ h => h) (by rfl) (fun wk hk => by obtain ⟨k0, k1, k2, k3, k4, k5, k6, k7, k8⟩ := HQ.out wk hk; go_simp; try rfl) ?_
  try simp only [Act.put, List.setIfInBounds_toArray, List.set_cons_zero, List.set_cons_succ]
  refine wpHold_take (i := 4) (v := _) (grown_drew _ _) rfl rfl (by kernel_rfl) (by kernel_rfl) (by kernel_rfl) (by kernel_rfl) (by kernel_rfl) (fun _ _ _ h => h) (by rfl) (fun wk hk => by obtain ⟨k0, k1, k2, k3, k4, k5, k6, k7, k8⟩ := HQ.out wk hk; go_simp; try rfl) ?_
  try simp only [Act.put, List.setIfInBounds_toArray, List.set_cons_zero, List.set_cons_succ]
  refine wpHold_take (i := 5) (v := _) (grown_drew _ _) rfl rfl (by kernel_rfl) (by kernel_rfl) (by kernel_rfl) (by kernel_rfl) (by kernel_rfl) (fun _ _ _ h => h) (by rfl) (fun wk hk => by obtain ⟨k0, k1, k2, k3, k4, k5, k6, k7, k8⟩ := HQ.out wk hk; go_simp; try rfl) ?_
  try simp only [Act.put, List.setIfInBounds_toArray, List.set_cons_zero, List.set_cons_succ]
  refine wpHold_take (i := 6) (v := _) (grown_drew _ _) rfl rfl (by kernel_rfl) (by kernel_rfl) (by kernel_rfl) (by kernel_rfl) (by kernel_rfl) (fun _ _ _ h => h) (by rfl) (fun wk hk => by obtain ⟨k0, k1, k2, k3, k4, k5, k6, k7, k8⟩ := HQ.out wk hk; go_simp; try rfl) ?_
  try simp only [Act.put, List.setIfInBounds_toArray, List.set_cons_zero, List.set_cons_succ]
  refine wpHold_take (i := 7) (v := _) (grown_drew _ _) rfl rfl (by kernel_rfl) (by kernel_rfl) (by kernel_rfl) (by kernel_rfl) (by kernel_rfl) (fun _ _ _ h => h) (by rfl) (fun wk hk => by obtain ⟨k0, k1, k2, k3, k4, k5, k6, k7, k8⟩ := HQ.out wk hk; go_simp; try rfl) ?_
  try simp only [Act.put, List.setIfInBounds_toArray, List.set_cons_zero, List.set_cons_succ]
  refine wpHold_take (i := 8) (v := _) (grown_drew _ _) rfl rfl (by kernel_rfl) (by kernel_rfl) (by kernel_rfl) (by kernel_rfl) (by kernel_rfl) (fun _ _ _ h => h) (by rfl) (fun wk hk => by obtain ⟨k0, k1, k2, k3, k4, k5, k6, k7, k8⟩ := HQ.out wk hk; go_simp; try rfl) ?_
  try simp only [Act.put, List.setIfInBounds_toArray, List.set_cons_zero, List.set_cons_succ]
  refine wpHold_take (i := 9) (v := _) (grown_drew _ _) rfl rfl (by kernel_rfl) (by kernel_rfl) (by kernel_rfl) (by kernel_rfl) (by kernel_rfl) (fun _ _ _ h => h) (by rfl) (fun wk hk => by obtain ⟨k0, k1, k2, k3, k4, k5, k6, k7, k8⟩ := HQ.out wk hk; go_simp; try rfl) ?_
  try simp only [Act.put, List.setIfInBounds_toArray, List.set_cons_zero, List.set_cons_succ]
  refine wpHold_take (i := 10) (v := _) (grown_drew _ _) rfl rfl (by kernel_rfl) (by kernel_rfl) (by kernel_rfl) (by kernel_rfl) (by kernel_rfl) (fun _ _ _ h => h) (by rfl) (fun wk hk => by obtain ⟨k0, k1, k2, k3, k4, k5, k6, k7, k8⟩ := HQ.out wk hk; go_simp; try rfl) ?_
  try simp only [Act.put, List.setIfInBounds_toArray, List.set_cons_zero, List.set_cons_succ]
  refine wpHold_take (i := 11) (v := _) (grown_drew _ _) rfl rfl (by kernel_rfl) (by kernel_rfl) (by kernel_rfl) (by kernel_rfl) (by kernel_rfl) (fun _ _ _ h => h) (by rfl) (fun wk hk => by obtain ⟨k0, k1, k2, k3, k4, k5, k6, k7, k8⟩ := HQ.out wk hk; go_simp; try rfl) ?_
  try simp only [Act.put, List.setIfInBounds_toArray, List.set_cons_zero, List.set_cons_succ]
  refine wpHold_take (i := 12) (v := _) (grown_drew _ _) rfl rfl (by kernel_rfl) (by kernel_rfl) (by kernel_rfl) (by kernel_rfl) (by kernel_rfl) (fun _ _ _ h => h) (by rfl) (fun wk hk => by obtain ⟨k0, k1, k2, k3, k4, k5, k6, k7, k8⟩ := HQ.out wk hk; go_simp; try rfl) ?_
  try simp only [Act.put, List.setIfInBounds_toArray, List.set_cons_zero, List.set_cons_succ]
  refine wpHold_take (i := 13) (v := _) (grown_drew _ _) rfl rfl (by kernel_rfl) (by kernel_rfl) (by kernel_rfl) (by kernel_rfl) (by kernel_rfl) (fun _ _ _ h => h) (by rfl) (fun wk hk => by obtain ⟨k0, k1, k2, k3, k4, k5, k6, k7, k8⟩ := HQ.out wk hk; go_simp; try rfl) ?_
  try simp only [Act.put, List.setIfInBounds_toArray, List.set_cons_zero, List.set_cons_succ]
  refine wpHold_take (i := 14) (v := _) (grown_drew _ _) rfl rfl (by kernel_rfl) (by kernel_rfl) (by kernel_rfl) (by kernel_rfl) (by kernel_rfl) (fun _ _ _ h => h) (by rfl) (fun wk hk => by obtain ⟨k0, k1, k2, k3, k4, k5, k6, k7, k8⟩ := HQ.out wk hk; go_simp; try rfl) ?_
  try simp only [Act.put, List.setIfInBounds_toArray, List.set_cons_zero, List.set_cons_succ]
  refine wpHold_take (i := 15) (v := _) (grown_drew _ _) rfl rfl (by kernel_rfl) (by kernel_rfl) (by kernel_rfl) (by kernel_rfl) (by kernel_rfl) (fun _ _ _ h => h) (by rfl) (fun wk hk => by obtain ⟨k0, k1, k2, k3, k4, k5, k6, k7, k8⟩ := HQ.out wk hk; go_simp; try rfl) ?_
  try simp only [Act.put, List.setIfInBounds_toArray, List.set_cons_zero, List.set_cons_succ]
  refine wpHold_take (i := 16) (v := _) (grown_drew _ _) rfl rfl (by kernel_rfl) (by kernel_rfl) (by kernel_rfl) (by kernel_rfl) (by kernel_rfl) (fun _ _ _ h => h) (by rfl) (fun wk hk => by obtain ⟨k0, k1, k2, k3, k4, k5, k6, k7, k8⟩ := HQ.out wk hk; go_simp; try rfl) ?_
  try simp only [Act.put, List.setIfInBounds_toArray, List.set_cons_zero, List.set_cons_succ]
  refine wpHold_take (i := 17) (v := _) (grown_drew _ _) rfl rfl (by kernel_rfl) (by kernel_rfl) (by kernel_rfl) (by kernel_rfl) (by kernel_rfl) (fun _ _ _ h => h) (by rfl) (fun wk hk => by obtain ⟨k0, k1, k2, k3, k4, k5, k6, k7, k8⟩ := HQ.out wk hk; go_simp; try rfl) ?_
  try simp only [Act.put, List.setIfInBounds_toArray, List.set_cons_zero, List.set_cons_succ]
  refine wpHold_take (i := 18) (v := _) (grown_drew _ _) rfl rfl (by kernel_rfl) (by kernel_rfl) (by kernel_rfl) (by kernel_rfl) (by kernel_rfl) (fun _ _ _ h => h) (by rfl) (fun wk hk => by obtain ⟨k0, k1, k2, k3, k4, k5, k6, k7, k8⟩ := HQ.out wk hk; go_simp; try rfl) ?_
  try simp only [Act.put, List.setIfInBounds_toArray, List.set_cons_zero, List.set_cons_succ]
  refine wpHold_take (i := 19) (v := _) (grown_drew _ _) rfl rfl (by kernel_rfl) (by kernel_rfl) (by kernel_rfl) (by kernel_rfl) (by kernel_rfl) (fun _ _ _ h => h) (by rfl) (fun wk hk => by obtain ⟨k0, k1, k2, k3, k4, k5, k6, k7, k8⟩ := HQ.out wk hk; go_simp; try rfl) ?_
  try simp only [Act.put, List.setIfInBounds_toArray, List.set_cons_zero, List.set_cons_succ]
  refine wpHold_take (i := 20) (v := _) (grown_drew _ _) rfl rfl (by kernel_rfl) (by kernel_rfl) (by kernel_rfl) (by kernel_rfl) (by kernel_rfl) (fun _ _ _ h => h) (by rfl) (fun wk hk => by obtain ⟨k0, k1, k2, k3, k4, k5, k6, k7, k8⟩ := HQ.out wk hk; go_simp; try rfl) ?_
  try simp only [Act.put, List.setIfInBounds_toArray, List.set_cons_zero, List.set_cons_succ]
  refine wpHold_take (i := 21) (v := _) (grown_drew _ _) rfl rfl (by kernel_rfl) (by kernel_rfl) (by kernel_rfl) (by kernel_rfl) (by kernel_rfl) (fun _ _ _ h => h) (by rfl) (fun wk hk => by obtain ⟨k0, k1, k2, k3, k4, k5, k6, k7, k8⟩ := HQ.out wk hk; go_simp; try rfl) ?_
  try simp only [Act.put, List.setIfInBounds_toArray, List.set_cons_zero, List.set_cons_succ]
  refine wpHold_take (i := 22) (v := _) (grown_drew _ _) rfl rfl (by kernel_rfl) (by kernel_rfl) (by kernel_rfl) (by kernel_rfl) (by kernel_rfl) (fun _ _ _ h => h) (by rfl) (fun wk hk => by obtain ⟨k0, k1, k2, k3, k4, k5, k6, k7, k8⟩ := HQ.out wk hk; go_simp; try rfl) ?_
  try simp only [Act.put, List.setIfInBounds_toArray, List.set_cons_zero, List.set_cons_succ]
  refine wpHold_take (i := 23) (v := _) (grown_drew _ _) rfl rfl (by kernel_rfl) (by kernel_rfl) (by kernel_rfl) (by kernel_rfl) (by kernel_rfl) (fun _ _ _ h => h) (by rfl) (fun wk hk => by obtain ⟨k0, k1, k2, k3, k4, k5, k6, k7, k8⟩ := HQ.out wk hk; go_simp; try rfl) ?_
  try simp only [Act.put, List.setIfInBounds_toArray, List.set_cons_zero, List.set_cons_succ]
  refine wpHold_take (i := 24) (v := _) (grown_drew _ _) rfl rfl (by kernel_rfl) (by kernel_rfl) (by kernel_rfl) (by kernel_rfl) (by kernel_rfl) (fun _ _ _ h => h) (by rfl) (fun wk hk => by obtain ⟨k0, k1, k2, k3, k4, k5, k6, k7, k8⟩ := HQ.out wk hk; go_simp; try rfl) ?_
  try simp only [Act.put, List.setIfInBounds_toArray, List.set_cons_zero, List.set_cons_succ]
  refine wpHold_take (i := 25) (v := _) (grown_drew _ _) rfl rfl (by kernel_rfl) (by kernel_rfl) (by kernel_rfl) (by kernel_rfl) (by kernel_rfl) (fun _ _ _ h => h) (by rfl) (fun wk hk => by obtain ⟨k0, k1, k2, k3, k4, k5, k6, k7, k8⟩ := HQ.out wk hk; go_simp; try rfl) ?_
  try simp only [Act.put, List.setIfInBounds_toArray, List.set_cons_zero, List.set_cons_succ]
  refine wpHold_take (i := 26) (v := _) (grown_drew _ _) rfl rfl (by kernel_rfl) (by kernel_rfl) (by kernel_rfl) (by kernel_rfl) (by kernel_rfl) (fun _ _ _ h => h) (by rfl) (fun wk hk => by obtain ⟨k0, k1, k2, k3, k4, k5, k6, k7, k8⟩ := HQ.out wk hk; go_simp; try rfl) ?_
  try simp only [Act.put, List.setIfInBounds_toArray, List.set_cons_zero, List.set_cons_succ]
  refine wpHold_take (i := 27) (v := _) (grown_drew _ _) rfl rfl (by kernel_rfl) (by kernel_rfl) (by kernel_rfl) (by kernel_rfl) (by kernel_rfl) (fun _ _ _ h => h) (by rfl) (fun wk hk => by obtain ⟨k0, k1, k2, k3, k4, k5, k6, k7, k8⟩ := HQ.out wk hk; go_simp; try rfl) ?_
  try simp only [Act.put, List.setIfInBounds_toArray, List.set_cons_zero, List.set_cons_succ]
  refine wpHold_take (i := 28) (v := _) (grown_drew _ _) rfl rfl (by kernel_rfl) (by kernel_rfl) (by kernel_rfl) (by kernel_rfl) (by kernel_rfl) (fun _ _ _ h => h) (by rfl) (fun wk hk => by obtain ⟨k0, k1, k2, k3, k4, k5, k6, k7, k8⟩ := HQ.out wk hk; go_simp; try rfl) ?_
  try simp only [Act.put, List.setIfInBounds_toArray, List.set_cons_zero, List.set_cons_succ]
  refine wpHold_take (i := 29) (v := _) (grown_drew _ _) rfl rfl (by kernel_rfl) (by kernel_rfl) (by kernel_rfl) (by kernel_rfl) (by kernel_rfl) (fun _ _ _ h => h) (by rfl) (fun wk hk => by obtain ⟨k0, k1, k2, k3, k4, k5, k6, k7, k8⟩ := HQ.out wk hk; go_simp; try rfl) ?_
  try simp only [Act.put, List.setIfInBounds_toArray, List.set_cons_zero, List.set_cons_succ]
  refine wpHold_take (i := 30) (v := _) (grown_drew _ _) rfl rfl (by kernel_rfl) (by kernel_rfl) (by kernel_rfl) (by kernel_rfl) (by kernel_rfl) (fun _ _ _ h => h) (by rfl) (fun wk hk => by obtain ⟨k0, k1, k2, k3, k4, k5, k6, k7, k8⟩ := HQ.out wk hk; go_simp; try rfl) ?_
  try simp only [Act.put, List.setIfInBounds_toArray, List.set_cons_zero, List.set_cons_succ]
  refine wpHold_take (i := 31) (v := _) (grown_drew _ _) rfl rfl (by kernel_rfl) (by kernel_rfl) (by kernel_rfl) (by kernel_rfl) (by kernel_rfl) (fun _ _ _ h => h) (by rfl) (fun wk hk => by obtain ⟨k0, k1, k2, k3, k4, k5, k6, k7, k8⟩ := HQ.out wk hk; go_simp; try rfl) ?_
  try simp only [Act.put, List.setIfInBounds_toArray, List.set_cons_zero, List.set_cons_succ]
  refine wpHold_take (i := 32) (v := _) (grown_drew _ _) rfl rfl (by kernel_rfl) (by kernel_rfl) (by kernel_rfl) (by kernel_rfl) (by kernel_rfl) (fun _ _ _ h => h) (by rfl) (fun wk hk => by obtain ⟨k0, k1, k2, k3, k4, k5, k6, k7, k8⟩ := HQ.out wk hk; go_simp; try rfl) ?_
  try simp only [Act.put, List.setIfInBounds_toArray, List.set_cons_zero, List.set_cons_succ]
  refine wpHold_take (i := 33) (v := _) (grown_drew _ _) rfl rfl (by kernel_rfl) (by kernel_rfl) (by kernel_rfl) (by kernel_rfl) (by kernel_rfl) (fun _ _ _ h => h) (by rfl) (fun wk hk => by obtain ⟨k0, k1, k2, k3, k4, k5, k6, k7, k8⟩ := HQ.out wk hk; go_simp; try rfl) ?_
  try simp only [Act.put, List.setIfInBounds_toArray, List.set_cons_zero, List.set_cons_succ]
  refine wpHold_take (i := 35) (v := _) (grown_drew _ _) rfl rfl (by kernel_rfl) (by kernel_rfl) (by kernel_rfl) (by kernel_rfl) (by kernel_rfl) (fun _ _ _ h => h) (by rfl) (fun wk hk => by obtain ⟨k0, k1, k2, k3, k4, k5, k6, k7, k8⟩ := HQ.out wk hk; go_simp; try rfl) ?_
  try simp only [Act.put, List.setIfInBounds_toArray, List.set_cons_zero, List.set_cons_succ]
  refine wpHold_take (i := 36) (v := _) (grown_drew _ _) rfl rfl (by kernel_rfl) (by kernel_rfl) (by kernel_rfl) (by kernel_rfl) (by kernel_rfl) (fun _ _ _ h => h) (by rfl) (fun wk hk => by obtain ⟨k0, k1, k2, k3, k4, k5, k6, k7, k8⟩ := HQ.out wk hk; go_simp; try rfl) ?_
  try simp only [Act.put, List.setIfInBounds_toArray, List.set_cons_zero, List.set_cons_succ]
  refine wpHold_take (i := 37) (v := _) (grown_drew _ _) rfl rfl (by kernel_rfl) (by kernel_rfl) (by kernel_rfl) (by kernel_rfl) (by kernel_rfl) (fun _ _ _ h => h) (by rfl) (fun wk hk => by obtain ⟨k0, k1, k2, k3, k4, k5, k6, k7, k8⟩ := HQ.out wk hk; go_simp; try rfl) ?_
  try simp only [Act.put, List.setIfInBounds_toArray, List.set_cons_zero, List.set_cons_succ]
  refine wpHold_take (i := 38) (v := _) (grown_drew _ _) rfl rfl (by kernel_rfl) (by kernel_rfl) (by kernel_rfl) (by kernel_rfl) (by kernel_rfl) (fun _ _ _ h => h) (by rfl) (fun wk hk => by obtain ⟨k0, k1, k2, k3, k4, k5, k6, k7, k8⟩ := HQ.out wk hk; go_simp; try rfl) ?_
  try simp only [Act.put, List.setIfInBounds_toArray, List.set_cons_zero, List.set_cons_succ]
  refine wpHold_one (i := 34) rfl (by kernel_rfl) (by rfl) (fun K hK => ?_)
  go_simp
  refine (sureD F _ S _ (HD.out.1.grown (grown_trans HL.out.2.2.1 (grown_drew _ _)))).mono ?_
  rintro e wz ⟨rfl, he⟩
  subst he
  go_wp2_with fail
  refine hK.out _ _ (fun _ => grown_drew _ _) ?_
  clear hK K
  try simp only [Act.put, List.setIfInBounds_toArray, List.set_cons_zero, List.set_cons_succ]
  refine wpHold_take (i := 39) (v := _) (grown_drew _ _) rfl rfl (by kernel_rfl) (by kernel_rfl) (by kernel_rfl) (by kernel_rfl) (by kernel_rfl) (fun _ _ _ h => h) (by rfl) (fun wk hk => by obtain ⟨k0, k1, k2, k3, k4, k5, k6, k7, k8⟩ := HQ.out wk hk; go_simp; try rfl) ?_
  try simp only [Act.put, List.setIfInBounds_toArray, List.set_cons_zero, List.set_cons_succ]
  refine wpHold_take (i := 40) (v := _) (grown_drew _ _) rfl rfl (by kernel_rfl) (by kernel_rfl) (by kernel_rfl) (by kernel_rfl) (by kernel_rfl) (fun _ _ _ h => h) (by rfl) (fun wk hk => by obtain ⟨k0, k1, k2, k3, k4, k5, k6, k7, k8⟩ := HQ.out wk hk; go_simp; try rfl) ?_
  try simp only [Act.put, List.setIfInBounds_toArray, List.set_cons_zero, List.set_cons_succ]
  refine wpHold_take (i := 41) (v := _) (grown_drew _ _) rfl rfl (by kernel_rfl) (by kernel_rfl) (by kernel_rfl) (by kernel_rfl) (by kernel_rfl) (fun _ _ _ h => h) (by rfl) (fun wk hk => by obtain ⟨k0, k1, k2, k3, k4, k5, k6, k7, k8⟩ := HQ.out wk hk; go_simp; try rfl) ?_
  try simp only [Act.put, List.setIfInBounds_toArray, List.set_cons_zero, List.set_cons_succ]
  refine wpHold_take (i := 42) (v := _) (grown_drew _ _) rfl rfl (by kernel_rfl) (by kernel_rfl) (by kernel_rfl) (by kernel_rfl) (by kernel_rfl) (fun _ _ _ h => h) (by rfl) (fun wk hk => by obtain ⟨k0, k1, k2, k3, k4, k5, k6, k7, k8⟩ := HQ.out wk hk; go_simp; try rfl) ?_
  try simp only [Act.put, List.setIfInBounds_toArray, List.set_cons_zero, List.set_cons_succ]
  refine wpHold_take (i := 44) (v := _) (grown_drew _ _) rfl rfl (by kernel_rfl) (by kernel_rfl) (by kernel_rfl) (by kernel_rfl) (by kernel_rfl) (fun _ _ _ h => h) (by rfl) (fun wk hk => by obtain ⟨k0, k1, k2, k3, k4, k5, k6, k7, k8⟩ := HQ.out wk hk; go_simp; try rfl) ?_
  try simp only [Act.put, List.setIfInBounds_toArray, List.set_cons_zero, List.set_cons_succ]
  refine wpHold_one (i := 43) rfl (by kernel_rfl) (by rfl) (fun K hK => ?_)
  go_simp
  refine (roomD F _ S _ (HD.out.1.grown (grown_trans HL.out.2.2.1 (grown_drew _ _)))).mono ?_
  rintro e w6 ⟨rfl, g6, hh⟩
  have G6 : Hid (w5.grownBy w6 none) := grown_trans (grown_drew _ _) g6
  clear g6 hh
  rw [Hnl.out]
  go_wp2_with fail
  refine hK.out _ _ (fun _ => G6.out) ?_
  clear hK K
  try simp only [Act.put, List.setIfInBounds_toArray, List.set_cons_zero, List.set_cons_succ]
  refine wpHold_one (i := 45) rfl (by kernel_rfl) (by rfl) (fun K hK => ?_)
  go_simp
  refine (ref33 G _ S _ (HD.out.2.grown (grown_trans HL.out.2.2.1 G6.out))).mono ?_
  rintro e w7 ⟨rfl, g7, hh⟩
  have G7 : Hid (w5.grownBy w7 none) := grown_trans G6.out g7
  clear g7 hh
  rw [Hnl.out]
  go_wp2_with fail
  refine hK.out _ _ (fun _ => G7.out) ?_
  clear hK K
  try simp only [Act.put, List.setIfInBounds_toArray, List.set_cons_zero, List.set_cons_succ]
  refine wpHold_take (i := 46) (v := _) (G7.out) rfl rfl (by kernel_rfl) (by kernel_rfl) (by kernel_rfl) (by kernel_rfl) (by kernel_rfl) (fun _ _ _ h => h) (by rfl) (fun wk hk => by obtain ⟨k0, k1, k2, k3, k4, k5, k6, k7, k8⟩ := HQ.out wk hk; go_simp; try rfl) ?_
  try simp only [Act.put, List.setIfInBounds_toArray, List.set_cons_zero, List.set_cons_succ]
  refine wpHold_take (i := 47) (v := _) (G7.out) rfl rfl (by kernel_rfl) (by kernel_rfl) (by kernel_rfl) (by kernel_rfl) (by kernel_rfl) (fun _ _ _ h => h) (by rfl) (fun wk hk => by obtain ⟨k0, k1, k2, k3, k4, k5, k6, k7, k8⟩ := HQ.out wk hk; go_simp; try rfl) ?_
  try simp only [Act.put, List.setIfInBounds_toArray, List.set_cons_zero, List.set_cons_succ]
  refine wpHold_take (i := 48) (v := _) (G7.out) rfl rfl (by kernel_rfl) (by kernel_rfl) (by kernel_rfl) (by kernel_rfl) (by kernel_rfl) (fun _ _ _ h => h) (by rfl) (fun wk hk => by obtain ⟨k0, k1, k2, k3, k4, k5, k6, k7, k8⟩ := HQ.out wk hk; go_simp; try rfl) ?_
  try simp only [Act.put, List.setIfInBounds_toArray, List.set_cons_zero, List.set_cons_succ]
  refine wpHold_take (i := 49) (v := _) (G7.out) rfl rfl (by kernel_rfl) (by kernel_rfl) (by kernel_rfl) (by kernel_rfl) (by kernel_rfl) (fun _ _ _ h => h) (by rfl) (fun wk hk => by obtain ⟨k0, k1, k2, k3, k4, k5, k6, k7, k8⟩ := HQ.out wk hk; go_simp; try rfl) ?_
  try simp only [Act.put, List.setIfInBounds_toArray, List.set_cons_zero, List.set_cons_succ]
  refine wpHold_take (i := 51) (v := _) (G7.out) rfl rfl (by kernel_rfl) (by kernel_rfl) (by kernel_rfl) (by kernel_rfl) (by kernel_rfl) (fun _ _ _ h => h) (by rfl) (fun wk hk => by obtain ⟨k0, k1, k2, k3, k4, k5, k6, k7, k8⟩ := HQ.out wk hk; go_simp; try rfl) ?_
  try simp only [Act.put, List.setIfInBounds_toArray, List.set_cons_zero, List.set_cons_succ]
  refine wpHold_take (i := 52) (v := _) (G7.out) rfl rfl (by kernel_rfl) (by kernel_rfl) (by kernel_rfl) (by kernel_rfl) (by kernel_rfl) (fun _ _ _ h => h) (by rfl) (fun wk hk => by obtain ⟨k0, k1, k2, k3, k4, k5, k6, k7, k8⟩ := HQ.out wk hk; go_simp; try rfl) ?_
  try simp only [Act.put, List.setIfInBounds_toArray, List.set_cons_zero, List.set_cons_succ]
  refine wpHold_take (i := 53) (v := _) (G7.out) rfl rfl (by kernel_rfl) (by kernel_rfl) (by kernel_rfl) (by kernel_rfl) (by kernel_rfl) (fun _ _ _ h => h) (by rfl) (fun wk hk => by obtain ⟨k0, k1, k2, k3, k4, k5, k6, k7, k8⟩ := HQ.out wk hk; go_simp; try rfl) ?_
  try simp only [Act.put, List.setIfInBounds_toArray, List.set_cons_zero, List.set_cons_succ]
  refine wpHold_take (i := 54) (v := _) (G7.out) rfl rfl (by kernel_rfl) (by kernel_rfl) (by kernel_rfl) (by kernel_rfl) (by kernel_rfl) (fun _ _ _ h => h) (by rfl) (fun wk hk => by obtain ⟨k0, k1, k2, k3, k4, k5, k6, k7, k8⟩ := HQ.out wk hk; go_simp; try rfl) ?_
  try simp only [Act.put, List.setIfInBounds_toArray, List.set_cons_zero, List.set_cons_succ]
  refine wpHold_one (i := 50) rfl (by kernel_rfl) (by rfl) (fun K hK => ?_)
  go_simp
  refine (stepsD F _ S _ (HD.out.1.grown (grown_trans HL.out.2.2.1 G7.out))).mono ?_
  rintro e wz ⟨rfl, he⟩
  subst he
  go_wp2_with fail
  refine hK.out _ _ (fun _ => G7.out) ?_
  clear hK K
  try simp only [Act.put, List.setIfInBounds_toArray, List.set_cons_zero, List.set_cons_succ]
  refine wpHold_take (i := 55) (v := _) (G7.out) rfl rfl (by kernel_rfl) (by kernel_rfl) (by kernel_rfl) (by kernel_rfl) (by kernel_rfl) (fun _ _ _ h => h) (by rfl) (fun wk hk => by obtain ⟨k0, k1, k2, k3, k4, k5, k6, k7, k8⟩ := HQ.out wk hk; go_simp; try rfl) ?_
  try simp only [Act.put, List.setIfInBounds_toArray, List.set_cons_zero, List.set_cons_succ]
  refine wpHold_take (i := 56) (v := _) (G7.out) rfl rfl (by kernel_rfl) (by kernel_rfl) (by kernel_rfl) (by kernel_rfl) (by kernel_rfl) (fun _ _ _ h => h) (by rfl) (fun wk hk => by obtain ⟨k0, k1, k2, k3, k4, k5, k6, k7, k8⟩ := HQ.out wk hk; go_simp; try rfl) ?_
  try simp only [Act.put, List.setIfInBounds_toArray, List.set_cons_zero, List.set_cons_succ]
  refine wpHold_take (i := 57) (v := _) (G7.out) rfl rfl (by kernel_rfl) (by kernel_rfl) (by kernel_rfl) (by kernel_rfl) (by kernel_rfl) (fun _ _ _ h => h) (by rfl) (fun wk hk => by obtain ⟨k0, k1, k2, k3, k4, k5, k6, k7, k8⟩ := HQ.out wk hk; go_simp; try rfl) ?_
  try simp only [Act.put, List.setIfInBounds_toArray, List.set_cons_zero, List.set_cons_succ]
  refine wpHold_done (by kernel_rfl) ?_
  refine (‹∀ (a : Act) (w : World), Code.wp Try.prog _ _ a w → _› _ _ ?_)
  go_wp2_with fail
  have HM : Hid (w.grownBy wz none ∧ Own wz w.heap.size (.slice xa na ya) SA ∧ (∀ k, (Value.slice xa na ya).ownBlock = some k → k < w2.heap.size) ∧ Own wz w2.heap.size (.slice xc nc yc) SC ∧ (∀ k, (Value.slice xc nc yc).ownBlock = some k → k < w4.heap.size) ∧ Own wz w4.heap.size (.slice xl nl yl) S.log ∧ w.heap.size ≤ w2.heap.size ∧ w2.heap.size ≤ w4.heap.size) := by
    obtain ⟨h1, h2, h3, h4, h5, h6, h7, h8, h9, h10⟩ := HL.out
    exact ⟨grown_trans h3 G7.out, h1.grown G7.out, h4, h5.grown G7.out, h8, h9.grown G7.out, h6, h10⟩
  have Ol : Hid (Own wz w4.heap.size (.slice xl nl yl) S.log) := HM.out.2.2.2.2.2.1
  clear HQ HL G6 G7
  go_loopw [15] (fun i wr => ∃ k : Nat, k ≤ nl ∧ i = .int .i64 k ∧ OverV wz wr xl nl) (fun i _ => nl - (intOf i).toNat)
  case atStart => exact ⟨0, by omega, rfl, Ol.out.overV Hnl.out⟩
  case round =>
    obtain ⟨k, hk, rfl, hov⟩ := hrel
    by_cases hlt : k < nl
    · obtain ⟨g, eg⟩ := Ol.out.some (by have := Hnl.out; omega)
      subst eg
      obtain ⟨⟨x, hx⟩, hf⟩ := (hov.2 g rfl).facts k hlt
      have HV : Hid (OverV wz wr (some ⟨g, 0, none⟩) nl) := hov
      have i1 : (0 : Int) ≤ (k : Int) := by omega
      have i2 : (k : Int) < (nl : Int) := by omega
      clear hov
      go_wp2_with fail
      go_roundw
      case rel => exact ⟨k + 1, by omega, by go_num, HV.out.step k⟩
      case measure => simp [intOf]; omega
    · have HV : Hid (wz.grownBy wr (xl.map (·.block))) := hov.1
      clear hov
      obtain ⟨wA, hwA⟩ : ∃ wA, wA = wr := ⟨_, rfl⟩
      subst hwA
      have HM2 : Hid (w.grownBy wA none ∧ Own wA w.heap.size (.slice xa na ya) SA ∧ (∀ k, (Value.slice xa na ya).ownBlock = some k → k < w2.heap.size) ∧ Own wA w2.heap.size (.slice xc nc yc) SC ∧ w.heap.size ≤ w2.heap.size) := by
        obtain ⟨h1, h2, h3, h4, h5, h6, h7, h8⟩ := HM.out
        have hb : ∀ k, xl.map (·.block) = some k → w4.heap.size ≤ k := fun k hk => (h6.lt k (by rw [ownBlock_map]; exact hk)).1
        have far : ∀ {B u L}, Own wz B u L → (∀ k, u.ownBlock = some k → k < w4.heap.size) → Own wA B u L := fun {B u L} ho hl => by
          refine World.ownsRow.kept ho HV.out ?_
          cases hx : u.ownBlock with
          | none => exact .inl rfl
          | some k => exact .inr (fun e => by have := hb k e.symm; have := hl k hx; omega)
        exact ⟨grown_new h1 HV.out (fun k hk => by have := hb k hk; omega), far h2 (fun k hk => by have := h3 k hk; omega), h3, far h4 h5, h7⟩
      have Oa : Hid (Own wA w.heap.size (.slice xa na ya) SA) := HM2.out.2.1
      clear HM HV Ol
      go_wp2_with fail
      go_loopw [16] (fun i wr => ∃ k : Nat, k ≤ na ∧ i = .int .i64 k ∧ OverV wA wr xa na) (fun i _ => na - (intOf i).toNat)
      case atStart => exact ⟨0, by omega, rfl, Oa.out.overV Hna.out⟩
      case round =>
        obtain ⟨k, hk, rfl, hov⟩ := hrel
        by_cases hlt : k < na
        · obtain ⟨g, eg⟩ := Oa.out.some (by have := Hna.out; omega)
          subst eg
          obtain ⟨⟨x, hx⟩, hf⟩ := (hov.2 g rfl).facts k hlt
          have HV : Hid (OverV wA wr (some ⟨g, 0, none⟩) na) := hov
          have i1 : (0 : Int) ≤ (k : Int) := by omega
          have i2 : (k : Int) < (na : Int) := by omega
          clear hov
          go_wp2_with fail
          go_roundw
          case rel => exact ⟨k + 1, by omega, by go_num, HV.out.step k⟩
          case measure => simp [intOf]; omega
        · have HV : Hid (wA.grownBy wr (xa.map (·.block))) := hov.1
          clear hov
          obtain ⟨wB, hwB⟩ : ∃ wB, wB = wr := ⟨_, rfl⟩
          subst hwB
          have HM3 : Hid (w.grownBy wB none ∧ Own wB w2.heap.size (.slice xc nc yc) SC ∧ w.heap.size ≤ w2.heap.size) := by
            obtain ⟨h1, h2, h3, h4, h5⟩ := HM2.out
            have hb : ∀ k, xa.map (·.block) = some k → k < w2.heap.size ∧ w.heap.size ≤ k := fun k hk => ⟨h3 k (by rw [ownBlock_map]; exact hk), (h2.lt k (by rw [ownBlock_map]; exact hk)).1⟩
            refine ⟨grown_new h1 HV.out (fun k hk => (hb k hk).2), World.ownsRow.kept h4 HV.out ?_, h5⟩
            cases hx : (Value.slice xc nc yc).ownBlock with
            | none => exact .inl rfl
            | some k => exact .inr (fun e => by have := hb k e.symm; have := h4.lt k hx; omega)
          have Oc : Hid (Own wB w2.heap.size (.slice xc nc yc) SC) := HM3.out.2.1
          clear HM2 HV Oa
          go_wp2_with fail
          go_loopw [17] (fun i wr => ∃ k : Nat, k ≤ nc ∧ i = .int .i64 k ∧ OverV wB wr xc nc) (fun i _ => nc - (intOf i).toNat)
          case atStart => exact ⟨0, by omega, rfl, Oc.out.overV Hnc.out⟩
          case round =>
            obtain ⟨k, hk, rfl, hov⟩ := hrel
            by_cases hlt : k < nc
            · obtain ⟨g, eg⟩ := Oc.out.some (by have := Hnc.out; omega)
              subst eg
              obtain ⟨⟨x, hx⟩, hf⟩ := (hov.2 g rfl).facts k hlt
              have HV : Hid (OverV wB wr (some ⟨g, 0, none⟩) nc) := hov
              have i1 : (0 : Int) ≤ (k : Int) := by omega
              have i2 : (k : Int) < (nc : Int) := by omega
              clear hov
              go_wp2_with fail
              go_roundw
              case rel => exact ⟨k + 1, by omega, by go_num, HV.out.step k⟩
              case measure => simp [intOf]; omega
            · have HV : Hid (wB.grownBy wr (xc.map (·.block))) := hov.1
              clear hov
              obtain ⟨wC, hwC⟩ : ∃ wC, wC = wr := ⟨_, rfl⟩
              subst hwC
              have HM4 : Hid (w.grownBy wC none) := by
                obtain ⟨h1, h2, h3⟩ := HM3.out
                refine grown_new h1 HV.out (fun k hk => ?_)
                have := (h2.lt k (by rw [ownBlock_map]; exact hk)).1
                omega
              clear HM3 HV Oc
              go_wp2_with fail
              have HQ : Hid (∀ x : World, wC.grownBy x none → (convert 22 9 (.slice xr nl yr)).run Try.prog x = .ok (.string ⟨S.log.toArray⟩) x ∧ x.cell? ⟨rb, 1, none⟩ = some (.slice xr nl yr)) := fun x hx => by
                have hg := grown_trans HM4.out hx
                obtain ⟨l1, l2, l3, l4⟩ := HLR.out
                exact ⟨seg_str (l1.grown hg), hg.cell l2 (by simp)⟩
              refine wp_region_noPanic ?_
              refine wp_region_hold 1000 (fun x => wC.grownBy x none) (by kernel_rfl) ?_
              refine wpHold_take (i := 0) (v := _) (grown_drew _ _) rfl rfl (by kernel_rfl) (by kernel_rfl) (by kernel_rfl) (by kernel_rfl) (by kernel_rfl) (fun _ _ _ h => h) (by rfl) (fun wk hk => by obtain ⟨k0, k1⟩ := HQ.out wk hk; go_simp; try rfl) ?_
              try simp only [Act.put, List.setIfInBounds_toArray, List.set_cons_zero, List.set_cons_succ]
              refine wpHold_take (i := 1) (v := _) (grown_drew _ _) rfl rfl (by kernel_rfl) (by kernel_rfl) (by kernel_rfl) (by kernel_rfl) (by kernel_rfl) (fun _ _ _ h => h) (by rfl) (fun wk hk => by obtain ⟨k0, k1⟩ := HQ.out wk hk; go_simp; try rfl) ?_
              try simp only [Act.put, List.setIfInBounds_toArray, List.set_cons_zero, List.set_cons_succ]
              refine wpHold_take (i := 2) (v := _) (grown_drew _ _) rfl rfl (by kernel_rfl) (by kernel_rfl) (by kernel_rfl) (by kernel_rfl) (by kernel_rfl) (fun _ _ _ h => h) (by rfl) (fun wk hk => by obtain ⟨k0, k1⟩ := HQ.out wk hk; go_simp; try rfl) ?_
              try simp only [Act.put, List.setIfInBounds_toArray, List.set_cons_zero, List.set_cons_succ]
              refine wpHold_take (i := 5) (v := _) (grown_drew _ _) rfl rfl (by kernel_rfl) (by kernel_rfl) (by kernel_rfl) (by kernel_rfl) (by kernel_rfl) (fun _ _ _ h => h) (by rfl) (fun wk hk => by obtain ⟨k0, k1⟩ := HQ.out wk hk; go_simp; try rfl) ?_
              try simp only [Act.put, List.setIfInBounds_toArray, List.set_cons_zero, List.set_cons_succ]
              refine wpHold_take (i := 6) (v := _) (grown_drew _ _) rfl rfl (by kernel_rfl) (by kernel_rfl) (by kernel_rfl) (by kernel_rfl) (by kernel_rfl) (fun _ _ _ h => h) (by rfl) (fun wk hk => by obtain ⟨k0, k1⟩ := HQ.out wk hk; go_simp; try rfl) ?_
              try simp only [Act.put, List.setIfInBounds_toArray, List.set_cons_zero, List.set_cons_succ]
              refine wpHold_take (i := 7) (v := _) (grown_drew _ _) rfl rfl (by kernel_rfl) (by kernel_rfl) (by kernel_rfl) (by kernel_rfl) (by kernel_rfl) (fun _ _ _ h => h) (by rfl) (fun wk hk => by obtain ⟨k0, k1⟩ := HQ.out wk hk; go_simp; try rfl) ?_
              try simp only [Act.put, List.setIfInBounds_toArray, List.set_cons_zero, List.set_cons_succ]
              refine wpHold_take (i := 8) (v := _) (grown_drew _ _) rfl rfl (by kernel_rfl) (by kernel_rfl) (by kernel_rfl) (by kernel_rfl) (by kernel_rfl) (fun _ _ _ h => h) (by rfl) (fun wk hk => by obtain ⟨k0, k1⟩ := HQ.out wk hk; go_simp; try rfl) ?_
              try simp only [Act.put, List.setIfInBounds_toArray, List.set_cons_zero, List.set_cons_succ]
              refine wpHold_take (i := 9) (v := _) (grown_drew _ _) rfl rfl (by kernel_rfl) (by kernel_rfl) (by kernel_rfl) (by kernel_rfl) (by kernel_rfl) (fun _ _ _ h => h) (by rfl) (fun wk hk => by obtain ⟨k0, k1⟩ := HQ.out wk hk; go_simp; try rfl) ?_
              try simp only [Act.put, List.setIfInBounds_toArray, List.set_cons_zero, List.set_cons_succ]
              refine wpHold_one (i := 3) rfl (by kernel_rfl) (by rfl) (fun K hK => ?_)
              go_simp
              refine (log13 F _ S _ (HD.out.1.grown (grown_trans HM4.out (grown_drew _ _)))).mono ?_
              rintro e wD ⟨um, rfl, om, gm⟩
              have GD : Hid (wC.grownBy wD none ∧ Own wD wC.heap.size um S.log) := ⟨grown_trans (grown_drew _ _) gm, om⟩
              clear om gm
              have HQ2 : Hid (∀ x : World, wD.grownBy x none → (convert 22 9 um).run Try.prog x = .ok (.string ⟨S.log.toArray⟩) x) := fun x hx => seg_str (GD.out.2.seg.grown hx)
              go_wp2_with fail
              refine hK.out _ _ (fun _ => GD.out.1) ?_
              clear hK K
              try simp only [Act.put, List.setIfInBounds_toArray, List.set_cons_zero, List.set_cons_succ]
              refine wpHold_one (i := 4) rfl (by kernel_rfl) (by rfl) (fun K hK => ?_)
              have cv := HQ2.out _ (grown_refl _ none)
              go_wp2_with fail
              refine hK.out _ _ (fun _ => GD.out.1) ?_
              clear hK K
              try simp only [Act.put, List.setIfInBounds_toArray, List.set_cons_zero, List.set_cons_succ]
              refine wpHold_take (i := 10) (v := _) (GD.out.1) rfl rfl (by kernel_rfl) (by kernel_rfl) (by kernel_rfl) (by kernel_rfl) (by kernel_rfl) (fun _ _ _ h => h) (by rfl) (fun wk hk => by obtain ⟨k0, k1⟩ := HQ.out wk hk; go_simp; try rfl) ?_
              try simp only [Act.put, List.setIfInBounds_toArray, List.set_cons_zero, List.set_cons_succ]
              refine wpHold_take (i := 11) (v := _) (GD.out.1) rfl rfl (by kernel_rfl) (by kernel_rfl) (by kernel_rfl) (by kernel_rfl) (by kernel_rfl) (fun _ _ _ h => h) (by rfl) (fun wk hk => by obtain ⟨k0, k1⟩ := HQ.out wk hk; go_simp; try rfl) ?_
              try simp only [Act.put, List.setIfInBounds_toArray, List.set_cons_zero, List.set_cons_succ]
              refine wpHold_take (i := 12) (v := _) (GD.out.1) rfl rfl (by kernel_rfl) (by kernel_rfl) (by kernel_rfl) (by kernel_rfl) (by kernel_rfl) (fun _ _ _ h => h) (by rfl) (fun wk hk => by obtain ⟨k0, k1⟩ := HQ.out wk hk; go_simp; try rfl) ?_
              try simp only [Act.put, List.setIfInBounds_toArray, List.set_cons_zero, List.set_cons_succ]
              refine wpHold_done (by kernel_rfl) ?_
              refine (‹∀ (a : Act) (w : World), Code.wp Try.prog _ _ a w → _› _ _ ?_)
              go_wp2_with fail
              go_ret
              exact ⟨rfl, grown_trans HM4.out GD.out.1⟩
end Go.Proofs.Ytegacmcekladfaa
