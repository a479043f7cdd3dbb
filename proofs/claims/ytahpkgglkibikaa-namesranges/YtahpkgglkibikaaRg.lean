/-
  NamesRanges' walk.
-/
import Derived.Test.YtahpkgglkibikaaOd
import Derived.Test.YtahpkgglkibikaaE
import Derived.Test.YtahpkgglkibikaaL
import Derived.Test.YtahpkgglkibikaaDiskJh
namespace Go.Proofs.Ytahpkgglkibikaa
open Go.RowKit Disk

theorem cmp27q (a b : Value) (A B : List UInt8) (w : World) (n : Nat) (ha : Seg w a A) (hb : Seg w b B) :
    Calls Try.prog 27 #[a, b] (w.drewN n) fun e w'' => e = .returned (.int .i64 (cmpL A B)) ∧ ∃ m, w'' = w.drewN m :=
  Calls.quiet_of (cmp27 a b A B _ (seg_drewN ha n) (seg_drewN hb n))
theorem in28q (a b c : Value) (A B C : List UInt8) (w : World) (n : Nat) (ha : Seg w a A) (hb : Seg w b B) (hc : Seg w c C) :
    Calls Try.prog 28 #[a, b, c] (w.drewN n) fun e w'' => e = .returned (.bool (inB A B C)) ∧ ∃ m, w'' = w.drewN m :=
  Calls.quiet_of (in28 a b c A B C _ (seg_drewN ha n) (seg_drewN hb n) (seg_drewN hc n))
theorem in29q (a b c : Value) (A B C : List UInt8) (w : World) (n : Nat) (ha : Seg w a A) (hb : Seg w b B) (hc : Seg w c C) :
    Calls Try.prog 29 #[a, b, c] (w.drewN n) fun e w'' => e = .returned (.bool (inB A B C)) ∧ ∃ m, w'' = w.drewN m :=
  Calls.quiet_of (in29 a b c A B C _ (seg_drewN ha n) (seg_drewN hb n) (seg_drewN hc n))

theorem lent_grown {w w' : World} {B : Nat} {v : Value} {L : List UInt8} (h : Lent w B v L) (g : w.grownBy w' none) : Lent w' B v L :=
  h.same fun k hk => g.block k (h.lt k hk).2 (by simp)

/-- Five slices of bytes that were lent. -/
structure Fives (w : World) (B : Nat) (k a b c d : Value) (K A B' C D : List UInt8) : Prop where
  k : Lent w B k K
  a : Lent w B a A
  b : Lent w B b B'
  c : Lent w B c C
  d : Lent w B d D
theorem Fives.grown {w w' : World} {Z : Nat} {k a b c d : Value} {K A B C D : List UInt8} (h : Fives w Z k a b c d K A B C D) (g : w.grownBy w' none) : Fives w' Z k a b c d K A B C D :=
  ⟨lent_grown h.k g, lent_grown h.a g, lent_grown h.b g, lent_grown h.c g, lent_grown h.d g⟩

theorem behind_len {A : List UInt8} {z : Nat} (h : A.length ≤ z) : (behindL A).length ≤ z := by
  have h1 : ∀ X : List UInt8, (trim X).length ≤ X.length := by
    intro X
    induction X with
    | nil => simp [trim]
    | cons x xs ih =>
      by_cases e : trim xs = []
      · rw [trim_cons_nil e]
        split <;> simp
      · rw [trim_cons_some e]
        simp; exact ih
  have h2 : ∀ X : List UInt8, (bump X).length = X.length := by
    intro X
    induction X with
    | nil => rfl
    | cons x xs ih =>
      cases xs with
      | nil => rfl
      | cons y ys => simp only [bump, List.length_cons] at ih ⊢; rw [ih]
  unfold behindL
  rw [h2]
  exact Nat.le_trans (h1 A) h
theorem meetA_len {A B C D : List UInt8} {z : Nat} (h1 : A.length ≤ z) (h2 : C.length ≤ z) : (meetA A B C D).length ≤ z := by
  unfold meetA
  split
  · exact later_len _ _ _ h1 h2
  · simp
theorem meetZ_len {A B C D : List UInt8} {z : Nat} (h1 : B.length ≤ z) (h2 : D.length ≤ z) : (meetZ A B C D).length ≤ z := by
  unfold meetZ
  split
  · exact early_len _ _ _ h1 h2
  · simp

set_option maxRecDepth 100000 in
set_option maxHeartbeats 4000000 in
theorem ranges4 (k a b c d : Value) (KK A B C D : List UInt8) (w : World) (h : Five w k a b c d KK A B C D)
    (lK : KK.length ≤ 140737488355317) (lA : A.length ≤ 140737488355317) (lB : B.length ≤ 140737488355317) (lC : C.length ≤ 140737488355317) (lD : D.length ≤ 140737488355317) :
    Calls Try.prog 4 #[.agg #[k, a, b, c, d]] w fun e w' => e = .returned (.bool true) ∧ w.grownBy w' none := by
  have HL : Hid (KK.length ≤ 140737488355317 ∧ A.length ≤ 140737488355317 ∧ B.length ≤ 140737488355317 ∧ C.length ≤ 140737488355317 ∧ D.length ≤ 140737488355317) := ⟨lK, lA, lB, lC, lD⟩
  have H0 : Hid (Five w k a b c d KK A B C D) := h
  clear h lK lA lB lC lD
  go_enter Try.func4, Try.ntmps4
  go_wp2_with fail
  have HB : Hid (Blk (w.alloc (.cells #[k, a, b, c, d] 37)) w.heap.size 37 #[k, a, b, c, d] ∧ w.grownBy (w.alloc (.cells #[k, a, b, c, d] 37)) none) := ⟨heap_alloc_new _ _, World.grownBy_alloc _ _ _⟩
  generalize w.alloc (.cells #[k, a, b, c, d] 37) = w0 at HB ⊢
  have HQ : Hid (∀ x : World, w0.grownBy x none → x.cell? ⟨w.heap.size, 0, none⟩ = some k ∧ x.cell? ⟨w.heap.size, 1, none⟩ = some a ∧ x.cell? ⟨w.heap.size, 2, none⟩ = some b ∧ x.cell? ⟨w.heap.size, 3, none⟩ = some c ∧ x.cell? ⟨w.heap.size, 4, none⟩ = some d) := fun x hx => by
    have hb := HB.out.1.grown hx (by simp)
    have x0 := hb.cell 0
    have x1 := hb.cell 1
    have x2 := hb.cell 2
    have x3 := hb.cell 3
    have x4 := hb.cell 4
    simp at x0 x1 x2 x3 x4
    exact ⟨x0, x1, x2, x3, x4⟩
  refine wp_region_noPanic ?_
  refine wp_region_hold 1000 (fun x => w0.grownBy x none) (by kernel_rfl) ?_
  refine wpHold_take (i := 0) (v := _) (grown_drew _ _) rfl rfl (by kernel_rfl) (by kernel_rfl) (by kernel_rfl) (by kernel_rfl) (by kernel_rfl) (fun _ _ _ h => h) (by rfl) (fun wk hk => by obtain ⟨k0, k1, k2, k3, k4⟩ := HQ.out wk hk; go_simp; try rfl) ?_
  try simp only [Act.put, List.setIfInBounds_toArray, List.set_cons_zero, List.set_cons_succ]
  refine wpHold_take (i := 1) (v := _) (grown_drew _ _) rfl rfl (by kernel_rfl) (by kernel_rfl) (by kernel_rfl) (by kernel_rfl) (by kernel_rfl) (fun _ _ _ h => h) (by rfl) (fun wk hk => by obtain ⟨k0, k1, k2, k3, k4⟩ := HQ.out wk hk; go_simp; try rfl) ?_
  try simp only [Act.put, List.setIfInBounds_toArray, List.set_cons_zero, List.set_cons_succ]
  refine wpHold_take (i := 3) (v := _) (grown_drew _ _) rfl rfl (by kernel_rfl) (by kernel_rfl) (by kernel_rfl) (by kernel_rfl) (by kernel_rfl) (fun _ _ _ h => h) (by rfl) (fun wk hk => by obtain ⟨k0, k1, k2, k3, k4⟩ := HQ.out wk hk; go_simp; try rfl) ?_
  try simp only [Act.put, List.setIfInBounds_toArray, List.set_cons_zero, List.set_cons_succ]
  refine wpHold_take (i := 4) (v := _) (grown_drew _ _) rfl rfl (by kernel_rfl) (by kernel_rfl) (by kernel_rfl) (by kernel_rfl) (by kernel_rfl) (fun _ _ _ h => h) (by rfl) (fun wk hk => by obtain ⟨k0, k1, k2, k3, k4⟩ := HQ.out wk hk; go_simp; try rfl) ?_
  try simp only [Act.put, List.setIfInBounds_toArray, List.set_cons_zero, List.set_cons_succ]
  refine wpHold_take (i := 6) (v := _) (grown_drew _ _) rfl rfl (by kernel_rfl) (by kernel_rfl) (by kernel_rfl) (by kernel_rfl) (by kernel_rfl) (fun _ _ _ h => h) (by rfl) (fun wk hk => by obtain ⟨k0, k1, k2, k3, k4⟩ := HQ.out wk hk; go_simp; try rfl) ?_
  try simp only [Act.put, List.setIfInBounds_toArray, List.set_cons_zero, List.set_cons_succ]
  refine wpHold_take (i := 7) (v := _) (grown_drew _ _) rfl rfl (by kernel_rfl) (by kernel_rfl) (by kernel_rfl) (by kernel_rfl) (by kernel_rfl) (fun _ _ _ h => h) (by rfl) (fun wk hk => by obtain ⟨k0, k1, k2, k3, k4⟩ := HQ.out wk hk; go_simp; try rfl) ?_
  try simp only [Act.put, List.setIfInBounds_toArray, List.set_cons_zero, List.set_cons_succ]
  refine wpHold_take (i := 9) (v := _) (grown_drew _ _) rfl rfl (by kernel_rfl) (by kernel_rfl) (by kernel_rfl) (by kernel_rfl) (by kernel_rfl) (fun _ _ _ h => h) (by rfl) (fun wk hk => by obtain ⟨k0, k1, k2, k3, k4⟩ := HQ.out wk hk; go_simp; try rfl) ?_
  try simp only [Act.put, List.setIfInBounds_toArray, List.set_cons_zero, List.set_cons_succ]
  refine wpHold_take (i := 10) (v := _) (grown_drew _ _) rfl rfl (by kernel_rfl) (by kernel_rfl) (by kernel_rfl) (by kernel_rfl) (by kernel_rfl) (fun _ _ _ h => h) (by rfl) (fun wk hk => by obtain ⟨k0, k1, k2, k3, k4⟩ := HQ.out wk hk; go_simp; try rfl) ?_
  try simp only [Act.put, List.setIfInBounds_toArray, List.set_cons_zero, List.set_cons_succ]
  refine wpHold_take (i := 12) (v := _) (grown_drew _ _) rfl rfl (by kernel_rfl) (by kernel_rfl) (by kernel_rfl) (by kernel_rfl) (by kernel_rfl) (fun _ _ _ h => h) (by rfl) (fun wk hk => by obtain ⟨k0, k1, k2, k3, k4⟩ := HQ.out wk hk; go_simp; try rfl) ?_
  try simp only [Act.put, List.setIfInBounds_toArray, List.set_cons_zero, List.set_cons_succ]
  refine wpHold_take (i := 13) (v := _) (grown_drew _ _) rfl rfl (by kernel_rfl) (by kernel_rfl) (by kernel_rfl) (by kernel_rfl) (by kernel_rfl) (fun _ _ _ h => h) (by rfl) (fun wk hk => by obtain ⟨k0, k1, k2, k3, k4⟩ := HQ.out wk hk; go_simp; try rfl) ?_
  try simp only [Act.put, List.setIfInBounds_toArray, List.set_cons_zero, List.set_cons_succ]
  refine wpHold_one (i := 2) rfl (by kernel_rfl) (by rfl) (fun K hK => ?_)
  go_simp
  refine (lent6 _ KK _ (H0.out.k.grown (grown_trans HB.out.2 (grown_drew _ _))) (by have := HL.out.1; omega)).mono ?_
  rintro e w1 ⟨m0, rfl, n0, g1⟩
  have G1 : Hid (w0.grownBy w1 none ∧ Lent w1 w0.heap.size m0 KK) := ⟨grown_trans (grown_drew _ _) g1, n0⟩
  clear n0 g1
  go_wp2_with fail
  refine hK.out _ _ (fun _ => G1.out.1) ?_
  clear hK K
  try simp only [Act.put, List.setIfInBounds_toArray, List.set_cons_zero, List.set_cons_succ]
  refine wpHold_one (i := 5) rfl (by kernel_rfl) (by rfl) (fun K hK => ?_)
  go_simp
  refine (lent6 _ A _ (H0.out.a.grown (grown_trans HB.out.2 G1.out.1)) (by have := HL.out.2.1; omega)).mono ?_
  rintro e w2 ⟨m1, rfl, n1, g2⟩
  have G2 : Hid (w0.grownBy w2 none ∧ w1.grownBy w2 none ∧ Lent w2 w0.heap.size m1 A) := ⟨grown_trans G1.out.1 g2, g2, n1.mono G1.out.1.size⟩
  clear n1 g2
  go_wp2_with fail
  refine hK.out _ _ (fun _ => G2.out.1) ?_
  clear hK K
  try simp only [Act.put, List.setIfInBounds_toArray, List.set_cons_zero, List.set_cons_succ]
  refine wpHold_one (i := 8) rfl (by kernel_rfl) (by rfl) (fun K hK => ?_)
  go_simp
  refine (lent6 _ B _ (H0.out.b.grown (grown_trans HB.out.2 G2.out.1)) (by have := HL.out.2.2.1; omega)).mono ?_
  rintro e w3 ⟨m2, rfl, n2, g3⟩
  have G3 : Hid (w0.grownBy w3 none ∧ w2.grownBy w3 none ∧ Lent w3 w0.heap.size m2 B) := ⟨grown_trans G2.out.1 g3, g3, n2.mono G2.out.1.size⟩
  clear n2 g3
  go_wp2_with fail
  refine hK.out _ _ (fun _ => G3.out.1) ?_
  clear hK K
  try simp only [Act.put, List.setIfInBounds_toArray, List.set_cons_zero, List.set_cons_succ]
  refine wpHold_one (i := 11) rfl (by kernel_rfl) (by rfl) (fun K hK => ?_)
  go_simp
  refine (lent6 _ C _ (H0.out.c.grown (grown_trans HB.out.2 G3.out.1)) (by have := HL.out.2.2.2.1; omega)).mono ?_
  rintro e w4 ⟨m3, rfl, n3, g4⟩
  have G4 : Hid (w0.grownBy w4 none ∧ w3.grownBy w4 none ∧ Lent w4 w0.heap.size m3 C) := ⟨grown_trans G3.out.1 g4, g4, n3.mono G3.out.1.size⟩
  clear n3 g4
  go_wp2_with fail
  refine hK.out _ _ (fun _ => G4.out.1) ?_
  clear hK K
  try simp only [Act.put, List.setIfInBounds_toArray, List.set_cons_zero, List.set_cons_succ]
  refine wpHold_one (i := 14) rfl (by kernel_rfl) (by rfl) (fun K hK => ?_)
  go_simp
  refine (lent6 _ D _ (H0.out.d.grown (grown_trans HB.out.2 G4.out.1)) (by have := HL.out.2.2.2.2; omega)).mono ?_
  rintro e w5 ⟨m4, rfl, n4, g5⟩
  have G5 : Hid (w0.grownBy w5 none ∧ w4.grownBy w5 none ∧ Lent w5 w0.heap.size m4 D) := ⟨grown_trans G4.out.1 g5, g5, n4.mono G4.out.1.size⟩
  clear n4 g5
  go_wp2_with fail
  refine hK.out _ _ (fun _ => G5.out.1) ?_
  clear hK K
  try simp only [Act.put, List.setIfInBounds_toArray, List.set_cons_zero, List.set_cons_succ]
  refine wpHold_take (i := 15) (v := _) (G5.out.1) rfl rfl (by kernel_rfl) (by kernel_rfl) (by kernel_rfl) (by kernel_rfl) (by kernel_rfl) (fun _ _ _ h => h) (by rfl) (fun wk hk => by obtain ⟨k0, k1, k2, k3, k4⟩ := HQ.out wk hk; go_simp; try rfl) ?_
  try simp only [Act.put, List.setIfInBounds_toArray, List.set_cons_zero, List.set_cons_succ]
  refine wpHold_take (i := 16) (v := _) (G5.out.1) rfl rfl (by kernel_rfl) (by kernel_rfl) (by kernel_rfl) (by kernel_rfl) (by kernel_rfl) (fun _ _ _ h => h) (by rfl) (fun wk hk => by obtain ⟨k0, k1, k2, k3, k4⟩ := HQ.out wk hk; go_simp; try rfl) ?_
  try simp only [Act.put, List.setIfInBounds_toArray, List.set_cons_zero, List.set_cons_succ]
  refine wpHold_take (i := 17) (v := _) (G5.out.1) rfl rfl (by kernel_rfl) (by kernel_rfl) (by kernel_rfl) (by kernel_rfl) (by kernel_rfl) (fun _ _ _ h => h) (by rfl) (fun wk hk => by obtain ⟨k0, k1, k2, k3, k4⟩ := HQ.out wk hk; go_simp; try rfl) ?_
  try simp only [Act.put, List.setIfInBounds_toArray, List.set_cons_zero, List.set_cons_succ]
  refine wpHold_take (i := 18) (v := _) (G5.out.1) rfl rfl (by kernel_rfl) (by kernel_rfl) (by kernel_rfl) (by kernel_rfl) (by kernel_rfl) (fun _ _ _ h => h) (by rfl) (fun wk hk => by obtain ⟨k0, k1, k2, k3, k4⟩ := HQ.out wk hk; go_simp; try rfl) ?_
  try simp only [Act.put, List.setIfInBounds_toArray, List.set_cons_zero, List.set_cons_succ]
  refine wpHold_take (i := 19) (v := _) (G5.out.1) rfl rfl (by kernel_rfl) (by kernel_rfl) (by kernel_rfl) (by kernel_rfl) (by kernel_rfl) (fun _ _ _ h => h) (by rfl) (fun wk hk => by obtain ⟨k0, k1, k2, k3, k4⟩ := HQ.out wk hk; go_simp; try rfl) ?_
  try simp only [Act.put, List.setIfInBounds_toArray, List.set_cons_zero, List.set_cons_succ]
  refine wpHold_done (by kernel_rfl) ?_
  refine (‹∀ (a : Act) (w : World), Code.wp Try.prog _ _ a w → _› _ _ ?_)
  have H5 : Hid (w.grownBy w5 none ∧ Five w5 k a b c d KK A B C D ∧ Fives w5 w0.heap.size m0 m1 m2 m3 m4 KK A B C D) := by
    have g := grown_trans HB.out.2 G5.out.1
    refine ⟨g, H0.out.grown g, ?_⟩
    exact ⟨lent_grown G1.out.2 (grown_trans (grown_trans (grown_trans G2.out.2.1 G3.out.2.1) G4.out.2.1) G5.out.2.1), lent_grown G2.out.2.2 (grown_trans (grown_trans G3.out.2.1 G4.out.2.1) G5.out.2.1), lent_grown G3.out.2.2 (grown_trans G4.out.2.1 G5.out.2.1), lent_grown G4.out.2.2 G5.out.2.1, G5.out.2.2⟩
  have HC : Hid (∀ x : World, w5.grownBy x none → x.cell? ⟨w.heap.size, 0, none⟩ = some k ∧ x.cell? ⟨w.heap.size, 1, none⟩ = some a ∧ x.cell? ⟨w.heap.size, 2, none⟩ = some b ∧ x.cell? ⟨w.heap.size, 3, none⟩ = some c ∧ x.cell? ⟨w.heap.size, 4, none⟩ = some d) := fun x hx => HQ.out x (grown_trans G5.out.1 hx)
  clear G1 G2 G3 G4 G5 HQ HB H0
  go_wp2_with fail
  refine (next21 _ KK _ H5.out.2.2.k.seg (by have := HL.out.1; omega)).mono ?_
  rintro e w6 ⟨nx, rfl, cn, gn⟩
  have H6 : Hid (Cut w6 w5.heap.size nx (KK ++ [0]) ∧ w5.grownBy w6 none) := ⟨cn, gn⟩
  clear cn gn
  go_wp2_with fail
  refine (behind22 _ A _ (H5.out.2.2.a.seg.grown H6.out.2) (by have := HL.out.2.1; omega)).mono ?_
  rintro e w7 ⟨bh, rfl, cb, gb⟩
  have H7 : Hid (Cut w7 w6.heap.size bh (behindL A) ∧ w6.grownBy w7 none ∧ w5.grownBy w7 none) := ⟨cb, gb, grown_trans H6.out.2 gb⟩
  clear cb gb
  obtain ⟨x0, x1, x2, x3, x4⟩ := HC.out w7 H7.out.2.2
  go_wp2_with fail
  refine (behind23 _ A _ (H5.out.2.1.a.grown H7.out.2.2) (by have := HL.out.2.1; omega)).mono ?_
  rintro e w8 ⟨wt, rfl, cw, gw⟩
  have H8 : Hid (Seg w8 wt (behindL A) ∧ w7.grownBy w8 none ∧ w5.grownBy w8 none) := ⟨cw.seg, gw, grown_trans H7.out.2.2 gw⟩
  clear cw gw x0 x1 x2 x3 x4
  go_wp2_with fail
  refine (meet24 _ _ _ _ A B C D _ (H5.out.2.2.a.seg.grown H8.out.2.2) (H5.out.2.2.b.seg.grown H8.out.2.2) (H5.out.2.2.c.seg.grown H8.out.2.2) (H5.out.2.2.d.seg.grown H8.out.2.2) (by have := HL.out.2.1; omega) (by have := HL.out.2.2.1; omega) (by have := HL.out.2.2.2.1; omega) (by have := HL.out.2.2.2.2; omega)).mono ?_
  rintro e w9 ⟨vx, vy, rfl, t1, t2, t3, t4⟩
  have H9 : Hid (Cut w9 w8.heap.size vx (meetA A B C D) ∧ Cut w9 w8.heap.size vy (meetZ A B C D) ∧ (∀ q, vx.ownBlock = some q → vy.ownBlock ≠ some q) ∧ w8.grownBy w9 none ∧ w5.grownBy w9 none) := ⟨t1, t2, t3, t4, grown_trans H8.out.2.2 t4⟩
  clear t1 t2 t3 t4
  obtain ⟨x0, x1, x2, x3, x4⟩ := HC.out w9 H9.out.2.2.2.2
  go_wp2_with fail
  refine (meet25 _ _ _ _ A B C D _ (H5.out.2.1.a.grown H9.out.2.2.2.2) (H5.out.2.1.b.grown H9.out.2.2.2.2) (H5.out.2.1.c.grown H9.out.2.2.2.2) (H5.out.2.1.d.grown H9.out.2.2.2.2) (by have := HL.out.2.1; omega) (by have := HL.out.2.2.1; omega) (by have := HL.out.2.2.2.1; omega) (by have := HL.out.2.2.2.2; omega)).mono ?_
  rintro e w10 ⟨vp, vq, rfl, s1, s2, g10⟩
  have H10 : Hid (Seg w10 vp (meetA A B C D) ∧ Seg w10 vq (meetZ A B C D) ∧ w9.grownBy w10 none ∧ w5.grownBy w10 none) := ⟨s1, s2, g10, grown_trans H9.out.2.2.2.2 g10⟩
  clear s1 s2 g10 x0 x1 x2 x3 x4
  generalize behindB A = ok
  generalize meetB A B C D = sm
  go_upto_region 7 with fail
  go_cut [131] (fun x wc => x = .bool false ∧ ∃ m, wc = w10.drewN m)
  case first =>
    obtain ⟨x0, x1, x2, x3, x4⟩ := HC.out w10 H10.out.2.2.2
    have a0 := H5.out.2.1.k.grown H10.out.2.2.2
    have a1 := H5.out.2.1.a.grown H10.out.2.2.2
    have a2 := H5.out.2.1.b.grown H10.out.2.2.2
    have b0 := H5.out.2.2.k.seg.grown H10.out.2.2.2
    have b1 := H5.out.2.2.a.seg.grown H10.out.2.2.2
    have b2 := H5.out.2.2.b.seg.grown H10.out.2.2.2
    have cv1 : ∀ q, (convert 22 9 nx).run Try.prog (w10.drewN q) = .ok (.string ⟨(KK ++ [0]).toArray⟩) (w10.drewN q) := fun q => seg_str (seg_drewN (((H6.out.1.seg.grown H7.out.2.1).grown H8.out.2.1).grown (grown_trans H9.out.2.2.2.1 H10.out.2.2.1)) q)
    have cv2 : ∀ q, (convert 22 9 k).run Try.prog (w10.drewN q) = .ok (.string ⟨KK.toArray⟩) (w10.drewN q) := fun q => seg_str (seg_drewN a0 q)
    have sa : ∀ wk, (Op.stringOp .add ⟨KK.toArray⟩ ⟨#[0]⟩).run Try.prog wk = .ok (.string ⟨(KK ++ [0]).toArray⟩) wk := fun wk => str_add KK [0] wk (by have := HL.out.1; simp; omega)
    have cv3 : ∀ q, (convert 22 9 bh).run Try.prog (w10.drewN q) = .ok (.string ⟨(behindL A).toArray⟩) (w10.drewN q) := fun q => seg_str (seg_drewN ((H7.out.1.seg.grown H8.out.2.1).grown (grown_trans H9.out.2.2.2.1 H10.out.2.2.1)) q)
    have cv4 : ∀ q, (convert 22 9 wt).run Try.prog (w10.drewN q) = .ok (.string ⟨(behindL A).toArray⟩) (w10.drewN q) := fun q => seg_str (seg_drewN (H8.out.1.grown (grown_trans H9.out.2.2.2.1 H10.out.2.2.1)) q)
    have cv5 : ∀ q, (convert 22 9 vx).run Try.prog (w10.drewN q) = .ok (.string ⟨(meetA A B C D).toArray⟩) (w10.drewN q) := fun q => seg_str (seg_drewN (H9.out.1.seg.grown H10.out.2.2.1) q)
    have cv6 : ∀ q, (convert 22 9 vp).run Try.prog (w10.drewN q) = .ok (.string ⟨(meetA A B C D).toArray⟩) (w10.drewN q) := fun q => seg_str (seg_drewN H10.out.1 q)
    have cv7 : ∀ q, (convert 22 9 vy).run Try.prog (w10.drewN q) = .ok (.string ⟨(meetZ A B C D).toArray⟩) (w10.drewN q) := fun q => seg_str (seg_drewN (H9.out.2.1.seg.grown H10.out.2.2.1) q)
    have cv8 : ∀ q, (convert 22 9 vq).run Try.prog (w10.drewN q) = .ok (.string ⟨(meetZ A B C D).toArray⟩) (w10.drewN q) := fun q => seg_str (seg_drewN H10.out.2.1 q)
    generalize (⟨(KK ++ [0]).toArray⟩ : ByteArray) = X1 at cv1 sa
    generalize (⟨KK.toArray⟩ : ByteArray) = X2 at cv2 sa
    generalize (⟨(behindL A).toArray⟩ : ByteArray) = X3 at cv3 cv4
    generalize (⟨(meetA A B C D).toArray⟩ : ByteArray) = X4 at cv5 cv6
    generalize (⟨(meetZ A B C D).toArray⟩ : ByteArray) = X5 at cv7 cv8
    clear H5 H6 H7 H8 H9 H10 HC HL
    go_wp2_with fail
    go_quiet (first | (go_at_call 26; exact cmp26q _ _ _ _ _ _ (by assumption) (by assumption)) | (go_at_call 27; exact cmp27q _ _ _ _ _ _ (by assumption) (by assumption)) | (go_at_call 28; exact in28q _ _ _ _ _ _ _ _ (by assumption) (by assumption) (by assumption)) | (go_at_call 29; exact in29q _ _ _ _ _ _ _ _ (by assumption) (by assumption) (by assumption)))
    go_wp2_with fail
    go_meet
    case rel => exact ⟨by first | rfl | simp, _, rfl⟩
  case rest =>
  obtain ⟨rfl, m10, hwc⟩ := hcut
  have H11 : Hid (Cut wc w5.heap.size nx (KK ++ [0]) ∧ Cut wc w6.heap.size bh (behindL A) ∧ Cut wc w8.heap.size vx (meetA A B C D) ∧ Cut wc w8.heap.size vy (meetZ A B C D) ∧ w5.grownBy wc none ∧ w10.grownBy wc none) := by
    have g : w10.grownBy wc none := by rw [hwc]; exact grown_drewN _ _ _
    have g9 := grown_trans H10.out.2.2.1 g
    have g8 := grown_trans H9.out.2.2.2.1 g9
    have g7 := grown_trans H8.out.2.1 g8
    exact ⟨H6.out.1.grown (grown_trans H7.out.2.1 g7), H7.out.1.grown g7, H9.out.1.grown g9, H9.out.2.1.grown g9, grown_trans H10.out.2.2.2 g, g⟩
  have HA : Hid ((∀ q, nx.ownBlock = some q → w5.heap.size ≤ q ∧ q < w6.heap.size) ∧ (∀ q, bh.ownBlock = some q → w6.heap.size ≤ q ∧ q < w7.heap.size) ∧ (∀ q, vx.ownBlock = some q → w8.heap.size ≤ q) ∧ (∀ q, vy.ownBlock = some q → w8.heap.size ≤ q) ∧ (∀ q, vx.ownBlock = some q → vy.ownBlock ≠ some q) ∧ w5.heap.size ≤ w6.heap.size ∧ w6.heap.size ≤ w7.heap.size ∧ w7.heap.size ≤ w8.heap.size) :=
    ⟨H6.out.1.lt, H7.out.1.lt, fun q hq => (H9.out.1.lt q hq).1, fun q hq => (H9.out.2.1.lt q hq).1, H9.out.2.2.1, H6.out.2.size, H7.out.2.1.size, H8.out.2.1.size⟩
  have HZ : Hid (w6.heap.size ≤ wc.heap.size ∧ w8.heap.size ≤ wc.heap.size) := by
    have h10 := H11.out.2.2.2.2.2.size
    have h9 := H10.out.2.2.1.size
    have h8 := H9.out.2.2.2.1.size
    have h7 := H8.out.2.1.size
    have h6 := H7.out.2.1.size
    exact ⟨by omega, by omega⟩
  clear hwc H10 H9 H8 H7 H6
  generalize wc = w11 at H11 HZ ⊢
  go_wp2_with fail
  refine (spoil19 _ _ _ _ H11.out.1 H11.out.2.2.2.2.1.size (by have := HL.out.1; simp; omega)).mono ?_
  rintro e w12 ⟨rfl, g12⟩
  have H12 : Hid (Cut w12 w6.heap.size bh (behindL A) ∧ Cut w12 w8.heap.size vx (meetA A B C D) ∧ Cut w12 w8.heap.size vy (meetZ A B C D) ∧ w5.grownBy w12 none ∧ w11.heap.size ≤ w12.heap.size) := by
    obtain ⟨h1, h2, h3, h4, h5, h6⟩ := H11.out
    obtain ⟨n1, n2, n3, n4, n5, z1, z2, z3⟩ := HA.out
    refine ⟨h2.same fun q hq => g12.block q (h2.lt q hq).2 (fun e => ?_), h3.same fun q hq => g12.block q (h3.lt q hq).2 (fun e => ?_), h4.same fun q hq => g12.block q (h4.lt q hq).2 (fun e => ?_), grown_new h5 g12 (fun q hq => (n1 q hq).1), g12.size⟩
    · have := n1 q e.symm; have := n2 q hq; omega
    · have := n1 q e.symm; have := n3 q hq; omega
    · have := n1 q e.symm; have := n4 q hq; omega
  clear g12
  go_wp2_with fail
  refine (spoil19 _ _ _ _ H12.out.1 (by have := H12.out.2.2.2.2; have := HZ.out.1; omega) (by have := behind_len HL.out.2.1; omega)).mono ?_
  rintro e w13 ⟨rfl, g13⟩
  have H13 : Hid (Cut w13 w8.heap.size vx (meetA A B C D) ∧ Cut w13 w8.heap.size vy (meetZ A B C D) ∧ w5.grownBy w13 none ∧ w11.heap.size ≤ w13.heap.size) := by
    obtain ⟨h2, h3, h4, h5, h6⟩ := H12.out
    obtain ⟨n1, n2, n3, n4, n5, z1, z2, z3⟩ := HA.out
    refine ⟨h3.same fun q hq => g13.block q (h3.lt q hq).2 (fun e => ?_), h4.same fun q hq => g13.block q (h4.lt q hq).2 (fun e => ?_), grown_new h5 g13 (fun q hq => by have := n2 q hq; omega), Nat.le_trans h6 g13.size⟩
    · have := n2 q e.symm; have := n3 q hq; omega
    · have := n2 q e.symm; have := n4 q hq; omega
  clear g13
  go_wp2_with fail
  refine (spoil19 _ _ _ _ H13.out.1 (by have := H13.out.2.2.2; have := HZ.out.2; omega) (by have := meetA_len (B := B) (D := D) HL.out.2.1 HL.out.2.2.2.1; omega)).mono ?_
  rintro e w14 ⟨rfl, g14⟩
  have H14 : Hid (Cut w14 w8.heap.size vy (meetZ A B C D) ∧ w5.grownBy w14 none ∧ w11.heap.size ≤ w14.heap.size) := by
    obtain ⟨h3, h4, h5, h6⟩ := H13.out
    obtain ⟨n1, n2, n3, n4, n5, z1, z2, z3⟩ := HA.out
    refine ⟨h4.same fun q hq => g14.block q (h4.lt q hq).2 (fun e => ?_), grown_new h5 g14 (fun q hq => by have := n3 q hq; omega), Nat.le_trans h6 g14.size⟩
    exact n5 q e.symm hq
  clear g14
  go_wp2_with fail
  refine (spoil19 _ _ _ _ H14.out.1 (by have := H14.out.2.2; have := HZ.out.2; omega) (by have := meetZ_len (A := A) (C := C) HL.out.2.2.1 HL.out.2.2.2.2; omega)).mono ?_
  rintro e w15 ⟨rfl, g15⟩
  have H15 : Hid (w5.grownBy w15 none) := by
    obtain ⟨n1, n2, n3, n4, n5, z1, z2, z3⟩ := HA.out
    exact grown_new H14.out.2.1 g15 (fun q hq => by have := n4 q hq; omega)
  clear g15
  have H16 : Hid (w.grownBy w15 none ∧ Five w15 k a b c d KK A B C D ∧ Fives w15 w0.heap.size m0 m1 m2 m3 m4 KK A B C D) := ⟨grown_trans H5.out.1 H15.out, H5.out.2.1.grown H15.out, H5.out.2.2.grown H15.out⟩
  obtain ⟨x0, x1, x2, x3, x4⟩ := HC.out w15 H15.out
  clear H11 H12 H13 H14 HA HZ HC H5 H15
  have gd : Hid (∀ q, w15.grownBy (w15.drewN q) none) := fun q => grown_drewN _ _ _
  go_wp2_with fail
  refine (left18 _ _ _ KK _ H16.out.2.2.k H16.out.2.1.k (by have := HL.out.1; omega)).mono ?_
  rintro e wq ⟨rfl, q1, hq⟩
  rw [hq]
  clear hq wq
  go_wp2_with fail
  refine (left18 _ _ _ A _ (lent_grown H16.out.2.2.a (gd.out _)) (H16.out.2.1.a.grown (gd.out _)) (by have := HL.out.2.1; omega)).mono ?_
  rintro e wq ⟨rfl, q2, hq⟩
  rw [hq, World.drewN_drewN]
  clear hq wq
  go_wp2_with fail
  refine (left18 _ _ _ B _ (lent_grown H16.out.2.2.b (gd.out _)) (H16.out.2.1.b.grown (gd.out _)) (by have := HL.out.2.2.1; omega)).mono ?_
  rintro e wq ⟨rfl, q3, hq⟩
  rw [hq, World.drewN_drewN]
  clear hq wq
  go_wp2_with fail
  refine (left18 _ _ _ C _ (lent_grown H16.out.2.2.c (gd.out _)) (H16.out.2.1.c.grown (gd.out _)) (by have := HL.out.2.2.2.1; omega)).mono ?_
  rintro e wq ⟨rfl, q4, hq⟩
  rw [hq, World.drewN_drewN]
  clear hq wq
  go_wp2_with fail
  refine (left18 _ _ _ D _ (lent_grown H16.out.2.2.d (gd.out _)) (H16.out.2.1.d.grown (gd.out _)) (by have := HL.out.2.2.2.2; omega)).mono ?_
  rintro e wq ⟨rfl, q5, hq⟩
  rw [hq, World.drewN_drewN]
  clear hq wq x0 x1 x2 x3 x4
  go_wp2_with fail
  refine (known20 _).mono ?_
  rintro e w17 ⟨rfl, g17⟩
  have H17 : Hid (w.grownBy w17 none) := grown_trans (grown_trans H16.out.1 (gd.out _)) g17
  clear g17
  go_wp2_with fail
  go_ret
  exact ⟨rfl, H17.out⟩
end Go.Proofs.Ytahpkgglkibikaa
