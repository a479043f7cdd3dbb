/-
  The program's disk: Of, New.
-/
import Derived.Test.YtegacmcekladfaaK
namespace Go.Proofs.Ytegacmcekladfaa
open Go.RowKit

/-- A list of slices of bytes. -/
def Segs (w : World) (v : Value) (Ls : List (List UInt8)) : Prop :=
  ∃ ao cap, v = .slice ao Ls.length cap ∧ Ls.length ≤ 9223372036854775807 ∧ ∀ j (hj : j < Ls.length), ∃ b off x, ao = some ⟨b, off, none⟩ ∧ w.cell? ⟨b, off + j, none⟩ = some x ∧ Seg w x Ls[j]

theorem Segs.grown {w w' : World} {v : Value} {Ls : List (List UInt8)} (h : Segs w v Ls) (hg : w.grownBy w' none) : Segs w' v Ls := by
  obtain ⟨ao, cap, h1, h2, h3⟩ := h
  refine ⟨ao, cap, h1, h2, fun j hj => ?_⟩
  obtain ⟨b, off, x, q1, q2, q3⟩ := h3 j hj
  exact ⟨b, off, x, q1, hg.cell q2 (by simp), q3.grown hg⟩
theorem segs_nil (w : World) : Segs w (.slice none 0 0) [] := ⟨none, 0, rfl, by simp, fun j hj => absurd hj (by simp)⟩

/-- How a disk stands at first. -/
def St.of (c : Nat) (log : List UInt8) (Ls : List (List UInt8)) : St := { cap := c, log := log, sure := log.length, h0 := decide (0 < Ls.length), b0 := Ls.getD 0 [], h1 := decide (1 < Ls.length), b1 := Ls.getD 1 [], last := if Ls.length = 0 then 1 else 0, steps := 0 }

set_option maxHeartbeats 400000 in
theorem firstLast26 (h0 h1 : Bool) (v0 v1 : Value) (w : World) : Calls Try.prog 26 #[.agg #[.bool h0, v0, .bool h1, v1]] w fun e w' => e = .returned (.int .i64 (if h0 then 0 else 1)) ∧ w.grownBy w' none := by
  cases h0
  all_goals
    go_enter Try.func26, Try.ntmps26
    go_wp2_with fail
    go_ret
    exact ⟨rfl, World.grownBy_alloc _ _ _⟩

set_option maxRecDepth 100000 in
set_option maxHeartbeats 400000 in
theorem of7_bad (c : Int) (u v : Value) (log : List UInt8) (Ls : List (List UInt8)) (w : World) (_hu : Seg w u log) (hv : Segs w v Ls) (hbad : c < 1 ∨ 1048576 < c ∨ 2 < Ls.length) :
    Calls Try.prog 7 #[.int .i64 c, u, v] w fun e w' => e = .returned (.tuple #[.pointer none, .int .i64 2]) ∧ w.grownBy w' none := by
  obtain ⟨ao, cap, rfl, hlen, _⟩ := hv
  by_cases h1 : c < 1
  · go_enter Try.func7, Try.ntmps7
    go_wp2_with fail
    go_ret2
    exact ⟨rfl, World.grownBy_alloc _ _ _⟩
  · by_cases h2 : 1048576 < c
    · go_enter Try.func7, Try.ntmps7
      go_wp2_with fail
      go_ret2
      exact ⟨rfl, World.grownBy_alloc _ _ _⟩
    · have h3 : 2 < Ls.length := by omega
      have h4 : (2 : Int) < (Ls.length : Int) := by omega
      clear hbad
      go_enter Try.func7, Try.ntmps7
      go_wp2_with fail
      go_ret2
      exact ⟨rfl, World.grownBy_alloc _ _ _⟩

set_option maxRecDepth 100000 in
set_option maxHeartbeats 1000000 in
theorem of7_0 (c : Nat) (u v : Value) (log : List UInt8) (w : World) (hu : Seg w u log) (hv : Segs w v []) (hc1 : 1 ≤ c) (hc2 : c ≤ 1048576) (hl : log.length ≤ 140737488351232) :
    Calls Try.prog 7 #[.int .i64 c, u, v] w fun e w' => ∃ p, e = .returned (.tuple #[p, .int .i64 0]) ∧ DNew w w' p (St.of c log []) := by
  obtain ⟨ao, cap, rfl, hlen, hcells⟩ := hv
  obtain ⟨au, cu, huv⟩ := hu.shape
  subst huv
  have HU : Hid (Seg w (.slice au log.length cu) log) := hu
  have HT : Hid (Blk (w.alloc (.cells #[.bool false, .slice none 0 0, .bool false, .slice none 0 0] 52)) w.heap.size 52 #[.bool false, .slice none 0 0, .bool false, .slice none 0 0] ∧ w.grownBy (w.alloc (.cells #[.bool false, .slice none 0 0, .bool false, .slice none 0 0] 52)) none) := ⟨heap_alloc_new _ _, World.grownBy_alloc _ _ _⟩
  clear hu hcells hlen
  go_enter Try.func7, Try.ntmps7
  go_wp2_with fail
  generalize w.alloc (.cells #[.bool false, .slice none 0 0, .bool false, .slice none 0 0] 52) = w0 at HT ⊢
  refine wp_loop_rounds 1 ?_
  rw [rounds_succ]
  go_wp2_with fail
  have HC : Hid (∀ x : World, w0.grownBy x none → x.cell? ⟨w.heap.size, 0, none⟩ = some (.bool false) ∧ x.cell? ⟨w.heap.size, 1, none⟩ = some (.slice none 0 0) ∧ x.cell? ⟨w.heap.size, 2, none⟩ = some (.bool false) ∧ x.cell? ⟨w.heap.size, 3, none⟩ = some (.slice none 0 0)) := fun x hx => by
    have hc := HT.out.1.grown hx (by simp)
    exact ⟨hc.cell 0, hc.cell 1, hc.cell 2, hc.cell 3⟩
  refine wp_region_noPanic ?_
  refine wp_region_hold 1000 (fun x => w0.grownBy x none) (by kernel_rfl) ?_
  refine wpHold_take (i := 0) (v := _) (grown_drew _ _) rfl rfl (by kernel_rfl) (by kernel_rfl) (by kernel_rfl) (by kernel_rfl) (by kernel_rfl) (fun _ _ _ h => h) (by rfl) (fun wk hk => by obtain ⟨k0, k1, k2, k3⟩ := HC.out wk hk; go_simp; try rfl) ?_
  try simp only [Act.put, List.setIfInBounds_toArray, List.set_cons_zero, List.set_cons_succ]
  refine wpHold_take (i := 1) (v := _) (grown_drew _ _) rfl rfl (by kernel_rfl) (by kernel_rfl) (by kernel_rfl) (by kernel_rfl) (by kernel_rfl) (fun _ _ _ h => h) (by rfl) (fun wk hk => by obtain ⟨k0, k1, k2, k3⟩ := HC.out wk hk; go_simp; try rfl) ?_
  try simp only [Act.put, List.setIfInBounds_toArray, List.set_cons_zero, List.set_cons_succ]
  refine wpHold_take (i := 3) (v := _) (grown_drew _ _) rfl rfl (by kernel_rfl) (by kernel_rfl) (by kernel_rfl) (by kernel_rfl) (by kernel_rfl) (fun _ _ _ h => h) (by rfl) (fun wk hk => by obtain ⟨k0, k1, k2, k3⟩ := HC.out wk hk; go_simp; try rfl) ?_
  try simp only [Act.put, List.setIfInBounds_toArray, List.set_cons_zero, List.set_cons_succ]
  refine wpHold_take (i := 4) (v := _) (grown_drew _ _) rfl rfl (by kernel_rfl) (by kernel_rfl) (by kernel_rfl) (by kernel_rfl) (by kernel_rfl) (fun _ _ _ h => h) (by rfl) (fun wk hk => by obtain ⟨k0, k1, k2, k3⟩ := HC.out wk hk; go_simp; try rfl) ?_
  try simp only [Act.put, List.setIfInBounds_toArray, List.set_cons_zero, List.set_cons_succ]
  refine wpHold_take (i := 5) (v := _) (grown_drew _ _) rfl rfl (by kernel_rfl) (by kernel_rfl) (by kernel_rfl) (by kernel_rfl) (by kernel_rfl) (fun _ _ _ h => h) (by rfl) (fun wk hk => by obtain ⟨k0, k1, k2, k3⟩ := HC.out wk hk; go_simp; try rfl) ?_
  try simp only [Act.put, List.setIfInBounds_toArray, List.set_cons_zero, List.set_cons_succ]
  refine wpHold_take (i := 6) (v := _) (grown_drew _ _) rfl rfl (by kernel_rfl) (by kernel_rfl) (by kernel_rfl) (by kernel_rfl) (by kernel_rfl) (fun _ _ _ h => h) (by rfl) (fun wk hk => by obtain ⟨k0, k1, k2, k3⟩ := HC.out wk hk; go_simp; try rfl) ?_
  try simp only [Act.put, List.setIfInBounds_toArray, List.set_cons_zero, List.set_cons_succ]
  refine wpHold_one (i := 2) rfl (by kernel_rfl) (by rfl) (fun K hK => ?_)
  go_simp
  refine (clone25 _ log _ (Seg.grown HU.out (grown_trans HT.out.2 (grown_drew _ _))) (by omega)).mono ?_
  rintro e w5 ⟨u5, rfl, o5, g5⟩
  obtain ⟨x5, y5, e5⟩ := o5.seg.shape
  subst e5
  have G5 : Hid (w0.grownBy w5 none ∧ Own w5 w0.heap.size (.slice x5 log.length y5) log) := ⟨grown_trans (grown_drew _ _) g5, o5⟩
  clear o5 g5
  go_wp2_with fail
  refine hK.out _ _ (fun _ => G5.out.1) ?_
  clear hK K
  try simp only [Act.put, List.setIfInBounds_toArray, List.set_cons_zero, List.set_cons_succ]
  refine wpHold_one (i := 7) rfl (by kernel_rfl) (by rfl) (fun K hK => ?_)
  go_simp
  refine (firstLast26 _ _ _ _ _).mono ?_
  rintro e w6 ⟨rfl, g6⟩
  have G6 : Hid (w0.grownBy w6 none ∧ Own w6 w0.heap.size (.slice x5 log.length y5) log) := ⟨grown_trans G5.out.1 g6, Own.grown G5.out.2 g6⟩
  clear G5 g6
  go_wp2_with fail
  refine hK.out _ _ (fun _ => G6.out.1) ?_
  clear hK K
  try simp only [Act.put, List.setIfInBounds_toArray, List.set_cons_zero, List.set_cons_succ]
  refine wpHold_take (i := 8) (v := _) (G6.out.1) rfl rfl (by kernel_rfl) (by kernel_rfl) (by kernel_rfl) (by kernel_rfl) (by kernel_rfl) (fun _ _ _ h => h) (by rfl) (fun wk hk => by obtain ⟨k0, k1, k2, k3⟩ := HC.out wk hk; go_simp; try rfl) ?_
  try simp only [Act.put, List.setIfInBounds_toArray, List.set_cons_zero, List.set_cons_succ]
  refine wpHold_one (i := 9) rfl (by kernel_rfl) (by rfl) (fun K hK => ?_)
  go_wp2_with fail
  refine hK.out _ _ (fun _ => grown_trans G6.out.1 (World.grownBy_alloc _ _ _)) ?_
  clear hK K
  try simp only [Act.put, List.setIfInBounds_toArray, List.set_cons_zero, List.set_cons_succ]
  refine wpHold_take (i := 10) (v := _) (grown_trans G6.out.1 (World.grownBy_alloc _ _ _)) rfl rfl (by kernel_rfl) (by kernel_rfl) (by kernel_rfl) (by kernel_rfl) (by kernel_rfl) (fun _ _ _ h => h) (by rfl) (fun wk hk => by obtain ⟨k0, k1, k2, k3⟩ := HC.out wk hk; go_simp; try rfl) ?_
  try simp only [Act.put, List.setIfInBounds_toArray, List.set_cons_zero, List.set_cons_succ]
  refine wpHold_take (i := 11) (v := _) (grown_trans G6.out.1 (World.grownBy_alloc _ _ _)) rfl rfl (by kernel_rfl) (by kernel_rfl) (by kernel_rfl) (by kernel_rfl) (by kernel_rfl) (fun _ _ _ h => h) (by rfl) (fun wk hk => by obtain ⟨k0, k1, k2, k3⟩ := HC.out wk hk; go_simp; try rfl) ?_
  try simp only [Act.put, List.setIfInBounds_toArray, List.set_cons_zero, List.set_cons_succ]
  refine wpHold_done (by kernel_rfl) ?_
  refine (‹∀ (a : Act) (w : World), Code.wp Try.prog Code.ret _ a w → _› _ _ ?_)
  go_wp2_with fail
  go_ret2
  refine ⟨_, rfl, grown_trans HT.out.2 (grown_trans G6.out.1 (World.grownBy_alloc _ _ _)), fun k => w.heap.size ≤ k ∧ k < w6.heap.size + 1, ⟨w6.heap.size, .slice x5 log.length y5, .slice none 0 0, .slice none 0 0, rfl, ?_⟩, fun k hk => hk.1⟩
  have hz4 := HT.out.2.size
  have hz5 := G6.out.1.size
  have g6 := World.grownBy_alloc w6 (.cells (dC (St.of c log []) (.slice x5 log.length y5) (.slice none 0 0) (.slice none 0 0)) 54) none
  have p0 : Own w6 (w.heap.size + 1) (.slice none 0 0) [] := Own.nil _ _
  have ap0 : ∀ k, (Value.slice x5 log.length y5).ownBlock = some k → (Value.slice none 0 0).ownBlock ≠ some k := fun k _ e => by simp [Value.ownBlock] at e
  have p1 : Own w6 (w.heap.size + 1) (.slice none 0 0) [] := Own.nil _ _
  have ap1 : ∀ k, (Value.slice x5 log.length y5).ownBlock = some k → (Value.slice none 0 0).ownBlock ≠ some k := fun k _ e => by simp [Value.ownBlock] at e
  refine ⟨heap_alloc_new _ _, Own.mono (Own.grown G6.out.2 g6) (Nat.zero_le _), Own.mono (Own.grown p0 g6) (Nat.zero_le _), Own.mono (Own.grown p1 g6) (Nat.zero_le _), ap0, ap1, ⟨by omega, by omega⟩, fun k hk => ?_, fun k hk => ?_, fun k hk => ?_, fun k hk => ?_, ⟨hc1, hc2, hl, Nat.le_refl _, by simp [St.of], by simp [St.of], by simp [St.of], by simp [St.of], by simp [St.of], by simp [St.of]⟩⟩
  · have h1 := G6.out.2.lt k hk
    exact ⟨by omega, by omega⟩
  · have h1 := p0.lt k hk
    exact ⟨by omega, by omega⟩
  · have h1 := p1.lt k hk
    exact ⟨by omega, by omega⟩
  · have := hk.2
    simp
    omega

set_option maxRecDepth 100000 in
set_option maxHeartbeats 1000000 in
theorem of7_1 (c : Nat) (u v : Value) (log A : List UInt8) (w : World) (hu : Seg w u log) (hv : Segs w v [A]) (hc1 : 1 ≤ c) (hc2 : c ≤ 1048576) (hl : log.length ≤ 140737488351232) (hA : A.length ≤ 140737488351232) :
    Calls Try.prog 7 #[.int .i64 c, u, v] w fun e w' => ∃ p, e = .returned (.tuple #[p, .int .i64 0]) ∧ DNew w w' p (St.of c log [A]) := by
  obtain ⟨ao, cap, rfl, hlen, hcells⟩ := hv
  obtain ⟨au, cu, huv⟩ := hu.shape
  subst huv
  have HU : Hid (Seg w (.slice au log.length cu) log) := hu
  obtain ⟨bb, off, s0, rfl, q0, t0⟩ := hcells 0 (by simp)
  have HQ : Hid (w.cell? ⟨bb, off + 0, none⟩ = some s0 ∧ Seg w s0 A) := ⟨q0, t0⟩
  clear q0 t0
  have HT : Hid (Blk (w.alloc (.cells #[.bool false, .slice none 0 0, .bool false, .slice none 0 0] 52)) w.heap.size 52 #[.bool false, .slice none 0 0, .bool false, .slice none 0 0] ∧ w.grownBy (w.alloc (.cells #[.bool false, .slice none 0 0, .bool false, .slice none 0 0] 52)) none) := ⟨heap_alloc_new _ _, World.grownBy_alloc _ _ _⟩
  clear hu hcells hlen
  go_enter Try.func7, Try.ntmps7
  go_wp2_with fail
  generalize w.alloc (.cells #[.bool false, .slice none 0 0, .bool false, .slice none 0 0] 52) = w0 at HT ⊢
  refine wp_loop_rounds 2 ?_
  rw [rounds_succ]
  have z0 : w0.cell? ⟨bb, off + 0, none⟩ = some s0 := World.grownBy.cell HT.out.2 HQ.out.1 (by simp)
  obtain ⟨m0, n0, hs0⟩ := (HQ.out.2 : Seg w s0 A).shape
  subst hs0
  try rw [Nat.add_zero] at z0
  go_wp2_with fail
  refine (holding24 _ A _ (Seg.grown HQ.out.2 HT.out.2) (by omega)).mono ?_
  rintro e v0 ⟨g0, rfl, o0, r0⟩
  obtain ⟨x0, y0, hx⟩ := o0.seg.shape
  subst hx
  have hb := HT.out.1.grown r0 (by simp)
  have k0 := hb.cell 0
  have k1 := hb.cell 1
  have f0 := hb.free 0
  have f1 := hb.free 1
  simp at k0 k1
  have HN : Hid (Blk ((v0.setCell ⟨w.heap.size, 0, none⟩ (.bool true)).setCell ⟨w.heap.size, 1, none⟩ (.slice x0 A.length y0)) w.heap.size 52 #[.bool true, .slice x0 A.length y0, .bool false, .slice none 0 0] ∧ w.grownBy ((v0.setCell ⟨w.heap.size, 0, none⟩ (.bool true)).setCell ⟨w.heap.size, 1, none⟩ (.slice x0 A.length y0)) none ∧ Own ((v0.setCell ⟨w.heap.size, 0, none⟩ (.bool true)).setCell ⟨w.heap.size, 1, none⟩ (.slice x0 A.length y0)) (w.heap.size + 1) (.slice x0 A.length y0) A) := by
    have gg : v0.grownBy ((v0.setCell ⟨w.heap.size, 0, none⟩ (.bool true)).setCell ⟨w.heap.size, 1, none⟩ (.slice x0 A.length y0)) (some w.heap.size) := grown_trans (grown_setCell _ _ _ _) (grown_setCell _ _ _ _)
    have q : ∀ {t L}, Own v0 (w.heap.size + 1) t L → Own ((v0.setCell ⟨w.heap.size, 0, none⟩ (.bool true)).setCell ⟨w.heap.size, 1, none⟩ (.slice x0 A.length y0)) (w.heap.size + 1) t L := fun {t L} ho => World.ownsRow.kept ho gg (.inr (ho.other hb (by decide)))
    have hz := HT.out.1.lt
    exact ⟨(hb.store 0 _).store 1 _, grown_new (grown_trans HT.out.2 r0) gg (by intro x hx; simp at hx; omega), q (o0.mono (by omega))⟩
  clear o0 r0 hb HT z0
  have HT : Hid _ := HN.out
  clear HN
  go_wp2_with fail
  generalize (v0.setCell ⟨w.heap.size, 0, none⟩ (.bool true)).setCell ⟨w.heap.size, 1, none⟩ (.slice x0 A.length y0) = w1 at HT ⊢
  clear k0 k1 f0 f1
  rw [rounds_succ]
  go_wp2_with fail
  have HC : Hid (∀ x : World, w1.grownBy x none → x.cell? ⟨w.heap.size, 0, none⟩ = some (.bool true) ∧ x.cell? ⟨w.heap.size, 1, none⟩ = some (.slice x0 A.length y0) ∧ x.cell? ⟨w.heap.size, 2, none⟩ = some (.bool false) ∧ x.cell? ⟨w.heap.size, 3, none⟩ = some (.slice none 0 0)) := fun x hx => by
    have hc := HT.out.1.grown hx (by simp)
    exact ⟨hc.cell 0, hc.cell 1, hc.cell 2, hc.cell 3⟩
  refine wp_region_noPanic ?_
  refine wp_region_hold 1000 (fun x => w1.grownBy x none) (by kernel_rfl) ?_
  refine wpHold_take (i := 0) (v := _) (grown_drew _ _) rfl rfl (by kernel_rfl) (by kernel_rfl) (by kernel_rfl) (by kernel_rfl) (by kernel_rfl) (fun _ _ _ h => h) (by rfl) (fun wk hk => by obtain ⟨k0, k1, k2, k3⟩ := HC.out wk hk; go_simp; try rfl) ?_
  try simp only [Act.put, List.setIfInBounds_toArray, List.set_cons_zero, List.set_cons_succ]
  refine wpHold_take (i := 1) (v := _) (grown_drew _ _) rfl rfl (by kernel_rfl) (by kernel_rfl) (by kernel_rfl) (by kernel_rfl) (by kernel_rfl) (fun _ _ _ h => h) (by rfl) (fun wk hk => by obtain ⟨k0, k1, k2, k3⟩ := HC.out wk hk; go_simp; try rfl) ?_
  try simp only [Act.put, List.setIfInBounds_toArray, List.set_cons_zero, List.set_cons_succ]
  refine wpHold_take (i := 3) (v := _) (grown_drew _ _) rfl rfl (by kernel_rfl) (by kernel_rfl) (by kernel_rfl) (by kernel_rfl) (by kernel_rfl) (fun _ _ _ h => h) (by rfl) (fun wk hk => by obtain ⟨k0, k1, k2, k3⟩ := HC.out wk hk; go_simp; try rfl) ?_
  try simp only [Act.put, List.setIfInBounds_toArray, List.set_cons_zero, List.set_cons_succ]
  refine wpHold_take (i := 4) (v := _) (grown_drew _ _) rfl rfl (by kernel_rfl) (by kernel_rfl) (by kernel_rfl) (by kernel_rfl) (by kernel_rfl) (fun _ _ _ h => h) (by rfl) (fun wk hk => by obtain ⟨k0, k1, k2, k3⟩ := HC.out wk hk; go_simp; try rfl) ?_
  try simp only [Act.put, List.setIfInBounds_toArray, List.set_cons_zero, List.set_cons_succ]
  refine wpHold_take (i := 5) (v := _) (grown_drew _ _) rfl rfl (by kernel_rfl) (by kernel_rfl) (by kernel_rfl) (by kernel_rfl) (by kernel_rfl) (fun _ _ _ h => h) (by rfl) (fun wk hk => by obtain ⟨k0, k1, k2, k3⟩ := HC.out wk hk; go_simp; try rfl) ?_
  try simp only [Act.put, List.setIfInBounds_toArray, List.set_cons_zero, List.set_cons_succ]
  refine wpHold_take (i := 6) (v := _) (grown_drew _ _) rfl rfl (by kernel_rfl) (by kernel_rfl) (by kernel_rfl) (by kernel_rfl) (by kernel_rfl) (fun _ _ _ h => h) (by rfl) (fun wk hk => by obtain ⟨k0, k1, k2, k3⟩ := HC.out wk hk; go_simp; try rfl) ?_
  try simp only [Act.put, List.setIfInBounds_toArray, List.set_cons_zero, List.set_cons_succ]
  refine wpHold_one (i := 2) rfl (by kernel_rfl) (by rfl) (fun K hK => ?_)
  go_simp
  refine (clone25 _ log _ (Seg.grown HU.out (grown_trans HT.out.2.1 (grown_drew _ _))) (by omega)).mono ?_
  rintro e w5 ⟨u5, rfl, o5, g5⟩
  obtain ⟨x5, y5, e5⟩ := o5.seg.shape
  subst e5
  have G5 : Hid (w1.grownBy w5 none ∧ Own w5 w1.heap.size (.slice x5 log.length y5) log) := ⟨grown_trans (grown_drew _ _) g5, o5⟩
  clear o5 g5
  go_wp2_with fail
  refine hK.out _ _ (fun _ => G5.out.1) ?_
  clear hK K
  try simp only [Act.put, List.setIfInBounds_toArray, List.set_cons_zero, List.set_cons_succ]
  refine wpHold_one (i := 7) rfl (by kernel_rfl) (by rfl) (fun K hK => ?_)
  go_simp
  refine (firstLast26 _ _ _ _ _).mono ?_
  rintro e w6 ⟨rfl, g6⟩
  have G6 : Hid (w1.grownBy w6 none ∧ Own w6 w1.heap.size (.slice x5 log.length y5) log) := ⟨grown_trans G5.out.1 g6, Own.grown G5.out.2 g6⟩
  clear G5 g6
  go_wp2_with fail
  refine hK.out _ _ (fun _ => G6.out.1) ?_
  clear hK K
  try simp only [Act.put, List.setIfInBounds_toArray, List.set_cons_zero, List.set_cons_succ]
  refine wpHold_take (i := 8) (v := _) (G6.out.1) rfl rfl (by kernel_rfl) (by kernel_rfl) (by kernel_rfl) (by kernel_rfl) (by kernel_rfl) (fun _ _ _ h => h) (by rfl) (fun wk hk => by obtain ⟨k0, k1, k2, k3⟩ := HC.out wk hk; go_simp; try rfl) ?_
  try simp only [Act.put, List.setIfInBounds_toArray, List.set_cons_zero, List.set_cons_succ]
  refine wpHold_one (i := 9) rfl (by kernel_rfl) (by rfl) (fun K hK => ?_)
  go_wp2_with fail
  refine hK.out _ _ (fun _ => grown_trans G6.out.1 (World.grownBy_alloc _ _ _)) ?_
  clear hK K
  try simp only [Act.put, List.setIfInBounds_toArray, List.set_cons_zero, List.set_cons_succ]
  refine wpHold_take (i := 10) (v := _) (grown_trans G6.out.1 (World.grownBy_alloc _ _ _)) rfl rfl (by kernel_rfl) (by kernel_rfl) (by kernel_rfl) (by kernel_rfl) (by kernel_rfl) (fun _ _ _ h => h) (by rfl) (fun wk hk => by obtain ⟨k0, k1, k2, k3⟩ := HC.out wk hk; go_simp; try rfl) ?_
  try simp only [Act.put, List.setIfInBounds_toArray, List.set_cons_zero, List.set_cons_succ]
  refine wpHold_take (i := 11) (v := _) (grown_trans G6.out.1 (World.grownBy_alloc _ _ _)) rfl rfl (by kernel_rfl) (by kernel_rfl) (by kernel_rfl) (by kernel_rfl) (by kernel_rfl) (fun _ _ _ h => h) (by rfl) (fun wk hk => by obtain ⟨k0, k1, k2, k3⟩ := HC.out wk hk; go_simp; try rfl) ?_
  try simp only [Act.put, List.setIfInBounds_toArray, List.set_cons_zero, List.set_cons_succ]
  refine wpHold_done (by kernel_rfl) ?_
  refine (‹∀ (a : Act) (w : World), Code.wp Try.prog Code.ret _ a w → _› _ _ ?_)
  go_wp2_with fail
  go_ret2
  refine ⟨_, rfl, grown_trans HT.out.2.1 (grown_trans G6.out.1 (World.grownBy_alloc _ _ _)), fun k => w.heap.size ≤ k ∧ k < w6.heap.size + 1, ⟨w6.heap.size, .slice x5 log.length y5, .slice x0 A.length y0, .slice none 0 0, rfl, ?_⟩, fun k hk => hk.1⟩
  have hz4 := HT.out.2.1.size
  have hz5 := G6.out.1.size
  have g6 := World.grownBy_alloc w6 (.cells (dC (St.of c log [A]) (.slice x5 log.length y5) (.slice x0 A.length y0) (.slice none 0 0)) 54) none
  have p0 := Own.grown HT.out.2.2 G6.out.1
  have ap0 : ∀ k, (Value.slice x5 log.length y5).ownBlock = some k → (Value.slice x0 A.length y0).ownBlock ≠ some k := fun k hk e => by
    have h1 := (G6.out.2.lt k hk).1
    have h2 := (Own.lt HT.out.2.2 k e).2
    omega
  have p1 : Own w6 (w.heap.size + 1) (.slice none 0 0) [] := Own.nil _ _
  have ap1 : ∀ k, (Value.slice x5 log.length y5).ownBlock = some k → (Value.slice none 0 0).ownBlock ≠ some k := fun k _ e => by simp [Value.ownBlock] at e
  refine ⟨heap_alloc_new _ _, Own.mono (Own.grown G6.out.2 g6) (Nat.zero_le _), Own.mono (Own.grown p0 g6) (Nat.zero_le _), Own.mono (Own.grown p1 g6) (Nat.zero_le _), ap0, ap1, ⟨by omega, by omega⟩, fun k hk => ?_, fun k hk => ?_, fun k hk => ?_, fun k hk => ?_, ⟨hc1, hc2, hl, Nat.le_refl _, hA, by simp [St.of], by simp [St.of], by simp [St.of], by simp [St.of], by simp [St.of]⟩⟩
  · have h1 := G6.out.2.lt k hk
    exact ⟨by omega, by omega⟩
  · have h1 := p0.lt k hk
    exact ⟨by omega, by omega⟩
  · have h1 := p1.lt k hk
    exact ⟨by omega, by omega⟩
  · have := hk.2
    simp
    omega

set_option maxRecDepth 100000 in
set_option maxHeartbeats 1000000 in
theorem of7_2 (c : Nat) (u v : Value) (log A B : List UInt8) (w : World) (hu : Seg w u log) (hv : Segs w v [A, B]) (hc1 : 1 ≤ c) (hc2 : c ≤ 1048576) (hl : log.length ≤ 140737488351232) (hA : A.length ≤ 140737488351232) (hB : B.length ≤ 140737488351232) :
    Calls Try.prog 7 #[.int .i64 c, u, v] w fun e w' => ∃ p, e = .returned (.tuple #[p, .int .i64 0]) ∧ DNew w w' p (St.of c log [A, B]) := by
  obtain ⟨ao, cap, rfl, hlen, hcells⟩ := hv
  obtain ⟨au, cu, huv⟩ := hu.shape
  subst huv
  have HU : Hid (Seg w (.slice au log.length cu) log) := hu
  obtain ⟨bb, off, s0, rfl, q0, t0⟩ := hcells 0 (by simp)
  obtain ⟨_, _, s1, e1, q1, t1⟩ := hcells 1 (by simp)
  simp at e1
  obtain ⟨rfl, rfl⟩ := e1
  have HQ : Hid (w.cell? ⟨bb, off + 0, none⟩ = some s0 ∧ Seg w s0 A ∧ w.cell? ⟨bb, off + 1, none⟩ = some s1 ∧ Seg w s1 B) := ⟨q0, t0, q1, t1⟩
  clear q0 t0 q1 t1
  have HT : Hid (Blk (w.alloc (.cells #[.bool false, .slice none 0 0, .bool false, .slice none 0 0] 52)) w.heap.size 52 #[.bool false, .slice none 0 0, .bool false, .slice none 0 0] ∧ w.grownBy (w.alloc (.cells #[.bool false, .slice none 0 0, .bool false, .slice none 0 0] 52)) none) := ⟨heap_alloc_new _ _, World.grownBy_alloc _ _ _⟩
  clear hu hcells hlen
  go_enter Try.func7, Try.ntmps7
  go_wp2_with fail
  generalize w.alloc (.cells #[.bool false, .slice none 0 0, .bool false, .slice none 0 0] 52) = w0 at HT ⊢
  refine wp_loop_rounds 3 ?_
  rw [rounds_succ]
  have z0 : w0.cell? ⟨bb, off + 0, none⟩ = some s0 := World.grownBy.cell HT.out.2 HQ.out.1 (by simp)
  obtain ⟨m0, n0, hs0⟩ := (HQ.out.2.1 : Seg w s0 A).shape
  subst hs0
  try rw [Nat.add_zero] at z0
  go_wp2_with fail
  refine (holding24 _ A _ (Seg.grown HQ.out.2.1 HT.out.2) (by omega)).mono ?_
  rintro e v0 ⟨g0, rfl, o0, r0⟩
  obtain ⟨x0, y0, hx⟩ := o0.seg.shape
  subst hx
  have hb := HT.out.1.grown r0 (by simp)
  have k0 := hb.cell 0
  have k1 := hb.cell 1
  have f0 := hb.free 0
  have f1 := hb.free 1
  simp at k0 k1
  have HN : Hid (Blk ((v0.setCell ⟨w.heap.size, 0, none⟩ (.bool true)).setCell ⟨w.heap.size, 1, none⟩ (.slice x0 A.length y0)) w.heap.size 52 #[.bool true, .slice x0 A.length y0, .bool false, .slice none 0 0] ∧ w.grownBy ((v0.setCell ⟨w.heap.size, 0, none⟩ (.bool true)).setCell ⟨w.heap.size, 1, none⟩ (.slice x0 A.length y0)) none ∧ Own ((v0.setCell ⟨w.heap.size, 0, none⟩ (.bool true)).setCell ⟨w.heap.size, 1, none⟩ (.slice x0 A.length y0)) (w.heap.size + 1) (.slice x0 A.length y0) A) := by
    have gg : v0.grownBy ((v0.setCell ⟨w.heap.size, 0, none⟩ (.bool true)).setCell ⟨w.heap.size, 1, none⟩ (.slice x0 A.length y0)) (some w.heap.size) := grown_trans (grown_setCell _ _ _ _) (grown_setCell _ _ _ _)
    have q : ∀ {t L}, Own v0 (w.heap.size + 1) t L → Own ((v0.setCell ⟨w.heap.size, 0, none⟩ (.bool true)).setCell ⟨w.heap.size, 1, none⟩ (.slice x0 A.length y0)) (w.heap.size + 1) t L := fun {t L} ho => World.ownsRow.kept ho gg (.inr (ho.other hb (by decide)))
    have hz := HT.out.1.lt
    exact ⟨(hb.store 0 _).store 1 _, grown_new (grown_trans HT.out.2 r0) gg (by intro x hx; simp at hx; omega), q (o0.mono (by omega))⟩
  clear o0 r0 hb HT z0
  have HT : Hid _ := HN.out
  clear HN
  go_wp2_with fail
  generalize (v0.setCell ⟨w.heap.size, 0, none⟩ (.bool true)).setCell ⟨w.heap.size, 1, none⟩ (.slice x0 A.length y0) = w1 at HT ⊢
  clear k0 k1 f0 f1
  rw [rounds_succ]
  have z1 : w1.cell? ⟨bb, off + 1, none⟩ = some s1 := World.grownBy.cell HT.out.2.1 HQ.out.2.2.1 (by simp)
  obtain ⟨m1, n1, hs1⟩ := (HQ.out.2.2.2 : Seg w s1 B).shape
  subst hs1
  try rw [Nat.add_zero] at z1
  go_wp2_with fail
  refine (holding24 _ B _ (Seg.grown HQ.out.2.2.2 HT.out.2.1) (by omega)).mono ?_
  rintro e v1 ⟨g1, rfl, o1, r1⟩
  obtain ⟨x1, y1, hx⟩ := o1.seg.shape
  subst hx
  have hb := HT.out.1.grown r1 (by simp)
  have k0 := hb.cell 2
  have k1 := hb.cell 3
  have f0 := hb.free 2
  have f1 := hb.free 3
  simp at k0 k1
  have HN : Hid (Blk ((v1.setCell ⟨w.heap.size, 2, none⟩ (.bool true)).setCell ⟨w.heap.size, 3, none⟩ (.slice x1 B.length y1)) w.heap.size 52 #[.bool true, .slice x0 A.length y0, .bool true, .slice x1 B.length y1] ∧ w.grownBy ((v1.setCell ⟨w.heap.size, 2, none⟩ (.bool true)).setCell ⟨w.heap.size, 3, none⟩ (.slice x1 B.length y1)) none ∧ Own ((v1.setCell ⟨w.heap.size, 2, none⟩ (.bool true)).setCell ⟨w.heap.size, 3, none⟩ (.slice x1 B.length y1)) (w.heap.size + 1) (.slice x0 A.length y0) A ∧ Own ((v1.setCell ⟨w.heap.size, 2, none⟩ (.bool true)).setCell ⟨w.heap.size, 3, none⟩ (.slice x1 B.length y1)) (w.heap.size + 1) (.slice x1 B.length y1) B) := by
    have gg : v1.grownBy ((v1.setCell ⟨w.heap.size, 2, none⟩ (.bool true)).setCell ⟨w.heap.size, 3, none⟩ (.slice x1 B.length y1)) (some w.heap.size) := grown_trans (grown_setCell _ _ _ _) (grown_setCell _ _ _ _)
    have q : ∀ {t L}, Own v1 (w.heap.size + 1) t L → Own ((v1.setCell ⟨w.heap.size, 2, none⟩ (.bool true)).setCell ⟨w.heap.size, 3, none⟩ (.slice x1 B.length y1)) (w.heap.size + 1) t L := fun {t L} ho => World.ownsRow.kept ho gg (.inr (ho.other hb (by decide)))
    have hz := HT.out.1.lt
    exact ⟨(hb.store 2 _).store 3 _, grown_new (grown_trans HT.out.2.1 r1) gg (by intro x hx; simp at hx; omega), q (Own.grown HT.out.2.2 r1), q (o1.mono (by omega))⟩
  clear o1 r1 hb HT z1
  have HT : Hid _ := HN.out
  clear HN
  go_wp2_with fail
  generalize (v1.setCell ⟨w.heap.size, 2, none⟩ (.bool true)).setCell ⟨w.heap.size, 3, none⟩ (.slice x1 B.length y1) = w2 at HT ⊢
  clear k0 k1 f0 f1
  rw [rounds_succ]
  go_wp2_with fail
  have HC : Hid (∀ x : World, w2.grownBy x none → x.cell? ⟨w.heap.size, 0, none⟩ = some (.bool true) ∧ x.cell? ⟨w.heap.size, 1, none⟩ = some (.slice x0 A.length y0) ∧ x.cell? ⟨w.heap.size, 2, none⟩ = some (.bool true) ∧ x.cell? ⟨w.heap.size, 3, none⟩ = some (.slice x1 B.length y1)) := fun x hx => by
    have hc := HT.out.1.grown hx (by simp)
    exact ⟨hc.cell 0, hc.cell 1, hc.cell 2, hc.cell 3⟩
  refine wp_region_noPanic ?_
  refine wp_region_hold 1000 (fun x => w2.grownBy x none) (by kernel_rfl) ?_
  refine wpHold_take (i := 0) (v := _) (grown_drew _ _) rfl rfl (by kernel_rfl) (by kernel_rfl) (by kernel_rfl) (by kernel_rfl) (by kernel_rfl) (fun _ _ _ h => h) (by rfl) (fun wk hk => by obtain ⟨k0, k1, k2, k3⟩ := HC.out wk hk; go_simp; try rfl) ?_
  try simp only [Act.put, List.setIfInBounds_toArray, List.set_cons_zero, List.set_cons_succ]
  refine wpHold_take (i := 1) (v := _) (grown_drew _ _) rfl rfl (by kernel_rfl) (by kernel_rfl) (by kernel_rfl) (by kernel_rfl) (by kernel_rfl) (fun _ _ _ h => h) (by rfl) (fun wk hk => by obtain ⟨k0, k1, k2, k3⟩ := HC.out wk hk; go_simp; try rfl) ?_
  try simp only [Act.put, List.setIfInBounds_toArray, List.set_cons_zero, List.set_cons_succ]
  refine wpHold_take (i := 3) (v := _) (grown_drew _ _) rfl rfl (by kernel_rfl) (by kernel_rfl) (by kernel_rfl) (by kernel_rfl) (by kernel_rfl) (fun _ _ _ h => h) (by rfl) (fun wk hk => by obtain ⟨k0, k1, k2, k3⟩ := HC.out wk hk; go_simp; try rfl) ?_
  try simp only [Act.put, List.setIfInBounds_toArray, List.set_cons_zero, List.set_cons_succ]
  refine wpHold_take (i := 4) (v := _) (grown_drew _ _) rfl rfl (by kernel_rfl) (by kernel_rfl) (by kernel_rfl) (by kernel_rfl) (by kernel_rfl) (fun _ _ _ h => h) (by rfl) (fun wk hk => by obtain ⟨k0, k1, k2, k3⟩ := HC.out wk hk; go_simp; try rfl) ?_
  try simp only [Act.put, List.setIfInBounds_toArray, List.set_cons_zero, List.set_cons_succ]
  refine wpHold_take (i := 5) (v := _) (grown_drew _ _) rfl rfl (by kernel_rfl) (by kernel_rfl) (by kernel_rfl) (by kernel_rfl) (by kernel_rfl) (fun _ _ _ h => h) (by rfl) (fun wk hk => by obtain ⟨k0, k1, k2, k3⟩ := HC.out wk hk; go_simp; try rfl) ?_
  try simp only [Act.put, List.setIfInBounds_toArray, List.set_cons_zero, List.set_cons_succ]
  refine wpHold_take (i := 6) (v := _) (grown_drew _ _) rfl rfl (by kernel_rfl) (by kernel_rfl) (by kernel_rfl) (by kernel_rfl) (by kernel_rfl) (fun _ _ _ h => h) (by rfl) (fun wk hk => by obtain ⟨k0, k1, k2, k3⟩ := HC.out wk hk; go_simp; try rfl) ?_
  try simp only [Act.put, List.setIfInBounds_toArray, List.set_cons_zero, List.set_cons_succ]
  refine wpHold_one (i := 2) rfl (by kernel_rfl) (by rfl) (fun K hK => ?_)
  go_simp
  refine (clone25 _ log _ (Seg.grown HU.out (grown_trans HT.out.2.1 (grown_drew _ _))) (by omega)).mono ?_
  rintro e w5 ⟨u5, rfl, o5, g5⟩
  obtain ⟨x5, y5, e5⟩ := o5.seg.shape
  subst e5
  have G5 : Hid (w2.grownBy w5 none ∧ Own w5 w2.heap.size (.slice x5 log.length y5) log) := ⟨grown_trans (grown_drew _ _) g5, o5⟩
  clear o5 g5
  go_wp2_with fail
  refine hK.out _ _ (fun _ => G5.out.1) ?_
  clear hK K
  try simp only [Act.put, List.setIfInBounds_toArray, List.set_cons_zero, List.set_cons_succ]
  refine wpHold_one (i := 7) rfl (by kernel_rfl) (by rfl) (fun K hK => ?_)
  go_simp
  refine (firstLast26 _ _ _ _ _).mono ?_
  rintro e w6 ⟨rfl, g6⟩
  have G6 : Hid (w2.grownBy w6 none ∧ Own w6 w2.heap.size (.slice x5 log.length y5) log) := ⟨grown_trans G5.out.1 g6, Own.grown G5.out.2 g6⟩
  clear G5 g6
  go_wp2_with fail
  refine hK.out _ _ (fun _ => G6.out.1) ?_
  clear hK K
  try simp only [Act.put, List.setIfInBounds_toArray, List.set_cons_zero, List.set_cons_succ]
  refine wpHold_take (i := 8) (v := _) (G6.out.1) rfl rfl (by kernel_rfl) (by kernel_rfl) (by kernel_rfl) (by kernel_rfl) (by kernel_rfl) (fun _ _ _ h => h) (by rfl) (fun wk hk => by obtain ⟨k0, k1, k2, k3⟩ := HC.out wk hk; go_simp; try rfl) ?_
  try simp only [Act.put, List.setIfInBounds_toArray, List.set_cons_zero, List.set_cons_succ]
  refine wpHold_one (i := 9) rfl (by kernel_rfl) (by rfl) (fun K hK => ?_)
  go_wp2_with fail
  refine hK.out _ _ (fun _ => grown_trans G6.out.1 (World.grownBy_alloc _ _ _)) ?_
  clear hK K
  try simp only [Act.put, List.setIfInBounds_toArray, List.set_cons_zero, List.set_cons_succ]
  refine wpHold_take (i := 10) (v := _) (grown_trans G6.out.1 (World.grownBy_alloc _ _ _)) rfl rfl (by kernel_rfl) (by kernel_rfl) (by kernel_rfl) (by kernel_rfl) (by kernel_rfl) (fun _ _ _ h => h) (by rfl) (fun wk hk => by obtain ⟨k0, k1, k2, k3⟩ := HC.out wk hk; go_simp; try rfl) ?_
  try simp only [Act.put, List.setIfInBounds_toArray, List.set_cons_zero, List.set_cons_succ]
  refine wpHold_take (i := 11) (v := _) (grown_trans G6.out.1 (World.grownBy_alloc _ _ _)) rfl rfl (by kernel_rfl) (by kernel_rfl) (by kernel_rfl) (by kernel_rfl) (by kernel_rfl) (fun _ _ _ h => h) (by rfl) (fun wk hk => by obtain ⟨k0, k1, k2, k3⟩ := HC.out wk hk; go_simp; try rfl) ?_
  try simp only [Act.put, List.setIfInBounds_toArray, List.set_cons_zero, List.set_cons_succ]
  refine wpHold_done (by kernel_rfl) ?_
  refine (‹∀ (a : Act) (w : World), Code.wp Try.prog Code.ret _ a w → _› _ _ ?_)
  go_wp2_with fail
  go_ret2
  refine ⟨_, rfl, grown_trans HT.out.2.1 (grown_trans G6.out.1 (World.grownBy_alloc _ _ _)), fun k => w.heap.size ≤ k ∧ k < w6.heap.size + 1, ⟨w6.heap.size, .slice x5 log.length y5, .slice x0 A.length y0, .slice x1 B.length y1, rfl, ?_⟩, fun k hk => hk.1⟩
  have hz4 := HT.out.2.1.size
  have hz5 := G6.out.1.size
  have g6 := World.grownBy_alloc w6 (.cells (dC (St.of c log [A, B]) (.slice x5 log.length y5) (.slice x0 A.length y0) (.slice x1 B.length y1)) 54) none
  have p0 := Own.grown HT.out.2.2.1 G6.out.1
  have ap0 : ∀ k, (Value.slice x5 log.length y5).ownBlock = some k → (Value.slice x0 A.length y0).ownBlock ≠ some k := fun k hk e => by
    have h1 := (G6.out.2.lt k hk).1
    have h2 := (Own.lt HT.out.2.2.1 k e).2
    omega
  have p1 := Own.grown HT.out.2.2.2 G6.out.1
  have ap1 : ∀ k, (Value.slice x5 log.length y5).ownBlock = some k → (Value.slice x1 B.length y1).ownBlock ≠ some k := fun k hk e => by
    have h1 := (G6.out.2.lt k hk).1
    have h2 := (Own.lt HT.out.2.2.2 k e).2
    omega
  refine ⟨heap_alloc_new _ _, Own.mono (Own.grown G6.out.2 g6) (Nat.zero_le _), Own.mono (Own.grown p0 g6) (Nat.zero_le _), Own.mono (Own.grown p1 g6) (Nat.zero_le _), ap0, ap1, ⟨by omega, by omega⟩, fun k hk => ?_, fun k hk => ?_, fun k hk => ?_, fun k hk => ?_, ⟨hc1, hc2, hl, Nat.le_refl _, hA, hB, by simp [St.of], by simp [St.of], by simp [St.of], by simp [St.of]⟩⟩
  · have h1 := G6.out.2.lt k hk
    exact ⟨by omega, by omega⟩
  · have h1 := p0.lt k hk
    exact ⟨by omega, by omega⟩
  · have h1 := p1.lt k hk
    exact ⟨by omega, by omega⟩
  · have := hk.2
    simp
    omega

theorem of7 (c : Nat) (u v : Value) (log : List UInt8) (Ls : List (List UInt8)) (w : World) (hu : Seg w u log) (hv : Segs w v Ls) (hc1 : 1 ≤ c) (hc2 : c ≤ 1048576) (h2 : Ls.length ≤ 2) (hl : log.length ≤ 140737488351232) (hL : ∀ L ∈ Ls, L.length ≤ 140737488351232) :
    Calls Try.prog 7 #[.int .i64 c, u, v] w fun e w' => ∃ p, e = .returned (.tuple #[p, .int .i64 0]) ∧ DNew w w' p (St.of c log Ls) :=
  match Ls, h2, hv, hL with
  | [], _, hv, _ => of7_0 c u v log w hu hv hc1 hc2 hl
  | [A], _, hv, hL => of7_1 c u v log A w hu hv hc1 hc2 hl (hL A (by simp))
  | [A, B], _, hv, hL => of7_2 c u v log A B w hu hv hc1 hc2 hl (hL A (by simp)) (hL B (by simp))

set_option maxHeartbeats 400000 in
theorem new42 (c : Nat) (w : World) (hc1 : 1 ≤ c) (hc2 : c ≤ 1048576) :
    Calls Try.prog 42 #[.int .i64 c] w fun e w' => ∃ p, e = .returned (.tuple #[p, .int .i64 0]) ∧ DNew w w' p (St.of c [] []) := by
  go_enter Try.func42, Try.ntmps42
  go_wp2_with fail
  refine (of7_0 c _ _ [] w (seg_nil _) (segs_nil _) hc1 hc2 (by simp)).mono ?_
  rintro e w1 ⟨p, rfl, hp⟩
  have HP : Hid _ := hp
  clear hp
  go_wp2_with fail
  go_ret2
  exact ⟨_, rfl, HP.out⟩
end Go.Proofs.Ytegacmcekladfaa
