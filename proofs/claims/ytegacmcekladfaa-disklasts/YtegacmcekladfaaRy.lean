/-
  The document's disk: Copy, Stop, Of.
-/
import Derived.Test.YtegacmcekladfaaRx
namespace Go.Proofs.Ytegacmcekladfaa
open Go.RowKit

set_option maxRecDepth 100000 in
set_option maxHeartbeats 1000000 in
theorem ref41 (F : Nat → Prop) (v : Value) (S : St) (w : World) (h : RK w F v S) :
    Calls Try.prog 41 #[v] w fun e w' => ∃ p, e = .returned p ∧ RNew w w' p S := by
  obtain ⟨b, lv, v0, v1, rfl, h⟩ := h
  obtain ⟨c0, c1, c2, c3, c4, c5, c6, c7, c8⟩ := h.cells
  obtain ⟨al, cl, el⟩ := h.log.seg.shape
  obtain ⟨a0, cp0, e0⟩ := h.p0.seg.shape
  obtain ⟨a1, cp1, e1⟩ := h.p1.seg.shape
  subst el e0 e1
  have HS : Hid (RKb w F b (.slice al S.log.length cl) (.slice a0 S.b0.length cp0) (.slice a1 S.b1.length cp1) S) := h
  have HT : Hid (Blk (w.alloc (.cells (rC S (.slice al S.log.length cl) (.slice a0 S.b0.length cp0) (.slice a1 S.b1.length cp1)) 63)) w.heap.size 63 (rC S (.slice al S.log.length cl) (.slice a0 S.b0.length cp0) (.slice a1 S.b1.length cp1)) ∧ w.grownBy (w.alloc (.cells (rC S (.slice al S.log.length cl) (.slice a0 S.b0.length cp0) (.slice a1 S.b1.length cp1)) 63)) none) := ⟨heap_alloc_new _ _, World.grownBy_alloc _ _ _⟩
  have k1 : ∀ o, (w.alloc o).cell? ⟨b, 1, none⟩ = some (.slice al S.log.length cl) := fun o => (World.grownBy_alloc w o none).cell c1 (by simp)
  clear h
  unfold rC at HT
  go_enter Try.func41, Try.ntmps41
  go_wp2_with fail
  generalize w.alloc (.cells #[.int .i64 S.cap, .slice al S.log.length cl, .int .i64 S.sure, .slice a0 S.b0.length cp0, .slice a1 S.b1.length cp1, .bool S.h0, .bool S.h1, .int .i64 S.rlast, .int .i64 S.steps] 63) = w0 at HT ⊢
  refine (copy27 _ S.log _ (HS.out.log.seg.grown HT.out.2) (by have := HS.out.ok.log; omega)).mono ?_
  rintro e w1 ⟨u, rfl, o, g⟩
  obtain ⟨xl, yl, e⟩ := o.seg.shape
  subst e
  have hb := HT.out.1.grown g (by simp)
  have q1 := hb.cell 1
  have f1 := hb.free 1
  simp at q1
  have HN : Hid (Blk (w1.setCell ⟨w.heap.size, 1, none⟩ (.slice xl S.log.length yl)) w.heap.size 63 #[.int .i64 S.cap, .slice xl S.log.length yl, .int .i64 S.sure, .slice a0 S.b0.length cp0, .slice a1 S.b1.length cp1, .bool S.h0, .bool S.h1, .int .i64 S.rlast, .int .i64 S.steps] ∧ w.grownBy (w1.setCell ⟨w.heap.size, 1, none⟩ (.slice xl S.log.length yl)) none ∧ Own (w1.setCell ⟨w.heap.size, 1, none⟩ (.slice xl S.log.length yl)) (w.heap.size + 1) (.slice xl S.log.length yl) S.log) := by
    have hz := HT.out.1.lt
    exact ⟨hb.store 1 _, grown_new (grown_trans HT.out.2 g) (grown_setCell _ _ _ _) (by intro x hx; simp at hx; omega), Own.mono (World.ownsRow.kept o (grown_setCell _ _ _ _) (.inr (o.other hb (by decide)))) (by omega)⟩
  clear o g hb HT c1 c2 c5 c6 c7 c8 c0 k1
  go_wp2_with fail
  generalize w1.setCell ⟨w.heap.size, 1, none⟩ (.slice xl S.log.length yl) = w2 at HN ⊢
  clear q1 f1
  have HC : Hid (∀ x : World, w2.grownBy x none → x.cell? ⟨b, 3, none⟩ = some (.slice a0 S.b0.length cp0) ∧ x.cell? ⟨b, 4, none⟩ = some (.slice a1 S.b1.length cp1)) := fun x hx => ⟨(grown_trans HN.out.2.1 hx).cell c3 (by simp), (grown_trans HN.out.2.1 hx).cell c4 (by simp)⟩
  clear c3 c4
  refine wp_region_noPanic ?_
  refine wp_region_hold 14 (fun x => w2.grownBy x none) (by kernel_rfl) ?_
  refine wpHold_take (i := 0) (v := _) (grown_drew _ _) rfl rfl (by kernel_rfl) (by kernel_rfl) (by kernel_rfl) (by kernel_rfl) (by kernel_rfl) (fun _ _ _ h => h) (by rfl) (fun wk hk => by obtain ⟨k0, k1⟩ := HC.out wk hk; go_simp; try rfl) ?_
  try simp only [Act.put, List.setIfInBounds_toArray, List.set_cons_zero, List.set_cons_succ]
  refine wpHold_take (i := 1) (v := _) (grown_drew _ _) rfl rfl (by kernel_rfl) (by kernel_rfl) (by kernel_rfl) (by kernel_rfl) (by kernel_rfl) (fun _ _ _ h => h) (by rfl) (fun wk hk => by obtain ⟨k0, k1⟩ := HC.out wk hk; go_simp; try rfl) ?_
  try simp only [Act.put, List.setIfInBounds_toArray, List.set_cons_zero, List.set_cons_succ]
  refine wpHold_take (i := 2) (v := _) (grown_drew _ _) rfl rfl (by kernel_rfl) (by kernel_rfl) (by kernel_rfl) (by kernel_rfl) (by kernel_rfl) (fun _ _ _ h => h) (by rfl) (fun wk hk => by obtain ⟨k0, k1⟩ := HC.out wk hk; go_simp; try rfl) ?_
  try simp only [Act.put, List.setIfInBounds_toArray, List.set_cons_zero, List.set_cons_succ]
  refine wpHold_take (i := 3) (v := _) (grown_drew _ _) rfl rfl (by kernel_rfl) (by kernel_rfl) (by kernel_rfl) (by kernel_rfl) (by kernel_rfl) (fun _ _ _ h => h) (by rfl) (fun wk hk => by obtain ⟨k0, k1⟩ := HC.out wk hk; go_simp; try rfl) ?_
  try simp only [Act.put, List.setIfInBounds_toArray, List.set_cons_zero, List.set_cons_succ]
  refine wpHold_take (i := 4) (v := _) (grown_drew _ _) rfl rfl (by kernel_rfl) (by kernel_rfl) (by kernel_rfl) (by kernel_rfl) (by kernel_rfl) (fun _ _ _ h => h) (by rfl) (fun wk hk => by obtain ⟨k0, k1⟩ := HC.out wk hk; go_simp; try rfl) ?_
  try simp only [Act.put, List.setIfInBounds_toArray, List.set_cons_zero, List.set_cons_succ]
  refine wpHold_take (i := 6) (v := _) (grown_drew _ _) rfl rfl (by kernel_rfl) (by kernel_rfl) (by kernel_rfl) (by kernel_rfl) (by kernel_rfl) (fun _ _ _ h => h) (by rfl) (fun wk hk => by obtain ⟨k0, k1⟩ := HC.out wk hk; go_simp; try rfl) ?_
  try simp only [Act.put, List.setIfInBounds_toArray, List.set_cons_zero, List.set_cons_succ]
  refine wpHold_take (i := 7) (v := _) (grown_drew _ _) rfl rfl (by kernel_rfl) (by kernel_rfl) (by kernel_rfl) (by kernel_rfl) (by kernel_rfl) (fun _ _ _ h => h) (by rfl) (fun wk hk => by obtain ⟨k0, k1⟩ := HC.out wk hk; go_simp; try rfl) ?_
  try simp only [Act.put, List.setIfInBounds_toArray, List.set_cons_zero, List.set_cons_succ]
  refine wpHold_take (i := 8) (v := _) (grown_drew _ _) rfl rfl (by kernel_rfl) (by kernel_rfl) (by kernel_rfl) (by kernel_rfl) (by kernel_rfl) (fun _ _ _ h => h) (by rfl) (fun wk hk => by obtain ⟨k0, k1⟩ := HC.out wk hk; go_simp; try rfl) ?_
  try simp only [Act.put, List.setIfInBounds_toArray, List.set_cons_zero, List.set_cons_succ]
  refine wpHold_take (i := 9) (v := _) (grown_drew _ _) rfl rfl (by kernel_rfl) (by kernel_rfl) (by kernel_rfl) (by kernel_rfl) (by kernel_rfl) (fun _ _ _ h => h) (by rfl) (fun wk hk => by obtain ⟨k0, k1⟩ := HC.out wk hk; go_simp; try rfl) ?_
  try simp only [Act.put, List.setIfInBounds_toArray, List.set_cons_zero, List.set_cons_succ]
  refine wpHold_take (i := 10) (v := _) (grown_drew _ _) rfl rfl (by kernel_rfl) (by kernel_rfl) (by kernel_rfl) (by kernel_rfl) (by kernel_rfl) (fun _ _ _ h => h) (by rfl) (fun wk hk => by obtain ⟨k0, k1⟩ := HC.out wk hk; go_simp; try rfl) ?_
  try simp only [Act.put, List.setIfInBounds_toArray, List.set_cons_zero, List.set_cons_succ]
  refine wpHold_one (i := 5) rfl (by kernel_rfl) (by rfl) (fun K hK => ?_)
  go_simp
  refine (copy27 _ S.b0 _ (HS.out.p0.seg.grown (grown_trans HN.out.2.1 (grown_drew _ none))) (by have := HS.out.ok.l0; omega)).mono ?_
  rintro e w3 ⟨u3, rfl, o3, g3⟩
  obtain ⟨x0, y0, e⟩ := o3.seg.shape
  subst e
  have G3 : Hid (w2.grownBy w3 none ∧ Own w3 w2.heap.size (.slice x0 S.b0.length y0) S.b0) := ⟨grown_trans (grown_drew _ none) g3, o3⟩
  clear o3 g3
  go_wp2_with fail
  refine hK.out _ _ (fun _ => G3.out.1) ?_
  clear hK K
  try simp only [Act.put, List.setIfInBounds_toArray, List.set_cons_zero, List.set_cons_succ]
  refine wpHold_one (i := 11) rfl (by kernel_rfl) (by rfl) (fun K hK => ?_)
  go_simp
  refine (copy27 _ S.b1 _ (HS.out.p1.seg.grown (grown_trans HN.out.2.1 G3.out.1)) (by have := HS.out.ok.l1; omega)).mono ?_
  rintro e w4 ⟨u4, rfl, o4, g4⟩
  obtain ⟨x1, y1, e⟩ := o4.seg.shape
  subst e
  have G4 : Hid (w2.grownBy w4 none ∧ Own w4 w2.heap.size (.slice x0 S.b0.length y0) S.b0 ∧ Own w4 w2.heap.size (.slice x1 S.b1.length y1) S.b1) := ⟨grown_trans G3.out.1 g4, Own.grown G3.out.2 g4, o4.mono G3.out.1.size⟩
  clear o4 g4 G3
  go_wp2_with fail
  refine hK.out _ _ (fun _ => G4.out.1) ?_
  clear hK K
  try simp only [Act.put, List.setIfInBounds_toArray, List.set_cons_zero, List.set_cons_succ]
  refine wpHold_take (i := 12) (v := _) (G4.out.1) rfl rfl (by kernel_rfl) (by kernel_rfl) (by kernel_rfl) (by kernel_rfl) (by kernel_rfl) (fun _ _ _ h => h) (by rfl) (fun wk hk => by obtain ⟨k0, k1⟩ := HC.out wk hk; go_simp; try rfl) ?_
  try simp only [Act.put, List.setIfInBounds_toArray, List.set_cons_zero, List.set_cons_succ]
  refine wpHold_take (i := 13) (v := _) (G4.out.1) rfl rfl (by kernel_rfl) (by kernel_rfl) (by kernel_rfl) (by kernel_rfl) (by kernel_rfl) (fun _ _ _ h => h) (by rfl) (fun wk hk => by obtain ⟨k0, k1⟩ := HC.out wk hk; go_simp; try rfl) ?_
  try simp only [Act.put, List.setIfInBounds_toArray, List.set_cons_zero, List.set_cons_succ]
  refine wpHold_one (i := 14) rfl (by kernel_rfl) (by rfl) (fun K hK => ?_)
  have hb := HN.out.1.grown G4.out.1 (by simp)
  have q3 := hb.cell 3
  have q4 := hb.cell 4
  have f3 := hb.free 3
  have f4 := hb.free 4
  simp at q3 q4
  have HF : Hid (RNew w ((w4.setCell ⟨w.heap.size, 3, none⟩ (.slice x0 S.b0.length y0)).setCell ⟨w.heap.size, 4, none⟩ (.slice x1 S.b1.length y1)) (.pointer (some ⟨w.heap.size, 0, none⟩)) S) := by
    have gg : w4.grownBy ((w4.setCell ⟨w.heap.size, 3, none⟩ (.slice x0 S.b0.length y0)).setCell ⟨w.heap.size, 4, none⟩ (.slice x1 S.b1.length y1)) (some w.heap.size) := grown_trans (grown_setCell _ _ _ _) (grown_setCell _ _ _ _)
    have q : ∀ {B t L}, Own w4 B t L → Own ((w4.setCell ⟨w.heap.size, 3, none⟩ (.slice x0 S.b0.length y0)).setCell ⟨w.heap.size, 4, none⟩ (.slice x1 S.b1.length y1)) B t L := fun {B t L} ho => World.ownsRow.kept ho gg (.inr (ho.other hb (by decide)))
    have hz2 := HN.out.2.1.size
    have hz4 := G4.out.1.size
    have hzb := HN.out.1.lt
    have ol := Own.grown HN.out.2.2 G4.out.1
    have ok := HS.out.ok
    refine ⟨grown_new (grown_trans HN.out.2.1 G4.out.1) gg (by intro x hx; simp at hx; omega), fun k => w.heap.size ≤ k ∧ k < w4.heap.size, ⟨w.heap.size, .slice xl S.log.length yl, .slice x0 S.b0.length y0, .slice x1 S.b1.length y1, rfl, ⟨(hb.store 3 _).store 4 _, Own.mono (q ol) (Nat.zero_le _), Own.mono (q G4.out.2.1) (Nat.zero_le _), Own.mono (q G4.out.2.2) (Nat.zero_le _), fun k hk e => ?_, fun k hk e => ?_, ⟨Nat.le_refl _, by omega⟩, fun k hk => ?_, fun k hk => ?_, fun k hk => ?_, fun k hk => Nat.lt_of_lt_of_le hk.2 gg.size, ok⟩⟩, fun k hk => hk.1⟩
    · have h1 := (Own.lt HN.out.2.2 k hk).2
      have h2 := (G4.out.2.1.lt k e).1
      omega
    · have h1 := (Own.lt HN.out.2.2 k hk).2
      have h2 := (G4.out.2.2.lt k e).1
      omega
    · have h1 := ol.lt k hk
      exact ⟨by omega, by omega⟩
    · have h1 := G4.out.2.1.lt k hk
      exact ⟨by omega, by omega⟩
    · have h1 := G4.out.2.2.lt k hk
      exact ⟨by omega, by omega⟩
  go_wp2_with fail
  refine hK.out _ _ (fun h => absurd rfl h) ?_
  clear hK K hb
  try simp only [Act.put, List.setIfInBounds_toArray, List.set_cons_zero, List.set_cons_succ]
  refine wpHold_done (by kernel_rfl) ?_
  refine (‹∀ (a : Act) (w : World), Code.wp Try.prog _ _ a w → _› _ _ ?_)
  go_wp2_with fail
  go_ret
  exact ⟨_, rfl, HF.out⟩

set_option maxRecDepth 100000 in
set_option maxHeartbeats 1000000 in
theorem ref40 (F : Nat → Prop) (v : Value) (S : St) (keep : Int) (w : World) (h : RK w F v S) (hk1 : -9223372036854775808 ≤ keep) (hk2 : keep ≤ 9223372036854775807) :
    Calls Try.prog 40 #[v, .int .i64 keep] w fun e w' => ∃ p, e = .returned p ∧ RNew w w' p (S.stop keep) := by
  obtain ⟨b, lv, v0, v1, rfl, h⟩ := h
  obtain ⟨c0, c1, c2, c3, c4, c5, c6, c7, c8⟩ := h.cells
  obtain ⟨al, cl, el⟩ := h.log.seg.shape
  subst el
  have HS : Hid (RKb w F b (.slice al S.log.length cl) v0 v1 S) := h
  have hl := h.ok.log
  have hsl := h.ok.sure
  clear h c0 c3 c4 c5 c6 c7 c8
  obtain ⟨n, hn⟩ : ∃ n, S.log.length = n := ⟨_, rfl⟩
  have HN : Hid (S.log.length = n) := hn
  rw [hn] at hl hsl c1 HS
  clear hn
  go_enter Try.func40, Try.ntmps40
  go_wp2_with fail
  go_loopw [5] (fun i wr => ∃ k : Nat, S.sure ≤ k ∧ k ≤ n ∧ k - S.sure ≤ keep.toNat ∧ i = .int .i64 k ∧ wr = w) (fun i _ => n - (intOf i).toNat)
  case atStart => exact ⟨S.sure, Nat.le_refl _, hsl, by omega, rfl, rfl⟩
  case round =>
    obtain ⟨k, hk3, hk4, hk5, rfl, rfl⟩ := hrel
    have wsub : IntKind.i64.wrap ((k : Int) - (S.sure : Int)) = (k : Int) - (S.sure : Int) := by
      simp only [IntKind.wrap, IntKind.bits, IntKind.signed]; simp; omega
    by_cases hgo : k < n ∧ (k : Int) - (S.sure : Int) < keep
    · obtain ⟨g1, g2⟩ := hgo
      have i1 : (k : Int) < (n : Int) := by omega
      go_wp2_with fail
      go_roundw
      case rel => exact ⟨k + 1, by omega, by omega, by omega, by go_num, trivial⟩
      case measure => simp [intOf]; omega
    · have hkeep : k = S.keeps keep := by
        unfold St.keeps
        rw [HN.out]
        omega
      have HK : Hid (k = S.keeps keep) := hkeep
      have HD : Hid (RK wr F (.pointer (some ⟨b, 0, none⟩)) S) := ⟨b, _, v0, v1, rfl, by have := HS.out; exact this⟩
      have hdec : (k < n ∧ ¬ (k : Int) - (S.sure : Int) < keep) ∨ ¬ k < n := by omega
      clear hkeep hgo
      rcases hdec with ⟨d1, d2⟩ | d1
      all_goals
        go_wp2_with fail
        refine (ref41 F _ S _ HD.out).mono ?_
        rintro e w1 ⟨p, rfl, hp⟩
        obtain ⟨g1, F1, ⟨b1, lv1, u0, u1, rfl, hk1⟩, hF1⟩ := hp
        obtain ⟨a2, c2', e2⟩ := hk1.log.seg.shape
        rw [HN.out] at e2
        subst e2
        have hcp : n ≤ c2' ∧ c2' ≤ 9223372036854775807 := by
          obtain ⟨ao', cap', hv, q1, q2, _⟩ := hk1.log.seg
          simp at hv; unfold maxLen at q2; omega
        obtain ⟨hcp1, hcp2⟩ := hcp
        have HM : Hid (wr.grownBy w1 none ∧ RKb w1 F1 b1 (.slice a2 n c2') u0 u1 S ∧ ∀ k, F1 k → wr.heap.size ≤ k) := ⟨g1, hk1, hF1⟩
        have q1 := hk1.cells.2.1
        have q2 := hk1.cells.2.2.1
        have q8 := hk1.cells.2.2.2.2.2.2.2.2
        have f1 := hk1.blk.free 1
        have f2 := hk1.blk.free 2
        have f8 := hk1.blk.free 8
        have i3 : (k : Int) ≤ (c2' : Int) := by omega
        clear g1 hk1 hF1
        go_wp2_with fail
        go_ret
        refine ⟨_, rfl, ?_, F1, ⟨b1, .slice a2 k c2', u0, u1, rfl, ?_⟩, HM.out.2.2⟩
        · refine grown_new HM.out.1 (grown_trans (grown_trans (grown_setCell w1 b1 1 _) (grown_setCell _ b1 2 _)) (grown_setCell _ b1 8 _)) (by intro x hx; simp at hx; subst hx; exact HM.out.2.2 _ HM.out.2.1.inb)
        · have hb := HM.out.2.1.blk
          have hr := HM.out.2.1
          have hok := hr.ok
          have ol : Own w1 0 (.slice a2 k c2') (S.log.take k) := Own.take (by rw [HN.out]; exact hr.log) k (by rw [HN.out]; omega)
          have gg : w1.grownBy (((w1.setCell ⟨b1, 1, none⟩ (.slice a2 k c2')).setCell ⟨b1, 2, none⟩ (.int .i64 k)).setCell ⟨b1, 8, none⟩ (.int .i64 0)) (some b1) := grown_trans (grown_trans (grown_setCell w1 b1 1 _) (grown_setCell _ b1 2 _)) (grown_setCell _ b1 8 _)
          have q : ∀ {t L}, Own w1 0 t L → Own (((w1.setCell ⟨b1, 1, none⟩ (.slice a2 k c2')).setCell ⟨b1, 2, none⟩ (.int .i64 k)).setCell ⟨b1, 8, none⟩ (.int .i64 0)) 0 t L := fun {t L} ho => World.ownsRow.kept ho gg (.inr (ho.other hb (by decide)))
          have es : S.stop keep = { S with log := S.log.take k, sure := k, steps := 0 } := by unfold St.stop; rw [← HK.out]
          have ok : St.Ok { S with log := S.log.take k, sure := k, steps := 0 } := ⟨hok.cap1, hok.cap2, by simp [HN.out]; omega, by simp [HN.out]; omega, hok.l0, hok.l1, hok.last, hok.first, hok.e0, hok.e1⟩
          have eo : (Value.slice a2 k c2').ownBlock = (Value.slice a2 n c2').ownBlock := by cases a2 <;> rfl
          rw [es]
          exact ⟨((hb.store 1 _).store 2 _).store 8 _, q ol, q hr.p0, q hr.p1, fun x hx => hr.a0 x (eo ▸ hx), fun x hx => hr.a1 x (eo ▸ hx), hr.inb, fun x hx => hr.inl x (eo ▸ hx), hr.in0, hr.in1, fun x hx => Nat.lt_of_lt_of_le (hr.lt x hx) gg.size, ok⟩

set_option maxRecDepth 100000 in
set_option maxHeartbeats 400000 in
theorem ref8_bad (c : Int) (u v : Value) (log : List UInt8) (Ls : List (List UInt8)) (w : World) (_hu : Seg w u log) (hv : Segs w v Ls) (hbad : c < 1 ∨ 1048576 < c ∨ 2 < Ls.length) :
    Calls Try.prog 8 #[.int .i64 c, u, v] w fun e w' => e = .returned (.pointer none) ∧ w' = w := by
  obtain ⟨ao, cap, rfl, hlen, _⟩ := hv
  by_cases h1 : c < 1
  · go_enter Try.func8, Try.ntmps8
    go_wp2_with fail
    go_ret
    exact ⟨rfl, rfl⟩
  · by_cases h2 : 1048576 < c
    · go_enter Try.func8, Try.ntmps8
      go_wp2_with fail
      go_ret
      exact ⟨rfl, rfl⟩
    · have h3 : 2 < Ls.length := by omega
      have h4 : (2 : Int) < (Ls.length : Int) := by omega
      clear hbad
      go_enter Try.func8, Try.ntmps8
      go_wp2_with fail
      go_ret
      exact ⟨rfl, rfl⟩

set_option maxRecDepth 100000 in
set_option maxHeartbeats 1000000 in
theorem ref8_0 (c : Nat) (u v : Value) (log : List UInt8) (w : World) (hu : Seg w u log) (hv : Segs w v []) (hc1 : 1 ≤ c) (hc2 : c ≤ 1048576) (hl : log.length ≤ 140737488351232) :
    Calls Try.prog 8 #[.int .i64 c, u, v] w fun e w' => ∃ p, e = .returned p ∧ RNew w w' p (St.of c log []) := by
  obtain ⟨ao, cap, rfl, hlen, hcells⟩ := hv
  obtain ⟨au, cu, huv⟩ := hu.shape
  subst huv
  have HU : Hid (Seg w (.slice au log.length cu) log) := hu
  clear hu hcells hlen
  go_enter Try.func8, Try.ntmps8
  go_wp2_with fail
  refine (copy27 _ log _ HU.out (by omega)).mono ?_
  rintro e wl ⟨ul, rfl, ol, gl⟩
  obtain ⟨xl, yl, e⟩ := ol.seg.shape
  subst e
  have HT : Hid (Blk (wl.alloc (.cells #[.int .i64 c, .slice xl log.length yl, .int .i64 log.length, .slice none 0 0, .slice none 0 0, .bool false, .bool false, .int .i64 (-1), .int .i64 0] 63)) wl.heap.size 63 #[.int .i64 c, .slice xl log.length yl, .int .i64 log.length, .slice none 0 0, .slice none 0 0, .bool false, .bool false, .int .i64 (-1), .int .i64 0] ∧ w.grownBy (wl.alloc (.cells #[.int .i64 c, .slice xl log.length yl, .int .i64 log.length, .slice none 0 0, .slice none 0 0, .bool false, .bool false, .int .i64 (-1), .int .i64 0] 63)) none ∧ Own (wl.alloc (.cells #[.int .i64 c, .slice xl log.length yl, .int .i64 log.length, .slice none 0 0, .slice none 0 0, .bool false, .bool false, .int .i64 (-1), .int .i64 0] 63)) w.heap.size (.slice xl log.length yl) log ∧ (∀ k, (Value.slice xl log.length yl).ownBlock = some k → k < wl.heap.size) ∧ w.heap.size ≤ wl.heap.size ∧ True) := ⟨heap_alloc_new _ _, grown_trans gl (World.grownBy_alloc _ _ _), Own.alloc ol _, fun k hk => (ol.lt k hk).2, gl.size, trivial⟩
  clear ol gl
  go_wp2_with fail
  generalize wl.alloc (.cells #[.int .i64 c, .slice xl log.length yl, .int .i64 log.length, .slice none 0 0, .slice none 0 0, .bool false, .bool false, .int .i64 (-1), .int .i64 0] 63) = w0 at HT ⊢
  generalize hB : wl.heap.size = Bk at HT ⊢
  clear hB
  refine wp_loop_rounds 1 ?_
  rw [rounds_succ]
  go_wp2_with fail
  go_ret
  have hzB : w.heap.size ≤ Bk := HT.out.2.2.2.2.1
  refine ⟨_, rfl, HT.out.2.1, fun k => w.heap.size ≤ k ∧ k < w0.heap.size, ⟨Bk, .slice xl log.length yl, .slice none 0 0, .slice none 0 0, rfl, ?_⟩, fun k hk => hk.1⟩
  have p0 : Own w0 (Bk + 1) (.slice none 0 0) [] := Own.nil _ _
  have ap0 : ∀ k, (Value.slice xl log.length yl).ownBlock = some k → (Value.slice none 0 0).ownBlock ≠ some k := fun k _ e => by simp [Value.ownBlock] at e
  have p1 : Own w0 (Bk + 1) (.slice none 0 0) [] := Own.nil _ _
  have ap1 : ∀ k, (Value.slice xl log.length yl).ownBlock = some k → (Value.slice none 0 0).ownBlock ≠ some k := fun k _ e => by simp [Value.ownBlock] at e
  have pl := HT.out.2.2.1
  refine ⟨HT.out.1, Own.mono pl (Nat.zero_le _), Own.mono p0 (Nat.zero_le _), Own.mono p1 (Nat.zero_le _), ap0, ap1, ⟨hzB, HT.out.1.lt⟩, fun k hk => pl.lt k hk, fun k hk => ?_, fun k hk => ?_, fun k hk => hk.2, ⟨hc1, hc2, hl, Nat.le_refl _, by simp [St.of], by simp [St.of], by simp [St.of], by simp [St.of], by simp [St.of], by simp [St.of]⟩⟩
  · have h1 := p0.lt k hk
    exact ⟨by omega, h1.2⟩
  · have h1 := p1.lt k hk
    exact ⟨by omega, h1.2⟩

set_option maxRecDepth 100000 in
set_option maxHeartbeats 1000000 in
theorem ref8_1 (c : Nat) (u v : Value) (log A : List UInt8) (w : World) (hu : Seg w u log) (hv : Segs w v [A]) (hc1 : 1 ≤ c) (hc2 : c ≤ 1048576) (hl : log.length ≤ 140737488351232) (hA : A.length ≤ 140737488351232) :
    Calls Try.prog 8 #[.int .i64 c, u, v] w fun e w' => ∃ p, e = .returned p ∧ RNew w w' p (St.of c log [A]) := by
  obtain ⟨ao, cap, rfl, hlen, hcells⟩ := hv
  obtain ⟨au, cu, huv⟩ := hu.shape
  subst huv
  have HU : Hid (Seg w (.slice au log.length cu) log) := hu
  obtain ⟨bb, off, s0, rfl, q0, t0⟩ := hcells 0 (by simp)
  have HQ : Hid (w.cell? ⟨bb, off + 0, none⟩ = some s0 ∧ Seg w s0 A) := ⟨q0, t0⟩
  clear q0 t0
  clear hu hcells hlen
  go_enter Try.func8, Try.ntmps8
  go_wp2_with fail
  refine (copy27 _ log _ HU.out (by omega)).mono ?_
  rintro e wl ⟨ul, rfl, ol, gl⟩
  obtain ⟨xl, yl, e⟩ := ol.seg.shape
  subst e
  have HT : Hid (Blk (wl.alloc (.cells #[.int .i64 c, .slice xl log.length yl, .int .i64 log.length, .slice none 0 0, .slice none 0 0, .bool false, .bool false, .int .i64 (-1), .int .i64 0] 63)) wl.heap.size 63 #[.int .i64 c, .slice xl log.length yl, .int .i64 log.length, .slice none 0 0, .slice none 0 0, .bool false, .bool false, .int .i64 (-1), .int .i64 0] ∧ w.grownBy (wl.alloc (.cells #[.int .i64 c, .slice xl log.length yl, .int .i64 log.length, .slice none 0 0, .slice none 0 0, .bool false, .bool false, .int .i64 (-1), .int .i64 0] 63)) none ∧ Own (wl.alloc (.cells #[.int .i64 c, .slice xl log.length yl, .int .i64 log.length, .slice none 0 0, .slice none 0 0, .bool false, .bool false, .int .i64 (-1), .int .i64 0] 63)) w.heap.size (.slice xl log.length yl) log ∧ (∀ k, (Value.slice xl log.length yl).ownBlock = some k → k < wl.heap.size) ∧ w.heap.size ≤ wl.heap.size ∧ True) := ⟨heap_alloc_new _ _, grown_trans gl (World.grownBy_alloc _ _ _), Own.alloc ol _, fun k hk => (ol.lt k hk).2, gl.size, trivial⟩
  clear ol gl
  go_wp2_with fail
  generalize wl.alloc (.cells #[.int .i64 c, .slice xl log.length yl, .int .i64 log.length, .slice none 0 0, .slice none 0 0, .bool false, .bool false, .int .i64 (-1), .int .i64 0] 63) = w0 at HT ⊢
  generalize hB : wl.heap.size = Bk at HT ⊢
  clear hB
  refine wp_loop_rounds 2 ?_
  rw [rounds_succ]
  have z0 : w0.cell? ⟨bb, off + 0, none⟩ = some s0 := World.grownBy.cell HT.out.2.1 HQ.out.1 (by simp)
  obtain ⟨m0, n0, hs0⟩ := (HQ.out.2 : Seg w s0 A).shape
  subst hs0
  try rw [Nat.add_zero] at z0
  go_wp2_with fail
  have HC : Hid (∀ x : World, w0.grownBy x none → x.cell? ⟨bb, off, none⟩ = some (.slice m0 A.length n0)) := fun x hx => hx.cell z0 (by simp)
  refine wp_region_noPanic ?_
  refine wp_region_hold 10 (fun x => w0.grownBy x none) (by kernel_rfl) ?_
  refine wpHold_take (i := 0) (v := _) (grown_drew _ _) rfl rfl (by kernel_rfl) (by kernel_rfl) (by kernel_rfl) (by kernel_rfl) (by kernel_rfl) (fun _ _ _ h => h) (by rfl) (fun wk hk => by have k0 := HC.out wk hk; go_simp; try rfl) ?_
  try simp only [Act.put, List.setIfInBounds_toArray, List.set_cons_zero, List.set_cons_succ]
  refine wpHold_take (i := 1) (v := _) (grown_drew _ _) rfl rfl (by kernel_rfl) (by kernel_rfl) (by kernel_rfl) (by kernel_rfl) (by kernel_rfl) (fun _ _ _ h => h) (by rfl) (fun wk hk => by have k0 := HC.out wk hk; go_simp; try rfl) ?_
  try simp only [Act.put, List.setIfInBounds_toArray, List.set_cons_zero, List.set_cons_succ]
  refine wpHold_take (i := 2) (v := _) (grown_drew _ _) rfl rfl (by kernel_rfl) (by kernel_rfl) (by kernel_rfl) (by kernel_rfl) (by kernel_rfl) (fun _ _ _ h => h) (by rfl) (fun wk hk => by have k0 := HC.out wk hk; go_simp; try rfl) ?_
  try simp only [Act.put, List.setIfInBounds_toArray, List.set_cons_zero, List.set_cons_succ]
  refine wpHold_take (i := 3) (v := _) (grown_drew _ _) rfl rfl (by kernel_rfl) (by kernel_rfl) (by kernel_rfl) (by kernel_rfl) (by kernel_rfl) (fun _ _ _ h => h) (by rfl) (fun wk hk => by have k0 := HC.out wk hk; go_simp; try rfl) ?_
  try simp only [Act.put, List.setIfInBounds_toArray, List.set_cons_zero, List.set_cons_succ]
  refine wpHold_take (i := 4) (v := _) (grown_drew _ _) rfl rfl (by kernel_rfl) (by kernel_rfl) (by kernel_rfl) (by kernel_rfl) (by kernel_rfl) (fun _ _ _ h => h) (by rfl) (fun wk hk => by have k0 := HC.out wk hk; go_simp; try rfl) ?_
  try simp only [Act.put, List.setIfInBounds_toArray, List.set_cons_zero, List.set_cons_succ]
  refine wpHold_take (i := 5) (v := _) (grown_drew _ _) rfl rfl (by kernel_rfl) (by kernel_rfl) (by kernel_rfl) (by kernel_rfl) (by kernel_rfl) (fun _ _ _ h => h) (by rfl) (fun wk hk => by have k0 := HC.out wk hk; go_simp; try rfl) ?_
  try simp only [Act.put, List.setIfInBounds_toArray, List.set_cons_zero, List.set_cons_succ]
  refine wpHold_take (i := 7) (v := _) (grown_drew _ _) rfl rfl (by kernel_rfl) (by kernel_rfl) (by kernel_rfl) (by kernel_rfl) (by kernel_rfl) (fun _ _ _ h => h) (by rfl) (fun wk hk => by have k0 := HC.out wk hk; go_simp; try rfl) ?_
  try simp only [Act.put, List.setIfInBounds_toArray, List.set_cons_zero, List.set_cons_succ]
  refine wpHold_take (i := 8) (v := _) (grown_drew _ _) rfl rfl (by kernel_rfl) (by kernel_rfl) (by kernel_rfl) (by kernel_rfl) (by kernel_rfl) (fun _ _ _ h => h) (by rfl) (fun wk hk => by have k0 := HC.out wk hk; go_simp; try rfl) ?_
  try simp only [Act.put, List.setIfInBounds_toArray, List.set_cons_zero, List.set_cons_succ]
  refine wpHold_one (i := 6) rfl (by kernel_rfl) (by rfl) (fun K hK => ?_)
  go_simp
  refine (copy27 _ A _ (Seg.grown HQ.out.2 (grown_trans HT.out.2.1 (grown_drew _ none))) (by omega)).mono ?_
  rintro e v0 ⟨g0, rfl, o0, r0⟩
  obtain ⟨x0, y0, hx⟩ := o0.seg.shape
  subst hx
  have G0 : Hid (w0.grownBy v0 none ∧ Own v0 w0.heap.size (.slice x0 A.length y0) A) := ⟨grown_trans (grown_drew _ none) r0, o0⟩
  clear o0 r0
  go_wp2_with fail
  refine hK.out _ _ (fun _ => G0.out.1) ?_
  clear hK K
  try simp only [Act.put, List.setIfInBounds_toArray, List.set_cons_zero, List.set_cons_succ]
  refine wpHold_take (i := 9) (v := _) (G0.out.1) rfl rfl (by kernel_rfl) (by kernel_rfl) (by kernel_rfl) (by kernel_rfl) (by kernel_rfl) (fun _ _ _ h => h) (by rfl) (fun wk hk => by have k0 := HC.out wk hk; go_simp; try rfl) ?_
  try simp only [Act.put, List.setIfInBounds_toArray, List.set_cons_zero, List.set_cons_succ]
  refine wpHold_one (i := 10) rfl (by kernel_rfl) (by rfl) (fun K hK => ?_)
  have hb := HT.out.1.grown G0.out.1 (by simp)
  have k0 := hb.cell 3
  have f0 := hb.free 3
  simp at k0
  go_wp2_with fail
  refine hK.out _ _ (fun h => absurd rfl h) ?_
  clear hK K hb k0 f0
  try simp only [Act.put, List.setIfInBounds_toArray, List.set_cons_zero, List.set_cons_succ]
  refine wpHold_done (by kernel_rfl) ?_
  refine (‹∀ (a : Act) (w : World), Code.wp Try.prog _ _ a w → _› _ _ ?_)
  have hb := HT.out.1.grown G0.out.1 (by simp)
  have k1 := hb.cell 5
  have k2 := hb.cell 7
  have f1 := hb.free 5
  have f2 := hb.free 7
  simp at k1 k2
  have HN : Hid (Blk (((v0.setCell ⟨Bk, 3, none⟩ (.slice x0 A.length y0)).setCell ⟨Bk, 5, none⟩ (.bool true)).setCell ⟨Bk, 7, none⟩ (.int .i64 0)) Bk 63 #[.int .i64 c, .slice xl log.length yl, .int .i64 log.length, .slice x0 A.length y0, .slice none 0 0, .bool true, .bool false, .int .i64 0, .int .i64 0] ∧ w.grownBy (((v0.setCell ⟨Bk, 3, none⟩ (.slice x0 A.length y0)).setCell ⟨Bk, 5, none⟩ (.bool true)).setCell ⟨Bk, 7, none⟩ (.int .i64 0)) none ∧ Own (((v0.setCell ⟨Bk, 3, none⟩ (.slice x0 A.length y0)).setCell ⟨Bk, 5, none⟩ (.bool true)).setCell ⟨Bk, 7, none⟩ (.int .i64 0)) w.heap.size (.slice xl log.length yl) log ∧ (∀ k, (Value.slice xl log.length yl).ownBlock = some k → k < Bk) ∧ w.heap.size ≤ Bk ∧ Own (((v0.setCell ⟨Bk, 3, none⟩ (.slice x0 A.length y0)).setCell ⟨Bk, 5, none⟩ (.bool true)).setCell ⟨Bk, 7, none⟩ (.int .i64 0)) (Bk + 1) (.slice x0 A.length y0) A) := by
    have gg : v0.grownBy (((v0.setCell ⟨Bk, 3, none⟩ (.slice x0 A.length y0)).setCell ⟨Bk, 5, none⟩ (.bool true)).setCell ⟨Bk, 7, none⟩ (.int .i64 0)) (some Bk) := grown_trans (grown_trans (grown_setCell _ _ _ _) (grown_setCell _ _ _ _)) (grown_setCell _ _ _ _)
    have q : ∀ {D t L}, Own v0 D t L → Own (((v0.setCell ⟨Bk, 3, none⟩ (.slice x0 A.length y0)).setCell ⟨Bk, 5, none⟩ (.bool true)).setCell ⟨Bk, 7, none⟩ (.int .i64 0)) D t L := fun {D t L} ho => World.ownsRow.kept ho gg (.inr (ho.other hb (by decide)))
    have hB : w.heap.size ≤ Bk := HT.out.2.2.2.2.1
    have hBl : Bk < w0.heap.size := HT.out.1.lt
    exact ⟨((hb.store 3 _).store 5 _).store 7 _, grown_new (grown_trans HT.out.2.1 G0.out.1) gg (by intro x hx; simp at hx; omega), q (Own.grown HT.out.2.2.1 G0.out.1), HT.out.2.2.2.1, hB, q (Own.mono G0.out.2 (by omega))⟩
  clear hb z0 G0
  clear HT HC
  have HT : Hid _ := HN.out
  clear HN
  go_wp2_with fail
  generalize ((v0.setCell ⟨Bk, 3, none⟩ (.slice x0 A.length y0)).setCell ⟨Bk, 5, none⟩ (.bool true)).setCell ⟨Bk, 7, none⟩ (.int .i64 0) = w1 at HT ⊢
  clear k1 k2 f1 f2
  rw [rounds_succ]
  go_wp2_with fail
  go_ret
  have hzB : w.heap.size ≤ Bk := HT.out.2.2.2.2.1
  refine ⟨_, rfl, HT.out.2.1, fun k => w.heap.size ≤ k ∧ k < w1.heap.size, ⟨Bk, .slice xl log.length yl, .slice x0 A.length y0, .slice none 0 0, rfl, ?_⟩, fun k hk => hk.1⟩
  have p0 := HT.out.2.2.2.2.2
  have ap0 : ∀ k, (Value.slice xl log.length yl).ownBlock = some k → (Value.slice x0 A.length y0).ownBlock ≠ some k := fun k hk e => by
    have h1 := HT.out.2.2.2.1 k hk
    have h2 := (p0.lt k e).1
    omega
  have p1 : Own w1 (Bk + 1) (.slice none 0 0) [] := Own.nil _ _
  have ap1 : ∀ k, (Value.slice xl log.length yl).ownBlock = some k → (Value.slice none 0 0).ownBlock ≠ some k := fun k _ e => by simp [Value.ownBlock] at e
  have pl := HT.out.2.2.1
  refine ⟨HT.out.1, Own.mono pl (Nat.zero_le _), Own.mono p0 (Nat.zero_le _), Own.mono p1 (Nat.zero_le _), ap0, ap1, ⟨hzB, HT.out.1.lt⟩, fun k hk => pl.lt k hk, fun k hk => ?_, fun k hk => ?_, fun k hk => hk.2, ⟨hc1, hc2, hl, Nat.le_refl _, hA, by simp [St.of], by simp [St.of], by simp [St.of], by simp [St.of], by simp [St.of]⟩⟩
  · have h1 := p0.lt k hk
    exact ⟨by omega, h1.2⟩
  · have h1 := p1.lt k hk
    exact ⟨by omega, h1.2⟩

set_option maxRecDepth 100000 in
set_option maxHeartbeats 1000000 in
theorem ref8_2 (c : Nat) (u v : Value) (log A B : List UInt8) (w : World) (hu : Seg w u log) (hv : Segs w v [A, B]) (hc1 : 1 ≤ c) (hc2 : c ≤ 1048576) (hl : log.length ≤ 140737488351232) (hA : A.length ≤ 140737488351232) (hB : B.length ≤ 140737488351232) :
    Calls Try.prog 8 #[.int .i64 c, u, v] w fun e w' => ∃ p, e = .returned p ∧ RNew w w' p (St.of c log [A, B]) := by
  obtain ⟨ao, cap, rfl, hlen, hcells⟩ := hv
  obtain ⟨au, cu, huv⟩ := hu.shape
  subst huv
  have HU : Hid (Seg w (.slice au log.length cu) log) := hu
  obtain ⟨bb, off, s0, rfl, q0, t0⟩ := hcells 0 (by simp)
  obtain ⟨_, _, s1, e1, q1, t1⟩ := hcells 1 (by simp)
  simp at e1
  obtain ⟨rfl, rfl⟩ := e1
  have HQ : Hid (w.cell? ⟨bb, off + 0, none⟩ = some s0 ∧ Seg w s0 A ∧ w.cell? ⟨bb, off + 1, none⟩ = some s1 ∧ Seg w s1 B) := ⟨q0, t0, q1, t1⟩
  clear q0 t0 q1 t1
  clear hu hcells hlen
  go_enter Try.func8, Try.ntmps8
  go_wp2_with fail
  refine (copy27 _ log _ HU.out (by omega)).mono ?_
  rintro e wl ⟨ul, rfl, ol, gl⟩
  obtain ⟨xl, yl, e⟩ := ol.seg.shape
  subst e
  have HT : Hid (Blk (wl.alloc (.cells #[.int .i64 c, .slice xl log.length yl, .int .i64 log.length, .slice none 0 0, .slice none 0 0, .bool false, .bool false, .int .i64 (-1), .int .i64 0] 63)) wl.heap.size 63 #[.int .i64 c, .slice xl log.length yl, .int .i64 log.length, .slice none 0 0, .slice none 0 0, .bool false, .bool false, .int .i64 (-1), .int .i64 0] ∧ w.grownBy (wl.alloc (.cells #[.int .i64 c, .slice xl log.length yl, .int .i64 log.length, .slice none 0 0, .slice none 0 0, .bool false, .bool false, .int .i64 (-1), .int .i64 0] 63)) none ∧ Own (wl.alloc (.cells #[.int .i64 c, .slice xl log.length yl, .int .i64 log.length, .slice none 0 0, .slice none 0 0, .bool false, .bool false, .int .i64 (-1), .int .i64 0] 63)) w.heap.size (.slice xl log.length yl) log ∧ (∀ k, (Value.slice xl log.length yl).ownBlock = some k → k < wl.heap.size) ∧ w.heap.size ≤ wl.heap.size ∧ True) := ⟨heap_alloc_new _ _, grown_trans gl (World.grownBy_alloc _ _ _), Own.alloc ol _, fun k hk => (ol.lt k hk).2, gl.size, trivial⟩
  clear ol gl
  go_wp2_with fail
  generalize wl.alloc (.cells #[.int .i64 c, .slice xl log.length yl, .int .i64 log.length, .slice none 0 0, .slice none 0 0, .bool false, .bool false, .int .i64 (-1), .int .i64 0] 63) = w0 at HT ⊢
  generalize hB : wl.heap.size = Bk at HT ⊢
  clear hB
  refine wp_loop_rounds 3 ?_
  rw [rounds_succ]
  have z0 : w0.cell? ⟨bb, off + 0, none⟩ = some s0 := World.grownBy.cell HT.out.2.1 HQ.out.1 (by simp)
  obtain ⟨m0, n0, hs0⟩ := (HQ.out.2.1 : Seg w s0 A).shape
  subst hs0
  try rw [Nat.add_zero] at z0
  go_wp2_with fail
  have HC : Hid (∀ x : World, w0.grownBy x none → x.cell? ⟨bb, off, none⟩ = some (.slice m0 A.length n0)) := fun x hx => hx.cell z0 (by simp)
  refine wp_region_noPanic ?_
  refine wp_region_hold 10 (fun x => w0.grownBy x none) (by kernel_rfl) ?_
  refine wpHold_take (i := 0) (v := _) (grown_drew _ _) rfl rfl (by kernel_rfl) (by kernel_rfl) (by kernel_rfl) (by kernel_rfl) (by kernel_rfl) (fun _ _ _ h => h) (by rfl) (fun wk hk => by have k0 := HC.out wk hk; go_simp; try rfl) ?_
  try simp only [Act.put, List.setIfInBounds_toArray, List.set_cons_zero, List.set_cons_succ]
  refine wpHold_take (i := 1) (v := _) (grown_drew _ _) rfl rfl (by kernel_rfl) (by kernel_rfl) (by kernel_rfl) (by kernel_rfl) (by kernel_rfl) (fun _ _ _ h => h) (by rfl) (fun wk hk => by have k0 := HC.out wk hk; go_simp; try rfl) ?_
  try simp only [Act.put, List.setIfInBounds_toArray, List.set_cons_zero, List.set_cons_succ]
  refine wpHold_take (i := 2) (v := _) (grown_drew _ _) rfl rfl (by kernel_rfl) (by kernel_rfl) (by kernel_rfl) (by kernel_rfl) (by kernel_rfl) (fun _ _ _ h => h) (by rfl) (fun wk hk => by have k0 := HC.out wk hk; go_simp; try rfl) ?_
  try simp only [Act.put, List.setIfInBounds_toArray, List.set_cons_zero, List.set_cons_succ]
  refine wpHold_take (i := 3) (v := _) (grown_drew _ _) rfl rfl (by kernel_rfl) (by kernel_rfl) (by kernel_rfl) (by kernel_rfl) (by kernel_rfl) (fun _ _ _ h => h) (by rfl) (fun wk hk => by have k0 := HC.out wk hk; go_simp; try rfl) ?_
  try simp only [Act.put, List.setIfInBounds_toArray, List.set_cons_zero, List.set_cons_succ]
  refine wpHold_take (i := 4) (v := _) (grown_drew _ _) rfl rfl (by kernel_rfl) (by kernel_rfl) (by kernel_rfl) (by kernel_rfl) (by kernel_rfl) (fun _ _ _ h => h) (by rfl) (fun wk hk => by have k0 := HC.out wk hk; go_simp; try rfl) ?_
  try simp only [Act.put, List.setIfInBounds_toArray, List.set_cons_zero, List.set_cons_succ]
  refine wpHold_take (i := 5) (v := _) (grown_drew _ _) rfl rfl (by kernel_rfl) (by kernel_rfl) (by kernel_rfl) (by kernel_rfl) (by kernel_rfl) (fun _ _ _ h => h) (by rfl) (fun wk hk => by have k0 := HC.out wk hk; go_simp; try rfl) ?_
  try simp only [Act.put, List.setIfInBounds_toArray, List.set_cons_zero, List.set_cons_succ]
  refine wpHold_take (i := 7) (v := _) (grown_drew _ _) rfl rfl (by kernel_rfl) (by kernel_rfl) (by kernel_rfl) (by kernel_rfl) (by kernel_rfl) (fun _ _ _ h => h) (by rfl) (fun wk hk => by have k0 := HC.out wk hk; go_simp; try rfl) ?_
  try simp only [Act.put, List.setIfInBounds_toArray, List.set_cons_zero, List.set_cons_succ]
  refine wpHold_take (i := 8) (v := _) (grown_drew _ _) rfl rfl (by kernel_rfl) (by kernel_rfl) (by kernel_rfl) (by kernel_rfl) (by kernel_rfl) (fun _ _ _ h => h) (by rfl) (fun wk hk => by have k0 := HC.out wk hk; go_simp; try rfl) ?_
  try simp only [Act.put, List.setIfInBounds_toArray, List.set_cons_zero, List.set_cons_succ]
  refine wpHold_one (i := 6) rfl (by kernel_rfl) (by rfl) (fun K hK => ?_)
  go_simp
  refine (copy27 _ A _ (Seg.grown HQ.out.2.1 (grown_trans HT.out.2.1 (grown_drew _ none))) (by omega)).mono ?_
  rintro e v0 ⟨g0, rfl, o0, r0⟩
  obtain ⟨x0, y0, hx⟩ := o0.seg.shape
  subst hx
  have G0 : Hid (w0.grownBy v0 none ∧ Own v0 w0.heap.size (.slice x0 A.length y0) A) := ⟨grown_trans (grown_drew _ none) r0, o0⟩
  clear o0 r0
  go_wp2_with fail
  refine hK.out _ _ (fun _ => G0.out.1) ?_
  clear hK K
  try simp only [Act.put, List.setIfInBounds_toArray, List.set_cons_zero, List.set_cons_succ]
  refine wpHold_take (i := 9) (v := _) (G0.out.1) rfl rfl (by kernel_rfl) (by kernel_rfl) (by kernel_rfl) (by kernel_rfl) (by kernel_rfl) (fun _ _ _ h => h) (by rfl) (fun wk hk => by have k0 := HC.out wk hk; go_simp; try rfl) ?_
  try simp only [Act.put, List.setIfInBounds_toArray, List.set_cons_zero, List.set_cons_succ]
  refine wpHold_one (i := 10) rfl (by kernel_rfl) (by rfl) (fun K hK => ?_)
  have hb := HT.out.1.grown G0.out.1 (by simp)
  have k0 := hb.cell 3
  have f0 := hb.free 3
  simp at k0
  go_wp2_with fail
  refine hK.out _ _ (fun h => absurd rfl h) ?_
  clear hK K hb k0 f0
  try simp only [Act.put, List.setIfInBounds_toArray, List.set_cons_zero, List.set_cons_succ]
  refine wpHold_done (by kernel_rfl) ?_
  refine (‹∀ (a : Act) (w : World), Code.wp Try.prog _ _ a w → _› _ _ ?_)
  have hb := HT.out.1.grown G0.out.1 (by simp)
  have k1 := hb.cell 5
  have k2 := hb.cell 7
  have f1 := hb.free 5
  have f2 := hb.free 7
  simp at k1 k2
  have HN : Hid (Blk (((v0.setCell ⟨Bk, 3, none⟩ (.slice x0 A.length y0)).setCell ⟨Bk, 5, none⟩ (.bool true)).setCell ⟨Bk, 7, none⟩ (.int .i64 0)) Bk 63 #[.int .i64 c, .slice xl log.length yl, .int .i64 log.length, .slice x0 A.length y0, .slice none 0 0, .bool true, .bool false, .int .i64 0, .int .i64 0] ∧ w.grownBy (((v0.setCell ⟨Bk, 3, none⟩ (.slice x0 A.length y0)).setCell ⟨Bk, 5, none⟩ (.bool true)).setCell ⟨Bk, 7, none⟩ (.int .i64 0)) none ∧ Own (((v0.setCell ⟨Bk, 3, none⟩ (.slice x0 A.length y0)).setCell ⟨Bk, 5, none⟩ (.bool true)).setCell ⟨Bk, 7, none⟩ (.int .i64 0)) w.heap.size (.slice xl log.length yl) log ∧ (∀ k, (Value.slice xl log.length yl).ownBlock = some k → k < Bk) ∧ w.heap.size ≤ Bk ∧ Own (((v0.setCell ⟨Bk, 3, none⟩ (.slice x0 A.length y0)).setCell ⟨Bk, 5, none⟩ (.bool true)).setCell ⟨Bk, 7, none⟩ (.int .i64 0)) (Bk + 1) (.slice x0 A.length y0) A) := by
    have gg : v0.grownBy (((v0.setCell ⟨Bk, 3, none⟩ (.slice x0 A.length y0)).setCell ⟨Bk, 5, none⟩ (.bool true)).setCell ⟨Bk, 7, none⟩ (.int .i64 0)) (some Bk) := grown_trans (grown_trans (grown_setCell _ _ _ _) (grown_setCell _ _ _ _)) (grown_setCell _ _ _ _)
    have q : ∀ {D t L}, Own v0 D t L → Own (((v0.setCell ⟨Bk, 3, none⟩ (.slice x0 A.length y0)).setCell ⟨Bk, 5, none⟩ (.bool true)).setCell ⟨Bk, 7, none⟩ (.int .i64 0)) D t L := fun {D t L} ho => World.ownsRow.kept ho gg (.inr (ho.other hb (by decide)))
    have hB : w.heap.size ≤ Bk := HT.out.2.2.2.2.1
    have hBl : Bk < w0.heap.size := HT.out.1.lt
    exact ⟨((hb.store 3 _).store 5 _).store 7 _, grown_new (grown_trans HT.out.2.1 G0.out.1) gg (by intro x hx; simp at hx; omega), q (Own.grown HT.out.2.2.1 G0.out.1), HT.out.2.2.2.1, hB, q (Own.mono G0.out.2 (by omega))⟩
  clear hb z0 G0
  clear HT HC
  have HT : Hid _ := HN.out
  clear HN
  go_wp2_with fail
  generalize ((v0.setCell ⟨Bk, 3, none⟩ (.slice x0 A.length y0)).setCell ⟨Bk, 5, none⟩ (.bool true)).setCell ⟨Bk, 7, none⟩ (.int .i64 0) = w1 at HT ⊢
  clear k1 k2 f1 f2
  rw [rounds_succ]
  have z1 : w1.cell? ⟨bb, off + 1, none⟩ = some s1 := World.grownBy.cell HT.out.2.1 HQ.out.2.2.1 (by simp)
  obtain ⟨m1, n1, hs1⟩ := (HQ.out.2.2.2 : Seg w s1 B).shape
  subst hs1
  try rw [Nat.add_zero] at z1
  go_wp2_with fail
  have HC : Hid (∀ x : World, w1.grownBy x none → x.cell? ⟨bb, off + 1, none⟩ = some (.slice m1 B.length n1)) := fun x hx => hx.cell z1 (by simp)
  refine wp_region_noPanic ?_
  refine wp_region_hold 10 (fun x => w1.grownBy x none) (by kernel_rfl) ?_
  refine wpHold_take (i := 0) (v := _) (grown_drew _ _) rfl rfl (by kernel_rfl) (by kernel_rfl) (by kernel_rfl) (by kernel_rfl) (by kernel_rfl) (fun _ _ _ h => h) (by rfl) (fun wk hk => by have k0 := HC.out wk hk; go_simp; try rfl) ?_
  try simp only [Act.put, List.setIfInBounds_toArray, List.set_cons_zero, List.set_cons_succ]
  refine wpHold_take (i := 1) (v := _) (grown_drew _ _) rfl rfl (by kernel_rfl) (by kernel_rfl) (by kernel_rfl) (by kernel_rfl) (by kernel_rfl) (fun _ _ _ h => h) (by rfl) (fun wk hk => by have k0 := HC.out wk hk; go_simp; try rfl) ?_
  try simp only [Act.put, List.setIfInBounds_toArray, List.set_cons_zero, List.set_cons_succ]
  refine wpHold_take (i := 2) (v := _) (grown_drew _ _) rfl rfl (by kernel_rfl) (by kernel_rfl) (by kernel_rfl) (by kernel_rfl) (by kernel_rfl) (fun _ _ _ h => h) (by rfl) (fun wk hk => by have k0 := HC.out wk hk; go_simp; try rfl) ?_
  try simp only [Act.put, List.setIfInBounds_toArray, List.set_cons_zero, List.set_cons_succ]
  refine wpHold_take (i := 3) (v := _) (grown_drew _ _) rfl rfl (by kernel_rfl) (by kernel_rfl) (by kernel_rfl) (by kernel_rfl) (by kernel_rfl) (fun _ _ _ h => h) (by rfl) (fun wk hk => by have k0 := HC.out wk hk; go_simp; try rfl) ?_
  try simp only [Act.put, List.setIfInBounds_toArray, List.set_cons_zero, List.set_cons_succ]
  refine wpHold_take (i := 4) (v := _) (grown_drew _ _) rfl rfl (by kernel_rfl) (by kernel_rfl) (by kernel_rfl) (by kernel_rfl) (by kernel_rfl) (fun _ _ _ h => h) (by rfl) (fun wk hk => by have k0 := HC.out wk hk; go_simp; try rfl) ?_
  try simp only [Act.put, List.setIfInBounds_toArray, List.set_cons_zero, List.set_cons_succ]
  refine wpHold_take (i := 5) (v := _) (grown_drew _ _) rfl rfl (by kernel_rfl) (by kernel_rfl) (by kernel_rfl) (by kernel_rfl) (by kernel_rfl) (fun _ _ _ h => h) (by rfl) (fun wk hk => by have k0 := HC.out wk hk; go_simp; try rfl) ?_
  try simp only [Act.put, List.setIfInBounds_toArray, List.set_cons_zero, List.set_cons_succ]
  refine wpHold_take (i := 7) (v := _) (grown_drew _ _) rfl rfl (by kernel_rfl) (by kernel_rfl) (by kernel_rfl) (by kernel_rfl) (by kernel_rfl) (fun _ _ _ h => h) (by rfl) (fun wk hk => by have k0 := HC.out wk hk; go_simp; try rfl) ?_
  try simp only [Act.put, List.setIfInBounds_toArray, List.set_cons_zero, List.set_cons_succ]
  refine wpHold_take (i := 8) (v := _) (grown_drew _ _) rfl rfl (by kernel_rfl) (by kernel_rfl) (by kernel_rfl) (by kernel_rfl) (by kernel_rfl) (fun _ _ _ h => h) (by rfl) (fun wk hk => by have k0 := HC.out wk hk; go_simp; try rfl) ?_
  try simp only [Act.put, List.setIfInBounds_toArray, List.set_cons_zero, List.set_cons_succ]
  refine wpHold_one (i := 6) rfl (by kernel_rfl) (by rfl) (fun K hK => ?_)
  go_simp
  refine (copy27 _ B _ (Seg.grown HQ.out.2.2.2 (grown_trans HT.out.2.1 (grown_drew _ none))) (by omega)).mono ?_
  rintro e v1 ⟨g1, rfl, o1, r1⟩
  obtain ⟨x1, y1, hx⟩ := o1.seg.shape
  subst hx
  have G1 : Hid (w1.grownBy v1 none ∧ Own v1 w1.heap.size (.slice x1 B.length y1) B) := ⟨grown_trans (grown_drew _ none) r1, o1⟩
  clear o1 r1
  go_wp2_with fail
  refine hK.out _ _ (fun _ => G1.out.1) ?_
  clear hK K
  try simp only [Act.put, List.setIfInBounds_toArray, List.set_cons_zero, List.set_cons_succ]
  refine wpHold_take (i := 9) (v := _) (G1.out.1) rfl rfl (by kernel_rfl) (by kernel_rfl) (by kernel_rfl) (by kernel_rfl) (by kernel_rfl) (fun _ _ _ h => h) (by rfl) (fun wk hk => by have k0 := HC.out wk hk; go_simp; try rfl) ?_
  try simp only [Act.put, List.setIfInBounds_toArray, List.set_cons_zero, List.set_cons_succ]
  refine wpHold_one (i := 10) rfl (by kernel_rfl) (by rfl) (fun K hK => ?_)
  have hb := HT.out.1.grown G1.out.1 (by simp)
  have k0 := hb.cell 4
  have f0 := hb.free 4
  simp at k0
  go_wp2_with fail
  refine hK.out _ _ (fun h => absurd rfl h) ?_
  clear hK K hb k0 f0
  try simp only [Act.put, List.setIfInBounds_toArray, List.set_cons_zero, List.set_cons_succ]
  refine wpHold_done (by kernel_rfl) ?_
  refine (‹∀ (a : Act) (w : World), Code.wp Try.prog _ _ a w → _› _ _ ?_)
  have hb := HT.out.1.grown G1.out.1 (by simp)
  have k1 := hb.cell 6
  have k2 := hb.cell 7
  have f1 := hb.free 6
  have f2 := hb.free 7
  simp at k1 k2
  have HN : Hid (Blk (((v1.setCell ⟨Bk, 4, none⟩ (.slice x1 B.length y1)).setCell ⟨Bk, 6, none⟩ (.bool true)).setCell ⟨Bk, 7, none⟩ (.int .i64 0)) Bk 63 #[.int .i64 c, .slice xl log.length yl, .int .i64 log.length, .slice x0 A.length y0, .slice x1 B.length y1, .bool true, .bool true, .int .i64 0, .int .i64 0] ∧ w.grownBy (((v1.setCell ⟨Bk, 4, none⟩ (.slice x1 B.length y1)).setCell ⟨Bk, 6, none⟩ (.bool true)).setCell ⟨Bk, 7, none⟩ (.int .i64 0)) none ∧ Own (((v1.setCell ⟨Bk, 4, none⟩ (.slice x1 B.length y1)).setCell ⟨Bk, 6, none⟩ (.bool true)).setCell ⟨Bk, 7, none⟩ (.int .i64 0)) w.heap.size (.slice xl log.length yl) log ∧ (∀ k, (Value.slice xl log.length yl).ownBlock = some k → k < Bk) ∧ w.heap.size ≤ Bk ∧ Own (((v1.setCell ⟨Bk, 4, none⟩ (.slice x1 B.length y1)).setCell ⟨Bk, 6, none⟩ (.bool true)).setCell ⟨Bk, 7, none⟩ (.int .i64 0)) (Bk + 1) (.slice x0 A.length y0) A ∧ Own (((v1.setCell ⟨Bk, 4, none⟩ (.slice x1 B.length y1)).setCell ⟨Bk, 6, none⟩ (.bool true)).setCell ⟨Bk, 7, none⟩ (.int .i64 0)) (Bk + 1) (.slice x1 B.length y1) B) := by
    have gg : v1.grownBy (((v1.setCell ⟨Bk, 4, none⟩ (.slice x1 B.length y1)).setCell ⟨Bk, 6, none⟩ (.bool true)).setCell ⟨Bk, 7, none⟩ (.int .i64 0)) (some Bk) := grown_trans (grown_trans (grown_setCell _ _ _ _) (grown_setCell _ _ _ _)) (grown_setCell _ _ _ _)
    have q : ∀ {D t L}, Own v1 D t L → Own (((v1.setCell ⟨Bk, 4, none⟩ (.slice x1 B.length y1)).setCell ⟨Bk, 6, none⟩ (.bool true)).setCell ⟨Bk, 7, none⟩ (.int .i64 0)) D t L := fun {D t L} ho => World.ownsRow.kept ho gg (.inr (ho.other hb (by decide)))
    have hB : w.heap.size ≤ Bk := HT.out.2.2.2.2.1
    have hBl : Bk < w1.heap.size := HT.out.1.lt
    exact ⟨((hb.store 4 _).store 6 _).store 7 _, grown_new (grown_trans HT.out.2.1 G1.out.1) gg (by intro x hx; simp at hx; omega), q (Own.grown HT.out.2.2.1 G1.out.1), HT.out.2.2.2.1, hB, q (Own.grown HT.out.2.2.2.2.2 G1.out.1), q (Own.mono G1.out.2 (by omega))⟩
  clear hb z1 G1
  clear HT HC
  have HT : Hid _ := HN.out
  clear HN
  go_wp2_with fail
  generalize ((v1.setCell ⟨Bk, 4, none⟩ (.slice x1 B.length y1)).setCell ⟨Bk, 6, none⟩ (.bool true)).setCell ⟨Bk, 7, none⟩ (.int .i64 0) = w2 at HT ⊢
  clear k1 k2 f1 f2
  rw [rounds_succ]
  go_wp2_with fail
  go_ret
  have hzB : w.heap.size ≤ Bk := HT.out.2.2.2.2.1
  refine ⟨_, rfl, HT.out.2.1, fun k => w.heap.size ≤ k ∧ k < w2.heap.size, ⟨Bk, .slice xl log.length yl, .slice x0 A.length y0, .slice x1 B.length y1, rfl, ?_⟩, fun k hk => hk.1⟩
  have p0 := HT.out.2.2.2.2.2.1
  have ap0 : ∀ k, (Value.slice xl log.length yl).ownBlock = some k → (Value.slice x0 A.length y0).ownBlock ≠ some k := fun k hk e => by
    have h1 := HT.out.2.2.2.1 k hk
    have h2 := (p0.lt k e).1
    omega
  have p1 := HT.out.2.2.2.2.2.2
  have ap1 : ∀ k, (Value.slice xl log.length yl).ownBlock = some k → (Value.slice x1 B.length y1).ownBlock ≠ some k := fun k hk e => by
    have h1 := HT.out.2.2.2.1 k hk
    have h2 := (p1.lt k e).1
    omega
  have pl := HT.out.2.2.1
  refine ⟨HT.out.1, Own.mono pl (Nat.zero_le _), Own.mono p0 (Nat.zero_le _), Own.mono p1 (Nat.zero_le _), ap0, ap1, ⟨hzB, HT.out.1.lt⟩, fun k hk => pl.lt k hk, fun k hk => ?_, fun k hk => ?_, fun k hk => hk.2, ⟨hc1, hc2, hl, Nat.le_refl _, hA, hB, by simp [St.of], by simp [St.of], by simp [St.of], by simp [St.of]⟩⟩
  · have h1 := p0.lt k hk
    exact ⟨by omega, h1.2⟩
  · have h1 := p1.lt k hk
    exact ⟨by omega, h1.2⟩

theorem ref8 (c : Nat) (u v : Value) (log : List UInt8) (Ls : List (List UInt8)) (w : World) (hu : Seg w u log) (hv : Segs w v Ls) (hc1 : 1 ≤ c) (hc2 : c ≤ 1048576) (h2 : Ls.length ≤ 2) (hl : log.length ≤ 140737488351232) (hL : ∀ L ∈ Ls, L.length ≤ 140737488351232) :
    Calls Try.prog 8 #[.int .i64 c, u, v] w fun e w' => ∃ p, e = .returned p ∧ RNew w w' p (St.of c log Ls) :=
  match Ls, h2, hv, hL with
  | [], _, hv, _ => ref8_0 c u v log w hu hv hc1 hc2 hl
  | [A], _, hv, hL => ref8_1 c u v log A w hu hv hc1 hc2 hl (hL A (by simp))
  | [A, B], _, hv, hL => ref8_2 c u v log A B w hu hv hc1 hc2 hl (hL A (by simp)) (hL B (by simp))
end Go.Proofs.Ytegacmcekladfaa
