/-
  The frame that is a beginning of bytes; how bytes end; just one frame.
-/
import Derived.Test.YtdfdlkpljgpckaaNq
namespace Go.Proofs.Ytdfdlkpljgpckaa
open Go.RowKit Disk
open Crc (sum sum_lt)

/-- The frame that is a beginning of L; or how L ends. -/
def FstPost (L : List UInt8) (w : World) (e : Ending) (w' : World) : Prop :=
  w.grownBy w' none ∧ (code L ≠ 0 → e = .returned (.tuple #[.agg #[.int .i64 0, .slice none 0 0], .int .i64 (code L : Nat)])) ∧ (code L = 0 → ∃ u, e = .returned (.tuple #[.agg #[.int .i64 (kindOf L : Nat), u], .int .i64 0]) ∧ Own w' w.heap.size u (bodyOf L))

theorem grown_pair {w0 w : World} {g : Nat} (u v : Value) (h : w0.grownBy w none) (hg : w0.heap.size ≤ g) : w0.grownBy ((w.setCell ⟨g, 0, none⟩ u).setCell ⟨g, 1, none⟩ v) none :=
  grown_new (grown_new h (grown_setCell w g 0 u) (by intro x hx; simp at hx; omega)) (grown_setCell _ g 1 v) (by intro x hx; simp at hx; omega)
theorem stored_pair {w : World} {g t : Nat} {x y : Value} (u v : Value) (hg : Blk w g t #[x, y]) : Blk ((w.setCell ⟨g, 0, none⟩ u).setCell ⟨g, 1, none⟩ v) g t #[u, v] := by
  have h2 := (hg.store 0 u).store 1 v
  simpa using h2
theorem nine_bv (a0 a1 a2 a3 a4 a5 a6 a7 a8 : UInt8) : (BV [a0, a1, a2, a3, a4, a5, a6, a7, a8]).toArray = #[.int .u8 a0.toNat, .int .u8 a1.toNat, .int .u8 a2.toNat, .int .u8 a3.toNat, .int .u8 a4.toNat, .int .u8 a5.toNat, .int .u8 a6.toNat, .int .u8 a7.toNat, .int .u8 a8.toNat] := rfl

set_option maxRecDepth 100000 in
set_option maxHeartbeats 4000000 in
theorem first29 (v : Value) (L : List UInt8) (w : World) (hs : Seg w v L) : Calls Try.prog 29 #[v] w (FstPost L w) := by
  obtain ⟨ao, cap, hv⟩ := hs.shape
  subst hv
  obtain ⟨n, hn⟩ : ∃ n, L.length = n := ⟨_, rfl⟩
  have HS : Hid (Seg w (.slice ao n cap) L) := by rw [← hn]; exact hs
  rw [hn]
  clear hn hs
  go_enter Try.func29, Try.ntmps29
  go_wp2_with fail
  refine (split33 _ L _ (HS.out.grown (World.grownBy_alloc _ _ _))).mono ?_
  rintro e w1 ⟨H, bv, hH, rfl, g1, hbad, hok⟩
  have G1 : Hid (w.grownBy w1 none ∧ Blk w1 w.heap.size 25 #[.int .i64 0, .slice none 0 0]) := ⟨grown_trans (World.grownBy_alloc _ _ _) g1, Blk.grown (heap_alloc_new _ _) g1 (by simp)⟩
  have hwl : w.heap.size + 1 ≤ w1.heap.size := by have := g1.size; simpa using this
  clear g1 HS
  by_cases hsp : spl L = 0
  · obtain ⟨hT, hSb⟩ := hok hsp
    have hbl := bodyOf_len hsp
    obtain ⟨a0, a1, a2, a3, a4, a5, a6, a7, a8, hH9⟩ := nine_of hH
    have HK : Hid (kindOf L = a0.toNat) := by
      unfold Hid kindOf
      have e : L.getD 0 0 = (L.take 9).getD 0 0 := by
        rw [List.getD_eq_getElem?_getD, List.getD_eq_getElem?_getD, List.getElem?_take, if_pos (by omega)]
      rw [e, ← hT, hH9]
      rfl
    have HT : Hid (L.take 9 = [a0, a1, a2, a3, a4, a5, a6, a7, a8]) := by unfold Hid; rw [← hT, hH9]
    have HSb : Hid (Seg w1 bv (bodyOf L)) := hSb
    obtain ⟨ab, cb, hbv⟩ := hSb.shape
    rw [hbl.1] at hbv
    subst hbv
    rw [hsp, hH9, nine_bv]
    have ha0 := a0.toNat_lt
    have HL : Hid ((bodyOf L).length = lenOf L ∧ lenOf L ≤ 2147483647) := ⟨hbl.1, hbl.2.2⟩
    have HSP : Hid (spl L = 0) := hsp
    obtain ⟨m, hm⟩ : ∃ m, lenOf L = m := ⟨_, rfl⟩
    rw [hm] at HSb HL ⊢
    clear hT hSb hbl hH hbad hok hsp hm hH9
    go_wp2_with fail
    have GW : Hid (w.grownBy (w1.alloc (.cells #[.int .u8 a0.toNat, .int .u8 a1.toNat, .int .u8 a2.toNat, .int .u8 a3.toNat, .int .u8 a4.toNat, .int .u8 a5.toNat, .int .u8 a6.toNat, .int .u8 a7.toNat, .int .u8 a8.toNat] 54)) none ∧ Blk (w1.alloc (.cells #[.int .u8 a0.toNat, .int .u8 a1.toNat, .int .u8 a2.toNat, .int .u8 a3.toNat, .int .u8 a4.toNat, .int .u8 a5.toNat, .int .u8 a6.toNat, .int .u8 a7.toNat, .int .u8 a8.toNat] 54)) w.heap.size 25 #[.int .i64 0, .slice none 0 0] ∧ Blk (w1.alloc (.cells #[.int .u8 a0.toNat, .int .u8 a1.toNat, .int .u8 a2.toNat, .int .u8 a3.toNat, .int .u8 a4.toNat, .int .u8 a5.toNat, .int .u8 a6.toNat, .int .u8 a7.toNat, .int .u8 a8.toNat] 54)) w1.heap.size 54 #[.int .u8 a0.toNat, .int .u8 a1.toNat, .int .u8 a2.toNat, .int .u8 a3.toNat, .int .u8 a4.toNat, .int .u8 a5.toNat, .int .u8 a6.toNat, .int .u8 a7.toNat, .int .u8 a8.toNat] ∧ Seg (w1.alloc (.cells #[.int .u8 a0.toNat, .int .u8 a1.toNat, .int .u8 a2.toNat, .int .u8 a3.toNat, .int .u8 a4.toNat, .int .u8 a5.toNat, .int .u8 a6.toNat, .int .u8 a7.toNat, .int .u8 a8.toNat] 54)) (.slice ab m cb) (bodyOf L)) := ⟨grown_trans G1.out.1 (World.grownBy_alloc _ _ _), Blk.grown G1.out.2 (World.grownBy_alloc _ _ none) (by simp), heap_alloc_new _ _, HSb.out.grown (World.grownBy_alloc _ _ _)⟩
    generalize w1.alloc (.cells #[.int .u8 a0.toNat, .int .u8 a1.toNat, .int .u8 a2.toNat, .int .u8 a3.toNat, .int .u8 a4.toNat, .int .u8 a5.toNat, .int .u8 a6.toNat, .int .u8 a7.toNat, .int .u8 a8.toNat] 54) = w2 at GW ⊢
    have HQ : Hid (∀ x : World, w2.grownBy x none → x.cell? ⟨w1.heap.size, 0, none⟩ = some (.int .u8 a0.toNat) ∧ x.cell? ⟨w1.heap.size, 1, none⟩ = some (.int .u8 a1.toNat) ∧ x.cell? ⟨w1.heap.size, 2, none⟩ = some (.int .u8 a2.toNat) ∧ x.cell? ⟨w1.heap.size, 3, none⟩ = some (.int .u8 a3.toNat) ∧ x.cell? ⟨w1.heap.size, 4, none⟩ = some (.int .u8 a4.toNat) ∧ x.cell? ⟨w1.heap.size, 5, none⟩ = some (.int .u8 a5.toNat) ∧ x.cell? ⟨w1.heap.size, 6, none⟩ = some (.int .u8 a6.toNat) ∧ x.cell? ⟨w1.heap.size, 7, none⟩ = some (.int .u8 a7.toNat) ∧ x.cell? ⟨w1.heap.size, 8, none⟩ = some (.int .u8 a8.toNat)) := fun x hx => by
      have hb := GW.out.2.2.1.grown hx (by simp)
      exact ⟨hb.cell 0, hb.cell 1, hb.cell 2, hb.cell 3, hb.cell 4, hb.cell 5, hb.cell 6, hb.cell 7, hb.cell 8⟩
    obtain ⟨D, hD⟩ : ∃ D, (BV (hdr a0.toNat (bodyOf L))).toArray = D := ⟨_, rfl⟩
    have HD : Hid _ := hD
    have hq := neq54 (H := [a0, a1, a2, a3, a4, a5, a6, a7, a8]) (G := hdr a0.toNat (bodyOf L)) rfl (hdr_len _ _)
    rw [hD, nine_bv] at hq
    clear hD
    by_cases heq : [a0, a1, a2, a3, a4, a5, a6, a7, a8] = hdr a0.toNat (bodyOf L)
    · have e1 : decide ([a0, a1, a2, a3, a4, a5, a6, a7, a8] ≠ hdr a0.toNat (bodyOf L)) = false := by simp [heq]
      rw [e1] at hq
      clear e1
      have HC : Hid (code L = 0) := by unfold Hid code; rw [if_neg (by simpa using HSP.out), HT.out, HK.out, if_pos heq]
      clear heq
      refine wp_region_noPanic ?_
      refine wp_region_hold 1000 (fun x => w2.grownBy x none) (by kernel_rfl) ?_
      refine wpHold_take (i := 0) (v := _) (grown_drew _ _) rfl rfl (by kernel_rfl) (by kernel_rfl) (by kernel_rfl) (by kernel_rfl) (by kernel_rfl) (fun _ _ _ h => h) (by rfl) (fun wk hk => by obtain ⟨k0, k1, k2, k3, k4, k5, k6, k7, k8⟩ := HQ.out wk hk; go_simp; try rfl) ?_
      try simp only [Act.put, List.setIfInBounds_toArray, List.set_cons_zero, List.set_cons_succ]
      refine wpHold_take (i := 1) (v := _) (grown_drew _ _) rfl rfl (by kernel_rfl) (by kernel_rfl) (by kernel_rfl) (by kernel_rfl) (by kernel_rfl) (fun _ _ _ h => h) (by rfl) (fun wk hk => by obtain ⟨k0, k1, k2, k3, k4, k5, k6, k7, k8⟩ := HQ.out wk hk; go_simp; try rfl) ?_
      try simp only [Act.put, List.setIfInBounds_toArray, List.set_cons_zero, List.set_cons_succ]
      refine wpHold_take (i := 2) (v := _) (grown_drew _ _) rfl rfl (by kernel_rfl) (by kernel_rfl) (by kernel_rfl) (by kernel_rfl) (by kernel_rfl) (fun _ _ _ h => h) (by rfl) (fun wk hk => by obtain ⟨k0, k1, k2, k3, k4, k5, k6, k7, k8⟩ := HQ.out wk hk; go_simp; try rfl) ?_
      try simp only [Act.put, List.setIfInBounds_toArray, List.set_cons_zero, List.set_cons_succ]
      refine wpHold_one (i := 3) rfl (by kernel_rfl) (by rfl) (fun K hK => ?_)
      go_simp
      refine (header23 a0.toNat _ (bodyOf L) _ ha0 (GW.out.2.2.2.grown (grown_drew _ _)) (by rw [HL.out.1]; exact HL.out.2)).mono ?_
      rintro e w3 ⟨rfl, g3⟩
      have G3 : Hid (w2.grownBy w3 none) := grown_trans (grown_drew _ _) g3
      clear g3
      rw [HD.out]
      go_wp2_with fail
      refine hK.out _ _ (fun _ => G3.out) ?_
      clear hK K
      try simp only [Act.put, List.setIfInBounds_toArray, List.set_cons_zero, List.set_cons_succ]
      refine wpHold_take (i := 4) (v := _) (G3.out) rfl rfl (by kernel_rfl) (by kernel_rfl) (by kernel_rfl) (by kernel_rfl) (by kernel_rfl) (fun _ _ _ h => h) (by rfl) (fun wk hk => by obtain ⟨k0, k1, k2, k3, k4, k5, k6, k7, k8⟩ := HQ.out wk hk; go_simp; try rfl) ?_
      try simp only [Act.put, List.setIfInBounds_toArray, List.set_cons_zero, List.set_cons_succ]
      refine wpHold_done (by kernel_rfl) ?_
      refine (‹∀ (a : Act) (w : World), Code.wp Try.prog _ _ a w → _› _ _ ?_)
      go_wp2_with fail
      refine (clone25 _ (bodyOf L) _ (GW.out.2.2.2.grown G3.out) (by rw [HL.out.1]; have := HL.out.2; omega)).mono ?_
      rintro e w4 ⟨u, rfl, o4, g4⟩
      have H4 : Hid (Own w4 w3.heap.size u (bodyOf L) ∧ w.grownBy w4 none ∧ Blk w4 w.heap.size 25 #[.int .i64 0, .slice none 0 0]) := ⟨o4, grown_trans (grown_trans GW.out.1 G3.out) g4, (GW.out.2.1.grown G3.out (by simp)).grown g4 (by simp)⟩
      clear o4 g4
      obtain ⟨au, cu, hu⟩ := H4.out.1.seg.shape
      rw [HL.out.1] at hu
      subst hu
      have q0 := H4.out.2.2.cell 0
      have q1 := H4.out.2.2.cell 1
      have f0 := H4.out.2.2.free 0
      have f1 := H4.out.2.2.free 1
      simp at q0 q1
      go_wp2_with fail
      refine bodyPost_ret (told2 rfl (load25 (stored_pair _ _ H4.out.2.2)) rfl rfl) rfl ?_
      refine ⟨grown_pair _ _ H4.out.2.1 (Nat.le_refl _), fun h => absurd HC.out h, fun _ => ⟨.slice au m cu, ?_, ?_⟩⟩
      · rw [HK.out]
        rfl
      · have hle : w.heap.size + 1 ≤ w3.heap.size := by have h1 := G3.out.size; have h2 := GW.out.2.2.1.lt; omega
        refine Own.mono (B := w3.heap.size) (H4.out.1.same fun k hk => ?_) (by omega)
        have hk2 := (H4.out.1.lt k hk).1
        rw [heap_setCell_other _ _ _ _ (by simp; omega), heap_setCell_other _ _ _ _ (by simp; omega)]
    · have e1 : decide ([a0, a1, a2, a3, a4, a5, a6, a7, a8] ≠ hdr a0.toNat (bodyOf L)) = true := by simp [heq]
      rw [e1] at hq
      clear e1
      have HC : Hid (code L = 141) := by unfold Hid code; rw [if_neg (by simpa using HSP.out), HT.out, HK.out, if_neg heq]
      clear heq
      refine wp_region_noPanic ?_
      refine wp_region_hold 1000 (fun x => w2.grownBy x none) (by kernel_rfl) ?_
      refine wpHold_take (i := 0) (v := _) (grown_drew _ _) rfl rfl (by kernel_rfl) (by kernel_rfl) (by kernel_rfl) (by kernel_rfl) (by kernel_rfl) (fun _ _ _ h => h) (by rfl) (fun wk hk => by obtain ⟨k0, k1, k2, k3, k4, k5, k6, k7, k8⟩ := HQ.out wk hk; go_simp; try rfl) ?_
      try simp only [Act.put, List.setIfInBounds_toArray, List.set_cons_zero, List.set_cons_succ]
      refine wpHold_take (i := 1) (v := _) (grown_drew _ _) rfl rfl (by kernel_rfl) (by kernel_rfl) (by kernel_rfl) (by kernel_rfl) (by kernel_rfl) (fun _ _ _ h => h) (by rfl) (fun wk hk => by obtain ⟨k0, k1, k2, k3, k4, k5, k6, k7, k8⟩ := HQ.out wk hk; go_simp; try rfl) ?_
      try simp only [Act.put, List.setIfInBounds_toArray, List.set_cons_zero, List.set_cons_succ]
      refine wpHold_take (i := 2) (v := _) (grown_drew _ _) rfl rfl (by kernel_rfl) (by kernel_rfl) (by kernel_rfl) (by kernel_rfl) (by kernel_rfl) (fun _ _ _ h => h) (by rfl) (fun wk hk => by obtain ⟨k0, k1, k2, k3, k4, k5, k6, k7, k8⟩ := HQ.out wk hk; go_simp; try rfl) ?_
      try simp only [Act.put, List.setIfInBounds_toArray, List.set_cons_zero, List.set_cons_succ]
      refine wpHold_one (i := 3) rfl (by kernel_rfl) (by rfl) (fun K hK => ?_)
      go_simp
      refine (header23 a0.toNat _ (bodyOf L) _ ha0 (GW.out.2.2.2.grown (grown_drew _ _)) (by rw [HL.out.1]; exact HL.out.2)).mono ?_
      rintro e w3 ⟨rfl, g3⟩
      have G3 : Hid (w2.grownBy w3 none) := grown_trans (grown_drew _ _) g3
      clear g3
      rw [HD.out]
      go_wp2_with fail
      refine hK.out _ _ (fun _ => G3.out) ?_
      clear hK K
      try simp only [Act.put, List.setIfInBounds_toArray, List.set_cons_zero, List.set_cons_succ]
      refine wpHold_take (i := 4) (v := _) (G3.out) rfl rfl (by kernel_rfl) (by kernel_rfl) (by kernel_rfl) (by kernel_rfl) (by kernel_rfl) (fun _ _ _ h => h) (by rfl) (fun wk hk => by obtain ⟨k0, k1, k2, k3, k4, k5, k6, k7, k8⟩ := HQ.out wk hk; go_simp; try rfl) ?_
      try simp only [Act.put, List.setIfInBounds_toArray, List.set_cons_zero, List.set_cons_succ]
      refine wpHold_done (by kernel_rfl) ?_
      refine (‹∀ (a : Act) (w : World), Code.wp Try.prog _ _ a w → _› _ _ ?_)
      have H4 : Hid (w.grownBy w3 none ∧ Blk w3 w.heap.size 25 #[.int .i64 0, .slice none 0 0]) := ⟨grown_trans GW.out.1 G3.out, GW.out.2.1.grown G3.out (by simp)⟩
      have q0 := H4.out.2.cell 0
      have q1 := H4.out.2.cell 1
      have f0 := H4.out.2.free 0
      have f1 := H4.out.2.free 1
      simp at q0 q1
      go_wp2_with fail
      refine bodyPost_ret (told2 rfl (load25 (stored_pair _ _ H4.out.2)) rfl rfl) rfl ?_
      refine ⟨grown_pair _ _ H4.out.1 (Nat.le_refl _), fun _ => by rw [HC.out]; rfl, fun h => absurd h (by rw [HC.out]; decide)⟩
  · have hb := hbad hsp
    subst hb
    obtain ⟨a0, a1, a2, a3, a4, a5, a6, a7, a8, hH9⟩ := nine_of hH
    rw [hH9, nine_bv]
    have HC : Hid (code L = spl L) := by unfold Hid code; rw [if_pos hsp]
    obtain ⟨c, hc⟩ : ∃ c, spl L = c := ⟨_, rfl⟩
    rw [hc] at hsp HC ⊢
    have hci : ¬ (c : Int) = 0 := by omega
    clear hc hbad hok hH hH9
    go_upto_region 3 with fail
    have H4 : Hid (w.grownBy (w1.alloc (.cells #[.int .u8 a0.toNat, .int .u8 a1.toNat, .int .u8 a2.toNat, .int .u8 a3.toNat, .int .u8 a4.toNat, .int .u8 a5.toNat, .int .u8 a6.toNat, .int .u8 a7.toNat, .int .u8 a8.toNat] 54)) none ∧ Blk (w1.alloc (.cells #[.int .u8 a0.toNat, .int .u8 a1.toNat, .int .u8 a2.toNat, .int .u8 a3.toNat, .int .u8 a4.toNat, .int .u8 a5.toNat, .int .u8 a6.toNat, .int .u8 a7.toNat, .int .u8 a8.toNat] 54)) w.heap.size 25 #[.int .i64 0, .slice none 0 0]) := ⟨grown_trans G1.out.1 (World.grownBy_alloc _ _ _), Blk.grown G1.out.2 (World.grownBy_alloc _ _ none) (by simp)⟩
    generalize w1.alloc (.cells #[.int .u8 a0.toNat, .int .u8 a1.toNat, .int .u8 a2.toNat, .int .u8 a3.toNat, .int .u8 a4.toNat, .int .u8 a5.toNat, .int .u8 a6.toNat, .int .u8 a7.toNat, .int .u8 a8.toNat] 54) = w2 at H4 ⊢
    have q0 := H4.out.2.cell 0
    have q1 := H4.out.2.cell 1
    have f0 := H4.out.2.free 0
    have f1 := H4.out.2.free 1
    simp at q0 q1
    go_wp2_with fail
    refine bodyPost_ret (told2 rfl (load25 (stored_pair _ _ H4.out.2)) rfl rfl) rfl ?_
    refine ⟨grown_pair _ _ H4.out.1 (Nat.le_refl _), fun _ => by rw [HC.out]; rfl, fun h => absurd h (by rw [HC.out]; exact hsp)⟩

set_option maxRecDepth 100000 in
set_option maxHeartbeats 4000000 in
/-- How bytes end that no frame is a beginning of. -/
theorem ending26 (v : Value) (R : List UInt8) (w : World) (hs : Seg w v R) (hR : R ≠ [] → code R ≠ 0) : Calls Try.prog 26 #[v] w fun e w' => e = .returned (.int .i64 (ends R : Nat)) ∧ w.grownBy w' none := by
  obtain ⟨ao, cap, hv⟩ := hs.shape
  subst hv
  by_cases h0 : R = []
  · subst h0
    clear hs hR
    go_enter Try.func26, Try.ntmps26
    go_wp2_with fail
    go_ret
    exact ⟨rfl, grown_refl _ _⟩
  · have hc := hR h0
    have HE : Hid (ends R = code R) := by unfold Hid ends; rw [if_neg h0]
    obtain ⟨n, hn⟩ : ∃ n, R.length = n := ⟨_, rfl⟩
    have HS : Hid (Seg w (.slice ao n cap) R) := by rw [← hn]; exact hs
    have hn0 : ¬ (n : Int) = 0 := by
      have : n ≠ 0 := fun e => h0 (List.eq_nil_of_length_eq_zero (by rw [hn]; exact e))
      omega
    rw [hn]
    clear hn hs hR h0
    go_enter Try.func26, Try.ntmps26
    go_wp2_with fail
    refine (split33 _ R _ HS.out).mono ?_
    rintro e w1 ⟨H, bv, hH, rfl, g1, hbad, hok⟩
    obtain ⟨a0, a1, a2, a3, a4, a5, a6, a7, a8, hH9⟩ := nine_of hH
    rw [hH9, nine_bv]
    obtain ⟨ab, nb, cb, hbv⟩ : ∃ ab nb cb, bv = .slice ab nb cb := by
      by_cases hsp : spl R = 0
      · obtain ⟨ab, cb, h⟩ := (hok hsp).2.shape
        exact ⟨ab, _, cb, h⟩
      · exact ⟨none, 0, 0, hbad hsp⟩
    subst hbv
    have G1 : Hid _ := g1
    have HC : Hid (code R = if spl R = 0 then 141 else spl R) := by
      unfold Hid
      by_cases hsp : spl R = 0
      · rw [if_pos hsp]
        unfold code at hc ⊢
        rw [if_neg (by simpa using hsp)] at hc ⊢
        by_cases ht : R.take 9 = hdr (kindOf R) (bodyOf R)
        · rw [if_pos ht] at hc; exact absurd rfl hc
        · rw [if_neg ht]
      · rw [if_neg hsp]; unfold code; rw [if_pos hsp]
    obtain ⟨c, hcc⟩ : ∃ c, spl R = c := ⟨_, rfl⟩
    rw [hcc] at HC ⊢
    clear hcc hbad hok hH hH9 g1 hc HS
    by_cases hsp : c = 0
    · subst hsp
      go_wp2_with fail
      go_ret
      exact ⟨by rw [HE.out, HC.out]; rfl, grown_trans G1.out (World.grownBy_alloc _ _ _)⟩
    · have hci : ¬ (c : Int) = 0 := by omega
      go_wp2_with fail
      go_ret
      exact ⟨by rw [HE.out, HC.out, if_neg hsp]; rfl, grown_trans G1.out (World.grownBy_alloc _ _ _)⟩

/-- Whether bytes are just one frame. -/
def isOne (L : List UInt8) : Prop := code L = 0 ∧ 9 + lenOf L = L.length
def OnePost (L : List UInt8) (w : World) (e : Ending) (w' : World) : Prop :=
  w.grownBy w' none ∧ (¬ isOne L → e = .returned (.tuple #[.agg #[.int .i64 0, .slice none 0 0], .int .i64 4])) ∧ (isOne L → ∃ u, e = .returned (.tuple #[.agg #[.int .i64 (kindOf L : Nat), u], .int .i64 0]) ∧ Own w' w.heap.size u (bodyOf L))

set_option maxRecDepth 100000 in
set_option maxHeartbeats 4000000 in
theorem one17 (v : Value) (L : List UInt8) (w : World) (hs : Seg w v L) : Calls Try.prog 17 #[v] w (OnePost L w) := by
  obtain ⟨ao, cap, hv⟩ := hs.shape
  subst hv
  obtain ⟨n, hn⟩ : ∃ n, L.length = n := ⟨_, rfl⟩
  have HS : Hid (Seg w (.slice ao n cap) L) := by rw [← hn]; exact hs
  have HN : Hid _ := hn
  rw [hn]
  clear hn hs
  go_enter Try.func17, Try.ntmps17
  go_wp2_with fail
  refine (first29 _ L _ (HS.out.grown (World.grownBy_alloc _ _ _))).mono ?_
  rintro e w1 ⟨g1, hbad, hok⟩
  have G1 : Hid (w.grownBy w1 none ∧ Blk w1 w.heap.size 25 #[.int .i64 0, .slice none 0 0]) := ⟨grown_trans (World.grownBy_alloc _ _ _) g1, Blk.grown (heap_alloc_new _ _) g1 (by simp)⟩
  have hwl : w.heap.size + 1 ≤ w1.heap.size := by have := g1.size; simpa using this
  clear g1 HS
  by_cases hc : code L = 0
  · obtain ⟨u, rfl, ou⟩ := hok hc
    obtain ⟨au, cu, hu⟩ := ou.seg.shape
    have hbl := bodyOf_len (code_spl hc).1
    rw [hbl.1] at hu
    subst hu
    have HU : Hid (Own w1 (w.heap.size + 1) (.slice au (lenOf L) cu) (bodyOf L)) := by unfold Hid; have := ou; simpa using this
    have HL : Hid ((bodyOf L).length = lenOf L ∧ lenOf L ≤ 2147483647) := ⟨hbl.1, hbl.2.2⟩
    have HC : Hid _ := hc
    obtain ⟨m, hm⟩ : ∃ m, lenOf L = m := ⟨_, rfl⟩
    have HM : Hid _ := hm
    rw [hm] at HU HL ⊢
    clear hm ou hbl hc hbad hok
    obtain ⟨k, hk⟩ : ∃ k, kindOf L = k := ⟨_, rfl⟩
    have HK : Hid _ := hk
    rw [hk]
    clear hk
    go_upto_region 2 with fail
    have GW : Hid (w.grownBy (w1.alloc (.cells #[.int .i64 (k : Int), .slice au m cu] 25)) none ∧ Blk (w1.alloc (.cells #[.int .i64 (k : Int), .slice au m cu] 25)) w.heap.size 25 #[.int .i64 0, .slice none 0 0] ∧ Blk (w1.alloc (.cells #[.int .i64 (k : Int), .slice au m cu] 25)) w1.heap.size 25 #[.int .i64 (k : Int), .slice au m cu] ∧ Own (w1.alloc (.cells #[.int .i64 (k : Int), .slice au m cu] 25)) (w.heap.size + 1) (.slice au m cu) (bodyOf L)) := ⟨grown_trans G1.out.1 (World.grownBy_alloc _ _ _), Blk.grown G1.out.2 (World.grownBy_alloc _ _ none) (by simp), heap_alloc_new _ _, HU.out.grown (World.grownBy_alloc _ _ _)⟩
    generalize w1.alloc (.cells #[.int .i64 (k : Int), .slice au m cu] 25) = w2 at GW ⊢
    have p0 := GW.out.2.2.1.cell 0
    have p1 := GW.out.2.2.1.cell 1
    have q0 := GW.out.2.1.cell 0
    have q1 := GW.out.2.1.cell 1
    have f0 := GW.out.2.1.free 0
    have f1 := GW.out.2.1.free 1
    simp at p0 p1 q0 q1
    by_cases hone : 9 + m = n
    · have hi : ((9 + m : Nat) : Int) = (n : Int) := by omega
      go_wp2_with (go_at_call 9; refine (size9 _ (bodyOf L) _ GW.out.2.2.2.seg (by rw [HL.out.1]; have := HL.out.2; omega)).mono ?_; rintro e wx ⟨rfl, hx⟩; subst hx; rw [HL.out.1])
      refine bodyPost_ret (told2 rfl (load25 (stored_pair _ _ GW.out.2.1)) rfl rfl) rfl ?_
      refine ⟨grown_pair _ _ GW.out.1 (Nat.le_refl _), fun h => absurd ⟨HC.out, by rw [HM.out, HN.out]; exact hone⟩ h, fun _ => ⟨.slice au m cu, by rw [HK.out]; rfl, ?_⟩⟩
      refine Own.mono (B := w.heap.size + 1) (GW.out.2.2.2.same fun k hk => ?_) (by omega)
      have hk2 := (GW.out.2.2.2.lt k hk).1
      rw [heap_setCell_other _ _ _ _ (by simp; omega), heap_setCell_other _ _ _ _ (by simp; omega)]
    · have hi : ¬ ((9 + m : Nat) : Int) = (n : Int) := by omega
      go_wp2_with (go_at_call 9; refine (size9 _ (bodyOf L) _ GW.out.2.2.2.seg (by rw [HL.out.1]; have := HL.out.2; omega)).mono ?_; rintro e wx ⟨rfl, hx⟩; subst hx; rw [HL.out.1])
      refine bodyPost_ret (told2 rfl (load25 (stored_pair _ _ GW.out.2.1)) rfl rfl) rfl ?_
      refine ⟨grown_pair _ _ GW.out.1 (Nat.le_refl _), fun _ => rfl, fun h => absurd h.2 (by rw [HM.out, HN.out]; exact hone)⟩
  · have he := hbad hc
    subst he
    have HC : Hid _ := hc
    obtain ⟨c, hcc⟩ : ∃ c, code L = c := ⟨_, rfl⟩
    rw [hcc] at hc ⊢
    have hci : ¬ (c : Int) = 0 := by omega
    clear hbad hok hcc
    go_upto_region 2 with fail
    have GW : Hid (w.grownBy (w1.alloc (.cells #[.int .i64 0, .slice none 0 0] 25)) none ∧ Blk (w1.alloc (.cells #[.int .i64 0, .slice none 0 0] 25)) w.heap.size 25 #[.int .i64 0, .slice none 0 0]) := ⟨grown_trans G1.out.1 (World.grownBy_alloc _ _ _), Blk.grown G1.out.2 (World.grownBy_alloc _ _ none) (by simp)⟩
    generalize w1.alloc (.cells #[.int .i64 0, .slice none 0 0] 25) = w2 at GW ⊢
    have q0 := GW.out.2.cell 0
    have q1 := GW.out.2.cell 1
    have f0 := GW.out.2.free 0
    have f1 := GW.out.2.free 1
    simp at q0 q1
    go_wp2_with fail
    refine bodyPost_ret (told2 rfl (load25 (stored_pair _ _ GW.out.2)) rfl rfl) rfl ?_
    exact ⟨grown_pair _ _ GW.out.1 (Nat.le_refl _), fun _ => rfl, fun h => absurd h.1 HC.out⟩

set_option maxRecDepth 100000 in
theorem frames25 (v : Value) (L : List UInt8) (w : World) (hs : Seg w v L) : Calls Try.prog 25 #[v] w fun e w' => e = .returned (.func (.func 32) #[] #[.pointer (some ⟨w.heap.size, 0, none⟩)]) ∧ w' = w.alloc (.cells #[v] 22) := by
  obtain ⟨ao, cap, hv⟩ := hs.shape
  subst hv
  clear hs
  go_enter Try.func25, Try.ntmps25
  go_wp2_with fail
  go_ret
  exact ⟨rfl, rfl⟩
end Go.Proofs.Ytdfdlkpljgpckaa
