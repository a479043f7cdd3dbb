/-
  The step of a single byte 0.
-/
import Derived.Test.YtdmnnfppjhpdkaaE
import Derived.Test.YtdmnnfppjhpdkaaJ
namespace Go.Proofs.Ytdmnnfppjhpdkaa
open Go.RowKit
attribute [local go_sem ↓] Go.wp_at_zero Go.wp_at_succ

theorem tabV_size : tabV.size = 16 := rowV_size _ _

theorem seg_one (w : World) (x : UInt8) : Seg (w.alloc (.cells #[.int .u8 (x.toNat : Int)] 5)) (.slice (some ⟨w.heap.size, 0, none⟩) 1 1) [x] := by
  refine ⟨_, 1, rfl, by simp, by unfold maxLen; omega, by simp, fun j hj => ⟨w.heap.size, 0, rfl, ?_⟩⟩
  have e : j = 0 := by simp at hj; omega
  subst e
  rw [cell_of_row _ _ _ _ _ _ (heap_alloc_new w _)]
  rfl

theorem shl_one {k : Nat} (h : k < 32) : IntKind.u32.wrap (2 ^ k : Int) = ((2 ^ k : Nat) : Int) := by
  have h1 := pow_lt h
  have e : ((2 : Int) ^ k) = ((2 ^ k : Nat) : Int) := by simp
  rw [IntKind.wrap_u32', e]
  generalize 2 ^ k = p at h1
  omega

set_option maxRecDepth 100000 in
set_option maxHeartbeats 400000 in
theorem oneZero22 (w : World) :
    Calls Try.prog 22 #[] w fun e w' => e = .returned (.agg (matV 8)) ∧ w.grownBy w' none := by
  have G0 : Hid (w.grownBy (w.alloc (.cells (Array.replicate 32 (.int .u32 0)) 46)) none) := World.grownBy_alloc _ _ _
  have B0 : Hid (Blk (w.alloc (.cells (Array.replicate 32 (.int .u32 0)) 46)) w.heap.size 46 (Array.replicate 32 (.int .u32 0))) := heap_alloc_new _ _
  go_enter Try.func22, Try.ntmps22
  go_wp2_with fail
  refine (nibbles17 _).mono ?_
  rintro e w1 ⟨rfl, g1⟩
  have G1 : Hid (w.grownBy w1 none ∧ Blk w1 w.heap.size 46 (Array.replicate 32 (.int .u32 0))) := ⟨grown_trans G0.out g1, B0.out.kept g1 (by simp)⟩
  clear g1 G0 B0
  go_wp2_with (first | (refine wpList_store_row _ rfl rfl (.tmp 1) (.tmp 4) 38 rfl w1.heap.size tabV (Array.replicate 16 (.int .u32 0)) (by rw [tabV_size]; exact Try.size38) (by rw [tabV_size]; simp) (rowV_one _ _) rfl rfl (heap_alloc_new w1 _) ?_; rw [World.setRow_alloc_new]))
  go_loopw [5] (fun i wr => ∃ (k : Nat) (z cc : Array Value), k ≤ 32 ∧ i = .int .i64 k ∧ z.size = 32 ∧ Filled 32 k (fun j => Tn 8 (2 ^ j)) cc ∧ Blk wr w.heap.size 46 z ∧ Blk wr w1.heap.size 38 tabV ∧ Blk wr (w1.heap.size + 1) 46 cc ∧ w.grownBy wr none) (fun i _ => 32 - (intOf i).toNat)
  case atStart =>
    have ga := World.grownBy_alloc w1 (.cells tabV 38) none
    have gb := World.grownBy_alloc (w1.alloc (.cells tabV 38)) (.cells (Array.replicate 32 (.int .u32 0)) 46) none
    exact ⟨0, _, _, by omega, rfl, by simp, filled_zero 32 _, (G1.out.2.kept ga (by simp)).kept gb (by simp), Blk.kept (heap_alloc_new w1 _) gb (by simp), heap_alloc2_new w1 _ _, grown_trans G1.out.1 (grown_trans ga gb)⟩
  case round =>
    obtain ⟨k, z, cc, hk, rfl, hz, hf, b0, b1, b2, hg⟩ := hrel
    have hw1 : w.heap.size < w1.heap.size := (Array.getElem?_eq_some_iff.1 G1.out.2).1
    by_cases hlt : k < 32
    · have i1 : (0 : Int) ≤ (k : Int) := by omega
      have i2 : (k : Int) < 32 := by omega
      have S : Hid (Filled 32 k (fun j => Tn 8 (2 ^ j)) cc ∧ Blk wr w.heap.size 46 z ∧ Blk wr w1.heap.size 38 tabV ∧ Blk wr (w1.heap.size + 1) 46 cc ∧ w.grownBy wr none) := ⟨hf, b0, b1, b2, hg⟩
      have hsh := shl_one hlt
      have hp := pow_lt hlt
      obtain ⟨p, hpk⟩ : ∃ p : Nat, 2 ^ k = p := ⟨_, rfl⟩
      rw [hpk] at hsh hp
      have HP : Hid (2 ^ k = p) := hpk
      clear hpk
      clear hf b0 b1 b2 hg
      go_wp2_with fail
      refine wp_region_noPanic ?_
      refine wp_region_grow 7 (by kernel_rfl) ?_
      refine wpGrow_take (i := 0) (d := some 8) (v := .int .i64 k) rfl rfl (by kernel_rfl) (by kernel_rfl) (by kernel_rfl) (by kernel_rfl) (fun _ _ _ h => h) (by rfl) ?_ ?_
      · intro wk hk
        go_simp
        try with_reducible rfl
      try simp only [Act.put, List.setIfInBounds_toArray, List.set_cons_zero, List.set_cons_succ]
      refine wpGrow_take (i := 1) (d := some 9) (v := .agg tabV) rfl rfl (by kernel_rfl) (by kernel_rfl) (by kernel_rfl) (by kernel_rfl) (fun _ _ _ h => h) (by rfl) ?_ ?_
      · intro wk hk
        exact exec_load_row wk _ (.tmp 1) 38 rfl w1.heap.size 16 23 tabV Try.underlying38 (by rw [tabV_size]; exact Try.size38) rfl (S.out.2.2.1.kept (grown_trans (grown_drew wr none) hk) (by simp))
      try simp only [Act.put, List.setIfInBounds_toArray, List.set_cons_zero, List.set_cons_succ]
      refine wpGrow_take (i := 2) (d := some 10) (v := .int .i64 k) rfl rfl (by kernel_rfl) (by kernel_rfl) (by kernel_rfl) (by kernel_rfl) (fun _ _ _ h => h) (by rfl) ?_ ?_
      · intro wk hk
        go_simp
        try with_reducible rfl
      try simp only [Act.put, List.setIfInBounds_toArray, List.set_cons_zero, List.set_cons_succ]
      refine wpGrow_take (i := 3) (d := some 11) (v := .int .u32 (p : Int)) rfl rfl (by kernel_rfl) (by kernel_rfl) (by kernel_rfl) (by kernel_rfl) (fun _ _ _ h => h) (by rfl) ?_ ?_
      · intro wk hk
        go_simp
        try with_reducible rfl
      try simp only [Act.put, List.setIfInBounds_toArray, List.set_cons_zero, List.set_cons_succ]
      refine wpGrow_one (i := 4) rfl (by kernel_rfl) (by rfl) (fun K hK => ?_)
      go_wp2_with fail
      refine hK.out _ _ (fun _ => World.grownBy_alloc _ _ none) ?_
      clear hK K
      try simp only [Act.put, List.setIfInBounds_toArray, List.set_cons_zero, List.set_cons_succ]
      refine wpGrow_one (i := 5) rfl (by kernel_rfl) (by rfl) (fun K hK => ?_)
      go_simp
      refine (behind18 p _ [0] _ hp (Seg.grown (seg_one wr 0) (grown_drew _ none))).mono ?_
      rintro e w2 ⟨rfl, g2⟩
      have ev : crcL p [0] = Tn 8 p := by
        show Tn 8 (p ^^^ 0) = Tn 8 p
        rw [Nat.xor_zero]
      rw [ev]
      have ga : wr.grownBy w2 none := grown_trans (World.grownBy_alloc wr (.cells #[.int .u8 0] 5) none) (grown_trans (grown_drew _ none) g2)
      have S2 : Hid (Filled 32 k (fun j => Tn 8 (2 ^ j)) cc ∧ Blk w2 w.heap.size 46 z ∧ Blk w2 w1.heap.size 38 tabV ∧ Blk w2 (w1.heap.size + 1) 46 cc ∧ w.grownBy w2 none) := by
        obtain ⟨h1, h2, h3, h4, h5⟩ := S.out
        exact ⟨h1, h2.kept ga (by simp), h3.kept ga (by simp), h4.kept ga (by simp), grown_trans h5 ga⟩
      go_wp2_with fail
      refine hK.out _ _ (fun _ => g2) ?_
      clear hK K g2 ga ev
      obtain ⟨x0, hx0⟩ := S2.out.1.2.1 k hlt
      have c2 : w2.cell? ⟨w1.heap.size + 1, k, none⟩ = some (.int .u32 x0) := by rw [S2.out.2.2.2.1.cell, hx0]
      have f2 := S2.out.2.2.2.1.free k
      clear hx0
      try simp only [Act.put, List.setIfInBounds_toArray, List.set_cons_zero, List.set_cons_succ]
      refine wpGrow_one (i := 6) rfl (by kernel_rfl) (by rfl) (fun K hK => ?_)
      go_wp2_with fail
      refine hK.out _ _ (fun _ => grown_refl _ _) ?_
      clear hK K
      try simp only [Act.put, List.setIfInBounds_toArray, List.set_cons_zero, List.set_cons_succ]
      refine wpGrow_one (i := 7) rfl (by kernel_rfl) (by rfl) (fun K hK => ?_)
      go_wp2_with fail
      refine hK.out _ _ (fun h => absurd rfl h) ?_
      clear hK K
      refine wpGrow_done (by kernel_rfl) ?_
      refine (‹∀ (a : Act) (w : World), Code.wp Try.prog (Code.region 7 _ _) _ a w → _› _ _ ?_)
      go_wp2_with fail
      go_roundw
      case rel =>
        obtain ⟨h1, h2, h3, h4, h5⟩ := S2.out
        have gs := grown_setCell w2 (w1.heap.size + 1) k (.int .u32 (Tn 8 p))
        exact ⟨k + 1, z, _, by omega, by go_num, hz, h1.set _ (by rw [HP.out]) hlt, h2.kept gs (by simp; omega), h3.kept gs (by simp), h4.store k _, grown_new h5 gs (by intro x hx; simp at hx; omega)⟩
      case measure => simp [intOf]; omega
    · have e : k = 32 := by omega
      subst e
      have e2 := hf.all
      subst e2
      have S : Hid (Blk wr w.heap.size 46 z ∧ Blk wr (w1.heap.size + 1) 46 (matV 8) ∧ w.grownBy wr none) := ⟨b0, b2, hg⟩
      clear hf b0 b1 b2 hg
      go_wp2_with (first | (refine wpList_load_row _ rfl (.tmp 2) 46 rfl (w1.heap.size + 1) 32 23 (matV 8) Try.underlying46 (by unfold matV; rw [rowV_size]; exact Try.size46) rfl S.out.2.1 ?_) | (refine wpList_store_row _ rfl rfl (.tmp 0) (.tmp 16) 46 rfl w.heap.size (matV 8) z (by unfold matV; rw [rowV_size]; exact Try.size46) (by unfold matV; rw [rowV_size]; exact hz) (rowV_one _ _) rfl rfl S.out.1 ?_))
      refine bodyPost_ret (results_cell_row rfl _ _ w.heap.size 46 (matV 8) (0, 0) _ rfl (S.out.1.row _) Try.underlying46 rfl (by unfold matV; rw [rowV_size]; exact Try.size46)) rfl ⟨rfl, ?_⟩
      exact grown_new S.out.2.2 (grown_setRow _ _ _) (by intro x hx; simp at hx; omega)
end Go.Proofs.Ytdmnnfppjhpdkaa
