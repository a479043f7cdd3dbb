/-
  The header: made, and what it says.
-/
import Derived.Test.YtdfdlkpljgpckaaH
import Derived.Laws.CopyOwn
import Derived.Deep.DeepCutAuto
namespace Go.Proofs.Ytdfdlkpljgpckaa
open Go.RowKit Disk
open Crc (sum sum_lt)

theorem Try.size54 : (Try.prog.info? 54).map (·.size) = some 9 := by kernel_rfl

/-- The first bytes of a block. -/
theorem seg_part {w : World} {b t : Nat} {C : Array Value} (hb : Blk w b t C) (L : List UInt8) (n cap : Nat) (hx : C.toList.take n = BV L) (hn : L.length = n) (hc : n ≤ cap) (hm : cap ≤ 9223372036854775807) : Seg w (.slice (some ⟨b, 0, none⟩) n cap) L := by
  subst hn
  refine ⟨_, cap, rfl, hc, by unfold maxLen; omega, by simp, fun j hj => ⟨b, 0, rfl, ?_⟩⟩
  rw [hb.cell, Nat.zero_add, ← Array.getElem?_toList]
  have := congrArg (fun X => X[j]?) hx
  simp only [List.getElem?_take, if_pos hj] at this
  rw [this]
  simp [BV, hj]

theorem bv_pre5 (k n : Nat) (hk : k < 256) (h : n < 4294967296) : [Value.int .u8 (k : Int), .int .u8 ((n : Int) / 16777216), .int .u8 ((n : Int) / 65536 % 256), .int .u8 ((n : Int) / 256 % 256), .int .u8 ((n : Int) % 256)] = BV (pre5 k n) := by
  unfold pre5
  rw [show BV (UInt8.ofNat k :: be n) = Value.int .u8 ((UInt8.ofNat k).toNat : Int) :: BV (be n) from rfl, ← bv_be n h, UInt8.toNat_ofNat']
  congr 2
  omega

set_option maxRecDepth 100000 in
set_option maxHeartbeats 4000000 in
theorem header23 (k : Nat) (v : Value) (L : List UInt8) (w : World) (hk : k < 256) (hs : Seg w v L) (hL : L.length ≤ 2147483647) : Calls Try.prog 23 #[.int .i64 k, v] w fun e w' => e = .returned (.agg (BV (hdr k L)).toArray) ∧ w.grownBy w' none := by
  obtain ⟨ao, cap, hv⟩ := hs.shape
  subst hv
  obtain ⟨n, hn⟩ : ∃ n, L.length = n := ⟨_, rfl⟩
  have HS : Hid (Seg w (.slice ao n cap) L) := by rw [← hn]; exact hs
  have HN : Hid _ := hn
  rw [hn] at hL ⊢
  clear hn hs
  obtain ⟨C, hC⟩ : ∃ C, (BV (hdr k L)).toArray = C := ⟨_, rfl⟩
  have HC : Hid (C.all (·.oneCell') = true ∧ C.size = 9 ∧ (BV (hdr k L)).toArray = C) := by
    refine ⟨?_, ?_, hC⟩
    · rw [← hC, List.all_toArray]
      exact List.all_eq_true.2 fun u hu => BV_one _ u hu
    · rw [← hC]
      simp [BV_len, hdr_len]
  rw [hC]
  clear hC
  go_enter Try.func23, Try.ntmps23
  go_wp2_with fail
  have HB : Hid (∀ W : World, (W = ((w.alloc (.cells #[.int .u8 0, .int .u8 0, .int .u8 0, .int .u8 0, .int .u8 0, .int .u8 0, .int .u8 0, .int .u8 0, .int .u8 0] 54)).alloc (.cells #[.int .u8 k, .int .u8 ((n : Int) / 16777216), .int .u8 ((n : Int) / 65536 % 256), .int .u8 ((n : Int) / 256 % 256), .int .u8 ((n : Int) % 256), .int .u8 0, .int .u8 0, .int .u8 0, .int .u8 0] 54))) → Blk W w.heap.size 54 #[.int .u8 0, .int .u8 0, .int .u8 0, .int .u8 0, .int .u8 0, .int .u8 0, .int .u8 0, .int .u8 0, .int .u8 0] ∧ Blk W (w.heap.size + 1) 54 #[.int .u8 k, .int .u8 ((n : Int) / 16777216), .int .u8 ((n : Int) / 65536 % 256), .int .u8 ((n : Int) / 256 % 256), .int .u8 ((n : Int) % 256), .int .u8 0, .int .u8 0, .int .u8 0, .int .u8 0] ∧ w.grownBy W none ∧ W.heap.size = w.heap.size + 1 + 1) := by
    intro W hW
    subst hW
    exact ⟨heap_alloc2_old _ _ _, heap_alloc2_new _ _ _, grown_trans (World.grownBy_alloc _ _ _) (World.grownBy_alloc _ _ _), by simp⟩
  obtain ⟨W, hW⟩ : ∃ W, (w.alloc (.cells #[.int .u8 0, .int .u8 0, .int .u8 0, .int .u8 0, .int .u8 0, .int .u8 0, .int .u8 0, .int .u8 0, .int .u8 0] 54)).alloc (.cells #[.int .u8 k, .int .u8 ((n : Int) / 16777216), .int .u8 ((n : Int) / 65536 % 256), .int .u8 ((n : Int) / 256 % 256), .int .u8 ((n : Int) % 256), .int .u8 0, .int .u8 0, .int .u8 0, .int .u8 0] 54) = W := ⟨_, rfl⟩
  have HW : Hid _ := HB.out W hW.symm
  rw [hW]
  clear hW HB
  have hsz := HW.out.2.2.2
  rw [← hsz]
  refine (Crc.sum7 _ [pre5 k n, L] _ (Crc.segs_two (seg_part HW.out.2.1 (pre5 k n) 5 9 (by rw [← bv_pre5 k n hk (by omega)]; rfl) rfl (by omega) (by omega)) (HS.out.grown HW.out.2.2.1))).mono ?_
  rw [hsz]
  rintro e w3 ⟨rfl, g3⟩
  have G3 : Hid (Blk w3 w.heap.size 54 #[.int .u8 0, .int .u8 0, .int .u8 0, .int .u8 0, .int .u8 0, .int .u8 0, .int .u8 0, .int .u8 0, .int .u8 0] ∧ Blk w3 (w.heap.size + 1) 54 #[.int .u8 k, .int .u8 ((n : Int) / 16777216), .int .u8 ((n : Int) / 65536 % 256), .int .u8 ((n : Int) / 256 % 256), .int .u8 ((n : Int) % 256), .int .u8 0, .int .u8 0, .int .u8 0, .int .u8 0] ∧ w.grownBy w3 none) := by
    have g := grown_trans (World.grownBy_alloc W _ none) g3
    exact ⟨HW.out.1.grown g (by simp), HW.out.2.1.grown g (by simp), grown_trans HW.out.2.2.1 g⟩
  clear g3 HW hsz
  obtain ⟨σ, hσ⟩ : ∃ σ, sum (pre5 k n ++ L) = σ := ⟨_, rfl⟩
  have hσl := sum_lt (pre5 k n ++ L)
  have HE : Hid (hdr k L = pre5 k n ++ be σ) := by unfold Hid hdr; rw [HN.out, hσ]
  have e2 : [pre5 k n, L].flatten = pre5 k n ++ L := by simp
  rw [e2, hσ]
  rw [hσ] at hσl
  clear hσ e2
  have c5 := G3.out.2.1.cell 5
  have c6 := G3.out.2.1.cell 6
  have c7 := G3.out.2.1.cell 7
  have c8 := G3.out.2.1.cell 8
  have f5 := G3.out.2.1.free 5
  have f6 := G3.out.2.1.free 6
  have f7 := G3.out.2.1.free 7
  have f8 := G3.out.2.1.free 8
  simp at c5 c6 c7 c8
  have HB5 : Hid (Blk ((((w3.setCell ⟨w.heap.size + 1, 5, none⟩ (.int .u8 ((σ : Int) / 16777216))).setCell ⟨w.heap.size + 1, 6, none⟩ (.int .u8 ((σ : Int) / 65536 % 256))).setCell ⟨w.heap.size + 1, 7, none⟩ (.int .u8 ((σ : Int) / 256 % 256))).setCell ⟨w.heap.size + 1, 8, none⟩ (.int .u8 ((σ : Int) % 256))) (w.heap.size + 1) 54 (BV (hdr k L)).toArray) := by
    have h1 := (((G3.out.2.1.store 5 (.int .u8 ((σ : Int) / 16777216))).store 6 (.int .u8 ((σ : Int) / 65536 % 256))).store 7 (.int .u8 ((σ : Int) / 256 % 256))).store 8 (.int .u8 ((σ : Int) % 256))
    rw [HE.out, BV_append, ← bv_pre5 k n hk (by omega), ← bv_be σ hσl]
    exact h1
  have HG5 : Hid (w3.grownBy ((((w3.setCell ⟨w.heap.size + 1, 5, none⟩ (.int .u8 ((σ : Int) / 16777216))).setCell ⟨w.heap.size + 1, 6, none⟩ (.int .u8 ((σ : Int) / 65536 % 256))).setCell ⟨w.heap.size + 1, 7, none⟩ (.int .u8 ((σ : Int) / 256 % 256))).setCell ⟨w.heap.size + 1, 8, none⟩ (.int .u8 ((σ : Int) % 256))) (some (w.heap.size + 1))) := grown_trans (grown_trans (grown_trans (grown_setCell _ _ _ _) (grown_setCell _ _ _ _)) (grown_setCell _ _ _ _)) (grown_setCell _ _ _ _)
  have HB4 : Hid (Blk ((((w3.setCell ⟨w.heap.size + 1, 5, none⟩ (.int .u8 ((σ : Int) / 16777216))).setCell ⟨w.heap.size + 1, 6, none⟩ (.int .u8 ((σ : Int) / 65536 % 256))).setCell ⟨w.heap.size + 1, 7, none⟩ (.int .u8 ((σ : Int) / 256 % 256))).setCell ⟨w.heap.size + 1, 8, none⟩ (.int .u8 ((σ : Int) % 256))) w.heap.size 54 #[.int .u8 0, .int .u8 0, .int .u8 0, .int .u8 0, .int .u8 0, .int .u8 0, .int .u8 0, .int .u8 0, .int .u8 0]) := G3.out.1.grown HG5.out (by simp)
  rw [HC.out.2.2] at HB5
  go_upto_region 5 with fail
  generalize (((w3.setCell ⟨w.heap.size + 1, 5, none⟩ (.int .u8 ((σ : Int) / 16777216))).setCell ⟨w.heap.size + 1, 6, none⟩ (.int .u8 ((σ : Int) / 65536 % 256))).setCell ⟨w.heap.size + 1, 7, none⟩ (.int .u8 ((σ : Int) / 256 % 256))).setCell ⟨w.heap.size + 1, 8, none⟩ (.int .u8 ((σ : Int) % 256)) = w4 at HB5 HB4 HG5 ⊢
  clear c5 c6 c7 c8 f5 f6 f7 f8
  refine wp_region_lit ?_
  refine Crc.wpList_load_row _ rfl (.tmp 6) 54 rfl (w.heap.size + 1) 9 5 C Try.underlying54 (by rw [HC.out.2.1]; exact Try.size54) rfl HB5.out ?_
  refine Crc.wpList_store_row _ rfl rfl (.tmp 4) (.tmp 44) 54 rfl w.heap.size C _ (by rw [HC.out.2.1]; exact Try.size54) (by rw [HC.out.2.1]; rfl) HC.out.1 rfl rfl HB4.out ?_
  go_wp2_with fail
  refine bodyPost_ret (results_cell_row rfl _ _ w.heap.size 54 C (0, 0) _ rfl (setRow_heap _ _ _ _ _ _ HB4.out) Try.underlying54 rfl (by rw [HC.out.2.1]; exact Try.size54)) rfl ⟨rfl, ?_⟩
  exact grown_new (grown_new G3.out.2.2 HG5.out (by intro x hx; simp at hx; omega)) (Crc.grown_setRow _ _ _) (by intro x hx; simp at hx; omega)
end Go.Proofs.Ytdfdlkpljgpckaa
