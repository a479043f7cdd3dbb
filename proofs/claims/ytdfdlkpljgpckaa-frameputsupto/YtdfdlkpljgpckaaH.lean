/-
  Small functions: sizes, numbers, words of four bytes, the frame as the document says it.
-/
import Derived.Test.YtdfdlkpljgpckaaF
import Derived.Test.YtdfdlkpljgpckaaCrcAll
import Derived.Test.YtdfdlkpljgpckaaDiskJh
namespace Go.Proofs.Ytdfdlkpljgpckaa
open Go.RowKit Disk
open Crc (sum sum_lt)

set_option maxRecDepth 100000 in
theorem size9 (v : Value) (L : List UInt8) (w : World) (h : Seg w v L) (hl : L.length ≤ 140737488355328) : Calls Try.prog 9 #[v] w fun e w' => e = .returned (.int .i64 ((9 + L.length : Nat) : Int)) ∧ w' = w := by
  obtain ⟨ao, cap, hv⟩ := h.shape
  subst hv
  clear h
  generalize L.length = n at *
  go_enter Try.func9, Try.ntmps9
  go_wp2_with fail
  go_ret
  exact ⟨rfl, rfl⟩

set_option maxRecDepth 100000 in
theorem num10 (x : Int) (w : World) : Calls Try.prog 10 #[.int .i64 x] w fun e w' => e = .returned (.int .i64 x) ∧ w' = w := by
  go_enter Try.func10, Try.ntmps10
  go_wp2_with fail
  go_ret
  exact ⟨rfl, rfl⟩

/-- A row of one's own, just made. -/
theorem own_made (w : World) (C : Array Value) (L : List UInt8) (n : Nat) (hx : C.toList = BV L) (hn : L.length = n) (hl : n ≤ 9223372036854775807) : Own (w.alloc (.cells C 5)) w.heap.size (.slice (some ⟨w.heap.size, 0, none⟩) n n) L := by
  have hsz : C.size = L.length := by rw [← Array.length_toList, hx, BV_len]
  subst hn
  refine ⟨by rw [BV_len]; omega, .inr ⟨w.heap.size, L.length, C, rfl, Nat.le_refl _, heap_alloc_new _ _, Nat.le_refl _, by unfold maxLen; omega, by omega, ?_⟩⟩
  rw [← hx, ← hsz, ← Array.length_toList, Nat.mul_one, List.take_length]

theorem bv_be (n : Nat) (h : n < 4294967296) : [Value.int .u8 ((n : Int) / 16777216), .int .u8 ((n : Int) / 65536 % 256), .int .u8 ((n : Int) / 256 % 256), .int .u8 ((n : Int) % 256)] = BV (be n) := by
  simp only [BV, be, List.map_cons, List.map_nil, UInt8.toNat_ofNat']
  congr 3
  omega

set_option maxRecDepth 100000 in
theorem word20 (n : Nat) (w : World) (h : n < 4294967296) : Calls Try.prog 20 #[.int .u32 n] w fun e w' => ∃ u, e = .returned u ∧ Own w' w.heap.size u (be n) ∧ w.grownBy w' none := by
  go_enter Try.func20, Try.ntmps20
  go_wp2_with fail
  go_ret
  exact ⟨_, rfl, own_made _ _ _ 4 (bv_be n h) rfl (by omega), World.grownBy_alloc _ _ _⟩

set_option maxRecDepth 100000 in
set_option maxHeartbeats 400000 in
theorem refput11 (k : Nat) (v : Value) (L : List UInt8) (w : World) (hk : k < 256) (hs : Seg w v L) (hL : L.length ≤ 2147483647) : Calls Try.prog 11 #[.int .i64 k, v] w fun e w' => ∃ u, e = .returned u ∧ Own w' w.heap.size u (frm k L) ∧ w.grownBy w' none := by
  obtain ⟨ao, cap, hv⟩ := hs.shape
  subst hv
  obtain ⟨n, hn⟩ : ∃ n, L.length = n := ⟨_, rfl⟩
  have HS : Hid (Seg w (.slice ao n cap) L) := by rw [← hn]; exact hs
  have HN : Hid _ := hn
  rw [hn] at hL ⊢
  clear hn hs
  go_enter Try.func11, Try.ntmps11
  go_wp2_with fail
  refine (word20 n _ (by omega)).mono ?_
  rintro e w1 ⟨u1, rfl, o1, g1⟩
  have H1 : Hid (Own (w.alloc (.cells #[.int .u8 k] 5)) w.heap.size (.slice (some ⟨w.heap.size, 0, none⟩) 1 1) [UInt8.ofNat k]) := own_made _ _ _ 1 (by simp [BV, UInt8.toNat_ofNat']; omega) rfl (by omega)
  have H2 : Hid (Own w1 w.heap.size (.slice (some ⟨w.heap.size, 0, none⟩) 1 1) [UInt8.ofNat k] ∧ Own w1 (w.heap.size + 1) u1 (be n) ∧ w.grownBy w1 none) := ⟨H1.out.grown g1, by have := o1; simpa using this, grown_trans (World.grownBy_alloc _ _ _) g1⟩
  clear o1 g1 H1
  go_wp2_with (at_builtin; refine app22 _ rfl _ _ rfl w.heap.size _ [UInt8.ofNat k] _ (be n) rfl rfl H2.out.1 H2.out.2.1.seg ?c0 ?c1 ?_)
  case c0 => simp [be_len]
  case c1 => exact H2.out.2.2.size
  intro v2 w2 o2 g2 l2
  have H3 : Hid (Own w2 w.heap.size v2 (pre5 k n) ∧ w.grownBy w2 none) := ⟨o2, grown_new H2.out.2.2 g2 (by intro x hx; simp [Value.ownBlock] at hx; omega)⟩
  clear o2 g2 l2 H2
  obtain ⟨a2, c2, hv2⟩ := H3.out.1.seg.shape
  rw [pre5_len] at hv2
  subst hv2
  go_wp2_with (at_builtin; refine app22 _ rfl _ _ rfl w2.heap.size _ [] _ (pre5 k n) rfl rfl (Own.nil _ _) H3.out.1.seg ?d0 ?d1 ?_)
  case d0 => simp [pre5_len]
  case d1 => exact Nat.le_refl _
  intro v3 w3 o3 g3 l3
  have H4 : Hid (Own w3 w2.heap.size v3 (pre5 k n) ∧ w2.grownBy w3 none) := ⟨o3, g3⟩
  clear o3 g3 l3
  go_wp2_with (at_builtin; refine app22 _ rfl _ _ rfl w2.heap.size _ (pre5 k n) _ L rfl rfl H4.out.1 ((HS.out.grown H3.out.2).grown H4.out.2) ?e0 ?e1 ?_)
  case e0 => rw [HN.out, pre5_len]; omega
  case e1 => exact H4.out.2.size
  intro v4 w4 o4 g4 l4
  have H5 : Hid (Own w4 w2.heap.size v4 (pre5 k n ++ L) ∧ w2.grownBy w4 none) := ⟨o4, grown_new H4.out.2 g4 (by intro x hx; exact (H4.out.1.lt x hx).1)⟩
  clear o4 g4 l4 H4
  go_wp2_with fail
  refine (Crc.sum8 _ (pre5 k n ++ L) _ H5.out.1.seg).mono ?_
  rintro e w5 ⟨rfl, hw5⟩
  subst hw5
  obtain ⟨σ, hσ⟩ : ∃ σ, sum (pre5 k n ++ L) = σ := ⟨_, rfl⟩
  have hσl := sum_lt (pre5 k n ++ L)
  have HE : Hid (frm k L = pre5 k n ++ be σ ++ L) := by unfold Hid frm hdr; rw [HN.out, hσ]
  rw [hσ] at hσl ⊢
  clear hσ
  go_wp2_with fail
  refine (word20 σ _ hσl).mono ?_
  rintro e w6 ⟨u6, rfl, o6, g6⟩
  have H6 : Hid (Own w6 w.heap.size (.slice a2 5 c2) (pre5 k n) ∧ Own w6 w5.heap.size u6 (be σ) ∧ w.grownBy w6 none) := ⟨(H3.out.1.grown H5.out.2).grown g6, o6, grown_trans (grown_trans H3.out.2 H5.out.2) g6⟩
  clear o6 g6 H3 H5
  go_wp2_with (at_builtin; refine app22 _ rfl _ _ rfl w.heap.size _ (pre5 k n) _ (be σ) rfl rfl H6.out.1 H6.out.2.1.seg ?f0 ?f1 ?_)
  case f0 => simp [pre5_len, be_len]
  case f1 => exact H6.out.2.2.size
  intro v7 w7 o7 g7 l7
  have H7 : Hid (Own w7 w.heap.size v7 (pre5 k n ++ be σ) ∧ w.grownBy w7 none) := ⟨o7, grown_new H6.out.2.2 g7 (by intro x hx; exact (H6.out.1.lt x hx).1)⟩
  clear o7 g7 l7 H6
  go_wp2_with (at_builtin; refine app22 _ rfl _ _ rfl w.heap.size _ (pre5 k n ++ be σ) _ L rfl rfl H7.out.1 (HS.out.grown H7.out.2) ?h0 ?h1 ?_)
  case h0 => rw [HN.out, List.length_append, pre5_len, be_len]; omega
  case h1 => exact H7.out.2.size
  intro v8 w8 o8 g8 l8
  have H8 : Hid (Own w8 w.heap.size v8 (frm k L) ∧ w.grownBy w8 none) := ⟨by rw [HE.out]; exact o8, grown_new H7.out.2 g8 (by intro x hx; exact (H7.out.1.lt x hx).1)⟩
  clear o8 g8 l8 H7
  go_wp2_with fail
  go_ret
  exact ⟨_, rfl, H8.out.1, H8.out.2⟩
end Go.Proofs.Ytdfdlkpljgpckaa
