/-
  The chapter's rows; disks that are not there.
-/
import Derived.Test.YtegacmcekladfaaT
namespace Go.Proofs.Ytegacmcekladfaa
open Go.RowKit

theorem DK.ptr {w : World} {F : Nat → Prop} {v : Value} {S : St} (h : DK w F v S) : ∃ b, v = .pointer (some ⟨b, 0, none⟩) := by
  obtain ⟨b, _, _, _, h, _⟩ := h
  exact ⟨b, h⟩

set_option maxRecDepth 100000 in
set_option maxHeartbeats 1000000 in
theorem known12 (w : World) : Calls Try.prog 12 #[] w fun e w' => e = .returned (.bool true) ∧ w.grownBy w' none := by
  go_enter Try.func12, Try.ntmps12
  go_wp2_with fail
  refine (new42 6 _ (by omega) (by omega)).mono ?_
  rintro e w1 ⟨p, rfl, g1, F, hd, hF⟩
  obtain ⟨b, rfl⟩ := hd.ptr
  have HS : Hid (DK w1 F (.pointer (some ⟨b, 0, none⟩)) (St.of 6 [] []) ∧ w.grownBy w1 none ∧ ∀ k, F k → w.heap.size ≤ k) := ⟨hd, g1, hF⟩
  clear g1 hd hF
  go_wp2_with fail
  refine (write19 F _ _ (St.of 6 [] []) [1, 2, 3] _ (HS.out.1.grown (World.grownBy_alloc _ _ none)) (by decide) (seg_lit _ _ _ [1, 2, 3] rfl (by simp)) (fun _ k hk hf => by simp [Value.ownBlock] at hk; have := HS.out.1.lt k hf; omega)).mono ?_
  rw [show (St.of 6 [] []).writeCode [1, 2, 3] = 0 from rfl]
  rintro e w2 ⟨rfl, F2, d2, a2⟩
  have HS2 : Hid (DK w2 F2 (.pointer (some ⟨b, 0, none⟩)) ((St.of 6 [] []).write [1, 2, 3]) ∧ (∀ k, F2 k → w.heap.size ≤ k) ∧ w.grownBy w2 none) := by
    obtain ⟨h1, h2, h3⟩ := HS.out
    have hz := h2.size
    have hF2 : ∀ k, F2 k → w.heap.size ≤ k := fun k hk => by
      rcases a2.sub k hk with h | h
      · exact h3 k h
      · simp at h; omega
    have hg := grown_trans h2 (World.grownBy_alloc w1 (.cells #[.int .u8 1, .int .u8 2, .int .u8 3] 5) none)
    exact ⟨d2, hF2, (Fr.trans (Fr.of (F := F) hg (by simp)) a2.fr (fun k hk => .inl hk)).grown h3⟩
  clear d2 a2 HS
  go_wp2_with fail
  refine (write19 F2 _ _ ((St.of 6 [] []).write [1, 2, 3]) [4, 5, 6, 7] _ (HS2.out.1.grown (World.grownBy_alloc _ _ none)) (by decide) (seg_lit _ _ _ [4, 5, 6, 7] rfl (by simp)) (fun _ k hk hf => by simp [Value.ownBlock] at hk; have := HS2.out.1.lt k hf; omega)).mono ?_
  rw [show ((St.of 6 [] []).write [1, 2, 3]).writeCode [4, 5, 6, 7] = 7 from rfl]
  rintro e w3 ⟨rfl, F3, d3, a3⟩
  have HS3 : Hid (DK w3 F3 (.pointer (some ⟨b, 0, none⟩)) (((St.of 6 [] []).write [1, 2, 3]).write [4, 5, 6, 7]) ∧ (∀ k, F3 k → w.heap.size ≤ k) ∧ w.grownBy w3 none) := by
    obtain ⟨h1, h3, h2⟩ := HS2.out
    have hz := h2.size
    have hF3 : ∀ k, F3 k → w.heap.size ≤ k := fun k hk => by
      rcases a3.sub k hk with h | h
      · exact h3 k h
      · simp at h; omega
    have hg := grown_trans h2 (World.grownBy_alloc w2 (.cells #[.int .u8 4, .int .u8 5, .int .u8 6, .int .u8 7] 5) none)
    exact ⟨d3, hF3, (Fr.trans (Fr.of (F := F2) hg (by simp)) a3.fr (fun k hk => .inl hk)).grown h3⟩
  clear d3 a3 HS2
  obtain ⟨S, hS⟩ : ∃ S, ((St.of 6 [] []).write [1, 2, 3]).write [4, 5, 6, 7] = S := ⟨_, rfl⟩
  rw [hS] at HS3
  have s1 : Hid (S.cap - S.log.length = 3 ∧ S.sure = 0 ∧ (S.stop 2).log = [1, 2] ∧ (S.stop 2).sure = 2 ∧ S.switchCode = 5 ∧ S.switch.steps = 3 ∧ (S.switch.put [7]).steps = 4) := by rw [← hS]; exact ⟨rfl, rfl, rfl, rfl, rfl, rfl, rfl⟩
  have s2 : Hid (S.steps < 100) := by unfold Hid; rw [← hS]; decide
  clear hS
  go_wp2_with fail
  refine (roomD F3 _ S _ HS3.out.1).mono ?_
  rw [s1.out.1]
  rintro e w4 ⟨rfl, g4, hh⟩
  have HS4 : Hid (DK w4 F3 (.pointer (some ⟨b, 0, none⟩)) S ∧ (∀ k, F3 k → w.heap.size ≤ k) ∧ w.grownBy w4 none) := ⟨HS3.out.1.grown g4, HS3.out.2.1, grown_trans HS3.out.2.2 g4⟩
  clear g4 hh HS3
  go_wp2_with fail
  refine (sureD F3 _ S _ HS4.out.1).mono ?_
  rw [s1.out.2.1]
  rintro e w5 ⟨rfl, he⟩
  subst he
  go_wp2_with fail
  refine (stop14 F3 _ S 2 _ HS4.out.1).mono ?_
  rintro e w6 ⟨q, rfl, g6, G, hq, hG⟩
  obtain ⟨b2, rfl⟩ := hq.ptr
  have HS6 : Hid (DK w6 F3 (.pointer (some ⟨b, 0, none⟩)) S ∧ (∀ k, F3 k → w.heap.size ≤ k) ∧ w.grownBy w6 none ∧ DK w6 G (.pointer (some ⟨b2, 0, none⟩)) (S.stop 2)) := ⟨HS4.out.1.grown g6, HS4.out.2.1, grown_trans HS4.out.2.2 g6, hq⟩
  clear g6 hq hG HS4
  go_wp2_with fail
  refine (log13 G _ _ _ HS6.out.2.2.2).mono ?_
  rw [s1.out.2.2.1]
  rintro e w7 ⟨ul, rfl, ol, g7⟩
  have cv := seg_str ol.seg
  have HS7 : Hid (DK w7 F3 (.pointer (some ⟨b, 0, none⟩)) S ∧ (∀ k, F3 k → w.heap.size ≤ k) ∧ w.grownBy w7 none ∧ DK w7 G (.pointer (some ⟨b2, 0, none⟩)) (S.stop 2)) := ⟨HS6.out.1.grown g7, HS6.out.2.1, grown_trans HS6.out.2.2.1 g7, HS6.out.2.2.2.grown g7⟩
  clear ol g7 HS6
  go_wp2_with fail
  refine (sureD G _ _ _ HS7.out.2.2.2).mono ?_
  rw [s1.out.2.2.2.1]
  rintro e w8 ⟨rfl, he⟩
  subst he
  go_wp2_with fail
  refine (switch22 F3 _ S _ HS7.out.1 (by have := s2.out; omega)).mono ?_
  rw [s1.out.2.2.2.2.1]
  rintro e w9 ⟨rfl, F4, d4, a4⟩
  have HS9 : Hid (DK w9 F4 (.pointer (some ⟨b, 0, none⟩)) S.switch ∧ (∀ k, F4 k → w.heap.size ≤ k) ∧ w.grownBy w9 none) := by
    obtain ⟨h1, h3, h2, _⟩ := HS7.out
    have hz := h2.size
    exact ⟨d4, fun k hk => by
      rcases a4.sub k hk with h | h
      · exact h3 k h
      · omega, (Fr.trans (Fr.of (F := F3) h2 (by simp)) a4.fr (fun k hk => .inl hk)).grown h3⟩
  clear d4 a4 HS7 cv
  go_wp2_with fail
  refine (put17 F4 _ _ S.switch [7] _ (HS9.out.1.grown (World.grownBy_alloc _ _ none)) (by have := s1.out.2.2.2.2.2.1; omega) (seg_lit _ _ _ [7] rfl (by simp)) (fun _ k hk hf => by simp [Value.ownBlock] at hk; have := HS9.out.1.lt k hf; omega) (by simp)).mono ?_
  rintro e w10 ⟨rfl, F5, d5, a5⟩
  have HS10 : Hid (DK w10 F5 (.pointer (some ⟨b, 0, none⟩)) (S.switch.put [7]) ∧ w.grownBy w10 none) := by
    obtain ⟨h1, h3, h2⟩ := HS9.out
    have hg := grown_trans h2 (World.grownBy_alloc w9 (.cells #[.int .u8 7] 5) none)
    exact ⟨d5, (Fr.trans (Fr.of (F := F4) hg (by simp)) a5.fr (fun k hk => .inl hk)).grown h3⟩
  clear d5 a5 HS9
  go_wp2_with fail
  refine (stepsD F5 _ _ _ HS10.out.1).mono ?_
  rw [s1.out.2.2.2.2.2.2]
  rintro e w11 ⟨rfl, he⟩
  subst he
  go_wp2_with fail
  go_ret
  exact ⟨rfl, HS10.out.2⟩

set_option maxRecDepth 100000 in
set_option maxHeartbeats 1000000 in
theorem nil5 (w : World) : Calls Try.prog 5 #[] w fun e w' => e = .returned (.bool true) ∧ w.grownBy w' none := by
  go_enter Try.func5, Try.ntmps5
  go_wp2_with fail
  have HB : Hid (Blk ((w.alloc (.cells #[.int .i64 0, .slice none 0 0, .int .i64 0, .bool false, .slice none 0 0, .bool false, .slice none 0 0, .int .i64 0, .int .i64 0] 54)).alloc (.cells #[.pointer none, .pointer (some ⟨w.heap.size, 0, none⟩)] 28)) w.heap.size 54 #[.int .i64 0, .slice none 0 0, .int .i64 0, .bool false, .slice none 0 0, .bool false, .slice none 0 0, .int .i64 0, .int .i64 0] ∧ Blk ((w.alloc (.cells #[.int .i64 0, .slice none 0 0, .int .i64 0, .bool false, .slice none 0 0, .bool false, .slice none 0 0, .int .i64 0, .int .i64 0] 54)).alloc (.cells #[.pointer none, .pointer (some ⟨w.heap.size, 0, none⟩)] 28)) (w.heap.size + 1) 28 #[.pointer none, .pointer (some ⟨w.heap.size, 0, none⟩)] ∧ w.grownBy ((w.alloc (.cells #[.int .i64 0, .slice none 0 0, .int .i64 0, .bool false, .slice none 0 0, .bool false, .slice none 0 0, .int .i64 0, .int .i64 0] 54)).alloc (.cells #[.pointer none, .pointer (some ⟨w.heap.size, 0, none⟩)] 28)) none) :=
    ⟨heap_alloc2_old w _ _, heap_alloc2_new w _ _, grown_trans (World.grownBy_alloc _ _ _) (World.grownBy_alloc _ _ _)⟩
  generalize (w.alloc (.cells #[.int .i64 0, .slice none 0 0, .int .i64 0, .bool false, .slice none 0 0, .bool false, .slice none 0 0, .int .i64 0, .int .i64 0] 54)).alloc (.cells #[.pointer none, .pointer (some ⟨w.heap.size, 0, none⟩)] 28) = W0 at HB ⊢
  go_loopw [3] (fun i wr => ∃ k : Nat, k ≤ 2 ∧ i = .int .i64 k ∧ W0.grownBy wr none) (fun i _ => 2 - (intOf i).toNat)
  case atStart => exact ⟨0, by omega, rfl, grown_refl _ _⟩
  case round =>
    obtain ⟨k, hk, rfl, hg⟩ := hrel
    have hk3 : k = 0 ∨ k = 1 ∨ k = 2 := by omega
    clear hk
    rcases hk3 with rfl | rfl | rfl
    · skip
      have c0 : wr.cell? ⟨w.heap.size + 1, 0, none⟩ = some (.pointer none) := (HB.out.2.1.grown hg (by simp)).cell 0
      have GN : Hid (Gone wr (.pointer none)) := .inl rfl
      have HG : Hid (W0.grownBy wr none) := hg
      clear hg
      go_wp2_with fail
      refine (write19_gone _ _ _ GN.out).mono ?_
      rintro e wy ⟨rfl, he⟩; subst he
      go_wp2_with fail
      refine (sync18_gone _ _ GN.out).mono ?_
      rintro e wy ⟨rfl, he⟩; subst he
      go_wp2_with fail
      refine (trim20_gone _ _ _ GN.out).mono ?_
      rintro e wy ⟨rfl, he⟩; subst he
      go_wp2_with fail
      refine (drop21_gone _ _ _ GN.out).mono ?_
      rintro e wy ⟨rfl, he⟩; subst he
      go_wp2_with fail
      refine (put17_gone _ _ _ GN.out).mono ?_
      rintro e wy ⟨rfl, he⟩; subst he
      go_wp2_with fail
      refine (switch22_gone _ _ GN.out).mono ?_
      rintro e wy ⟨rfl, he⟩; subst he
      go_wp2_with fail
      refine (stop14_gone _ _ _ GN.out).mono ?_
      rintro e wy ⟨rfl, he⟩; subst he
      go_wp2_with fail
      refine (copy23_gone _ _ GN.out).mono ?_
      rintro e wy ⟨rfl, he⟩; subst he
      go_wp2_with fail
      refine (tells10_gone _ _ GN.out).mono ?_
      rintro e w2 ⟨rfl, g2⟩
      have G2 : Hid (W0.grownBy w2 none) := grown_trans HG.out g2
      clear g2
      go_wp2_with fail
      go_roundw
      case rel => exact ⟨1, by omega, by go_num, G2.out⟩
      case measure => simp [intOf]
    · skip
      have c1 : wr.cell? ⟨w.heap.size + 1, 1, none⟩ = some (.pointer (some ⟨w.heap.size, 0, none⟩)) := (HB.out.2.1.grown hg (by simp)).cell 1
      have GN : Hid (Gone wr (.pointer (some ⟨w.heap.size, 0, none⟩))) := .inr ⟨w.heap.size, rfl, (HB.out.1.grown hg (by simp)).cell 0⟩
      have HG : Hid (W0.grownBy wr none) := hg
      clear hg
      go_wp2_with fail
      refine (write19_gone _ _ _ GN.out).mono ?_
      rintro e wy ⟨rfl, he⟩; subst he
      go_wp2_with fail
      refine (sync18_gone _ _ GN.out).mono ?_
      rintro e wy ⟨rfl, he⟩; subst he
      go_wp2_with fail
      refine (trim20_gone _ _ _ GN.out).mono ?_
      rintro e wy ⟨rfl, he⟩; subst he
      go_wp2_with fail
      refine (drop21_gone _ _ _ GN.out).mono ?_
      rintro e wy ⟨rfl, he⟩; subst he
      go_wp2_with fail
      refine (put17_gone _ _ _ GN.out).mono ?_
      rintro e wy ⟨rfl, he⟩; subst he
      go_wp2_with fail
      refine (switch22_gone _ _ GN.out).mono ?_
      rintro e wy ⟨rfl, he⟩; subst he
      go_wp2_with fail
      refine (stop14_gone _ _ _ GN.out).mono ?_
      rintro e wy ⟨rfl, he⟩; subst he
      go_wp2_with fail
      refine (copy23_gone _ _ GN.out).mono ?_
      rintro e wy ⟨rfl, he⟩; subst he
      go_wp2_with fail
      refine (tells10_gone _ _ GN.out).mono ?_
      rintro e w2 ⟨rfl, g2⟩
      have G2 : Hid (W0.grownBy w2 none) := grown_trans HG.out g2
      clear g2
      go_wp2_with fail
      go_roundw
      case rel => exact ⟨2, by omega, by go_num, G2.out⟩
      case measure => simp [intOf]
    · have HG : Hid (w.grownBy wr none) := grown_trans HB.out.2.2 hg
      clear hg
      go_wp2_with fail
      refine (known12 _).mono ?_
      rintro e w2 ⟨rfl, g2⟩
      have G2 : Hid (w.grownBy w2 none) := grown_trans HG.out g2
      clear g2
      go_wp2_with fail
      go_ret
      exact ⟨rfl, G2.out⟩
end Go.Proofs.Ytegacmcekladfaa
