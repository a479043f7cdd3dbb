/-
  The chapter's rows, as the function known asks them: true in every world, and nothing that was there has turned.
-/
import Derived.Test.YtneppkbbnajpnaaB
import Derived.Laws.BytesArg
import Derived.Laws.IdiomStrings
namespace Go.Proofs.Ytneppkbbnajpnaa
open Go.RowKit

/-- A slice of bytes as a string. -/
theorem seg_str {w : World} {v : Value} {L : List UInt8} (h : Seg w v L) : (convert 23 9 v).run Try.prog w = .ok (.string ⟨L.toArray⟩) w := by
  have hs := h
  obtain ⟨ao, cap, rfl, h1, h2, h3, h4⟩ := h
  cases ao with
  | none =>
    have hL : L = [] := List.eq_nil_of_length_eq_zero (by have := h3 rfl; omega)
    subst hL
    rw [run_convert_bytes_nil w 23 5 Try.underlying23 Try.underlying5 _ _ 9 Try.underlying9]
    rfl
  | some ad =>
    refine run_convert_bytes_back w 23 9 5 ad cap L Try.underlying23 Try.underlying5 Try.underlying9 fun j hj => ?_
    exact (seg_news hs).2 j _ (by simp [BV, hj])

theorem seg_litl (w : World) (xs : Array Value) (L : List UInt8) (hx : xs.toList = BV L) (hl : L.length ≤ 9223372036854775807) : Seg (w.alloc (.cells xs 5)) (.slice (some ⟨w.heap.size, 0, none⟩) L.length L.length) L := by
  refine ⟨_, L.length, rfl, Nat.le_refl _, by unfold maxLen; omega, by simp, fun j hj => ⟨w.heap.size, 0, rfl, ?_⟩⟩
  rw [cell_of_row _ _ _ _ _ _ (heap_alloc_new w _), Nat.zero_add, ← Array.getElem?_toList, hx]
  simp [BV, hj]

theorem Rd.grown {w w' : World} {b : Nat} {L : List UInt8} (h : Rd w b L) (hg : w.grownBy w' none) : Rd w' b L := by
  obtain ⟨s, h1, h2⟩ := h
  exact ⟨s, h1.kept hg (by simp), h2.grown hg⟩

theorem Rd.kept {w w' : World} {b c : Nat} {L M : List UInt8} (h : Rd w b L) (hr : Rd w c M) (hg : w.grownBy w' (some c)) (hne : b ≠ c) : Rd w' b L := by
  obtain ⟨s, h1, h2⟩ := h
  obtain ⟨t, h3, h4⟩ := hr
  obtain ⟨ao, cap, rfl⟩ := h4.shape
  exact ⟨s, h1.kept hg (by simp; omega), h2.grownR h3 hg⟩

theorem Own.grownRd {w w' : World} {B b : Nat} {v : Value} {L M : List UInt8} (h : Own w B v L) (hr : Rd w b M) (hg : w.grownBy w' (some b)) : Own w' B v L := by
  obtain ⟨t, h3, h4⟩ := hr
  exact h.grownR h3 hg

theorem Seg.grownRd {w w' : World} {b : Nat} {v : Value} {L M : List UInt8} (h : Seg w v L) (hr : Rd w b M) (hg : w.grownBy w' (some b)) : Seg w' v L := by
  obtain ⟨t, h3, h4⟩ := hr
  obtain ⟨ao, cap, rfl⟩ := h4.shape
  exact h.grownR h3 hg

theorem left21 (b : Nat) (L : List UInt8) (w : World) (hr : Rd w b L) : Calls Try.prog 21 #[.pointer (some ⟨b, 0, none⟩)] w fun e w' => e = .returned (.int .i64 L.length) ∧ w' = w := by
  obtain ⟨s, h1, h2⟩ := hr
  exact left_any b true s L w h1 h2

theorem end24 (b : Nat) (L : List UInt8) (w : World) (hr : Rd w b L) : Calls Try.prog 24 #[.pointer (some ⟨b, 0, none⟩)] w fun e w' => e = .returned (.int .i64 (if L = [] then 0 else 4)) ∧ w' = w := by
  obtain ⟨s, h1, h2⟩ := hr
  exact end_any b s L w h1 h2

theorem numForm300 : numForm 300 = [172, 2] := by rw [numForm_big (by decide), numForm_small (by decide)]; rfl
theorem numForm1 : numForm (foldZ (-1)) = [1] := by rw [numForm_small (by decide)]; rfl

set_option maxRecDepth 100000 in
set_option maxHeartbeats 1000000 in
theorem known18 (w : World) : Calls Try.prog 18 #[] w fun e w' => e = .returned (.bool true) ∧ w.grownBy w' none := by
  go_enter Try.func18, Try.ntmps18
  go_wp2_with fail
  refine (open19 _ [128, 1, 2, 97, 98] _ (seg_litl w _ [128, 1, 2, 97, 98] rfl (by simp)) (by simp)).mono ?_
  rintro e w1 ⟨b1, rfl, hb1, hr1, hg1⟩
  have S1 : Hid (w.heap.size < b1 ∧ Rd w1 b1 [128, 1, 2, 97, 98] ∧ w.grownBy w1 none) := ⟨by simp at hb1; omega, hr1, grown_trans (World.grownBy_alloc _ _ _) hg1⟩
  clear hb1 hr1 hg1
  go_wp2_with fail
  refine (number25 b1 [128, 1, 2, 97, 98] _ S1.out.2.1).mono ?_
  have e1 : rdNum [128, 1, 2, 97, 98] = (128, 0, [2, 97, 98]) := by decide
  rw [e1]
  rintro e w2 ⟨rfl, hr2, hg2⟩
  have S2 : Hid (w.heap.size < b1 ∧ Rd w2 b1 [2, 97, 98] ∧ w.grownBy w2 none) := ⟨S1.out.1, hr2, grown_new S1.out.2.2 hg2 (by intro x hx; have := S1.out.1; simp at hx; omega)⟩
  clear hr2 hg2 S1 e1
  go_wp2_with fail
  refine (bytes27 b1 [2, 97, 98] 2 _ S2.out.2.1 (by decide) (by simp)).mono ?_
  have e2 : rdBytes [2, 97, 98] 2 = ([97, 98], 0, []) := by decide
  rw [e2]
  rintro e w3 ⟨v, rfl, hv, hr3, hg3⟩
  have S3 : Hid (w.heap.size < b1 ∧ b1 < w3.heap.size ∧ Own w3 w.heap.size v [97, 98] ∧ Rd w3 b1 [] ∧ w.grownBy w3 none) := by
    have := S2.out.2.2.size
    exact ⟨S2.out.1, hr3.lt, hv.mono (by omega), hr3, grown_new S2.out.2.2 hg3 (by intro x hx; have := S2.out.1; simp at hx; omega)⟩
  clear hv hr3 hg3 S2 e2
  go_wp2_with fail
  refine (open19 _ [128, 0] _ (seg_litl w3 _ [128, 0] rfl (by simp)) (by simp)).mono ?_
  rintro e w4 ⟨b2, rfl, hb2, hr4, hg4⟩
  have S4 : Hid (w.heap.size < b1 ∧ b1 < b2 ∧ Own w4 w.heap.size v [97, 98] ∧ Rd w4 b1 [] ∧ Rd w4 b2 [128, 0] ∧ w.grownBy w4 none) := by
    obtain ⟨h1, h2, h3, h4, h5⟩ := S3.out
    have hg : w3.grownBy w4 none := grown_trans (World.grownBy_alloc _ _ _) hg4
    exact ⟨h1, by simp at hb2; omega, h3.grown hg, h4.grown hg, hr4, grown_trans h5 hg⟩
  clear hb2 hr4 hg4 S3
  go_wp2_with fail
  refine (number25 b2 [128, 0] _ S4.out.2.2.2.2.1).mono ?_
  have e3 : rdNum [128, 0] = (0, 4, [128, 0]) := by decide
  rw [e3]
  rintro e w5 ⟨rfl, hr5, hg5⟩
  have S5 : Hid (Own w5 w.heap.size v [97, 98] ∧ Rd w5 b1 [] ∧ w.grownBy w5 none) := by
    obtain ⟨h1, h2, h3, h4, h5, h6⟩ := S4.out
    exact ⟨h3.grownRd h5 hg5, h4.kept h5 hg5 (by omega), grown_new h6 hg5 (by intro x hx; simp at hx; omega)⟩
  clear hr5 hg5 S4 e3
  have cv := seg_str S5.out.1.seg
  go_wp2_with fail
  refine (num_any _ _).mono ?_
  rintro e w6 ⟨rfl, he⟩
  subst he
  go_wp2_with fail
  refine (num_any _ _).mono ?_
  rintro e w6 ⟨rfl, he⟩
  subst he
  go_wp2_with fail
  refine (left21 b1 [] _ S5.out.2.1).mono ?_
  rintro e w6 ⟨rfl, he⟩
  subst he
  go_wp2_with fail
  refine (end24 b1 [] _ S5.out.2.1).mono ?_
  rintro e w6 ⟨rfl, he⟩
  subst he
  rw [if_pos rfl]
  go_wp2_with fail
  refine (num_any _ _).mono ?_
  rintro e w6 ⟨rfl, he⟩
  subst he
  go_wp2_with fail
  refine (num_any _ _).mono ?_
  rintro e w6 ⟨rfl, he⟩
  subst he
  go_wp2_with fail
  refine (signed13 _ (by decide) (by decide) _).mono ?_
  rw [numForm1]
  rintro e w7 ⟨u7, rfl, hu7, hg7⟩
  have cv7 := seg_str hu7.seg
  have S7 : Hid (w.grownBy w7 none) := grown_trans S5.out.2.2 hg7
  clear hu7 hg7 S5 cv
  go_wp2_with fail
  refine (number9_int _ 300 rfl (by decide) _).mono ?_
  rw [numForm300]
  rintro e w8 ⟨u8, rfl, hu8, hg8⟩
  have cv8 := seg_str hu8.seg
  have S8 : Hid (w.grownBy w8 none) := grown_trans S7.out hg8
  clear hu8 hg8 S7 cv7
  go_wp2_with fail
  go_ret
  exact ⟨rfl, S8.out⟩
end Go.Proofs.Ytneppkbbnajpnaa
