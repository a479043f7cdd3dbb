/-
  Pairs of numbers read: the law's own pair, and things at pairs.
-/
import Derived.Test.YtneppkbbnajpnaaSu
import Derived.Laws.ResultCell
namespace Go.Proofs.Ytneppkbbnajpnaa
open Go.RowKit

/-- Two numbers in a row. -/
def rd2 (L : List UInt8) : Option ((Nat × Nat) × List UInt8) := match scan 0 0 L with
  | none => none
  | some (a, k) => match scan 0 0 (L.drop k) with
    | none => none
    | some (c, k2) => some ((a, c), (L.drop k).drop k2)

theorem rd2_len {L : List UInt8} {p : Nat × Nat} {M : List UInt8} (h : rd2 L = some (p, M)) : p.1 < 2 ^ 64 ∧ p.2 < 2 ^ 64 ∧ M.length + 2 ≤ L.length := by
  unfold rd2 at h
  cases h1 : scan 0 0 L with
  | none => rw [h1] at h; simp at h
  | some z =>
    obtain ⟨a, k⟩ := z
    rw [h1] at h
    simp only at h
    cases h2 : scan 0 0 (L.drop k) with
    | none => rw [h2] at h; simp at h
    | some y =>
      obtain ⟨c, k2⟩ := y
      rw [h2] at h
      simp at h
      obtain ⟨rfl, rfl⟩ := h
      have q1 := scan_bound L 0 0 (by omega) (by simp) a k h1
      have q2 := scan_bound (L.drop k) 0 0 (by omega) (by simp) c k2 h2
      simp at q2
      refine ⟨q1.1, q2.1, ?_⟩
      simp
      omega

theorem Try.size59 : (Try.prog.info? 59).map (·.size) = some 2 := by kernel_rfl

/-- A pair told through its block. -/
theorem told_pair {w : World} {g : Nat} {x y : Value} {er : Value} {tmps : Array Value} (hp : tmps.getD 2 undef = .pointer (some ⟨g, 0, none⟩)) (he : tmps.getD 3 undef = er) (hg : w.heap[g]? = some (.cells #[x, y] 59 (0, 0))) :
    (results Try.f32 tmps).run Try.prog w = .ok (.tuple #[.agg #[x, y], er]) w := by
  rw [results_cell_tmp rfl, hp, he]
  simp only [asAddr, Sem.run_pure, Result.andThen]
  rw [run_loadVar_row w g 59 59 #[x, y] (0, 0) _ hg Try.underlying59 rfl Try.size59]

/-- A pair stored into its block. -/
theorem stored_pair {w : World} {g : Nat} {x y : Value} (u v : Value) (hg : w.heap[g]? = some (.cells #[x, y] 59 (0, 0))) : ((w.setCell ⟨g, 0, none⟩ u).setCell ⟨g, 1, none⟩ v).heap[g]? = some (.cells #[u, v] 59 (0, 0)) := by
  have h1 := heap_setCell_same w g 0 _ _ u hg
  have h2 := heap_setCell_same _ g 1 _ _ v h1
  simpa using h2

theorem grown_pair {w0 w : World} {g b : Nat} (u v : Value) (h : w0.grownBy w (some b)) (hg : w0.heap.size ≤ g) : w0.grownBy ((w.setCell ⟨g, 0, none⟩ u).setCell ⟨g, 1, none⟩ v) (some b) :=
  grown_new (grown_new h (grown_setCell w g 0 u) (by intro x hx; simp at hx; omega)) (grown_setCell _ g 1 v) (by intro x hx; simp at hx; omega)

theorem RdG.pair {w : World} {b g B : Nat} {L : List UInt8} (u v : Value) (h : RdG w b g L) (hb : b ≠ B) (hg : g ≠ B) : RdG ((w.setCell ⟨B, 0, none⟩ u).setCell ⟨B, 1, none⟩ v) b g L :=
  (h.kept (grown_setCell w B 0 u) (by simp; omega) (by simp; omega)).kept (grown_setCell _ B 1 v) (by simp; omega) (by simp; omega)

section
variable (b g : Nat) (L : List UInt8) (w : World)

set_option maxRecDepth 100000 in
set_option maxHeartbeats 1000000 in
theorem pair32_none (hr : RdG w b g L) (hgl : g < w.heap.size) (h : rd2 L = none) :
    Calls Try.prog 32 #[.pointer (some ⟨b, 0, none⟩)] w fun e w' => ∃ x y : Nat, e = .returned (.tuple #[.agg #[.int .u64 x, .int .u64 y], .int .i64 4]) ∧ (∃ M, RdG w' b g M) ∧ w.grownBy w' (some b) := by
  have hb := hr.rd.lt
  have ga : w.grownBy (w.alloc (.cells #[.int .u64 0, .int .u64 0] 59)) none := World.grownBy_alloc _ _ _
  have hr1 : RdG (w.alloc (.cells #[.int .u64 0, .int .u64 0] 59)) b g L := hr.kept ga (by simp) (by simp)
  have HB : Hid _ := box_new w #[.int .u64 0, .int .u64 0] 59
  have HG : Hid _ := ga
  have HR : Hid _ := hr1
  have HBB : Hid (b < w.heap.size ∧ g < w.heap.size) := ⟨hb, hgl⟩
  have HH : Hid _ := h
  clear hr hr1 ga hb h hgl
  go_enter Try.func32, Try.ntmps32
  go_wp2_with fail
  refine (number25_g b g L _ HR.out).mono ?_
  cases h1 : scan 0 0 L with
  | none =>
    rw [rdNum_none h1]
    rintro e w1 ⟨rfl, q1, q2⟩
    have hbx := box_kept HB.out q2 (by have := HBB.out; simp; omega)
    have c0 := cell_of_row w1 w.heap.size 0 _ _ _ hbx
    have c1 := cell_of_row w1 w.heap.size 1 _ _ _ hbx
    have f0 := frozen_of_row w1 w.heap.size 0 _ _ hbx
    have f1 := frozen_of_row w1 w.heap.size 1 _ _ hbx
    simp at c0 c1
    have S1 : Hid (RdG w1 b g L ∧ w.grownBy w1 (some b)) := ⟨q1, grown_trans (grown_weak HG.out _) q2⟩
    have HBX : Hid _ := hbx
    clear q1 q2 hbx h1
    go_wp2_with fail
    refine bodyPost_ret (told_pair rfl rfl (stored_pair _ _ HBX.out)) rfl ⟨0, 0, rfl, ⟨L, ?_⟩, ?_⟩
    · have := HBB.out
      exact S1.out.1.pair _ _ (by omega) (by omega)
    · exact grown_pair _ _ S1.out.2 (Nat.le_refl _)
  | some z =>
    obtain ⟨a, k⟩ := z
    rw [rdNum_some h1]
    rintro e w1 ⟨rfl, q1, q2⟩
    have hbx := box_kept HB.out q2 (by have := HBB.out; simp; omega)
    have S1 : Hid (RdG w1 b g (L.drop k) ∧ w.grownBy w1 (some b)) := ⟨q1, grown_trans (grown_weak HG.out _) q2⟩
    have HBX : Hid _ := hbx
    have H2 : Hid (scan 0 0 (L.drop k) = none) := by
      have h := HH.out
      unfold rd2 at h
      rw [h1] at h
      simp only at h
      cases h2 : scan 0 0 (L.drop k) with
      | none => rfl
      | some y => rw [h2] at h; simp at h
    clear q1 q2 hbx h1
    go_wp2_with fail
    refine (number25_g b g (L.drop k) _ S1.out.1).mono ?_
    rw [rdNum_none H2.out]
    rintro e w2 ⟨rfl, q1, q2⟩
    have hbx := box_kept HBX.out q2 (by have := HBB.out; simp; omega)
    have c0 := cell_of_row w2 w.heap.size 0 _ _ _ hbx
    have c1 := cell_of_row w2 w.heap.size 1 _ _ _ hbx
    have f0 := frozen_of_row w2 w.heap.size 0 _ _ hbx
    have f1 := frozen_of_row w2 w.heap.size 1 _ _ hbx
    simp at c0 c1
    have S2 : Hid (RdG w2 b g (L.drop k) ∧ w.grownBy w2 (some b)) := ⟨q1, grown_trans S1.out.2 q2⟩
    have HBY : Hid _ := hbx
    clear q1 q2 hbx
    go_wp2_with fail
    refine bodyPost_ret (told_pair rfl rfl (stored_pair _ _ HBY.out)) rfl ⟨a, 0, rfl, ⟨L.drop k, ?_⟩, ?_⟩
    · have := HBB.out
      exact S2.out.1.pair _ _ (by omega) (by omega)
    · exact grown_pair _ _ S2.out.2 (Nat.le_refl _)

set_option maxRecDepth 100000 in
set_option maxHeartbeats 1000000 in
theorem pair32_some (p : Nat × Nat) (M : List UInt8) (hr : RdG w b g L) (hgl : g < w.heap.size) (h : rd2 L = some (p, M)) :
    Calls Try.prog 32 #[.pointer (some ⟨b, 0, none⟩)] w fun e w' => e = .returned (.tuple #[.agg #[.int .u64 p.1, .int .u64 p.2], .int .i64 0]) ∧ RdG w' b g M ∧ w.grownBy w' (some b) := by
  have hb := hr.rd.lt
  have ga : w.grownBy (w.alloc (.cells #[.int .u64 0, .int .u64 0] 59)) none := World.grownBy_alloc _ _ _
  have hr1 : RdG (w.alloc (.cells #[.int .u64 0, .int .u64 0] 59)) b g L := hr.kept ga (by simp) (by simp)
  have HB : Hid _ := box_new w #[.int .u64 0, .int .u64 0] 59
  have HG : Hid _ := ga
  have HR : Hid _ := hr1
  have HBB : Hid (b < w.heap.size ∧ g < w.heap.size) := ⟨hb, hgl⟩
  obtain ⟨a, k, c, k2, h1, h2, rfl, rfl⟩ : ∃ a k c k2, scan 0 0 L = some (a, k) ∧ scan 0 0 (L.drop k) = some (c, k2) ∧ p = (a, c) ∧ M = (L.drop k).drop k2 := by
    unfold rd2 at h
    cases h1 : scan 0 0 L with
    | none => rw [h1] at h; simp at h
    | some z =>
      obtain ⟨a, k⟩ := z
      rw [h1] at h
      simp only at h
      cases h2 : scan 0 0 (L.drop k) with
      | none => rw [h2] at h; simp at h
      | some y =>
        obtain ⟨c, k2⟩ := y
        rw [h2] at h
        simp at h
        exact ⟨a, k, c, k2, rfl, h2, by rw [h.1], by rw [← h.2, List.drop_drop]⟩
  have H1 : Hid _ := h1
  have H2 : Hid _ := h2
  clear hr hr1 ga hb h hgl h1 h2
  go_enter Try.func32, Try.ntmps32
  go_wp2_with fail
  refine (number25_g b g L _ HR.out).mono ?_
  rw [rdNum_some H1.out]
  rintro e w1 ⟨rfl, q1, q2⟩
  have hbx := box_kept HB.out q2 (by have := HBB.out; simp; omega)
  have S1 : Hid (RdG w1 b g (L.drop k) ∧ w.grownBy w1 (some b)) := ⟨q1, grown_trans (grown_weak HG.out _) q2⟩
  have HBX : Hid _ := hbx
  clear q1 q2 hbx
  go_wp2_with fail
  refine (number25_g b g (L.drop k) _ S1.out.1).mono ?_
  rw [rdNum_some H2.out]
  rintro e w2 ⟨rfl, q1, q2⟩
  have hbx := box_kept HBX.out q2 (by have := HBB.out; simp; omega)
  have c0 := cell_of_row w2 w.heap.size 0 _ _ _ hbx
  have c1 := cell_of_row w2 w.heap.size 1 _ _ _ hbx
  have f0 := frozen_of_row w2 w.heap.size 0 _ _ hbx
  have f1 := frozen_of_row w2 w.heap.size 1 _ _ hbx
  simp at c0 c1
  have S2 : Hid (RdG w2 b g ((L.drop k).drop k2) ∧ w.grownBy w2 (some b)) := ⟨q1, grown_trans S1.out.2 q2⟩
  have HBY : Hid _ := hbx
  clear q1 q2 hbx
  go_wp2_with fail
  refine bodyPost_ret (told_pair rfl rfl (stored_pair _ _ HBY.out)) rfl ⟨rfl, ?_, ?_⟩
  · have := HBB.out
    exact S2.out.1.pair _ _ (by omega) (by omega)
  · exact grown_pair _ _ S2.out.2 (Nat.le_refl _)
end
end Go.Proofs.Ytneppkbbnajpnaa
