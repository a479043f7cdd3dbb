/-
  What the smallest functions of package wire do to the world: there, num, pass, Left, End. For every world whose reader's block is as the hypotheses say.
-/
import Derived.Test.YtneppkbbnajpnaaW
namespace Go.Proofs.Ytneppkbbnajpnaa
open Go.RowKit

set_option maxHeartbeats 400000 in
theorem num_any (n : Int) (w : World) : Calls Try.prog 23 #[.int .i64 n] w fun e w' => e = .returned (.int .i64 n) ∧ w' = w := by
  go_enter Try.func23, Try.ntmps23
  go_wp2
  go_ret
  exact ⟨rfl, rfl⟩

set_option maxHeartbeats 400000 in
theorem there_nil (w : World) : Calls Try.prog 45 #[.pointer none] w fun e w' => e = .returned (.bool false) ∧ w' = w := by
  go_enter Try.func45, Try.ntmps45
  go_wp2
  go_ret
  exact ⟨rfl, rfl⟩

set_option maxHeartbeats 400000 in
theorem there_some (b : Nat) (o : Bool) (s : Value) (w : World) (hr : RdB w b o s) : Calls Try.prog 45 #[.pointer (some ⟨b, 0, none⟩)] w fun e w' => e = .returned (.bool o) ∧ w' = w := by
  have h := hr.cell0
  go_enter Try.func45, Try.ntmps45
  go_wp2
  go_ret
  exact ⟨rfl, rfl⟩

theorem seg_take {w : World} {ao : Option Addr} {cap : Nat} {L : List UInt8} (m : Nat) (hm : m ≤ L.length) (h : Seg w (.slice ao L.length cap) L) : Seg w (.slice ao m cap) (L.take m) := by
  obtain ⟨ao', cap', hv, h1, h2, h3, h4⟩ := h
  simp at hv; obtain ⟨rfl, rfl⟩ := hv
  refine ⟨ao, cap, by simp [hm], by simp; omega, h2, h3, fun j hj => ?_⟩
  simp at hj
  obtain ⟨b, off, e, hc⟩ := h4 j (by omega)
  exact ⟨b, off, e, by simpa using hc⟩

theorem seg_drop {w : World} {ao : Option Addr} {cap : Nat} {L : List UInt8} (m : Nat) (hm : m ≤ L.length) (h : Seg w (.slice ao L.length cap) L) : Seg w (.slice (Option.map (fun x => x.add m) ao) (L.length - m) (cap - m)) (L.drop m) := by
  obtain ⟨ao', cap', hv, h1, h2, h3, h4⟩ := h
  simp at hv; obtain ⟨rfl, rfl⟩ := hv
  refine ⟨Option.map (fun x => x.add m) ao, cap - m, by simp, by simp; omega, by omega, fun h => by simp at h; have := h3 h; omega, fun j hj => ?_⟩
  simp at hj
  obtain ⟨b, off, e, hc⟩ := h4 (m + j) (by omega)
  refine ⟨b, off + m, ?_, by rw [Nat.add_assoc]; simpa using hc⟩
  rw [e]; simp only [Option.map_some, Addr.add]
  by_cases hz : m = 0
  · subst hz; simp
  · simp [hz]

theorem seg_drop_all {w : World} {ao : Option Addr} {cap : Nat} {L : List UInt8} (m : Nat) (hm : m ≤ L.length) (hc : cap = m) (h : Seg w (.slice ao L.length cap) L) : Seg w (.slice ao (L.length - m) 0) (L.drop m) := by
  obtain ⟨ao', cap', hv, h1, h2, h3, h4⟩ := h
  simp at hv; obtain ⟨rfl, rfl⟩ := hv
  have : L.length = m := by omega
  refine ⟨ao, 0, by simp, by simp; omega, by omega, fun _ => rfl, fun j hj => ?_⟩
  simp at hj; omega

set_option maxHeartbeats 400000 in
theorem pass_any (b : Nat) (o : Bool) (s : Value) (L : List UInt8) (m : Nat) (w : World) (hr : RdB w b o s) (hs : Seg w s L) (hm : m ≤ L.length) :
    Calls Try.prog 51 #[.pointer (some ⟨b, 0, none⟩), .int .i64 m] w fun e w' => ∃ p, e = .returned p ∧ Seg w p (L.take m) ∧ ∃ t, Seg w t (L.drop m) ∧ w' = w.setCell ⟨b, 1, none⟩ t := by
  have hs' := hs
  obtain ⟨ao, cap, rfl, h1, h2, h3, h4⟩ := hs'
  have hc1 := hr.cell1
  have hf := hr.free 1
  have hmx := h2
  unfold maxLen at hmx
  clear h3 h4
  go_enter Try.func51, Try.ntmps51
  go_wp2
  · go_ret
    have hcm : cap = m := by assumption
    subst hcm
    exact ⟨_, rfl, seg_take _ hm hs, _, seg_drop_all _ hm rfl hs, rfl⟩
  · go_ret
    exact ⟨_, rfl, seg_take m hm hs, _, seg_drop m hm hs, rfl⟩

theorem pass_int (b : Nat) (o : Bool) (s : Value) (L : List UInt8) (mi : Int) (m : Nat) (w : World) (he : mi = m) (hr : RdB w b o s) (hs : Seg w s L) (hm : m ≤ L.length) :
    Calls Try.prog 51 #[.pointer (some ⟨b, 0, none⟩), .int .i64 mi] w fun e w' => ∃ p, e = .returned p ∧ Seg w p (L.take m) ∧ ∃ t, Seg w t (L.drop m) ∧ w' = w.setCell ⟨b, 1, none⟩ t := by
  subst he; exact pass_any b o s L m w hr hs hm

set_option maxHeartbeats 400000 in
theorem left_nil (w : World) : Calls Try.prog 21 #[.pointer none] w fun e w' => e = .returned (.int .i64 0) ∧ w' = w := by
  go_enter Try.func21, Try.ntmps21
  go_wp2
  go_ret
  exact ⟨rfl, rfl⟩

set_option maxHeartbeats 400000 in
theorem left_any (b : Nat) (o : Bool) (s : Value) (L : List UInt8) (w : World) (hr : RdB w b o s) (hs : Seg w s L) :
    Calls Try.prog 21 #[.pointer (some ⟨b, 0, none⟩)] w fun e w' => e = .returned (.int .i64 L.length) ∧ w' = w := by
  obtain ⟨ao, cap, rfl, h1, h2, h3, h4⟩ := hs
  have hc1 := hr.cell1
  clear h3 h4
  go_enter Try.func21, Try.ntmps21
  go_wp2
  go_ret
  exact ⟨rfl, rfl⟩

set_option maxHeartbeats 400000 in
theorem end_nil (w : World) : Calls Try.prog 24 #[.pointer none] w fun e w' => e = .returned (.int .i64 1) ∧ w' = w := by
  go_enter Try.func24, Try.ntmps24
  go_wp2_with (go_at_call 45; refine (there_nil _).mono ?_; rintro e w' ⟨rfl, rfl⟩)
  go_ret
  exact ⟨rfl, rfl⟩

set_option maxHeartbeats 400000 in
theorem end_zero (b : Nat) (s : Value) (w : World) (hr : RdB w b false s) : Calls Try.prog 24 #[.pointer (some ⟨b, 0, none⟩)] w fun e w' => e = .returned (.int .i64 1) ∧ w' = w := by
  go_enter Try.func24, Try.ntmps24
  go_wp2_with (go_at_call 45; refine (there_some b false s _ hr).mono ?_; rintro e w' ⟨rfl, rfl⟩)
  go_ret
  exact ⟨rfl, rfl⟩

set_option maxHeartbeats 400000 in
theorem end_any (b : Nat) (s : Value) (L : List UInt8) (w : World) (hr : RdB w b true s) (hs : Seg w s L) :
    Calls Try.prog 24 #[.pointer (some ⟨b, 0, none⟩)] w fun e w' => e = .returned (.int .i64 (if L = [] then 0 else 4)) ∧ w' = w := by
  obtain ⟨ao, cap, rfl, h1, h2, h3, h4⟩ := hs
  have hc1 := hr.cell1
  clear h3 h4
  by_cases hL : L = []
  · subst hL
    go_enter Try.func24, Try.ntmps24
    go_wp2_with (go_at_call 45; refine (there_some b true _ _ hr).mono ?_; rintro e w' ⟨rfl, rfl⟩)
    go_ret
    exact ⟨rfl, rfl⟩
  · have hp : 0 < L.length := List.length_pos_iff.2 hL
    rw [if_neg hL]
    clear hL
    go_enter Try.func24, Try.ntmps24
    go_wp2_with (go_at_call 45; refine (there_some b true _ _ hr).mono ?_; rintro e w' ⟨rfl, rfl⟩)
    go_ret
    exact ⟨rfl, rfl⟩
end Go.Proofs.Ytneppkbbnajpnaa
