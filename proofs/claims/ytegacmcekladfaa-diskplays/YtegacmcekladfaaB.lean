/-
  left: what was lent is looked at, and written over.
-/
import Derived.Test.YtegacmcekladfaaA
namespace Go.Proofs.Ytegacmcekladfaa
open Go.RowKit

/-- A block of bytes that is written over. -/
def Over (w wr : World) (g n : Nat) : Prop := w.grownBy wr (some g) ∧ ∃ cur, Blk wr g 5 cur ∧ n ≤ cur.size ∧ ∀ j, j < n → ∃ x : Int, cur[j]? = some (.int .u8 x)

theorem Over.step {w wr : World} {g n : Nat} (h : Over w wr g n) (k : Nat) : Over w (wr.setCell ⟨g, k, none⟩ (.int .u8 99)) g n := by
  obtain ⟨hg, cur, hb, hn, hx⟩ := h
  refine ⟨grown_trans hg (grown_setCell _ _ _ _), _, hb.store k _, by simpa using hn, fun j hj => ?_⟩
  by_cases e : k = j
  · subst e
    exact ⟨99, by rw [Array.getElem?_setIfInBounds_self_of_lt (by omega)]⟩
  · obtain ⟨x, hx⟩ := hx j hj
    exact ⟨x, by rw [Array.getElem?_setIfInBounds_ne e]; exact hx⟩

theorem Over.facts {w wr : World} {g n : Nat} (h : Over w wr g n) (k : Nat) (hk : k < n) : (∃ x : Int, wr.cell? ⟨g, k, none⟩ = some (.int .u8 x)) ∧ wr.frozen? ⟨g, k, none⟩ = false := by
  obtain ⟨hg, cur, hb, hn, hx⟩ := h
  obtain ⟨x, hx⟩ := hx k hk
  exact ⟨⟨x, by rw [hb.cell, hx]⟩, hb.free k⟩

theorem Own.over {w : World} {B g n cap : Nat} {L : List UInt8} (h : Own w B (.slice (some ⟨g, 0, none⟩) n cap) L) (m : Nat) (hm : m ≤ L.length) : Over w w g m := by
  refine ⟨grown_refl _ _, ?_⟩
  rcases h.2 with ⟨he, _⟩ | ⟨g', c, cur, he, _, hg, h1, h2, h3, h4⟩
  · simp at he
  · simp at he
    obtain ⟨rfl, _, rfl⟩ := he
    refine ⟨cur, hg, by omega, fun j hj => ?_⟩
    have e : cur.toList[j]? = (BV L)[j]? := by
      rw [← h4, List.getElem?_take, if_pos (by omega)]
    rw [← Array.getElem?_toList, e]
    exact ⟨_, by simp [BV]; exact ⟨L[j], by simp [show j < L.length by omega], rfl⟩⟩

set_option maxRecDepth 100000 in
set_option maxHeartbeats 1000000 in
theorem left9 (m b : Value) (B : Nat) (L : List UInt8) (w : World) (hm : Lent w B m L) (hb : Seg w b L) (hL : L.length ≤ 140737488355327) :
    Calls Try.prog 9 #[m, b] w fun e w' => e = .returned (.bool true) ∧ w.grownBy w' m.ownBlock := by
  have hsm := hm.seg
  obtain ⟨g, cap, rfl, hown⟩ := hm
  obtain ⟨ao, c2, hsv⟩ := hb.shape
  subst hsv
  have cv1 := seg_str hsm
  have cv2 := seg_str hb
  have hlast : w.cell? ⟨g, L.length, none⟩ = some (.int .u8 165) := by
    have h1 : w.ownsRow B 5 1 (.slice (some ⟨g, 0, none⟩) (L.length + 1) cap) (L.length + 1) (BV (L ++ [165])) := by have := hown; unfold Own at this; simpa using this
    rw [h1.cellAt L.length (by omega)]
    simp [BV]
  have hcap : L.length + 1 ≤ cap := by
    rcases hown.2 with ⟨_, h0⟩ | ⟨_, _, _, he, _, _, h1, _⟩
    · simp at h0
    · simp at he
      obtain ⟨_, rfl⟩ := he
      simpa using h1
  have HO : Hid (Over w w g L.length) := hown.over _ (by simp)
  clear hsm hb hown
  go_enter Try.func9, Try.ntmps9
  go_wp2_with fail
  go_loopw [7] (fun i wr => ∃ k : Nat, k ≤ L.length ∧ i = .int .i64 k ∧ Over w wr g L.length) (fun i _ => L.length - (intOf i).toNat)
  case atStart => exact ⟨0, by omega, rfl, HO.out⟩
  case round =>
    obtain ⟨k, hk, rfl, hov⟩ := hrel
    by_cases hlt : k < L.length
    · obtain ⟨⟨x, hx⟩, hf⟩ := hov.facts k hlt
      have HV : Hid _ := hov
      have i1 : (0 : Int) ≤ (k : Int) := by omega
      have i2 : (k : Int) < (L.length : Int) := by omega
      clear hov HO cv1 cv2
      go_wp2_with fail
      go_roundw
      case rel => exact ⟨k + 1, by omega, by go_num, Over.step HV.out k⟩
      case measure => simp [intOf]; omega
    · have HV : Hid _ := hov
      clear hov
      go_wp2_with fail
      go_ret
      exact ⟨rfl, HV.out.1⟩
end Go.Proofs.Ytegacmcekladfaa
