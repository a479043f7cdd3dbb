/-
  What the smallest functions of package wire do to the world: there, num, pass, Left, End. For every world whose reader's block is as the hypotheses say.
-/
import Derived.Test.YtdfdlkpljgpckaaWireW
namespace Go.Proofs.Ytdfdlkpljgpckaa.Wire
theorem seg_take {w : World} {ao : Option Addr} {cap : Nat} {L : List UInt8} (m : Nat) (hm : m ≤ L.length) (h : Seg w (.slice ao L.length cap) L) : Seg w (.slice ao m cap) (L.take m) := by
  obtain ⟨ao', cap', hv, h1, h2, h3, h4⟩ := h
  simp at hv; obtain ⟨rfl, rfl⟩ := hv
  refine ⟨ao, cap, by simp [hm], by simp; omega, h2, h3, fun j hj => ?_⟩
  simp at hj
  obtain ⟨b, off, e, hc⟩ := h4 j (by omega)
  exact ⟨b, off, e, by simpa using hc⟩

theorem seg_drop {w : World} {ao : Option Addr} {cap : Nat} {L : List UInt8} (m : Nat) (hm : m ≤ L.length) (h : Seg w (.slice ao L.length cap) L) : Seg w (.slice (Option.map (fun x => x.add m) ao) (L.length - m) (cap - m)) (L.drop m) := by
  obtain ⟨ao', cap', hv, h1, h2, h3, h4⟩ := h
  simp at hv; obtain ⟨rfl, rfl⟩ := hv
  refine ⟨Option.map (fun x => x.add m) ao, cap - m, by simp, by simp; omega, by omega, fun h => by simp at h; have := h3 h; omega, fun j hj => ?_⟩
  simp at hj
  obtain ⟨b, off, e, hc⟩ := h4 (m + j) (by omega)
  refine ⟨b, off + m, ?_, by rw [Nat.add_assoc]; simpa using hc⟩
  rw [e]; simp only [Option.map_some, Addr.add]
  by_cases hz : m = 0
  · subst hz; simp
  · simp [hz]

theorem seg_drop_all {w : World} {ao : Option Addr} {cap : Nat} {L : List UInt8} (m : Nat) (hm : m ≤ L.length) (hc : cap = m) (h : Seg w (.slice ao L.length cap) L) : Seg w (.slice ao (L.length - m) 0) (L.drop m) := by
  obtain ⟨ao', cap', hv, h1, h2, h3, h4⟩ := h
  simp at hv; obtain ⟨rfl, rfl⟩ := hv
  have : L.length = m := by omega
  refine ⟨ao, 0, by simp, by simp; omega, by omega, fun _ => rfl, fun j hj => ?_⟩
  simp at hj; omega

end Go.Proofs.Ytdfdlkpljgpckaa.Wire
