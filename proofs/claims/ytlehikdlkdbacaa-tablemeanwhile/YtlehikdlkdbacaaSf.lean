/-
  Tables beside two that are changed.
-/
import Derived.Test.YtlehikdlkdbacaaDd
namespace Go.Proofs.Ytlehikdlkdbacaa
open Go.RowKit Disk

theorem Gr2.kind {a b : Nat} {w w' : World} (h : Gr2 a b w w') (ht : Two w a b) {g t : Nat} {c : Array Value} (hb : Blk w g t c) (h1 : t ≠ 68) (h2 : t ≠ 34) : w'.heap[g]? = w.heap[g]? := by
  obtain ⟨⟨a1, n1, c1, k1⟩, a2, n2, c2, k2⟩ := ht
  refine h.block g hb.lt (fun e => ?_) (fun e => ?_)
  · subst e
    unfold Blk at hb k1
    rw [hb] at k1
    simp at k1
    exact h1 k1.2
  · subst e
    unfold Blk at hb k2
    rw [hb] at k2
    simp at k2
    exact h2 k2.2
theorem Gr2.own {a b : Nat} {w w' : World} (h : Gr2 a b w w') (ht : Two w a b) {B : Nat} {v : Value} {L : Bs} (ho : Disk.Own w B v L) : Disk.Own w' B v L := by
  refine ho.same fun k hk => ?_
  rcases ho.2 with ⟨e, _⟩ | ⟨g, cap, cur, e, hb, hg, _⟩
  · rw [e] at hk
    simp [Value.ownBlock] at hk
  · rw [e] at hk
    simp [Value.ownBlock] at hk
    subst hk
    exact h.kind ht hg (by decide) (by decide)
theorem Gr2.tb {a b : Nat} {w w' : World} (h : Gr2 a b w w') (ht : Two w a b) {q : Nat} {l : List PRow} (hq : Tb w q l) (hne : q ≠ a) : Tb w' q l := by
  obtain ⟨v, h1, ps, h2, h3⟩ := hq
  have hb : q ≠ b := fun e => by
    subst e
    obtain ⟨_, a2, n2, c2, k2⟩ := ht
    unfold Blk at h1 k2
    rw [h1] at k2
    simp at k2
  refine ⟨v, h.blk h1 hne hb, ps, ⟨h2.1, fun j x y => ?_⟩, h3.cells fun g j u hu hx => ?_⟩
  · obtain ⟨k, u, g1, g2, g3⟩ := h2.2 j x y
    exact ⟨k, u, g1.same (h.kind ht g1 (by decide) (by decide)), h.own ht g2, h.own ht g3⟩
  · simp [PTR] at hu
    obtain ⟨p, _, rfl⟩ := hu
    exact h.cell ht hx (by simp [ptr]) (by simp [ptr])
theorem Gr2.dt {a b : Nat} {w w' : World} (h : Gr2 a b w w') (ht : Two w a b) {q : Nat} {l : List PRow} (hq : Dt w q l) (hne : q ≠ b) : Dt w' q l := by
  obtain ⟨v, h1, ks, h2, h3⟩ := hq
  have ha : q ≠ a := fun e => by
    subst e
    obtain ⟨⟨a2, n2, c2, k2⟩, _⟩ := ht
    unfold Blk at h1 k2
    rw [h1] at k2
    simp at k2
  refine ⟨v, h.blk h1 ha hne, ks, owns_same h2 fun k hk => ?_, ⟨h3.1, fun j x y => ?_⟩⟩
  · rcases h2.2 with ⟨rfl, _⟩ | ⟨g2, cap, cur, rfl, _, hg2, _⟩
    · simp [Value.ownBlock] at hk
    · simp [Value.ownBlock] at hk
      subst hk
      exact h.kind ht hg2 (by decide) (by decide)
  · obtain ⟨o1, o2⟩ := h3.2 j x y
    exact ⟨h.own ht o1, h.own ht o2⟩
end Go.Proofs.Ytlehikdlkdbacaa
