/-
  A table lies apart from what is written over.
-/
import Derived.Test.YtlehikdlkdbacaaCx
import Derived.Test.YtlehikdlkdbacaaSq
namespace Go.Proofs.Ytlehikdlkdbacaa
open Go.RowKit Disk

/-- Blocks of X alone were written, and pointers stay. -/
def Kp (w w' : World) : Prop := ∀ k j p, w.cell? ⟨k, j, none⟩ = some (ptr p) → w'.cell? ⟨k, j, none⟩ = some (ptr p)
def Sm (X : Nat → Prop) (w w' : World) : Prop := w.heap.size ≤ w'.heap.size ∧ (∀ k, ¬ X k → k < w.heap.size → w'.heap[k]? = w.heap[k]?) ∧ Kp w w'
theorem Sm.refl (X : Nat → Prop) (w : World) : Sm X w w := ⟨Nat.le_refl _, fun _ _ _ => rfl, fun _ _ _ h => h⟩
theorem Sm.trans {X : Nat → Prop} {a b c : World} (h : Sm X a b) (k : Sm X b c) : Sm X a c :=
  ⟨Nat.le_trans h.1 k.1, fun i hi hl => (k.2.1 i hi (Nat.lt_of_lt_of_le hl h.1)).trans (h.2.1 i hi hl), fun i j p hp => k.2.2 i j p (h.2.2 i j p hp)⟩
theorem sm_grown {X : Nat → Prop} {w w' : World} (h : w.grownBy w' none) : Sm X w w' := ⟨h.size, fun k _ hl => h.block k hl (by simp), fun _ _ _ hp => h.cell hp (by simp)⟩
theorem Wq.sm {X : Nat → Prop} {w w' : World} (h : Wq X w w') : Sm X w w' := ⟨Nat.le_of_eq h.1.size.symm, fun k hk _ => h.1.low k hk, fun i j p hp => (h.2 i j _ hp).1 (by simp [ptr])⟩
theorem blk_sm {X : Nat → Prop} {w w' : World} {b t : Nat} {c : Array Value} (h : Blk w b t c) (hs : Sm X w w') (hb : ¬ X b) : Blk w' b t c := h.same (hs.2.1 b hb h.lt)
theorem OwnZ.sm {X : Nat → Prop} {w w' : World} {v : Value} {L : Bs} (h : OwnZ X w v L) (hs : Sm X w w') : OwnZ X w' v L :=
  ⟨h.1.same fun k hk => hs.2.1 k (h.2 k hk) (h.1.lt k hk).2, h.2⟩
theorem RowAz.sm {X : Nat → Prop} {w w' : World} {p : Nat} {r : PRow} (h : RowAz X w p r) (hs : Sm X w w') : RowAz X w' p r := by
  obtain ⟨k, v, h1, h2, h3, h4⟩ := h
  exact ⟨k, v, blk_sm h1 hs h4, h2.sm hs, h3.sm hs, h4⟩
theorem Tbz.sm {X : Nat → Prop} {w w' : World} {b : Nat} {l : List PRow} (h : Tbz X w b l) (hb : ¬ X b) (hs : Sm X w w') : Tbz X w' b l := by
  obtain ⟨v, h1, ps, h2, h3⟩ := h
  refine ⟨v, blk_sm h1 hs hb, ps, ⟨h2.1, fun j a b => (h2.2 j a b).sm hs⟩, h3.cells fun c j u hu hx => ?_⟩
  simp [PTR] at hu
  obtain ⟨p, _, rfl⟩ := hu
  exact hs.2.2 c j p hx

/-- A slice of bytes of one's own, whatever they are. -/
def OwnS (X : Nat → Prop) (w : World) (v : Value) : Prop := (∃ n, OwnX w X v n) ∧ SegI w v ∧ ∃ a n c, v = .slice a n c
theorem owns_of {X : Nat → Prop} {w : World} {B : Nat} {v : Value} {L : Bs} (h : Disk.Own w B v L) (hX : ∀ g, B ≤ g → g < w.heap.size → X g) : OwnS X w v :=
  ⟨⟨_, ownx_of h fun g hg => hX g (h.lt g hg).1 (h.lt g hg).2⟩, Seg.ints h.seg, by obtain ⟨a, c, e⟩ := h.seg.shape; exact ⟨a, _, c, e⟩⟩
theorem OwnS.grown {X : Nat → Prop} {w w' : World} {v : Value} (h : OwnS X w v) (hg : w.grownBy w' none) : OwnS X w' v := by
  obtain ⟨⟨n, h1⟩, h2, h3⟩ := h
  exact ⟨⟨n, h1.grown hg⟩, h2.grown hg, h3⟩
theorem OwnS.wq {X G : Nat → Prop} {w w' : World} {v : Value} (h : OwnS X w v) (hg : Wq G w w') : OwnS X w' v := by
  obtain ⟨⟨n, h1⟩, h2, h3⟩ := h
  exact ⟨⟨n, h1.wr hg.1⟩, h2.wk hg.2, h3⟩
theorem OwnS.off {X : Nat → Prop} {w w' : World} {v : Value} (h : OwnS X w v) {g t : Nat} {c : Array Value} (hg : w.grownBy w' (some g)) (hb : Blk w g t c) (h5 : t ≠ 5) : OwnS X w' v := by
  obtain ⟨⟨n, h1⟩, h2, h3⟩ := h
  have hne : ∀ q cur, Blk w q 5 cur → q ≠ g := fun q cur hq e => by
    subst e
    unfold Blk at hb hq
    rw [hb] at hq
    simp at hq
    exact h5 hq.2
  rcases h1 with ⟨e, h0⟩ | ⟨q, cap, cur, e, hq, hbk, r1, r2⟩
  · subst e
    exact ⟨⟨0, .inl ⟨rfl, rfl⟩⟩, fun g n cap e => by simp at e, h3⟩
  · refine ⟨⟨n, .inr ⟨q, cap, cur, e, hq, hbk.grown hg (by simp; intro e; exact hne q cur hbk (by omega)), r1, r2⟩⟩, ?_, h3⟩
    intro q' n' cap' e' x hx
    rw [e] at e'
    simp at e'
    obtain ⟨i, hi⟩ := h2 q n cap e x (by omega)
    rw [← e'.1]
    exact ⟨i, hg.cell hi (by simp; intro e; exact hne q cur hbk (by omega))⟩

/-- Rows that are written over, the first k of them. -/
def SpR (X : Nat → Prop) (w0 w : World) (g : Nat) (ks : List (Value × Value)) (k : Nat) (wr : World) : Prop :=
  w0.grownBy wr none ∧ Sm X w wr ∧ (∃ cur, Blk wr g 45 cur ∧ ∀ j, k * 2 ≤ j → j < ks.length * 2 → cur[j]? = (rcells ks)[j]?) ∧ (∀ j (h : j < ks.length), k ≤ j → OwnS X wr ks[j].1 ∧ OwnS X wr ks[j].2)
theorem SpR.grown {X : Nat → Prop} {w0 w : World} {g : Nat} {ks : List (Value × Value)} {k : Nat} {wr w' : World} (h : SpR X w0 w g ks k wr) (hg : wr.grownBy w' none) : SpR X w0 w g ks k w' := by
  obtain ⟨h1, h2, ⟨cur, h3, h4⟩, h5⟩ := h
  exact ⟨grown_trans h1 hg, h2.trans (sm_grown hg), ⟨cur, h3.grown hg (by simp), h4⟩, fun j a b => ⟨(h5 j a b).1.grown hg, (h5 j a b).2.grown hg⟩⟩
theorem SpR.wq {X : Nat → Prop} {w0 w : World} {g : Nat} {ks : List (Value × Value)} {k : Nat} {wr w' : World} (h : SpR X w0 w g ks k wr) (hg : Wq X wr w') (hX : ∀ q, X q → w0.heap.size ≤ q) : SpR X w0 w g ks k w' := by
  obtain ⟨h1, h2, ⟨cur, h3, h4⟩, h5⟩ := h
  exact ⟨hg.1.after h1 hX, h2.trans hg.sm, ⟨cur, hg.1.blk h3 (by decide), h4⟩, fun j a b => ⟨(h5 j a b).1.wq hg, (h5 j a b).2.wq hg⟩⟩
theorem SpR.cells {X : Nat → Prop} {w0 w : World} {g : Nat} {ks : List (Value × Value)} {k : Nat} {wr : World} (h : SpR X w0 w g ks k wr) (hk : k < ks.length) : wr.cell? ⟨g, k * 2, none⟩ = some ks[k].1 ∧ wr.cell? ⟨g, k * 2 + 1, none⟩ = some ks[k].2 := by
  obtain ⟨_, _, ⟨cur, h3, h4⟩, _⟩ := h
  obtain ⟨r1, r2⟩ := rcells_at ks k hk
  rw [h3.cell, h3.cell, h4 _ (Nat.le_refl _) (by omega), h4 _ (by omega) (by omega)]
  exact ⟨r1, r2⟩
theorem SpR.free {X : Nat → Prop} {w0 w : World} {g : Nat} {ks : List (Value × Value)} {k : Nat} {wr : World} (h : SpR X w0 w g ks k wr) (j : Nat) : wr.frozen? ⟨g, j, none⟩ = false := by
  obtain ⟨_, _, ⟨cur, h3, h4⟩, _⟩ := h
  exact h3.free j
theorem SpR.next {X : Nat → Prop} {w0 w : World} {g : Nat} {ks : List (Value × Value)} {k : Nat} {wr : World} (h : SpR X w0 w g ks k wr) (hk : k < ks.length) (hg : X g) (h0 : w0.heap.size ≤ g) (a b : Value) : SpR X w0 w g ks (k + 1) ((wr.setCell ⟨g, k * 2, none⟩ a).setCell ⟨g, k * 2 + 1, none⟩ b) := by
  have hc := h.cells hk
  obtain ⟨h1, h2, ⟨cur, h3, h4⟩, h5⟩ := h
  obtain ⟨s1, s2⟩ := h5 k hk (Nat.le_refl _)
  have k1 := h3.store (k * 2) a
  have k2 := k1.store (k * 2 + 1) b
  have g1 : wr.grownBy (wr.setCell ⟨g, k * 2, none⟩ a) (some g) := grown_setCell _ _ _ _
  have g2 : (wr.setCell ⟨g, k * 2, none⟩ a).grownBy ((wr.setCell ⟨g, k * 2, none⟩ a).setCell ⟨g, k * 2 + 1, none⟩ b) (some g) := grown_setCell _ _ _ _
  have g12 := grown_trans g1 g2
  refine ⟨grown_new h1 g12 (fun q hq => by simp at hq; omega), h2.trans ⟨g12.size, fun q hq hl => g12.block q hl (fun e => by simp at e; subst e; exact hq hg), fun q j p hp => ?_⟩, ⟨_, k2, fun j hj1 hj2 => ?_⟩, fun j x y => ?_⟩
  · by_cases e : q = g
    · subst e
      rw [k2.cell]
      rw [h3.cell] at hp
      have n1 : j ≠ k * 2 := fun e => by
        subst e
        have := hc.1
        rw [h3.cell, hp] at this
        obtain ⟨a1, n1, c1, e1⟩ := s1.2.2
        rw [e1] at this
        simp [ptr] at this
      have n2 : j ≠ k * 2 + 1 := fun e => by
        subst e
        have := hc.2
        rw [h3.cell, hp] at this
        obtain ⟨a1, n1, c1, e1⟩ := s2.2.2
        rw [e1] at this
        simp [ptr] at this
      rw [Array.getElem?_setIfInBounds_ne (by omega), Array.getElem?_setIfInBounds_ne (by omega)]
      exact hp
    · exact g12.cell hp (by simp; exact e)
  · rw [Array.getElem?_setIfInBounds_ne (by omega), Array.getElem?_setIfInBounds_ne (by omega)]
    exact h4 j (by omega) hj2
  · obtain ⟨q1, q2⟩ := h5 j x (by omega)
    exact ⟨(q1.off g1 h3 (by decide)).off g2 k1 (by decide), (q2.off g1 h3 (by decide)).off g2 k1 (by decide)⟩
/-- Rows of one's own, before they are written over. -/
theorem spr_start {X : Nat → Prop} {w0 w : World} {B : Nat} {ao : Option Addr} {n cap : Nat} {l : List PRow} (h : TRws w B (.slice ao n cap) l) (hn : 0 < n) (hg : w0.grownBy w none) (hX : ∀ g, B ≤ g → g < w.heap.size → X g) : ∃ g ks, ao = some ⟨g, 0, none⟩ ∧ ks.length = n ∧ X g ∧ B ≤ g ∧ SpR X w0 w g ks 0 w := by
  obtain ⟨ks, h1, h2⟩ := h
  have h1' := h1
  rcases h1.2 with ⟨e, _⟩ | ⟨g, c, cur, e, hB, hgk, _⟩
  · simp at e
    omega
  · simp at e
    obtain ⟨rfl, rfl, rfl⟩ := e
    have hlt : g < w.heap.size := (Array.getElem?_eq_some_iff.1 hgk).1
    refine ⟨g, ks, rfl, h2.1, hX g hB hlt, hB, hg, Sm.refl _ _, ⟨cur, hgk, fun j _ hj => ?_⟩, fun j a _ => ?_⟩
    · have := h1.cellAt j (by rw [← h2.1]; exact hj)
      rw [← this]
      exact (Blk.cell hgk j).symm
    · obtain ⟨o1, o2⟩ := h2.2 j a (by rw [← h2.1]; exact a)
      exact ⟨owns_of o1 hX, owns_of o2 hX⟩
end Go.Proofs.Ytlehikdlkdbacaa
