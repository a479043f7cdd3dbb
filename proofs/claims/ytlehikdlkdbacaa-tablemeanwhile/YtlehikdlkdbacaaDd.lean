/-
  One step on a table and on the document's.
-/
import Derived.Test.YtlehikdlkdbacaaBe
import Derived.Test.YtlehikdlkdbacaaRz
import Derived.Test.YtlehikdlkdbacaaRc
import Derived.Test.YtlehikdlkdbacaaGo
import Derived.Test.YtlehikdlkdbacaaH
import Derived.Test.YtlehikdlkdbacaaNamesAll
namespace Go.Proofs.Ytlehikdlkdbacaa
open Go.RowKit Disk
open Names (cmpL keyB valueB)

/-- All but two blocks is as it was. -/
structure Gr2 (a b : Nat) (w w' : World) : Prop where
  os : w'.os = w.os
  tape : w'.tape = w.tape
  output : w'.output = w.output
  size : w.heap.size ≤ w'.heap.size
  block : ∀ k, k < w.heap.size → k ≠ a → k ≠ b → w'.heap[k]? = w.heap[k]?
theorem gr2_none {a b : Nat} {w w' : World} (h : w.grownBy w' none) : Gr2 a b w w' := ⟨h.os, h.tape, h.output, h.size, fun k hk _ _ => h.block k hk (by simp)⟩
theorem gr2_fst {a b : Nat} {w w' : World} (h : w.grownBy w' (some a)) : Gr2 a b w w' := ⟨h.os, h.tape, h.output, h.size, fun k hk hn _ => h.block k hk (by simp; omega)⟩
theorem gr2_snd {a b : Nat} {w w' : World} (h : w.grownBy w' (some b)) : Gr2 a b w w' := ⟨h.os, h.tape, h.output, h.size, fun k hk _ hn => h.block k hk (by simp; omega)⟩
theorem Gr2.trans {a b : Nat} {x y z : World} (h : Gr2 a b x y) (k : Gr2 a b y z) : Gr2 a b x z :=
  ⟨k.os.trans h.os, k.tape.trans h.tape, k.output.trans h.output, Nat.le_trans h.size k.size, fun i hi h1 h2 => (k.block i (Nat.lt_of_lt_of_le hi h.size) h1 h2).trans (h.block i hi h1 h2)⟩
/-- Seen from a world in which the two are not there yet. -/
theorem Gr2.new {a b : Nat} {o w w' : World} (h : Gr2 a b w w') (g : o.grownBy w none) (ha : o.heap.size ≤ a) (hb : o.heap.size ≤ b) : o.grownBy w' none :=
  ⟨h.os.trans g.os, h.tape.trans g.tape, h.output.trans g.output, Nat.le_trans g.size h.size, fun k hk _ => (h.block k (Nat.lt_of_lt_of_le hk g.size) (by omega) (by omega)).trans (g.block k hk (by simp))⟩
theorem Gr2.blk {a b : Nat} {w w' : World} (h : Gr2 a b w w') {g t : Nat} {c : Array Value} (hb : Blk w g t c) (h1 : g ≠ a) (h2 : g ≠ b) : Blk w' g t c := hb.same (h.block g hb.lt h1 h2)

/-- The two tables' own blocks. -/
def Two (w : World) (tb db : Nat) : Prop := (∃ a n c, Blk w tb 68 #[.bool true, .slice a n c]) ∧ ∃ a n c, Blk w db 34 #[.slice a n c]
theorem two_of {w : World} {tb db : Nat} {l m : List PRow} (h : Tb w tb l) (k : Dt w db m) : Two w tb db := by
  obtain ⟨ao, n, cap, HB, _⟩ := tb_open h
  obtain ⟨ao2, n2, cap2, _, _, _, HD⟩ := dt_open k
  exact ⟨⟨_, _, _, HB.out.1⟩, _, _, _, HD.out.1⟩
theorem Gr2.cell {a b : Nat} {w w' : World} (h : Gr2 a b w w') (ht : Two w a b) {g j : Nat} {u : Value} (hx : w.cell? ⟨g, j, none⟩ = some u) (hu : ∀ m, u ≠ .bool m) (hu' : ∀ a n c, u ≠ .slice a n c) : w'.cell? ⟨g, j, none⟩ = some u := by
  obtain ⟨⟨a1, n1, c1, h1⟩, a2, n2, c2, h2⟩ := ht
  have hlt : g < w.heap.size := by
    rcases Nat.lt_or_ge g w.heap.size with h | h
    · exact h
    · unfold World.cell? at hx
      rw [Array.getElem?_eq_none (by simpa using h)] at hx
      simp at hx
  have hne : g ≠ a := fun e => by
    subst e
    rw [h1.cell j] at hx
    rcases j with _ | _ | j
    · simp at hx; exact hu _ hx.symm
    · simp at hx; exact hu' _ _ _ hx.symm
    · simp at hx
  have hne2 : g ≠ b := fun e => by
    subst e
    rw [h2.cell j] at hx
    rcases j with _ | j
    · simp at hx; exact hu' _ _ _ hx.symm
    · simp at hx
  have := h.block g hlt hne hne2
  unfold World.cell? at hx ⊢
  rw [this]
  exact hx
theorem Gr2.seg {a b : Nat} {w w' : World} (h : Gr2 a b w w') (ht : Two w a b) {v : Value} {L : Bs} (hs : Seg w v L) : Seg w' v L := hs.of_cells fun _ _ _ hx => h.cell ht hx (by simp) (by simp)

/-- A table beside the document's, whose block is changed. -/
theorem Tbz.snd {X : Nat → Prop} {w w' : World} {tb db : Nat} {l : List PRow} (h : Tbz X w tb l) (hg : w.grownBy w' (some db)) {a : Option Addr} {n c : Nat} (hd : Blk w db 34 #[.slice a n c]) : Tbz X w' tb l := by
  obtain ⟨v, h1, ps, h2, h3⟩ := h
  refine ⟨v, h1.grown hg (fun e => ?_), ps, h2.off hg hd (by decide) (by decide), h3.cells fun g j u hu hx => ?_⟩
  · simp at e
    subst e
    unfold Blk at h1 hd
    rw [h1] at hd
    simp at hd
  · simp [PTR] at hu
    obtain ⟨p, _, rfl⟩ := hu
    refine hg.cell hx (fun e => ?_)
    simp at e
    subst e
    rw [hd.cell] at hx
    rcases j with _ | j
    · simp [ptr] at hx
    · simp at hx

def DoPost (tb db : Nat) (l : List PRow) (w : World) (e : Ending) (w' : World) : Prop := ∃ l', e = .returned (.bool true) ∧ Good l' ∧ l'.length ≤ l.length + 1 ∧ Tb w' tb l' ∧ Dt w' db l' ∧ Gr2 tb db w w'
/-- What stands between the switch's ways and what follows. -/
def DoMid (X : Nat → Prop) (tb db : Nat) (l : List PRow) (w wc : World) : Prop := ∃ l', Good l' ∧ l'.length ≤ l.length + 1 ∧ Tbz X wc tb l' ∧ Dtz X wc db l' ∧ Gr2 tb db w wc

theorem OwnS.gr2 {X : Nat → Prop} {a b : Nat} {w w' : World} {v : Value} (h : OwnS X w v) (hg : Gr2 a b w w') (ht : Two w a b) : OwnS X w' v := by
  obtain ⟨⟨n, h1⟩, h2, h3⟩ := h
  rcases h1 with ⟨e, h0⟩ | ⟨q, cap, cur, e, hq, hbk, r1, r2⟩
  · subst e
    exact ⟨⟨0, .inl ⟨rfl, rfl⟩⟩, fun g n cap e => by simp at e, h3⟩
  · obtain ⟨⟨a1, n1, c1, k1⟩, a2, n2, c2, k2⟩ := id ht
    have ha : q ≠ a := fun e => by
      subst e
      unfold Blk at hbk k1
      rw [hbk] at k1
      simp at k1
    have hb : q ≠ b := fun e => by
      subst e
      unfold Blk at hbk k2
      rw [hbk] at k2
      simp at k2
    refine ⟨⟨n, .inr ⟨q, cap, cur, e, hq, hg.blk hbk ha hb, r1, r2⟩⟩, fun g n cap e x hx => ?_, h3⟩
    obtain ⟨i, hi⟩ := h2 g n cap e x hx
    exact ⟨i, hg.cell ht hi (by simp) (by simp)⟩
theorem lent_owns {w a b : World} {v : Value} {L : Bs} (h : Lent w a.heap.size v L) (hb : w.heap.size ≤ b.heap.size) : OwnS (XW a b) w v := by
  obtain ⟨g, cap, rfl, ho⟩ := h
  have h1 : Disk.Own w a.heap.size (.slice (some ⟨g, 0, none⟩) (L ++ [119]).length cap) (L ++ [119]) := by simpa using ho
  have h2 := h1.take L.length (by simp)
  have h3 : Disk.Own w a.heap.size (.slice (some ⟨g, 0, none⟩) L.length cap) L := by simpa using h2
  exact owns_of h3 fun q h1 h2 => ⟨h1, Nat.lt_of_lt_of_le h2 hb⟩
end Go.Proofs.Ytlehikdlkdbacaa
