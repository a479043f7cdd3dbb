/-
  Words for memory: a slice of bytes that reads as a list (Seg), one that lies in the call's own memory (Own), a reader's block (RdB); and how they outlast a step of the world.
-/
import Derived.Test.YtneppkbbnajpnaaRows
import Derived.Test.YtneppkbbnajpnaaP
import Derived.WalkKit
import Derived.WalkSpells
import Derived.WalkLawsBesides
namespace Go.Proofs.Ytneppkbbnajpnaa
open Go.RowKit

def BV (L : List UInt8) : List Value := L.map fun u => Value.int .u8 (u.toNat : Int)

theorem BV_len (L : List UInt8) : (BV L).length = L.length := by simp [BV]
theorem BV_append (L M : List UInt8) : BV (L ++ M) = BV L ++ BV M := by simp [BV]
theorem BV_one (L : List UInt8) : ∀ u ∈ BV L, u.oneCell' = true := by
  intro u hu; simp [BV] at hu; obtain ⟨x, _, rfl⟩ := hu; rfl

/-- The slice v reads as L. -/
def Seg (w : World) (v : Value) (L : List UInt8) : Prop :=
  ∃ ao cap, v = .slice ao L.length cap ∧ L.length ≤ cap ∧ cap ≤ maxLen ∧ (ao = none → cap = 0) ∧ ∀ j (hj : j < L.length), ∃ b off, ao = some ⟨b, off, none⟩ ∧ w.cell? ⟨b, off + j, none⟩ = some (.int .u8 (L[j].toNat : Int))

/-- The slice v owns L, in blocks from B on. -/
def Own (w : World) (B : Nat) (v : Value) (L : List UInt8) : Prop := w.ownsRow B 5 1 v L.length (BV L)

/-- A reader's block. -/
def RdB (w : World) (b : Nat) (o : Bool) (s : Value) : Prop := w.heap[b]? = some (.cells #[.bool o, s] 73 (0, 0))

theorem grown_refl (w : World) (r : Option Nat) : w.grownBy w r := ⟨rfl, rfl, rfl, Nat.le_refl _, fun _ _ _ => rfl⟩
theorem grown_weak {w w' : World} (h : w.grownBy w' none) (r : Option Nat) : w.grownBy w' r := ⟨h.os, h.tape, h.output, h.size, fun k hk _ => h.block k hk (by simp)⟩
theorem grown_trans {a b c : World} {r : Option Nat} (h : a.grownBy b r) (k : b.grownBy c r) : a.grownBy c r :=
  ⟨k.os.trans h.os, k.tape.trans h.tape, k.output.trans h.output, Nat.le_trans h.size k.size, fun i hi hr => (k.block i (Nat.lt_of_lt_of_le hi h.size) hr).trans (h.block i hi hr)⟩
/-- A step that writes one block that was not there before. -/
theorem grown_new {a b c : World} {r q : Option Nat} (h : a.grownBy b r) (k : b.grownBy c q) (hq : ∀ x, q = some x → a.heap.size ≤ x) : a.grownBy c r :=
  ⟨k.os.trans h.os, k.tape.trans h.tape, k.output.trans h.output, Nat.le_trans h.size k.size, fun i hi hr => (k.block i (Nat.lt_of_lt_of_le hi h.size) (fun e => by have := hq i e.symm; omega)).trans (h.block i hi hr)⟩
theorem grown_drew (w : World) (r : Option Nat) : w.grownBy w.drew r := ⟨rfl, rfl, rfl, Nat.le_refl _, fun _ _ _ => rfl⟩
theorem grown_setCell (w : World) (b o : Nat) (v : Value) : w.grownBy (w.setCell ⟨b, o, none⟩ v) (some b) :=
  ⟨rfl, rfl, rfl, by simp [World.setCell], fun k _ hk => heap_setCell_other w ⟨b, o, none⟩ k v (fun e => hk (by simp [e]))⟩
theorem grown_below {w w' : World} (h : w.grownBy w' none) : Below w.heap.size w w' := ⟨h.os, h.tape, h.output, h.size, fun k hk => h.block k hk (by simp)⟩

theorem RdB.lt {w : World} {b : Nat} {o : Bool} {s : Value} (h : RdB w b o s) : b < w.heap.size := (Array.getElem?_eq_some_iff.1 h).1
theorem RdB.cell0 {w : World} {b : Nat} {o : Bool} {s : Value} (h : RdB w b o s) : w.cell? ⟨b, 0, none⟩ = some (.bool o) := by
  rw [cell_of_row w b 0 _ _ _ h]; rfl
theorem RdB.cell1 {w : World} {b : Nat} {o : Bool} {s : Value} (h : RdB w b o s) : w.cell? ⟨b, 1, none⟩ = some s := by
  rw [cell_of_row w b 1 _ _ _ h]; rfl
theorem RdB.free {w : World} {b : Nat} {o : Bool} {s : Value} (h : RdB w b o s) (j : Nat) : w.frozen? ⟨b, j, none⟩ = false := frozen_of_row w b j _ _ h
theorem RdB.store {w : World} {b : Nat} {o : Bool} {s : Value} (h : RdB w b o s) (t : Value) : RdB (w.setCell ⟨b, 1, none⟩ t) b o t := heap_setCell_same w b 1 _ _ t h
theorem RdB.kept {w w' : World} {b : Nat} {o : Bool} {s : Value} {r : Option Nat} (h : RdB w b o s) (hg : w.grownBy w' r) (hr : r ≠ some b) : RdB w' b o s :=
  (hg.block b h.lt (fun e => hr e.symm)).trans h

theorem Seg.len {w : World} {v : Value} {L : List UInt8} (h : Seg w v L) : L.length ≤ 9223372036854775807 := by
  obtain ⟨ao, cap, _, h1, h2, _⟩ := h
  unfold maxLen at h2; omega

theorem seg_nil (w : World) : Seg w (.slice none 0 0) [] := ⟨none, 0, rfl, Nat.le_refl _, Nat.zero_le _, fun _ => rfl, fun j hj => absurd hj (by simp)⟩

/-- A list of bytes stays readable where its cells stay. -/
theorem Seg.of_cells {w w' : World} {v : Value} {L : List UInt8} (h : Seg w v L) (hc : ∀ b j (x : Int), w.cell? ⟨b, j, none⟩ = some (.int .u8 x) → w'.cell? ⟨b, j, none⟩ = some (.int .u8 x)) : Seg w' v L := by
  obtain ⟨ao, cap, hv, h1, h2, h3, h4⟩ := h
  refine ⟨ao, cap, hv, h1, h2, h3, fun j hj => ?_⟩
  obtain ⟨b, off, e, hcell⟩ := h4 j hj
  exact ⟨b, off, e, hc _ _ _ hcell⟩

theorem Seg.grown {w w' : World} {v : Value} {L : List UInt8} (h : Seg w v L) (hg : w.grownBy w' none) : Seg w' v L :=
  h.of_cells fun _ _ _ hc => hg.cell hc (by simp)

/-- Writes to a reader's block touch no bytes. -/
theorem Seg.grownR {w w' : World} {v : Value} {L : List UInt8} {b : Nat} {o : Bool} {ao : Option Addr} {n c : Nat} (h : Seg w v L) (hr : RdB w b o (.slice ao n c)) (hg : w.grownBy w' (some b)) : Seg w' v L := by
  refine h.of_cells fun k j x hc => hg.cell hc ?_
  intro e
  simp at e; subst e
  rw [cell_of_row w _ _ _ _ _ hr] at hc
  match j, hc with
  | 0, hc => simp at hc
  | 1, hc => simp at hc
  | j + 2, hc => simp at hc

theorem Seg.grownO {w w' : World} {v u : Value} {L : List UInt8} (h : Seg w v L) (hu : w.grownBy w' u.ownBlock) (hne : ∀ b off, (∃ n c, v = .slice (some ⟨b, off, none⟩) n c) → some b ≠ u.ownBlock) : Seg w' v L := by
  obtain ⟨ao, cap, hv, h1, h2, h3, h4⟩ := h
  refine ⟨ao, cap, hv, h1, h2, h3, fun j hj => ?_⟩
  obtain ⟨b, off, e, hcell⟩ := h4 j hj
  exact ⟨b, off, e, hu.cell hcell (hne b off ⟨_, _, by rw [hv, e]⟩)⟩

theorem Own.seg {w : World} {B : Nat} {v : Value} {L : List UInt8} (h : Own w B v L) : Seg w v L := by
  rcases h.2 with ⟨rfl, hn⟩ | ⟨g, cap, cur, rfl, hb, hg, hnc, hcm, hcs, ht⟩
  · have : L = [] := List.eq_nil_of_length_eq_zero hn
    subst this
    exact seg_nil w
  · refine ⟨_, cap, rfl, hnc, hcm, by simp, fun j hj => ⟨g, 0, rfl, ?_⟩⟩
    have := h.cellAt j (by omega)
    rw [Nat.zero_add, this]
    simp [BV, hj]

theorem Own.nil (w : World) (B : Nat) : Own w B (.slice none 0 0) [] := World.ownsRow_nil w B 5 1
theorem Own.mono {w : World} {B B' : Nat} {v : Value} {L : List UInt8} (h : Own w B v L) (hB : B' ≤ B) : Own w B' v L := by
  refine ⟨h.1, ?_⟩
  rcases h.2 with h2 | ⟨g, cap, cur, h1, hb, h3⟩
  · exact .inl h2
  · exact .inr ⟨g, cap, cur, h1, by omega, h3⟩
theorem Own.grown {w w' : World} {B : Nat} {v : Value} {L : List UInt8} (h : Own w B v L) (hg : w.grownBy w' none) : Own w' B v L := h.kept hg (by cases v.ownBlock <;> simp)
/-- Writes to a reader's block touch no row of bytes. -/
theorem Own.grownR {w w' : World} {B : Nat} {v : Value} {L : List UInt8} {b : Nat} {o : Bool} {s : Value} (h : Own w B v L) (hr : RdB w b o s) (hg : w.grownBy w' (some b)) : Own w' B v L := by
  refine h.kept hg ?_
  rcases h.2 with ⟨rfl, _⟩ | ⟨g, cap, cur, rfl, hb, hgg, _⟩
  · exact .inl rfl
  · right
    intro e
    simp [Value.ownBlock] at e; subst e
    rw [hr] at hgg; simp at hgg
end Go.Proofs.Ytneppkbbnajpnaa
