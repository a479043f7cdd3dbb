/-
  A window and the document's, side by side.
-/
import Derived.Test.YtignmnmhigncjaaRb
import Derived.Test.YtignmnmhigncjaaGa
import Derived.Test.YtignmnmhigncjaaSH
import Derived.Test.YtignmnmhigncjaaKa
namespace Go.Proofs.Ytignmnmhigncjaa
open Go.RowKit Disk S

/-- Both stand as L says, in blocks of their own. -/
structure Two (Q : Nat → Prop) (w : World) (b : Nat) (v : Value) (n rb : Nat) (tv bv : Value) (L : List (Option ByteArray)) : Prop where
  win : Win Q w b v n L (lead L)
  ref : ∃ T K, Rw w rb tv bv n T K ∧ zipL T K = L
  apart : ∀ i, FR rb tv bv i → ¬ Q i
  low : ∀ i, Q i → i < w.heap.size
theorem win_typ {Q : Nat → Prop} {w : World} {b : Nat} {v : Value} {n : Nat} {L : List (Option ByteArray)} {m : Nat} (h : Win Q w b v n L m) : ∀ i, FN b v i → ∃ t C, Blk w i t C ∧ (t = 56 ∨ t = 61) := by
  rintro i (rfl | hi)
  · exact ⟨56, _, h.blk, .inl rfl⟩
  · obtain ⟨xs, hr, _⟩ := h.ring
    obtain ⟨C, hC⟩ := hr.blk i hi
    exact ⟨61, C, hC, .inr rfl⟩
theorem Two.grown {Q : Nat → Prop} {w w' : World} {b : Nat} {v : Value} {n rb : Nat} {tv bv : Value} {L : List (Option ByteArray)} (h : Two Q w b v n rb tv bv L) (hg : w.grownBy w' none) : Two Q w' b v n rb tv bv L := by
  obtain ⟨T, K, h1, h2⟩ := h.ref
  exact ⟨h.win.grown hg, ⟨T, K, h1.grown hg, h2⟩, h.apart, fun i hi => Nat.lt_of_lt_of_le (h.low i hi) hg.size⟩
/-- No block of the one is one of the other. -/
theorem Two.disj {Q : Nat → Prop} {w : World} {b : Nat} {v : Value} {n rb : Nat} {tv bv : Value} {L : List (Option ByteArray)} (h : Two Q w b v n rb tv bv L) : ∀ i, FN b v i → ¬ FR rb tv bv i := by
  intro i h1 h2
  obtain ⟨T, K, hr, _⟩ := h.ref
  obtain ⟨t, C, hC, ht⟩ := win_typ h.win i h1
  obtain ⟨s, D, hD, hs⟩ := hr.typ i h2
  have e := blk_type hC hD
  omega
/-- Behind a step of the window alone the document's is as it was. -/
theorem Two.mid {Q : Nat → Prop} {w w1 : World} {b : Nat} {v : Value} {n rb : Nat} {tv bv : Value} {L : List (Option ByteArray)} (h : Two Q w b v n rb tv bv L) (hf : Fr w w1 (FN b v)) : ∃ T K, Rw w1 rb tv bv n T K ∧ zipL T K = L := by
  obtain ⟨T, K, hr, hz⟩ := h.ref
  exact ⟨T, K, hr.kept fun i hi => hf.block i (hr.lt i hi) fun e => h.disj i e hi, hz⟩
theorem Two.fin {Q Q1 : Nat → Prop} {w w1 w2 : World} {b : Nat} {v : Value} {n rb : Nat} {tv bv : Value} {L L1 : List (Option ByteArray)} (h : Two Q w b v n rb tv bv L) (hw : Win Q1 w1 b v n L1 (lead L1)) (hf : Fr w w1 (FN b v)) (hq : ∀ i, Q1 i → Q i ∨ (w.heap.size ≤ i ∧ i < w1.heap.size)) (hr : RTo w1 rb tv bv n L1 w2) :
    ∃ tv' bv', Two Q1 w2 b v n rb tv' bv' L1 ∧ Fr w w2 (fun i => FN b v i ∨ FR rb tv bv i) ∧ ∀ i, FR rb tv' bv' i → FR rb tv bv i ∨ w.heap.size ≤ i := by
  obtain ⟨tv', bv', T', K', h1, h2, h3, h4⟩ := hr
  obtain ⟨T, K, hr0, _⟩ := h.ref
  have s1 := hf.size
  have s2 := h3.size
  have hap : ∀ i, FR rb tv bv i → ¬ Q1 i := fun i hi e => by
    rcases hq i e with e | e
    · exact h.apart i hi e
    · have := hr0.lt i hi
      omega
  refine ⟨tv', bv', ⟨hw.kept fun i hi hl => h3.block i hl fun e => ?_, ⟨T', K', h1, h2⟩, fun i hi e => ?_, fun i hi => ?_⟩, ?_, fun i hi => ?_⟩
  · rcases hi with hi | hi
    · exact h.disj i hi e
    · exact hap i e hi
  · rcases h4 i hi with hi | hi
    · exact hap i hi e
    · rcases hq i e with e | e
      · have := h.low i e
        omega
      · omega
  · rcases hq i hi with e | e
    · have := h.low i e
      omega
    · omega
  · exact (hf.mono fun i hi => .inl hi).trans (h3.mono fun i hi => .inr hi) fun i hi => .inl hi
  · rcases h4 i hi with e | e
    · exact .inl e
    · exact .inr (by omega)
/-- What a step does with both. -/
def DoP (Q : Nat → Prop) (b : Nat) (v : Value) (n rb : Nat) (tv bv : Value) (L : List (Option ByteArray)) (w : World) (e : Ending) (w' : World) : Prop :=
  e = .returned (.bool true) ∧ ∃ Q' tv' bv' L', Two Q' w' b v n rb tv' bv' L' ∧ L'.length ≤ L.length + 1 ∧ Fr w w' (fun i => FN b v i ∨ FR rb tv bv i) ∧ (∀ i, FR rb tv' bv' i → FR rb tv bv i ∨ w.heap.size ≤ i) ∧ (∀ i, Q' i → Q i ∨ w.heap.size ≤ i)
theorem doP_of {Q Q1 : Nat → Prop} {w w0 w1 w2 w3 : World} {b : Nat} {v : Value} {n rb : Nat} {tv bv : Value} {L L1 : List (Option ByteArray)} (h : Two Q w b v n rb tv bv L) (hg : w.grownBy w0 none) (hw : Win Q1 w1 b v n L1 (lead L1)) (hf : Fr w0 w1 (FN b v)) (hq : ∀ i, Q1 i → Q i ∨ (w0.heap.size ≤ i ∧ i < w1.heap.size)) (hr : RTo w1 rb tv bv n L1 w2) (hl : L1.length ≤ L.length + 1) (g3 : w2.grownBy w3 none) : DoP Q b v n rb tv bv L w (.returned (.bool true)) w3 := by
  obtain ⟨tv', bv', k1, k2, k3⟩ := (h.grown hg).fin hw hf hq hr
  have s := hg.size
  refine ⟨rfl, Q1, tv', bv', L1, k1.grown g3, hl, ?_, fun i hi => ?_, fun i hi => ?_⟩
  · exact ((Fr.of (F := fun i => FN b v i ∨ FR rb tv bv i) hg (by simp)).trans k2 fun i hi => .inl hi).trans (Fr.of (F := fun i => FN b v i ∨ FR rb tv bv i) g3 (by simp)) fun i hi => .inl hi
  · rcases k3 i hi with e | e
    · exact .inl e
    · exact .inr (by omega)
  · rcases hq i hi with e | e
    · exact .inl e
    · exact .inr (by omega)
theorem back_len {α : Type} (L : List (Option α)) (z : Int) (o : Option α) : (putL L z o).length ≤ L.length + 1 := by rw [putL_len]; omega
theorem lead_putL {α : Type} (L : List (Option α)) (z : Int) (x : α) : lead (putL L z (some x)) = lead L := by
  cases h : outD L z with
  | none => rw [putL_none h]
  | some t =>
    obtain ⟨k, rfl, hk, _⟩ := outD_some h
    rw [putL_some h]
    exact lead_put L k x t hk
end Go.Proofs.Ytignmnmhigncjaa
