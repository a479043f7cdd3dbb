/-
  A window of the call's own.
-/
import Derived.Test.YtignmnmhigncjaaSD
import Derived.Test.YtignmnmhigncjaaSG
namespace Go.Proofs.Ytignmnmhigncjaa.S
open Go.RowKit Disk
variable {Q : Nat → Prop}

structure Mine (Q : Nat → Prop) (w w' : World) (b : Nat) (v : Value) (n : Nat) (L : List (Option ByteArray)) (m : Nat) : Prop where
  win : Win Q w' b v n L m
  gr : w.grownBy w' none
  new : ∀ i, FN b v i → w.heap.size ≤ i
theorem Mine.to {Q' : Nat → Prop} {w w1 w2 : World} {b : Nat} {v : Value} {n : Nat} {L L' : List (Option ByteArray)} {m m' : Nat} (h : Mine Q w w1 b v n L m) (hw : Win Q' w2 b v n L' m') (hf : Fr w1 w2 (FN b v)) : Mine Q' w w2 b v n L' m' :=
  ⟨hw, Fr.grown ((Fr.of (F := FN b v) h.gr (by simp)).trans hf fun i hi => .inl hi) h.new, h.new⟩
theorem Mine.grown {w w1 w2 : World} {b : Nat} {v : Value} {n : Nat} {L : List (Option ByteArray)} {m : Nat} (h : Mine Q w w1 b v n L m) (hg : w1.grownBy w2 none) : Mine Q w w2 b v n L m := ⟨h.win.grown hg, grown_trans h.gr hg, h.new⟩
end Go.Proofs.Ytignmnmhigncjaa.S
