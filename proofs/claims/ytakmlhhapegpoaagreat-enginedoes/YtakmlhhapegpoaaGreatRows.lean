/-
  No cell of these rows narrows 'for every input' (looked for: loops, veiled, ifaces, maps, wideKeys, modest, calm, conditions, laid).
  DERIVED. THE GIVEN ROWS OF THIS SEAT. 3 by the template 'for every input the law returns true; each argument reads behind the call as it read before'; 0 by the template 'total and deterministic' (their statements: YtakmlhhapegpoaaGreatTotals.lean).
  GIVEN WITH THE SEED: the statements are not yours to turn. If you find one false, say at which input.
  Laid BY PROGRAM, IN A SANDBOX (cutbox-rows.mjs): the forced cells as the released guide's own fill.sh prints them over the translation 3ffff0544c4751df… (all of the seat's roots in one cut). By AI agents, Wed Nov 11 2026. No macro, syntax, notation, axiom, sorry.
-/
import Derived.Test.YtakmlhhapegpoaaGreatChecked
import GoSem.Claim
import GoSem.ClaimJoined
import GoSem.ClaimMapViews
import Derived.JoinedTies
import Derived.KernelRfl
namespace Go.Proofs.YtakmlhhapegpoaaGreat
/- THE CELL 'sum', in the pinned program and in every row, IS THE sha256 OF THE DUMP (.gsa) THAT YtakmlhhapegpoaaGreatProg.lean LOADS. Nothing in Lean hashes anything: it is a label: what it is worth is what the hold of that sum in a sandbox is worth. -/
noncomputable def Tryz.pinned : Pinned := { name := "ytakmlhhapegpoaagreat", sum := "3ffff0544c4751df88901c67bc629b58eaea7c9a2b27523000efc9378f25af4a", checked := Tryz.checked }
namespace Rows
def none {H : Type} : Left H := { results := [], args := [] }

/-- 'wicketlaw08.EngineDoes': WHATEVER THE INPUT: true; the input reads as it did. -/
def engineDoesSpec : ChangeSpec := { name := "engineDoes", fn := fun _ => fun
  | [d1, d2, d3] => { results := [.lit (.bool true)], args := [d1, d2, d3] }
  | _ => none }
def engineDoesRow : OpenClaim := { program := "ytakmlhhapegpoaagreat", sum := "3ffff0544c4751df88901c67bc629b58eaea7c9a2b27523000efc9378f25af4a", func := "wicket/wicketlaw08.EngineDoes", spec := "engineDoes", inPlace := ["maps.clone"], unfollowed := true, recurses := true, apart := false }
def EngineDoesSaid : Prop := engineDoesRow.holds Tryz.pinned (OpenSpec.ofChange engineDoesSpec)

/-- ITS FALSE NEIGHBOUR: 'it returns false'. Refute it at one input. -/
def engineDoesWrong : ChangeSpec := { name := "engineDoes", fn := fun _ => fun
  | [d1, d2, d3] => { results := [.lit (.bool false)], args := [d1, d2, d3] }
  | _ => none }
def EngineDoesWrongFalsely : Prop := engineDoesRow.holds Tryz.pinned (OpenSpec.ofChange engineDoesWrong)

/-- 'wicketlaw08.EngineWholly': WHATEVER THE INPUT: true; the input reads as it did. -/
def engineWhollySpec : ChangeSpec := { name := "engineWholly", fn := fun _ => fun
  | [d1, d2, d3] => { results := [.lit (.bool true)], args := [d1, d2, d3] }
  | _ => none }
def engineWhollyRow : OpenClaim := { program := "ytakmlhhapegpoaagreat", sum := "3ffff0544c4751df88901c67bc629b58eaea7c9a2b27523000efc9378f25af4a", func := "wicket/wicketlaw08.EngineWholly", spec := "engineWholly", inPlace := ["maps.clone"], unfollowed := true, recurses := true, apart := false }
def EngineWhollySaid : Prop := engineWhollyRow.holds Tryz.pinned (OpenSpec.ofChange engineWhollySpec)

/-- ITS FALSE NEIGHBOUR: 'it returns false'. Refute it at one input. -/
def engineWhollyWrong : ChangeSpec := { name := "engineWholly", fn := fun _ => fun
  | [d1, d2, d3] => { results := [.lit (.bool false)], args := [d1, d2, d3] }
  | _ => none }
def EngineWhollyWrongFalsely : Prop := engineWhollyRow.holds Tryz.pinned (OpenSpec.ofChange engineWhollyWrong)

/-- 'wicketlaw08.EngineNil': WHATEVER THE INPUT: true; the input reads as it did. -/
def engineNilSpec : ChangeSpec := { name := "engineNil", fn := fun _ => fun
  | [] => { results := [.lit (.bool true)], args := [] }
  | _ => none }
def engineNilRow : OpenClaim := { program := "ytakmlhhapegpoaagreat", sum := "3ffff0544c4751df88901c67bc629b58eaea7c9a2b27523000efc9378f25af4a", func := "wicket/wicketlaw08.EngineNil", spec := "engineNil", inPlace := ["maps.clone"], unfollowed := true, recurses := true, apart := false }
def EngineNilSaid : Prop := engineNilRow.holds Tryz.pinned (OpenSpec.ofChange engineNilSpec)

/-- ITS FALSE NEIGHBOUR: 'it returns false'. Refute it at one input. -/
def engineNilWrong : ChangeSpec := { name := "engineNil", fn := fun _ => fun
  | [] => { results := [.lit (.bool false)], args := [] }
  | _ => none }
def EngineNilWrongFalsely : Prop := engineNilRow.holds Tryz.pinned (OpenSpec.ofChange engineNilWrong)

/- THE SECOND FORM. 'bulk': how many values and letters a reading holds, each counted each time it is reached (what is shared counts as often as it is met; a slice's spare places count too). A statement '..UptoSaid' is the law's where the arguments, and the package variables that the reading takes, are together of bulk at most 1048576: NARROWER than '..Said'. Prove '..Said' where nothing that the law and all that it calls make is longer than what came in: it says more and counts as full. Else prove '..UptoSaid'. A law counts once. -/
mutual
def uptoBulk {H : Type} : DataW H → Nat
  | .lit (.string bytes) => bytes.length + 1
  | .lit _ => 1
  | .nil => 1
  | .ptr d => uptoBulk d + 1
  | .slice elems spare => uptoBulkAll elems + uptoBulkAll spare + 1
  | .agg parts => uptoBulkAll parts + 1
  | .iface _ d => uptoBulk d + 1
  | .map entries => uptoBulkEntries entries + 1
  | .held _ => 1
def uptoBulkAll {H : Type} : List (DataW H) → Nat
  | [] => 0
  | d :: r => uptoBulk d + uptoBulkAll r
def uptoBulkEntries {H : Type} : List (Lit × DataW H) → Nat
  | [] => 0
  | x :: r => uptoBulkEntry x + uptoBulkEntries r
def uptoBulkEntry {H : Type} : Lit × DataW H → Nat
  | (.string bytes, d) => bytes.length + uptoBulk d + 1
  | (_, d) => uptoBulk d + 1
 end
def uptoSmall : (H : Type) → List (DataW H) → Bool := fun _ ds => decide (uptoBulkAll ds ≤ 1048576)
def OpenSpec.upto (s : _root_.Go.ChangeSpec) : _root_.Go.OpenSpec := { _root_.Go.OpenSpec.ofChange s with cond := some uptoSmall }

/-- 'wicketlaw08.EngineDoes', WHERE WHAT IT READS IS OF BULK AT MOST 1048576: true; the input reads as it did. -/
def engineDoesUptoRow : OpenClaim := { program := "ytakmlhhapegpoaagreat", sum := "3ffff0544c4751df88901c67bc629b58eaea7c9a2b27523000efc9378f25af4a", func := "wicket/wicketlaw08.EngineDoes", spec := "engineDoes", inPlace := ["maps.clone"], unfollowed := true, recurses := true, apart := false, narrowed := true }
def EngineDoesUptoSaid : Prop := engineDoesUptoRow.holds Tryz.pinned (OpenSpec.upto engineDoesSpec)

/-- 'wicketlaw08.EngineWholly', WHERE WHAT IT READS IS OF BULK AT MOST 1048576: true; the input reads as it did. -/
def engineWhollyUptoRow : OpenClaim := { program := "ytakmlhhapegpoaagreat", sum := "3ffff0544c4751df88901c67bc629b58eaea7c9a2b27523000efc9378f25af4a", func := "wicket/wicketlaw08.EngineWholly", spec := "engineWholly", inPlace := ["maps.clone"], unfollowed := true, recurses := true, apart := false, narrowed := true }
def EngineWhollyUptoSaid : Prop := engineWhollyUptoRow.holds Tryz.pinned (OpenSpec.upto engineWhollySpec)

/-- 'wicketlaw08.EngineNil', WHERE WHAT IT READS IS OF BULK AT MOST 1048576: true; the input reads as it did. -/
def engineNilUptoRow : OpenClaim := { program := "ytakmlhhapegpoaagreat", sum := "3ffff0544c4751df88901c67bc629b58eaea7c9a2b27523000efc9378f25af4a", func := "wicket/wicketlaw08.EngineNil", spec := "engineNil", inPlace := ["maps.clone"], unfollowed := true, recurses := true, apart := false, narrowed := true }
def EngineNilUptoSaid : Prop := engineNilUptoRow.holds Tryz.pinned (OpenSpec.upto engineNilSpec)

end Rows
end Go.Proofs.YtakmlhhapegpoaaGreat
