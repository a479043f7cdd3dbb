/-
  No cell of these rows narrows 'for every input' (looked for: loops, veiled, ifaces, maps, wideKeys, modest, calm, conditions, laid).
  DERIVED. THE GIVEN ROWS OF THIS SEAT. 3 by the template 'for every input the law returns true; each argument reads behind the call as it read before'; 0 by the template 'total and deterministic' (their statements: YtncbdhdfemidlaaGreatTotals.lean).
  GIVEN WITH THE SEED: the statements are not yours to turn. If you find one false, say at which input.
  Laid BY PROGRAM, IN A SANDBOX (cutbox-rows.mjs): the forced cells as the released guide's own fill.sh prints them over the translation bc0c5386dd733bbc… (all of the seat's roots in one cut). By AI agents, Wed Nov 11 2026. No macro, syntax, notation, axiom, sorry.
-/
import Derived.Test.YtncbdhdfemidlaaGreatChecked
import GoSem.Claim
import GoSem.ClaimJoined
import GoSem.ClaimMapViews
import Derived.JoinedTies
import Derived.KernelRfl
namespace Go.Proofs.YtncbdhdfemidlaaGreat
/- THE CELL 'sum', in the pinned program and in every row, IS THE sha256 OF THE DUMP (.gsa) THAT YtncbdhdfemidlaaGreatProg.lean LOADS. Nothing in Lean hashes anything: it is a label: what it is worth is what the hold of that sum in a sandbox is worth. -/
noncomputable def Tryz.pinned : Pinned := { name := "ytncbdhdfemidlaagreat", sum := "bc0c5386dd733bbc031759cd84e0a04391eff927c6638848acbbc664c36d4900", checked := Tryz.checked }
namespace Rows
def none {H : Type} : Left H := { results := [], args := [] }

/-- 'wicketlaw15.MessageForms': WHATEVER THE INPUT: true; the input reads as it did. -/
def messageFormsSpec : ChangeSpec := { name := "messageForms", fn := fun _ => fun
  | [d] => { results := [.lit (.bool true)], args := [d] }
  | _ => none }
def messageFormsRow : OpenClaim := { program := "ytncbdhdfemidlaagreat", sum := "bc0c5386dd733bbc031759cd84e0a04391eff927c6638848acbbc664c36d4900", func := "wicket/wicketlaw15.MessageForms", spec := "messageForms", unfollowed := true, recurses := true, apart := false }
def MessageFormsSaid : Prop := messageFormsRow.holds Tryz.pinned (OpenSpec.ofChange messageFormsSpec)

/-- ITS FALSE NEIGHBOUR: 'it returns false'. Refute it at one input. -/
def messageFormsWrong : ChangeSpec := { name := "messageForms", fn := fun _ => fun
  | [d] => { results := [.lit (.bool false)], args := [d] }
  | _ => none }
def MessageFormsWrongFalsely : Prop := messageFormsRow.holds Tryz.pinned (OpenSpec.ofChange messageFormsWrong)

/-- 'wicketlaw15.MessageReads': WHATEVER THE INPUT: true; the input reads as it did. -/
def messageReadsSpec : ChangeSpec := { name := "messageReads", fn := fun _ => fun
  | [d] => { results := [.lit (.bool true)], args := [d] }
  | _ => none }
def messageReadsRow : OpenClaim := { program := "ytncbdhdfemidlaagreat", sum := "bc0c5386dd733bbc031759cd84e0a04391eff927c6638848acbbc664c36d4900", func := "wicket/wicketlaw15.MessageReads", spec := "messageReads", unfollowed := true, recurses := true, apart := false }
def MessageReadsSaid : Prop := messageReadsRow.holds Tryz.pinned (OpenSpec.ofChange messageReadsSpec)

/-- ITS FALSE NEIGHBOUR: 'it returns false'. Refute it at one input. -/
def messageReadsWrong : ChangeSpec := { name := "messageReads", fn := fun _ => fun
  | [d] => { results := [.lit (.bool false)], args := [d] }
  | _ => none }
def MessageReadsWrongFalsely : Prop := messageReadsRow.holds Tryz.pinned (OpenSpec.ofChange messageReadsWrong)

/-- 'wicketlaw15.MessageLists': WHATEVER THE INPUT: true; the input reads as it did. -/
def messageListsSpec : ChangeSpec := { name := "messageLists", fn := fun _ => fun
  | [d1, d2] => { results := [.lit (.bool true)], args := [d1, d2] }
  | _ => none }
def messageListsRow : OpenClaim := { program := "ytncbdhdfemidlaagreat", sum := "bc0c5386dd733bbc031759cd84e0a04391eff927c6638848acbbc664c36d4900", func := "wicket/wicketlaw15.MessageLists", spec := "messageLists", unfollowed := true, recurses := true, apart := false }
def MessageListsSaid : Prop := messageListsRow.holds Tryz.pinned (OpenSpec.ofChange messageListsSpec)

/-- ITS FALSE NEIGHBOUR: 'it returns false'. Refute it at one input. -/
def messageListsWrong : ChangeSpec := { name := "messageLists", fn := fun _ => fun
  | [d1, d2] => { results := [.lit (.bool false)], args := [d1, d2] }
  | _ => none }
def MessageListsWrongFalsely : Prop := messageListsRow.holds Tryz.pinned (OpenSpec.ofChange messageListsWrong)

/- THE SECOND FORM. 'bulk': how many values and letters a reading holds, each counted each time it is reached (what is shared counts as often as it is met; a slice's spare places count too). A statement '..UptoSaid' is the law's where the arguments, and the package variables that the reading takes, are together of bulk at most 1048576: NARROWER than '..Said'. Prove '..Said' where nothing that the law and all that it calls make is longer than what came in: it says more and counts as full. Else prove '..UptoSaid'. A law counts once. -/
mutual
def uptoBulk {H : Type} : DataW H → Nat
  | .lit (.string bytes) => bytes.length + 1
  | .lit _ => 1
  | .nil => 1
  | .ptr d => uptoBulk d + 1
  | .slice elems spare => uptoBulkAll elems + uptoBulkAll spare + 1
  | .agg parts => uptoBulkAll parts + 1
  | .iface _ d => uptoBulk d + 1
  | .map entries => uptoBulkEntries entries + 1
  | .held _ => 1
def uptoBulkAll {H : Type} : List (DataW H) → Nat
  | [] => 0
  | d :: r => uptoBulk d + uptoBulkAll r
def uptoBulkEntries {H : Type} : List (Lit × DataW H) → Nat
  | [] => 0
  | x :: r => uptoBulkEntry x + uptoBulkEntries r
def uptoBulkEntry {H : Type} : Lit × DataW H → Nat
  | (.string bytes, d) => bytes.length + uptoBulk d + 1
  | (_, d) => uptoBulk d + 1
 end
def uptoSmall : (H : Type) → List (DataW H) → Bool := fun _ ds => decide (uptoBulkAll ds ≤ 1048576)
def OpenSpec.upto (s : _root_.Go.ChangeSpec) : _root_.Go.OpenSpec := { _root_.Go.OpenSpec.ofChange s with cond := some uptoSmall }

/-- 'wicketlaw15.MessageForms', WHERE WHAT IT READS IS OF BULK AT MOST 1048576: true; the input reads as it did. -/
def messageFormsUptoRow : OpenClaim := { program := "ytncbdhdfemidlaagreat", sum := "bc0c5386dd733bbc031759cd84e0a04391eff927c6638848acbbc664c36d4900", func := "wicket/wicketlaw15.MessageForms", spec := "messageForms", unfollowed := true, recurses := true, apart := false, narrowed := true }
def MessageFormsUptoSaid : Prop := messageFormsUptoRow.holds Tryz.pinned (OpenSpec.upto messageFormsSpec)

/-- 'wicketlaw15.MessageReads', WHERE WHAT IT READS IS OF BULK AT MOST 1048576: true; the input reads as it did. -/
def messageReadsUptoRow : OpenClaim := { program := "ytncbdhdfemidlaagreat", sum := "bc0c5386dd733bbc031759cd84e0a04391eff927c6638848acbbc664c36d4900", func := "wicket/wicketlaw15.MessageReads", spec := "messageReads", unfollowed := true, recurses := true, apart := false, narrowed := true }
def MessageReadsUptoSaid : Prop := messageReadsUptoRow.holds Tryz.pinned (OpenSpec.upto messageReadsSpec)

/-- 'wicketlaw15.MessageLists', WHERE WHAT IT READS IS OF BULK AT MOST 1048576: true; the input reads as it did. -/
def messageListsUptoRow : OpenClaim := { program := "ytncbdhdfemidlaagreat", sum := "bc0c5386dd733bbc031759cd84e0a04391eff927c6638848acbbc664c36d4900", func := "wicket/wicketlaw15.MessageLists", spec := "messageLists", unfollowed := true, recurses := true, apart := false, narrowed := true }
def MessageListsUptoSaid : Prop := messageListsUptoRow.holds Tryz.pinned (OpenSpec.upto messageListsSpec)

end Rows
end Go.Proofs.YtncbdhdfemidlaaGreat
