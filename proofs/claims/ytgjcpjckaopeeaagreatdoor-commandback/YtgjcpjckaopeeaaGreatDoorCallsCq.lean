/-
  The document's Copy.
-/
import Derived.Test.YtgjcpjckaopeeaaGreatDoorCallsCy
namespace Go.Proofs.YtgjcpjckaopeeaaGreatDoor.Calls
open Go.RowKit Disk
open Names (Str)

/-- What a copy takes. -/
def Fit (l : List POp) : Prop := l.length ≤ 90000000 ∧ ∀ o ∈ l, o.key.length ≤ 140737488355328 ∧ o.value.length ≤ 140737488355328 ∧ o.old.length ≤ 140737488355328 ∧ o.to.length ≤ 140737488355328

end Go.Proofs.YtgjcpjckaopeeaaGreatDoor.Calls
