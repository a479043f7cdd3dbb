/-
  The law's full calls.
-/
import Derived.Test.YtgjcpjckaopeeaaGreatDoorCallsPa
import Derived.Laws.OwnMore
namespace Go.Proofs.YtgjcpjckaopeeaaGreatDoor.Calls
open Go.RowKit Disk
open Names (Str)

end Go.Proofs.YtgjcpjckaopeeaaGreatDoor.Calls
