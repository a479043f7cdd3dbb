/-
  The form of a result that says why a call was aborted; the call that the law knows.
-/
import Derived.Test.YtgjcpjckaopeeaaGreatDoorCgAll
namespace Go.Proofs.YtgjcpjckaopeeaaGreatDoor.Calls
open Go.RowKit Disk
end Go.Proofs.YtgjcpjckaopeeaaGreatDoor.Calls
