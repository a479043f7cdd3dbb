/-
  The document's Copy.
-/
import Derived.Test.YtfocmbnhkldnfaaGreatDoorCy
namespace Go.Proofs.YtfocmbnhkldnfaaGreatDoor
open Go.RowKit Disk
open Names (Str)

end Go.Proofs.YtfocmbnhkldnfaaGreatDoor
