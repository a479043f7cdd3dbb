/-
  The law's full calls.
-/
import Derived.Test.YtfocmbnhkldnfaaGreatDoorPa
import Derived.Laws.OwnMore
namespace Go.Proofs.YtfocmbnhkldnfaaGreatDoor
open Go.RowKit Disk
open Names (Str)

end Go.Proofs.YtfocmbnhkldnfaaGreatDoor
