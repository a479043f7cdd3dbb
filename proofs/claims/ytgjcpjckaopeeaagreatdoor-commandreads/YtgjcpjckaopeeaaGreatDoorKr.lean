import Derived.Test.YtgjcpjckaopeeaaGreatDoorKq
namespace Go.Proofs.YtgjcpjckaopeeaaGreatDoor
open Go.RowKit Disk
open Go.Proofs.YtgjcpjckaopeeaaGreatDoor.Calls
open Names (Str)
attribute [local go_sem ↓] iw
end Go.Proofs.YtgjcpjckaopeeaaGreatDoor
