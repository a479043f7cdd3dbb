import Derived.Test.YtgjcpjckaopeeaaGreatDoorCfcAll
namespace Go.Proofs.YtgjcpjckaopeeaaGreatDoor.Calls
open Go.RowKit Disk
open Names (Str)
end Go.Proofs.YtgjcpjckaopeeaaGreatDoor.Calls
