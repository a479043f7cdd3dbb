import Derived.Test.YtgjcpjckaopeeaaGreatDoorCgAll
namespace Go.Proofs.YtgjcpjckaopeeaaGreatDoor.Calls
open Go.RowKit Disk
end Go.Proofs.YtgjcpjckaopeeaaGreatDoor.Calls
