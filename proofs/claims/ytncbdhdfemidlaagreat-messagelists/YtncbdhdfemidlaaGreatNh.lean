import Derived.Test.YtncbdhdfemidlaaGreatNefAll
namespace Go.Proofs.YtncbdhdfemidlaaGreat
open Go.RowKit Disk
open _root_.Go.Proofs.YtncbdhdfemidlaaGreat.Calls _root_.Go.Proofs.YtncbdhdfemidlaaGreat.Command
end Go.Proofs.YtncbdhdfemidlaaGreat
