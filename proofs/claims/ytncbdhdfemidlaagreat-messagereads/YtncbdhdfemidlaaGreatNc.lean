/-
  A message's bytes, by the document.
-/
import Derived.Test.YtncbdhdfemidlaaGreatNb
import Derived.Test.YtncbdhdfemidlaaGreatCrjAll
namespace Go.Proofs.YtncbdhdfemidlaaGreat
open Go.RowKit Disk
open _root_.Go.Proofs.YtncbdhdfemidlaaGreat.Calls _root_.Go.Proofs.YtncbdhdfemidlaaGreat.Command

end Go.Proofs.YtncbdhdfemidlaaGreat
