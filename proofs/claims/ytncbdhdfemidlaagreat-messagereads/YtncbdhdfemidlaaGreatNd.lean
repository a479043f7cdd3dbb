/-
  A message's bytes, by the document, of any message that may be; a copy.
-/
import Derived.Test.YtncbdhdfemidlaaGreatNc
import Derived.Test.YtncbdhdfemidlaaGreatMk
import Derived.Test.YtncbdhdfemidlaaGreatKdfAll
namespace Go.Proofs.YtncbdhdfemidlaaGreat
open Go.RowKit Disk
open _root_.Go.Proofs.YtncbdhdfemidlaaGreat.Calls _root_.Go.Proofs.YtncbdhdfemidlaaGreat.Command

end Go.Proofs.YtncbdhdfemidlaaGreat
