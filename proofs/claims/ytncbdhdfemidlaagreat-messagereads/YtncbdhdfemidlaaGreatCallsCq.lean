/-
  The document's Copy.
-/
import Derived.Test.YtncbdhdfemidlaaGreatCnAll
import Derived.Test.YtncbdhdfemidlaaGreatCgAll
import Derived.Deep.DeepCutAuto
import Derived.Laws.OwnMore
namespace Go.Proofs.YtncbdhdfemidlaaGreat.Calls
open Go.RowKit Disk
open Names (Str)

end Go.Proofs.YtncbdhdfemidlaaGreat.Calls
