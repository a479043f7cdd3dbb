/-
  The forms: what wire's Number writes, and what the document's Number writes.
-/
import Derived.Test.YtdfdlkpljgpckaaWireC
namespace Go.Proofs.Ytdfdlkpljgpckaa.Wire
end Go.Proofs.Ytdfdlkpljgpckaa.Wire
