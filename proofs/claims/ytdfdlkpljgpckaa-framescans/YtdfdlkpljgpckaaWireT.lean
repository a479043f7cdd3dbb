/-
  The reader's Bytes and Open as a caller meets them.
-/
import Derived.Test.YtdfdlkpljgpckaaWireS
namespace Go.Proofs.Ytdfdlkpljgpckaa.Wire
end Go.Proofs.Ytdfdlkpljgpckaa.Wire
