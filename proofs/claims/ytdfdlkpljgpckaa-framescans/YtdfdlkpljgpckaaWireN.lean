/-
  What each instance of the function whole does, over whatever its reading function does: no reader or a zero one: nothing is read; an error: the reader is put back; else what was read.
-/
import Derived.Test.YtdfdlkpljgpckaaWireD
namespace Go.Proofs.Ytdfdlkpljgpckaa.Wire
end Go.Proofs.Ytdfdlkpljgpckaa.Wire
