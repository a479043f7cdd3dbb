/-
  A word through a row: the document's way.
-/
import Derived.Test.YtdfdlkpljgpckaaCrcF
namespace Go.Proofs.Ytdfdlkpljgpckaa.Crc
open Go.RowKit
end Go.Proofs.Ytdfdlkpljgpckaa.Crc
