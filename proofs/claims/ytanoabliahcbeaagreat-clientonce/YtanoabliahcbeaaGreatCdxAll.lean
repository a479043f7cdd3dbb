import Derived.Test.YtanoabliahcbeaaGreatCgAll
import Derived.Test.YtanoabliahcbeaaGreatCallsDp
import Derived.Deep.DeepCutAuto
namespace Go.Proofs.YtanoabliahcbeaaGreat.Calls
open Go.RowKit Disk
open Names (Str)
end Go.Proofs.YtanoabliahcbeaaGreat.Calls
