import Derived.Test.YtanoabliahcbeaaGreatCrlAll
namespace Go.Proofs.YtanoabliahcbeaaGreat.Calls
open Go.RowKit Disk
open Names (Str)
end Go.Proofs.YtanoabliahcbeaaGreat.Calls
