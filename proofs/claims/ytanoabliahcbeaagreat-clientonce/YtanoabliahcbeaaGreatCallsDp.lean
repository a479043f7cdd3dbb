import Derived.Test.YtanoabliahcbeaaGreatCpwAll
namespace Go.Proofs.YtanoabliahcbeaaGreat.Calls
end Go.Proofs.YtanoabliahcbeaaGreat.Calls
