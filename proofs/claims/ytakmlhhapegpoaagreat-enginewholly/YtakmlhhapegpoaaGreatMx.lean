/-
  Databases that are not there: Do, Look, Try, Same, Tables, All.
-/
import Derived.Test.YtakmlhhapegpoaaGreatMv
import Derived.Test.YtakmlhhapegpoaaGreatMw
import Derived.Test.YtakmlhhapegpoaaGreatShelg
namespace Go.Proofs.YtakmlhhapegpoaaGreat
open Go.RowKit Disk Table
open Names (Str cmpL keyB valueB tabB)
open _root_.Go.Proofs.YtakmlhhapegpoaaGreat.Calls (POp POut PRes opV OpSeg mayOp Ops OpAt ops_at ops_open chk rds mayCall)

end Go.Proofs.YtakmlhhapegpoaaGreat
