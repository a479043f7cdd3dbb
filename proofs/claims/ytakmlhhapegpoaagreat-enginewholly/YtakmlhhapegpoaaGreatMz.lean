/-
  'nothing': of a database that is not there.
-/
import Derived.Test.YtakmlhhapegpoaaGreatMy
namespace Go.Proofs.YtakmlhhapegpoaaGreat
open Go.RowKit Disk Table
open Names (Str cmpL keyB valueB tabB)
open _root_.Go.Proofs.YtakmlhhapegpoaaGreat.Calls (POp POut PRes opV OpSeg mayOp Ops OpAt ops_at ops_open chk rds mayCall)

theorem eq_func57 (lb : Array Value) (w : World) : (binOp .eql 57 (.func (.func 53) #[] lb) .nilFunc).run Tryz.prog w = .ok (.bool false) w := by kernel_rfl
end Go.Proofs.YtakmlhhapegpoaaGreat
