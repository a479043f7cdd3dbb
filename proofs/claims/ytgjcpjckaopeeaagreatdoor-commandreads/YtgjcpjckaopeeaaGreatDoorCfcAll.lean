import Derived.Test.YtgjcpjckaopeeaaGreatDoorCallsPa
import Derived.Laws.OwnMore
import Derived.Deep.DeepCutAuto
namespace Go.Proofs.YtgjcpjckaopeeaaGreatDoor.Calls
open Go.RowKit Disk
open Names (Str)
theorem iw (ts:Array TypeId)(t:TypeId)(m:Nat)(w:World):(Builtin.min_ ts t #[.int .i64 (m:Int),.int .i64 9999]).run Tryz.prog w=.ok (.int .i64 ((min m 9999:Nat):Int)) w:=by
 by_cases h:m<=9999
 ·rw [Nat.min_eq_left h]
  simp [Builtin.min_,Builtin.min2]
  try omega
 ·rw [Nat.min_eq_right (by omega)]
  simp [Builtin.min_,Builtin.min2]
  try omega
attribute [local go_sem ↓] iw
end Go.Proofs.YtgjcpjckaopeeaaGreatDoor.Calls
