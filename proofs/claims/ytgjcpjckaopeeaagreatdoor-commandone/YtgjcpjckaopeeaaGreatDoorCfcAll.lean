import Derived.Test.YtgjcpjckaopeeaaGreatDoorCallsPa
import Derived.Laws.OwnMore
import Derived.Deep.DeepCutAuto
namespace Go.Proofs.YtgjcpjckaopeeaaGreatDoor.Calls
open Go.RowKit Disk
open Names (Str)
theorem cut_own {w:World}{B:Nat}{v:Value}{L:Bs}(h:Own w B v L):Names.Cut w B v L:=.inl h
theorem own_nil (w:World)(B:Nat):Own w B (.slice none 0 0) []:=World.ownsRow_nil _ _ _ _
theorem run_min9 (ts:Array TypeId)(t:TypeId)(m:Nat)(w:World):(Builtin.min_ ts t #[.int .i64 (m:Int),.int .i64 9999]).run Tryz.prog w=.ok (.int .i64 ((min m 9999:Nat):Int)) w:=by
 by_cases h:m<=9999
 ·rw [Nat.min_eq_left h]
  simp [Builtin.min_,Builtin.min2]
  try omega
 ·rw [Nat.min_eq_right (by omega)]
  simp [Builtin.min_,Builtin.min2]
  try omega
attribute [local go_sem ↓] run_min9
end Go.Proofs.YtgjcpjckaopeeaaGreatDoor.Calls
