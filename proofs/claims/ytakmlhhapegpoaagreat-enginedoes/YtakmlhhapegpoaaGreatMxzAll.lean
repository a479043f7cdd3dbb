import Derived.Test.YtakmlhhapegpoaaGreatMtvAll
import Derived.Test.YtakmlhhapegpoaaGreatMw
import Derived.Test.YtakmlhhapegpoaaGreatShelg
set_option maxHeartbeats 4000000
set_option maxRecDepth 100000
namespace Go.Proofs.YtakmlhhapegpoaaGreat
open Go.RowKit Disk Table
open Names (Str cmpL keyB valueB tabB)
open _root_.Go.Proofs.YtakmlhhapegpoaaGreat.Calls (POp POut PRes opV OpSeg mayOp Ops OpAt ops_at ops_open chk rds mayCall)
theorem keys55 (mo:Option Nat)(w:World):Calls Tryz.prog 55 #[.map mo] w fun e w'=>e=.returned (.func (.func 80) #[] #[.pointer (some ⟨w.heap.size,0,none⟩)])/\Blk w' w.heap.size 62 #[.map mo]/\w.grownBy w' none:=by
 have hmf:∀(fn:Fn) (first cap:Array Value) (w:World),(Instr.makeFunc fn first cap).run Tryz.prog w=.ok (.func fn first cap) w:=fun _ _ _ _=>rfl
 go_enter Tryz.func55,Tryz.ntmps55
 go_wp2_with fail
 go_ret
 exact ⟨rfl,heap_alloc_new _ _,World.grownBy_alloc _ _ _⟩
theorem all23 (ev:Value)(he:∃a,ev=.pointer a)(w:World):Calls Tryz.prog 23 #[ev] w fun e w'=>e=.returned (.func (.func 53) #[] #[.pointer (some ⟨w.heap.size,0,none⟩)])/\Blk w' w.heap.size 28 #[ev]/\w.grownBy w' none:=by
 obtain ⟨a,rfl⟩:=he
 have hmf:∀(fn:Fn) (first cap:Array Value) (w:World),(Instr.makeFunc fn first cap).run Tryz.prog w=.ok (.func fn first cap) w:=fun _ _ _ _=>rfl
 go_enter Tryz.func23,Tryz.ntmps23
 go_wp2_with fail
 go_ret
 exact ⟨rfl,heap_alloc_new _ _,World.grownBy_alloc _ _ _⟩
theorem num16 (x:Int)(w:World):Calls Tryz.prog 16 #[.int .i64 x] w fun e w'=>e=.returned (.int .i64 x)/\w'=w:=by
 go_enter Tryz.func16,Tryz.ntmps16
 go_wp2
 go_ret
 exact ⟨rfl,rfl⟩
theorem eq_func57 (lb:Array Value)(w:World):(binOp .eql 57 (.func (.func 53) #[] lb) .nilFunc).run Tryz.prog w=.ok (.bool false) w:=by kernel_rfl
end Go.Proofs.YtakmlhhapegpoaaGreat
