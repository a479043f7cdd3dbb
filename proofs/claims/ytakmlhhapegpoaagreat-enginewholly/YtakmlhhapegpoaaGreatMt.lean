/-
  Try, Do, Look.
-/
import Derived.Test.YtakmlhhapegpoaaGreatMs
import Derived.Test.YtakmlhhapegpoaaGreatCeAll
namespace Go.Proofs.YtakmlhhapegpoaaGreat
open Go.RowKit Disk Table
open Names (Str cmpL keyB valueB tabB)
open _root_.Go.Proofs.YtakmlhhapegpoaaGreat.Calls (POp POut PRes opV OpSeg mayOp Ops OpAt ops_at ops_open chk rds mayCall)

set_option maxRecDepth 100000 in
set_option maxHeartbeats 4000000 in
theorem refuses57 (b m : Nat) (q : Int × Int) (v : Value) (l : List POp) (w : World) (hb : EngB w b q m) (hv : Ops w v l) : Calls Tryz.prog 57 #[.pointer (some ⟨b, 0, none⟩), .agg #[v]] w fun e w' => e = .returned (.int .i64 (chk l)) ∧ w.grownBy w' none := by
  obtain ⟨ao, n, cap, rfl, hn, hn2, HV⟩ := ops_open hv
  have HB : Hid (EngB w b q m) := hb
  clear hv hb hn hn2
  go_enter Tryz.func57, Tryz.ntmps57
  go_wp2_with fail
  obtain ⟨w1, hw1, H1⟩ := al w #[.slice ao n cap] 37
  rw [hw1]
  clear hw1
  have c0 := H1.out.1.cell 0
  simp at c0
  go_wp2_with (go_at_call 31; refine (there31 b m q w1 (Blk.grown HB.out H1.out.2.1 (by simp))).mono ?_; rintro e w2 ⟨rfl, hw⟩; rw [hw]; clear hw)
  refine (Calls.check16 (.slice ao n cap) l w1 (HV.out.grown H1.out.2.1)).mono ?_
  rintro e w2 ⟨rfl, g2⟩
  have G2 : Hid (w.grownBy w2 none) := grown_trans H1.out.2.1 g2
  clear g2
  go_wp2_with fail
  go_ret
  exact ⟨rfl, G2.out⟩
end Go.Proofs.YtakmlhhapegpoaaGreat
