/-
  Calls of a net that is not there.
-/
import Derived.Test.YthobfpegbnkpfaaIG
namespace Go.Proofs.Ythobfpegbnkpfaa.I
open Go.RowKit Disk Table

set_option maxRecDepth 100000 in
set_option maxHeartbeats 1000000 in
theorem send_no (x u : Value) (w : World) (h : NoNet w x) : Calls Try.prog 20 #[x, u] w fun e w' => e = .returned (.int .i64 1) ∧ w' = w := by
  have HN : Hid (NoNet w x) := h
  clear h
  go_enter Try.func20, Try.ntmps20
  go_wp2_with fail
  refine (there_no x w HN.out).mono ?_
  rintro e w1 ⟨rfl, rfl⟩
  go_wp2_with fail
  go_ret
  exact ⟨rfl, rfl⟩
set_option maxRecDepth 100000 in
set_option maxHeartbeats 1000000 in
theorem twin_no (x : Value) (i : Int) (w : World) (h : NoNet w x) : Calls Try.prog 22 #[x, .int .i64 i] w fun e w' => e = .returned (.int .i64 1) ∧ w' = w := by
  have HN : Hid (NoNet w x) := h
  clear h
  go_enter Try.func22, Try.ntmps22
  go_wp2_with fail
  refine (at_no x i w HN.out).mono ?_
  rintro e w1 ⟨rfl, rfl⟩
  go_wp2_with fail
  go_ret
  exact ⟨rfl, rfl⟩
set_option maxRecDepth 100000 in
set_option maxHeartbeats 1000000 in
theorem keep_no (x : Value) (w : World) (h : NoNet w x) : Calls Try.prog 29 #[x, .nilFunc] w fun e w' => e = .returned (.int .i64 0) ∧ w.grownBy w' none := by
  have HN : Hid (NoNet w x) := h
  clear h
  go_enter Try.func29, Try.ntmps29
  go_upto_region 1 with fail
  obtain ⟨w1, hw1, H1⟩ := al1 w #[.nilFunc] 75
  rw [hw1]
  obtain ⟨x0, hx0⟩ : ∃ x, w.heap.size = x := ⟨_, rfl⟩
  rw [hx0] at H1 ⊢
  clear hw1
  go_wp2_with fail
  refine (there_no x w1 (HN.out.grown H1.out.2.1)).mono ?_
  rintro e w2 ⟨rfl, rfl⟩
  go_wp2_with fail
  go_ret
  exact ⟨rfl, H1.out.2.1⟩
end Go.Proofs.Ythobfpegbnkpfaa.I
