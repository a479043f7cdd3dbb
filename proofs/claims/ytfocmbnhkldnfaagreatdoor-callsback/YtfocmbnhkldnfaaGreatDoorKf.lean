/-
  The chapter's rows that the law knows, on plain lists.
-/
import Derived.Test.YtfocmbnhkldnfaaGreatDoorPa
namespace Go.Proofs.YtfocmbnhkldnfaaGreatDoor
open Go.RowKit Disk

theorem kf_may : mayCall [getOp] = true := by kernel_rfl
theorem kf_form : callForm [getOp] = [1, 1, 1, 116, 1, 107] := by kernel_rfl
theorem kf_chk : chk [getOp] = 0 := by unfold chk; rw [if_pos kf_may, kf_form]; rfl
theorem kf_chk0 : chk [] = 2 := by kernel_rfl
theorem kf_read : readC [1, 1, 1, 116, 1, 107] = ([getOp], 0) := by
  unfold readC
  rw [if_pos (by decide), (pCall_iff (l := [getOp])).2 ⟨kf_may, kf_form.symm⟩]
theorem kf_txt : callTxt [getOp] = [103, 101, 116, 32, 116, 32, 107] := by kernel_rfl
theorem kf_parse : parseC [103, 101, 116, 32, 32, 116, 32, 107] = ([], 4) := by kernel_rfl
theorem kf_rds : rds [getOp] = true := by kernel_rfl
theorem kf_num : Wire.numForm (Int.toNat 1) ++ Wire.numForm (Int.toNat 1) = [1, 1] := by kernel_rfl
end Go.Proofs.YtfocmbnhkldnfaaGreatDoor
