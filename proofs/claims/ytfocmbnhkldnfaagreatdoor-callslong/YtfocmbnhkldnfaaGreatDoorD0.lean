/-
  Giving up; a string's bytes; an op's form.
-/
import Derived.Test.YtfocmbnhkldnfaaGreatDoorB
import Derived.Test.YtfocmbnhkldnfaaGreatDoorWireAll
import Derived.Lib.ConvBytes
namespace Go.Proofs.YtfocmbnhkldnfaaGreatDoor
open Go.RowKit Disk
open Names (Str)

/-- A panic with an error. -/
def Pan (c : Int) : Ending := .panicked [{ v := .iface 30 (.int .i64 c), recovered := false }]

set_option maxHeartbeats 400000 in
theorem sure_yes (c : Int) (w : World) : Calls Tryz.prog 55 #[.bool true, .int .i64 c] w fun e w' => e = .returned (.tuple #[]) ∧ w' = w := by
  go_enter Tryz.func55, Tryz.ntmps55
  go_wp2
  go_end0
  exact ⟨rfl, rfl⟩
set_option maxHeartbeats 400000 in
theorem sure_no (c : Int) (w : World) : Calls Tryz.prog 55 #[.bool false, .int .i64 c] w fun e w' => e = Pan c ∧ w' = w := by
  go_enter Tryz.func55, Tryz.ntmps55
  go_wp2
  exact ⟨rfl, rfl, rfl⟩

theorem bytes_grown (w : World) (s : ByteArray) : w.grownBy (Lib.bytesWorld w 5 s) none := by
  refine ⟨?_, ?_, ?_, by rw [Lib.bytesWorld_size]; omega, fun k hk _ => Lib.bytesWorld_at_old w 5 s k hk⟩
  all_goals (unfold Lib.bytesWorld World.freeze; simp [World.alloc, World.drew, -World.alloc_eq, -World.drew_eq]; try rfl)

theorem bytes_seg (w : World) (L : List UInt8) (hL : L.length ≤ 9223372036854775807) : Seg (Lib.bytesWorld w 5 ⟨L.toArray⟩) (.slice (some ⟨w.heap.size, 0, none⟩) L.length (grownCap w L.length 0 5)) L := by
  refine ⟨_, _, rfl, grownCap_ge _ _ _ _, grownCap_le_maxLen _ _ _ _ (by unfold maxLen; omega), by simp, fun j hj => ⟨w.heap.size, 0, rfl, ?_⟩⟩
  rw [Nat.zero_add, Lib.bytesWorld_cell w 5 ⟨L.toArray⟩ j (by simpa [ByteArray.size] using hj)]
  simp [List.getD, hj]
theorem conv_bytes (w : World) (L : List UInt8) : (convert 9 29 (.string ⟨L.toArray⟩)).run Tryz.prog w = .ok (.slice (some ⟨w.heap.size, 0, none⟩) L.length (grownCap w L.length 0 5)) (Lib.bytesWorld w 5 ⟨L.toArray⟩) := by
  rw [Lib.run_convert_string_bytes w 9 29 5 ⟨L.toArray⟩ Tryz.underlying9 Tryz.underlying29 Tryz.underlying5]
  simp [ByteArray.size]

theorem segs_three {w : World} {x y z : Value} {L M N : List UInt8} (hx : Seg w x L) (hy : Seg w y M) (hz : Seg w z N) : Wire.Segs (w.alloc (.cells #[x, y, z] 29)) (.slice (some ⟨w.heap.size, 0, none⟩) 3 3) [L, M, N] :=
  Wire.segs_lit w #[x, y, z] [L, M, N] rfl (by simp) fun j hj => match j, hj with
    | 0, _ => ⟨x, rfl, hx⟩
    | 1, _ => ⟨y, rfl, hy⟩
    | 2, _ => ⟨z, rfl, hz⟩
    | j + 3, h => absurd h (by simp)
theorem segs_four {w : World} {x y z u : Value} {L M N O : List UInt8} (hx : Seg w x L) (hy : Seg w y M) (hz : Seg w z N) (hu : Seg w u O) : Wire.Segs (w.alloc (.cells #[x, y, z, u] 29)) (.slice (some ⟨w.heap.size, 0, none⟩) 4 4) [L, M, N, O] :=
  Wire.segs_lit w #[x, y, z, u] [L, M, N, O] rfl (by simp) fun j hj => match j, hj with
    | 0, _ => ⟨x, rfl, hx⟩
    | 1, _ => ⟨y, rfl, hy⟩
    | 2, _ => ⟨z, rfl, hz⟩
    | 3, _ => ⟨u, rfl, hu⟩
    | j + 4, h => absurd h (by simp)

/-- A form was told, or it was given up. -/
def FormOr (ok : Bool) (F : Bs) (c : Int) (w : World) (e : Ending) (w' : World) : Prop := (ok = true ∧ ∃ u, e = .returned u ∧ Own w' w.heap.size u F ∧ w.grownBy w' none) ∨ (ok = false ∧ e = Pan c ∧ w.grownBy w' none)

theorem num_len5 (n : Nat) (h : n < 2 ^ 64) : (Wire.numForm n).length ≤ 10 := Wire.numForm_len10 n h
theorem bytesForm_len (L : Bs) (h : L.length ≤ 256) : (bytesForm L).length ≤ 266 := by
  have := Wire.numForm_len10 L.length (by omega)
  simp [bytesForm]; omega
end Go.Proofs.YtfocmbnhkldnfaaGreatDoor
