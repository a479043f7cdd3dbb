/-
  Texts of Doc, put together.
-/
import Derived.Test.YtfocmbnhkldnfaaGreatDoorP
import Derived.Test.YtfocmbnhkldnfaaGreatDoorG
import Derived.Test.YtfocmbnhkldnfaaGreatDoorNamesAll
import Derived.Deep.DeepCutAuto
import Derived.Test.YtfocmbnhkldnfaaGreatDoorDopAll
/-
  The document's words on ops that may be are the program's, on plain lists.
-/
namespace Go.Proofs.YtfocmbnhkldnfaaGreatDoor

/- The document's words on ops that may be. -/
end Go.Proofs.YtfocmbnhkldnfaaGreatDoor
/-
  The document's MayOp, May, Reads.
-/
namespace Go.Proofs.YtfocmbnhkldnfaaGreatDoor
open Go.RowKit Disk
open Names (Str)

end Go.Proofs.YtfocmbnhkldnfaaGreatDoor
/-
  The document's form of an op, of a call.
-/
namespace Go.Proofs.YtfocmbnhkldnfaaGreatDoor
open Go.RowKit Disk
open Names (Str)

def FormIs (F : Bs) (w : World) (e : Ending) (w' : World) : Prop := ∃ u, e = .returned u ∧ Own w' w.heap.size u F ∧ w.grownBy w' none
theorem formIs_wire {F : Bs} {w w' : World} {e : Ending} (h : Wire.FormPost F w e w') : FormIs F w e w' := h
theorem dNum (x : Int) (n : Nat) (hx : x = n) (hn : n < 2 ^ 64) (w : World) : Calls Tryz.prog 44 #[.int .u64 x] w (FormIs (Wire.numForm n) w) := (Wire.number12_int x n hx hn w).mono fun _ _ h => formIs_wire h
theorem dBytes (v : Value) (L : Bs) (w : World) (hs : Seg w v L) (hl : L.length ≤ 100000) : Calls Tryz.prog 68 #[v] w (FormIs (bytesForm L) w) := (Wire.bytes11 v L w hs (by omega)).mono fun _ _ h => formIs_wire h
theorem dFlag (is : Bool) (w : World) : Calls Tryz.prog 67 #[.bool is] w (FormIs (flagForm is) w) := (Wire.flag16 is w).mono fun _ _ h => formIs_wire h
theorem num_short (n : Nat) (h : n < 2 ^ 64) : (Wire.numForm n).length ≤ 10 := Wire.numForm_len10 n h

end Go.Proofs.YtfocmbnhkldnfaaGreatDoor
/-
  The document's Form, Check, Reads.
-/
namespace Go.Proofs.YtfocmbnhkldnfaaGreatDoor
open Go.RowKit Disk
open Names (Str)

end Go.Proofs.YtfocmbnhkldnfaaGreatDoor
