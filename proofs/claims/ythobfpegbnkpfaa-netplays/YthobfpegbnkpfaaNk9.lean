/-
  NetPlays: a step's switch, one kind.
-/
import Derived.Test.YthobfpegbnkpfaaNk
namespace Go.Proofs.Ythobfpegbnkpfaa
open Go.RowKit Disk S

set_option maxRecDepth 100000 in
set_option maxHeartbeats 8000000 in
theorem sw3_9 (a : Act) (w w7 : World) (b : Nat) (v0 : Value) (lo : Option Addr) (ql lc : Nat) (s : Int) (i : Nat) (v : Value) (q : List Pcl) (sb : Nat) (kd nn : Int) (uo : Option Addr) (un uc : Nat) (ts : List ByteArray) (th : Bool) (h1 : kd ≠ 1) (h2 : kd ≠ 2) (h3 : kd ≠ 3) (h4 : kd ≠ 4) (h5 : kd ≠ 5) (h6 : kd ≠ 6) (h7 : kd ≠ 7) (h8 : kd ≠ 8)
    (hS : S4 a v0 (.pointer (some ⟨b, 0, none⟩)) (.slice lo ql lc) (.int .i64 s) (.int .i64 (i : Nat)) (.pointer (some ⟨sb, 0, none⟩)) (.bool th) (.int .i64 kd)) (hq : Stp3 w w7 b lo ql lc s i v q sb kd nn uo un uc ts th) :
    sw3.wp Try.prog (Sw3 w b v0 i) a w7 := by
  have HQ : Hid (Stp3 w w7 b lo ql lc s i v q sb kd nn uo un uc ts th) := hq
  obtain ⟨t, rfl⟩ := hS.eq
  clear hS
  have c0 := hq.blk.cell 0
  have c1 := hq.blk.cell 1
  have c2 := hq.blk.cell 2
  simp at c0 c1 c2
  clear hq
  show Code.wp Try.prog sw3 _ _ _
  unfold sw3 rnd3
  dsimp only [Try.f3, Option.getD, cL, cR, cB, cW]
  go_wp2_with fail
  exact ⟨_, _, _, _, ⟨rfl, rfl, rfl, rfl, rfl, rfl, rfl⟩, HQ.out.ply.more⟩
end Go.Proofs.Ythobfpegbnkpfaa
