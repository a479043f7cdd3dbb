/-
  NetPlays: a step's switch, all kinds, and the round's pieces.
-/
import Derived.Test.YthobfpegbnkpfaaNk1
import Derived.Test.YthobfpegbnkpfaaNk2
import Derived.Test.YthobfpegbnkpfaaNk3
import Derived.Test.YthobfpegbnkpfaaNk4
import Derived.Test.YthobfpegbnkpfaaNk5
import Derived.Test.YthobfpegbnkpfaaNk6
import Derived.Test.YthobfpegbnkpfaaNk7
import Derived.Test.YthobfpegbnkpfaaNk8
import Derived.Test.YthobfpegbnkpfaaNk9
namespace Go.Proofs.Ythobfpegbnkpfaa
open Go.RowKit Disk S

theorem sw3_all (a : Act) (w w7 : World) (b : Nat) (v0 : Value) (lo : Option Addr) (ql lc : Nat) (s : Int) (i : Nat) (v : Value) (q : List Pcl) (sb : Nat) (kd nn : Int) (uo : Option Addr) (un uc : Nat) (ts : List ByteArray) (th : Bool)
    (hS : S4 a v0 (.pointer (some ⟨b, 0, none⟩)) (.slice lo ql lc) (.int .i64 s) (.int .i64 (i : Nat)) (.pointer (some ⟨sb, 0, none⟩)) (.bool th) (.int .i64 kd)) (hq : Stp3 w w7 b lo ql lc s i v q sb kd nn uo un uc ts th) :
    sw3.wp Try.prog (Sw3 w b v0 i) a w7 := by
  by_cases h1 : kd = 1
  · exact sw3_1 a w w7 b v0 lo ql lc s i v q sb kd nn uo un uc ts th h1 hS hq
  by_cases h2 : kd = 2
  · exact sw3_2 a w w7 b v0 lo ql lc s i v q sb kd nn uo un uc ts th h2 hS hq
  by_cases h3 : kd = 3
  · exact sw3_3 a w w7 b v0 lo ql lc s i v q sb kd nn uo un uc ts th h3 hS hq
  by_cases h4 : kd = 4
  · exact sw3_4 a w w7 b v0 lo ql lc s i v q sb kd nn uo un uc ts th h4 hS hq
  by_cases h5 : kd = 5
  · exact sw3_5 a w w7 b v0 lo ql lc s i v q sb kd nn uo un uc ts th h5 hS hq
  by_cases h6 : kd = 6
  · exact sw3_6 a w w7 b v0 lo ql lc s i v q sb kd nn uo un uc ts th h6 hS hq
  by_cases h7 : kd = 7
  · exact sw3_7 a w w7 b v0 lo ql lc s i v q sb kd nn uo un uc ts th h7 hS hq
  by_cases h8 : kd = 8
  · exact sw3_8 a w w7 b v0 lo ql lc s i v q sb kd nn uo un uc ts th h8 hS hq
  exact sw3_9 a w w7 b v0 lo ql lc s i v q sb kd nn uo un uc ts th h1 h2 h3 h4 h5 h6 h7 h8 hS hq
end Go.Proofs.Ythobfpegbnkpfaa
