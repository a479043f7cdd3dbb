/-
  One step on a table and on the document's.
-/
import Derived.Test.YtlehikdlkdbacaaK0
import Derived.Test.YtlehikdlkdbacaaK1
import Derived.Test.YtlehikdlkdbacaaK2
import Derived.Test.YtlehikdlkdbacaaK3
import Derived.Test.YtlehikdlkdbacaaK4
import Derived.Test.YtlehikdlkdbacaaK5
import Derived.Test.YtlehikdlkdbacaaK51
import Derived.Test.YtlehikdlkdbacaaK52
import Derived.Test.YtlehikdlkdbacaaK6
import Derived.Test.YtlehikdlkdbacaaK7
import Derived.Test.YtlehikdlkdbacaaK8
namespace Go.Proofs.Ytlehikdlkdbacaa
open Go.RowKit Disk

theorem do12 (tb db : Nat) (kind n : Int) (kv vv : Value) (l : List PRow) (Kb Vb : Bs) (hgd : Good l) (hl : l.length ≤ 999999) (hkl : Kb.length ≤ 9999) (hvl : Vb.length ≤ 9999) (w : World) (ht : Tb w tb l) (hd : Dt w db l) (hk : Seg w kv Kb) (hv : Seg w vv Vb) :
    Calls Try.prog 12 #[.pointer (some ⟨tb, 0, none⟩), .pointer (some ⟨db, 0, none⟩), .agg #[.int .i64 kind, kv, vv, .int .i64 n]] w fun e w' => DoPost tb db l w e w' := by
  by_cases k1 : kind = 1
  · exact do12_1 tb db kind n k1 kv vv l Kb Vb hgd hl hkl hvl w ht hd hk hv
  by_cases k2 : kind = 2
  · exact do12_2 tb db kind n k2 kv vv l Kb Vb hgd hl hkl hvl w ht hd hk hv
  by_cases k3 : kind = 3
  · exact do12_3 tb db kind n k3 kv vv l Kb Vb hgd hl hkl hvl w ht hd hk hv
  by_cases k4 : kind = 4
  · exact do12_4 tb db kind n k4 kv vv l Kb Vb hgd hl hkl hvl w ht hd hk hv
  by_cases k5 : kind = 5
  · by_cases h1 : n < 0
    · exact do12_51 tb db kind n k5 kv vv l h1 Kb Vb hgd hl hkl hvl w ht hd hk hv
    · by_cases h2 : n < (l.length : Int)
      · exact do12_5 tb db kind n k5 kv vv l ⟨by omega, h2⟩ Kb Vb hgd hl hkl hvl w ht hd hk hv
      · exact do12_52 tb db kind n k5 kv vv l (by omega) Kb Vb hgd hl hkl hvl w ht hd hk hv
  by_cases k6 : kind = 6
  · exact do12_6 tb db kind n k6 kv vv l Kb Vb hgd hl hkl hvl w ht hd hk hv
  by_cases k7 : kind = 7
  · exact do12_7 tb db kind n k7 kv vv l Kb Vb hgd hl hkl hvl w ht hd hk hv
  by_cases k8 : kind = 8
  · exact do12_8 tb db kind n k8 kv vv l Kb Vb hgd hl hkl hvl w ht hd hk hv
  exact do12_0 tb db kind n k1 k2 k3 k4 k5 k6 k7 k8 kv vv l Kb Vb hgd hl hkl hvl w ht hd hk hv
end Go.Proofs.Ytlehikdlkdbacaa
