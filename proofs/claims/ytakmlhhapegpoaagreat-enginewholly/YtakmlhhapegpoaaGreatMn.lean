/-
  One op done to a draft.
-/
import Derived.Test.YtakmlhhapegpoaaGreatMmmAll
namespace Go.Proofs.YtakmlhhapegpoaaGreat
open Go.RowKit Disk Table
open _root_.Go.Proofs.YtakmlhhapegpoaaGreat.Calls (POp POut PRes opV OpSeg mayOp)

theorem may_kind {o : POp} (h : mayOp o = true) : o.kind = 1 ∨ o.kind = 2 ∨ o.kind = 3 ∨ o.kind = 4 ∨ o.kind = 5 := by
  have := (Calls.may_of h).kind
  omega
theorem op90 {X : Nat → Prop} (b m : Nat) (q : Int × Int) (D : DB) (hD : GoodD D) (hf : lenD D ≤ 100000) (kv vv ol tv : Value) (o : POp) (hmay : mayOp o = true) (w : World) (hX : ∀ g, X g → g < w.heap.size) (hb : EngB w b q m) (hm : EM X w m D) (ho : OpSeg w kv vv ol tv o) : Calls Tryz.prog 90 #[.pointer (some ⟨b, 0, none⟩), opV kv vv ol tv o] w (OpE X q D o m w) := by
  rcases may_kind hmay with h | h | h | h | h
  · exact op90_1 b m q D hD hf kv vv ol tv o h hmay w hX hb hm ho
  · exact op90_2 b m q D hD hf kv vv ol tv o h hmay w hX hb hm ho
  · exact op90_3 b m q D hD hf kv vv ol tv o h hmay w hX hb hm ho
  · exact op90_4 b m q D hD hf kv vv ol tv o h hmay w hX hb hm ho
  · exact op90_5 b m q D hD hf kv vv ol tv o h hmay w hX hb hm ho
end Go.Proofs.YtakmlhhapegpoaaGreat
