/-
  An op's form, or it is given up.
-/
import Derived.Test.YtfocmbnhkldnfaaGreatDoorD2
import Derived.Test.YtfocmbnhkldnfaaGreatDoorD3
import Derived.Test.YtfocmbnhkldnfaaGreatDoorD4
import Derived.Test.YtfocmbnhkldnfaaGreatDoorD5
namespace Go.Proofs.YtfocmbnhkldnfaaGreatDoor
open Go.RowKit Disk
open Names (Str)

set_option maxRecDepth 100000 in
set_option maxHeartbeats 4000000 in
theorem opform76 (k v ol t : Value) (a : POp) (w : World) (ha : OpSeg w k v ol t a) :
    Calls Tryz.prog 76 #[opV k v ol t a] w (FormOr (mayOp a) (opForm a) 2 w) := by
  cases hm : mayOp a with
  | true =>
    have hk := (may_of hm).kind
    have hc : a.kind = 1 ∨ a.kind = 2 ∨ a.kind = 3 ∨ a.kind = 4 ∨ a.kind = 5 := by omega
    have up : ∀ {e w'}, (∃ u, e = Ending.returned u ∧ Own w' w.heap.size u (opForm a) ∧ w.grownBy w' none) → FormOr true (opForm a) 2 w e w' := fun h => .inl ⟨rfl, h⟩
    rcases hc with h | h | h | h | h
    · exact (opform76_1 k v ol t a w ha h hm).mono fun _ _ => up
    · exact (opform76_2 k v ol t a w ha h hm).mono fun _ _ => up
    · exact (opform76_3 k v ol t a w ha h hm).mono fun _ _ => up
    · exact (opform76_4 k v ol t a w ha h hm).mono fun _ _ => up
    · exact (opform76_5 k v ol t a w ha h hm).mono fun _ _ => up
  | false =>
    obtain ⟨a1, a2, a3, a4, b1, b2, b3, b4, rfl, rfl, rfl, rfl⟩ := ha.shapes
    have HA : Hid (OpSeg w (.slice a1 a.key.length b1) (.slice a2 a.value.length b2) (.slice a3 a.old.length b3) (.slice a4 a.to.length b4) a) := ha
    have HM : Hid (mayOp a = false) := hm
    clear ha hm
    unfold opV Str
    go_enter Tryz.func76, Tryz.ntmps76
    go_wp2_with (go_at_call 120; refine (may120 _ _ _ _ a _ (HA.out.grown (World.grownBy_alloc _ _ none))).mono ?_)
    rintro e w1 ⟨rfl, hg1⟩
    rw [HM.out]
    have HG : Hid (w.grownBy w1 none) := grown_trans (World.grownBy_alloc _ _ none) hg1
    clear hg1
    go_wp2_with (go_at_call 55; refine (sure_no _ _).mono ?_; rintro e w2 ⟨rfl, hw2⟩; rw [hw2]; clear hw2; unfold Pan)
    exact ⟨rfl, .inr ⟨rfl, rfl, HG.out⟩⟩
end Go.Proofs.YtfocmbnhkldnfaaGreatDoor
