/-
  spoil: it writes over a row of bytes of the call's own and grows it: no other block that was there turns.
-/
import Derived.Test.YtdfdlkpljgpckaaWireC
import Derived.Maps.AppendAt
namespace Go.Proofs.Ytdfdlkpljgpckaa.Wire
open Go.RowKit

/-- Bytes appended to a row of the call's own, and where the new row lies. -/
theorem app23_at {ops : Array Oper} {rest : List Oper} {o : Oper} {a : Act} {Q : Exit → Act → World → Prop} (w : World) (hgd : o.guard = none) (s x : Operand)
    (ho : o.op = .call { callee := .builtin .append, args := #[s, x], argTypes := #[22, 22] })
    (B : Nat) (v : Value) (L : List UInt8) (u : Value) (M : List UInt8) (hs : a.eval s = v) (hx : a.eval x = u) (hown : Own w B v L) (hseg : Seg w u M) (hb : L.length + M.length ≤ 140737488355328) (hB : B ≤ w.heap.size)
    (h : ∀ v' w', Own w' B v' (L ++ M) → w.grownBy w' v.ownBlock → (v'.ownBlock = v.ownBlock ∨ v'.ownBlock = some w.heap.size) → wpList Try.prog ops Q rest (a.put o.dst v') w') : wpList Try.prog ops Q (o :: rest) a w := by
  obtain ⟨i0, hi, hz0, hz1, hz2⟩ := info_parts Try.info5
  have hsg := hseg
  obtain ⟨ao, cap, rfl, h1, h2, h3, h4⟩ := hsg
  cases ao with
  | none =>
    have hM0 : M = [] := List.eq_nil_of_length_eq_zero (by have := h3 rfl; omega)
    have hc0 : cap = 0 := h3 rfl
    subst hM0; subst hc0
    refine wpList_append_own_none hgd s x 22 ho B 5 i0 1 Try.underlying22 hi v _ _ hs hown hx ?_
    exact h v w (by simpa using hown) (grown_refl _ _) (.inl rfl)
  | some ad =>
    obtain ⟨_, hnews⟩ := seg_news hseg
    refine wpList_append_own_at w hgd s x 22 ho B 5 i0 (.int .u8 0) 1 1 Try.underlying22 hi hz0 hz1 hz2 rfl (by decide) v L.length (BV L) hs hown ad M.length cap (BV M) hx (by simp [BV]) hnews (BV_one M) (by unfold maxLen; omega) (by omega) hB ?_
    intro v' w' h1 h2 _ h5
    exact h v' w' (by unfold Own; rw [BV_append, List.length_append]; exact h1) h2 h5

/-- A store into an owned row. -/
theorem own_store {w : World} {B g n cap : Nat} {L : List UInt8} (h : Own w B (.slice (some ⟨g, 0, none⟩) n cap) L) (j : Nat) (x : Int) (c : UInt8) (hx : x = (c.toNat : Int)) :
    Own (w.setCell ⟨g, j, none⟩ (.int .u8 x)) B (.slice (some ⟨g, 0, none⟩) n cap) (L.set j c) := by
  subst hx
  have hn : n = L.length := by obtain ⟨ao, cap', hv, _⟩ := h.seg; simp at hv; exact hv.2.1
  subst hn
  have h1 := (World.ownsRow.stored h j (.int .u8 (c.toNat : Int))).1
  unfold Own
  rw [List.length_set]
  have e : BV (L.set j c) = (BV L).set j (.int .u8 (c.toNat : Int)) := by simp [BV, List.map_set]
  rw [e]; exact h1

theorem Own.shape {w : World} {B : Nat} {v : Value} {L : List UInt8} (h : Own w B v L) : (v = .slice none 0 0 ∧ L = []) ∨ ∃ g cap, v = .slice (some ⟨g, 0, none⟩) L.length cap ∧ B ≤ g ∧ g < w.heap.size := by
  rcases h.2 with ⟨rfl, hn⟩ | ⟨g, cap, cur, rfl, hb, hg, _⟩
  · exact .inl ⟨rfl, List.eq_nil_of_length_eq_zero hn⟩
  · exact .inr ⟨g, cap, rfl, hb, (Array.getElem?_eq_some_iff.1 hg).1⟩

end Go.Proofs.Ytdfdlkpljgpckaa.Wire
