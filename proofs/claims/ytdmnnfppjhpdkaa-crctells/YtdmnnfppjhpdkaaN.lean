/-
  Appends to rows of the call's own; texts of bytes.
-/
import Derived.Test.YtdmnnfppjhpdkaaM
import Derived.Laws.AppendOwnNone
import Derived.BigFrame
import Derived.Deep.RegionHeld3
import Derived.Deep.DrawnRows
import Derived.Deep.QuietTactic
import Derived.BigQuiet
namespace Go.Proofs.Ytdmnnfppjhpdkaa
open Go.RowKit

theorem Try.info5 : (Try.prog.info? 5).map (fun i => (i.zero, i.size, i.bytes)) = some (some (.int .u8 0), 1, 1) := by kernel_rfl

theorem seg_news {w : World} {ad : Addr} {n cap : Nat} {L : List UInt8} (h : Seg w (.slice (some ad) n cap) L) : n = L.length ∧ ∀ j u, (BV L)[j]? = some u → w.cell? (ad.add j) = some u := by
  obtain ⟨ao, cap', hv, h1, h2, h3, h4⟩ := h
  simp at hv; obtain ⟨rfl, rfl, rfl⟩ := hv
  refine ⟨rfl, fun j u hj => ?_⟩
  have hjl : j < L.length := by
    have := (List.getElem?_eq_some_iff.1 hj).1
    simpa [BV] using this
  obtain ⟨b, off, e, hc⟩ := h4 j hjl
  simp at e; subst e
  have e2 : (⟨b, off, none⟩ : Addr).add j = ⟨b, off + j, none⟩ := by
    unfold Addr.add; by_cases hz : j = 0
    · subst hz; simp
    · simp [hz]
  rw [e2, hc]
  simp [BV, hjl] at hj
  rw [hj]

/-- Bytes appended to a row of the call's own: the operation itself. -/
theorem app24_wp {o : Oper} {a : Act} {K : Act → World → Prop} {Q : Exit → Act → World → Prop} (w : World) (s x : Operand)
    (ho : o.op = .call { callee := .builtin .append, args := #[s, x], argTypes := #[24, 24] })
    (B : Nat) (v : Value) (L : List UInt8) (u : Value) (M : List UInt8) (hs : a.eval s = v) (hx : a.eval x = u) (hown : Own w B v L) (hseg : Seg w u M) (hb : L.length + M.length ≤ 140737488355328) (hB : B ≤ w.heap.size)
    (h : ∀ v' w', Own w' B v' (L ++ M) → w.grownBy w' v.ownBlock → K (a.put o.dst v') w') : o.wp Try.prog a w K Q := by
  obtain ⟨i0, hi, hz0, hz1, hz2⟩ := info_parts Try.info5
  have hsg := hseg
  obtain ⟨ao, cap, rfl, h1, h2, h3, h4⟩ := hsg
  cases ao with
  | none =>
    have hM0 : M = [] := List.eq_nil_of_length_eq_zero (by have := h3 rfl; omega)
    have hc0 : cap = 0 := h3 rfl
    subst hM0; subst hc0
    have hrun := run_append_owned_none (P := Try.prog) (w := w) B 24 o.type 5 i0 1 Try.underlying24 hi v _ _ hown
    have hx' : a.eval x = .slice none 0 0 := hx
    unfold Oper.wp
    simp only [execOp, ho, resolve, invoke, builtin, Sem.run_bind, Sem.run_pure, Result.andThen_ok, List.map_toArray, List.map_cons, List.map_nil, hs, hx', hrun]
    exact h v w (by simpa using hown) (grown_refl _ _)
  | some ad =>
    obtain ⟨_, hnews⟩ := seg_news hseg
    refine wp_append_own w s x 24 ho B 5 i0 (.int .u8 0) 1 1 Try.underlying24 hi hz0 hz1 hz2 rfl (by decide) v L.length (BV L) hs hown ad M.length cap (BV M) hx (by simp [BV]) hnews (BV_one M) (by unfold maxLen; omega) (by omega) hB ?_
    intro v' w' h1 h2 _
    exact h v' w' (by unfold Own; rw [BV_append, List.length_append]; exact h1) h2

theorem app24 {ops : Array Oper} {rest : List Oper} {o : Oper} {a : Act} {Q : Exit → Act → World → Prop} (w : World) (hw : Region.wanted o (yielded ops a.tmps) = true) (s x : Operand)
    (ho : o.op = .call { callee := .builtin .append, args := #[s, x], argTypes := #[24, 24] })
    (B : Nat) (v : Value) (L : List UInt8) (u : Value) (M : List UInt8) (hs : a.eval s = v) (hx : a.eval x = u) (hown : Own w B v L) (hseg : Seg w u M) (hb : L.length + M.length ≤ 140737488355328) (hB : B ≤ w.heap.size)
    (h : ∀ v' w', Own w' B v' (L ++ M) → w.grownBy w' v.ownBlock → wpList Try.prog ops Q rest (a.put o.dst v') w') : wpList Try.prog ops Q (o :: rest) a w :=
  BigFrame.wpList_want hw fun _ hK => app24_wp w s x ho B v L u M hs hx hown hseg hb hB fun v' w' h1 h2 => hK _ _ (h v' w' h1 h2)

theorem Own.alloc {w : World} {B : Nat} {v : Value} {L : List UInt8} (h : Own w B v L) (o : Obj) : Own (w.alloc o) B v L := World.ownsRow.alloc h o
theorem Own.lt {w : World} {B : Nat} {v : Value} {L : List UInt8} (h : Own w B v L) : ∀ k, v.ownBlock = some k → B ≤ k := fun k hk => (World.ownsRow.lt h k hk).1
theorem own_empty (w : World) : Own (w.alloc (.cells #[] 5)) w.heap.size (.slice (some ⟨w.heap.size, 0, none⟩) 0 0) [] := World.ownsRow_made (base := w.heap.size) (e := 5) (size := 1) w #[] 0 (Nat.le_refl _) (Nat.zero_le _) rfl

theorem Own.shape {w : World} {B : Nat} {v : Value} {L : List UInt8} (h : Own w B v L) : (v = .slice none 0 0 ∧ L = []) ∨ ∃ g cap, v = .slice (some ⟨g, 0, none⟩) L.length cap ∧ B ≤ g ∧ g < w.heap.size := by
  rcases h.2 with ⟨rfl, hn⟩ | ⟨g, cap, cur, rfl, hb, hg, _⟩
  · exact .inl ⟨rfl, List.eq_nil_of_length_eq_zero hn⟩
  · exact .inr ⟨g, cap, rfl, hb, (Array.getElem?_eq_some_iff.1 hg).1⟩

theorem seg_str {w : World} {v : Value} {L : List UInt8} (h : Seg w v L) : (convert 24 9 v).run Try.prog w = .ok (.string ⟨L.toArray⟩) w := by
  have hs := h
  obtain ⟨ao, cap, rfl, h1, h2, h3, h4⟩ := h
  cases ao with
  | none =>
    have hL : L = [] := List.eq_nil_of_length_eq_zero (by have := h3 rfl; omega)
    subst hL
    rw [run_convert_bytes_nil w 24 5 Try.underlying24 Try.underlying5 _ _ 9 Try.underlying9]
    rfl
  | some ad =>
    refine run_convert_bytes_back w 24 9 5 ad cap L Try.underlying24 Try.underlying5 Try.underlying9 fun j hj => ?_
    exact (seg_news hs).2 j _ (by simp [BV, hj])

/-- 0 in place of what is below it. -/
def clamp (n : Int) : Nat := n.toNat
theorem run_max0 (ts : Array TypeId) (t : TypeId) (n : Int) (w : World) : (Builtin.max_ ts t #[.int .i64 0, .int .i64 n]).run Try.prog w = .ok (.int .i64 (clamp n)) w := by
  unfold clamp
  by_cases h : n ≤ 0
  · have e : (n.toNat : Int) = 0 := by omega
    rw [e]
    simp [Builtin.max_, Builtin.max2]
    try omega
  · have e : (n.toNat : Int) = n := by omega
    rw [e]
    simp [Builtin.max_, Builtin.max2]
    try omega

theorem grown_drewN (w : World) (q : Nat) (r : Option Nat) : w.grownBy (w.drewN q) r := ⟨rfl, rfl, rfl, Nat.le_refl _, fun _ _ _ => rfl⟩
end Go.Proofs.Ytdmnnfppjhpdkaa
