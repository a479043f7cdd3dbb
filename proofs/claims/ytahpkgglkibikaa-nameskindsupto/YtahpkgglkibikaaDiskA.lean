/-
  Copies of bytes: Clone, the document's Copy, lent; texts of bytes; left: what was lent is looked at and written over.
-/
import Derived.Test.YtahpkgglkibikaaDiskW
namespace Go.Proofs.Ytahpkgglkibikaa.Disk
open Go.RowKit

theorem app22 {ops : Array Oper} {rest : List Oper} {o : Oper} {a : Act} {Q : Exit → Act → World → Prop} (w : World) (hw : Region.wanted o (yielded ops a.tmps) = true) (s x : Operand)
    (ho : o.op = .call { callee := .builtin .append, args := #[s, x], argTypes := #[22, 22] })
    (B : Nat) (v : Value) (L : List UInt8) (u : Value) (M : List UInt8) (hs : a.eval s = v) (hx : a.eval x = u) (hown : Own w B v L) (hseg : Seg w u M) (hb : L.length + M.length ≤ 140737488355328) (hB : B ≤ w.heap.size)
    (h : ∀ v' w', Own w' B v' (L ++ M) → w.grownBy w' v.ownBlock → (∀ k, v'.ownBlock = some k → v.ownBlock = some k ∨ w.heap.size ≤ k) → wpList Try.prog ops Q rest (a.put o.dst v') w') : wpList Try.prog ops Q (o :: rest) a w :=
  BigFrame.wpList_want hw fun _ hK => app22_wp w s x ho B v L u M hs hx hown hseg hb hB fun v' w' h1 h2 h3 => hK _ _ (h v' w' h1 h2 h3)

theorem seg_str {w : World} {v : Value} {L : List UInt8} (h : Seg w v L) : (convert 22 9 v).run Try.prog w = .ok (.string ⟨L.toArray⟩) w := by
  have hs := h
  obtain ⟨ao, cap, rfl, h1, h2, h3, h4⟩ := h
  cases ao with
  | none =>
    have hL : L = [] := List.eq_nil_of_length_eq_zero (by have := h3 rfl; omega)
    subst hL
    rw [run_convert_bytes_nil w 22 5 Try.underlying22 Try.underlying5 _ _ 9 Try.underlying9]
    rfl
  | some ad =>
    refine run_convert_bytes_back w 22 9 5 ad cap L Try.underlying22 Try.underlying5 Try.underlying9 fun j hj => ?_
    exact (seg_news hs).2 j _ (by simp [BV, hj])

theorem eql22 : ∀ (w : World) (a : Option Addr) (n c n' c' : Nat), (binOp .eql 22 (.slice a n c) (.slice none n' c')).run Try.prog w = .ok (.bool a.isNone) w := fun w a n c n' c' => Lib.run_eql_slice_nil w 22 5 a n c n' c' Try.underlying22

theorem seg_alloc {w : World} {v : Value} {L : List UInt8} (h : Seg w v L) (o : Obj) : Seg (w.alloc o) v L := h.grown (World.grownBy_alloc _ _ _)

theorem seg_lit (w : World) (C : Array Value) (fr : Nat × Nat) (L : List UInt8) (hx : C.toList = BV L) (hl : L.length ≤ 9223372036854775807) : Seg (w.alloc (.cells C 5 fr)) (.slice (some ⟨w.heap.size, 0, none⟩) L.length L.length) L := by
  refine ⟨_, L.length, rfl, Nat.le_refl _, by unfold maxLen; omega, by simp, fun j hj => ⟨w.heap.size, 0, rfl, ?_⟩⟩
  rw [cell_of_row _ _ _ _ _ _ (heap_alloc_new w _), Nat.zero_add, ← Array.getElem?_toList, hx]
  simp [BV, hj]

/-- Bytes in memory of their own, with a mark behind them. -/
def Lent (w : World) (B : Nat) (v : Value) (L : List UInt8) : Prop := ∃ g cap, v = .slice (some ⟨g, 0, none⟩) L.length cap ∧ Own w B (.slice (some ⟨g, 0, none⟩) (L.length + 1) cap) (L ++ [119])

theorem Lent.same {w w' : World} {B : Nat} {v : Value} {L : List UInt8} (h : Lent w B v L) (hs : ∀ k, v.ownBlock = some k → w'.heap[k]? = w.heap[k]?) : Lent w' B v L := by
  obtain ⟨g, cap, rfl, ho⟩ := h
  exact ⟨g, cap, rfl, ho.same fun k hk => hs k hk⟩
theorem Lent.lt {w : World} {B : Nat} {v : Value} {L : List UInt8} (h : Lent w B v L) : ∀ k, v.ownBlock = some k → B ≤ k ∧ k < w.heap.size := by
  obtain ⟨g, cap, rfl, ho⟩ := h
  exact fun k hk => ho.lt k hk
theorem Lent.mono {w : World} {B B' : Nat} {v : Value} {L : List UInt8} (h : Lent w B v L) (hB : B' ≤ B) : Lent w B' v L := by
  obtain ⟨g, cap, rfl, ho⟩ := h
  exact ⟨g, cap, rfl, ho.mono hB⟩
theorem Lent.seg {w : World} {B : Nat} {v : Value} {L : List UInt8} (h : Lent w B v L) : Seg w v L := by
  obtain ⟨g, cap, rfl, ho⟩ := h
  have h1 : Own w B (.slice (some ⟨g, 0, none⟩) (L ++ [119]).length cap) (L ++ [119]) := by simpa using ho
  have h2 := (h1.take L.length (by simp)).seg
  simpa using h2

set_option maxRecDepth 100000 in
set_option maxHeartbeats 400000 in
theorem lent6 (v : Value) (L : List UInt8) (w : World) (hs : Seg w v L) (hL : L.length ≤ 140737488355327) :
    Calls Try.prog 6 #[v] w fun e w' => ∃ u, e = .returned u ∧ Lent w' w.heap.size u L ∧ w.grownBy w' none := by
  obtain ⟨ao, cap, hsv⟩ := hs.shape
  have hlen := hs.len
  subst hsv
  have HS : Hid _ := hs
  have HL : Hid _ := hL
  clear hs hL
  go_enter Try.func6, Try.ntmps6
  go_wp2_with (at_builtin; refine app22 _ rfl _ _ rfl w.heap.size _ [] _ L rfl rfl (Own.nil _ _) HS.out ?c0 ?c1 ?_)
  case c0 => have := HL.out; simp; omega
  case c1 => omega
  intro v1 w1 hown hg hl
  have F : Hid (Own w1 w.heap.size v1 L ∧ w.grownBy w1 none) := And.intro hown hg
  clear hown hg hl
  go_wp2_with (at_builtin; refine app22 _ rfl _ _ rfl w.heap.size _ L _ [119] rfl rfl (F.out.1.alloc _) (seg_lit _ _ _ [119] rfl (by simp)) ?c0 ?c1 ?_)
  case c0 => have := HL.out; simp; omega
  case c1 => have := F.out.2.size; simp; omega
  intro v2 w2 hown hg hl
  have F2 : Hid (Own w2 w.heap.size v2 (L ++ [119]) ∧ w.grownBy w2 none) := And.intro hown (grown_new (grown_trans F.out.2 (World.grownBy_alloc _ _ none)) hg (fun x hx => (F.out.1.lt x hx).1))
  clear hown hg hl
  obtain ⟨g, c2, rfl, hcap⟩ : ∃ g c2, v2 = .slice (some ⟨g, 0, none⟩) (L.length + 1) c2 ∧ L.length + 1 ≤ c2 := by
    rcases F2.out.1.2 with ⟨_, h0⟩ | ⟨g, c2, cur, rfl, _, _, h1, _⟩
    · simp at h0
    · exact ⟨g, c2, by simp, by simpa using h1⟩
  go_wp2_with fail
  go_simp
  go_wp2_with fail
  go_ret
  exact ⟨_, rfl, ⟨g, c2, rfl, F2.out.1⟩, F2.out.2⟩
end Go.Proofs.Ytahpkgglkibikaa.Disk
