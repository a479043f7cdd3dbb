/-
  Clone: the same bytes in new memory. Open: a reader over such a copy.
-/
import Derived.Test.YtneppkbbnajpnaaN
import Derived.Laws.AppendOwnNone
import Derived.Test.YtneppkbbnajpnaaAp
namespace Go.Proofs.Ytneppkbbnajpnaa
open Go.RowKit

theorem Try.info5 : (Try.prog.info? 5).map (fun i => (i.zero, i.size, i.bytes)) = some (some (.int .u8 0), 1, 1) := by kernel_rfl

theorem eql23 : ∀ (w : World) (a : Option Addr) (n c n' c' : Nat), (binOp .eql 23 (.slice a n c) (.slice none n' c')).run Try.prog w = .ok (.bool a.isNone) w := fun w a n c n' c' => Lib.run_eql_slice_nil w 23 5 a n c n' c' Try.underlying23

theorem seg_news {w : World} {ad : Addr} {n cap : Nat} {L : List UInt8} (h : Seg w (.slice (some ad) n cap) L) : n = L.length ∧ ∀ j u, (BV L)[j]? = some u → w.cell? (ad.add j) = some u := by
  obtain ⟨ao, cap', hv, h1, h2, h3, h4⟩ := h
  simp at hv; obtain ⟨rfl, rfl, rfl⟩ := hv
  refine ⟨rfl, fun j u hj => ?_⟩
  have hjl : j < L.length := by
    have := (List.getElem?_eq_some_iff.1 hj).1
    simpa [BV] using this
  obtain ⟨b, off, e, hc⟩ := h4 j hjl
  simp at e; subst e
  have e2 : (⟨b, off, none⟩ : Addr).add j = ⟨b, off + j, none⟩ := by
    unfold Addr.add; by_cases hz : j = 0
    · subst hz; simp
    · simp [hz]
  rw [e2, hc]
  simp [BV, hjl] at hj
  rw [hj]

set_option maxRecDepth 100000 in
set_option maxHeartbeats 1000000 in
theorem clone_any (v : Value) (L : List UInt8) (w : World) (hs : Seg w v L) (hL : L.length ≤ 225179981368000) :
    Calls Try.prog 38 #[v] w fun e w' => ∃ u, e = .returned u ∧ Own w' w.heap.size u L ∧ w.grownBy w' none := by
  have hlen := hs.len
  obtain ⟨ao, cap, hsv⟩ : ∃ ao cap, v = .slice ao L.length cap := by obtain ⟨ao, cap, h, _⟩ := hs; exact ⟨ao, cap, h⟩
  subst hsv
  cases ao with
  | none =>
    have hL0 : L = [] := by
      obtain ⟨ao', cap', hv, h1, _, h3, _⟩ := hs
      simp at hv
      have := h3 hv.1.symm
      exact List.eq_nil_of_length_eq_zero (by omega)
    subst hL0
    clear hL hlen hs
    have q23 := eql23
    go_enter Try.func38, Try.ntmps38
    go_wp2
    go_ret
    exact ⟨_, rfl, Own.nil _ _, grown_refl _ _⟩
  | some ad =>
    obtain ⟨_, hnews⟩ := seg_news hs
    obtain ⟨i0, hi, hz0, hz1, hz2⟩ := info_parts Try.info5
    have HN : Hid _ := hnews
    have HL : Hid _ := hL
    have HS : Hid _ := hs
    clear hnews hL hs
    have q23 := eql23
    go_enter Try.func38, Try.ntmps38
    go_wp2_with (at_builtin; refine wpList_append_fine _ rfl _ _ 23 rfl w.heap.size 5 i0 (.int .u8 0) Try.underlying23 hi hz0 hz1 hz2 rfl _ _ _ rfl (World.ownsRow_made (base := w.heap.size) (e := 5) (size := 1) w #[] 0 (Nat.le_refl _) (Nat.zero_le _) rfl) ad L.length cap (BV L) rfl ?c0 ?c1 ?c2 ?c3 ?c4 ?c5 ?_)
    case c0 => simp [BV]
    case c1 => exact fun j u hj => (World.grownBy_alloc w _ none).cell (HN.out j u hj) (by simp)
    case c2 => exact BV_one L
    case c3 => have := HL.out; unfold maxLen; omega
    case c4 => have := HL.out; omega
    intro v' w1 hown hg
    have F : Hid _ := And.intro hown hg
    clear hown hg
    go_wp2_with fail
    go_ret
    obtain ⟨hown, hg⟩ := F.out
    refine ⟨_, rfl, ?_, ?_⟩
    · simpa [Own] using hown
    · exact grown_new (World.grownBy_alloc w _ none) hg (by intro x hx; simp [Value.ownBlock] at hx; omega)

/-- Bytes appended to a row of the call's own. -/
theorem app23f {ops : Array Oper} {rest : List Oper} {o : Oper} {a : Act} {Q : Exit → Act → World → Prop} (w : World) (hgd : o.guard = none) (s x : Operand)
    (ho : o.op = .call { callee := .builtin .append, args := #[s, x], argTypes := #[23, 23] })
    (B : Nat) (v : Value) (L : List UInt8) (u : Value) (M : List UInt8) (hs : a.eval s = v) (hx : a.eval x = u) (hown : Own w B v L) (hseg : Seg w u M) (hb : L.length + M.length ≤ 225179981368000) (hB : B ≤ w.heap.size)
    (h : ∀ v' w', Own w' B v' (L ++ M) → w.grownBy w' v.ownBlock → wpList Try.prog ops Q rest (a.put o.dst v') w') : wpList Try.prog ops Q (o :: rest) a w := by
  obtain ⟨i0, hi, hz0, hz1, hz2⟩ := info_parts Try.info5
  have hsg := hseg
  obtain ⟨ao, cap, rfl, h1, h2, h3, h4⟩ := hsg
  cases ao with
  | none =>
    have hM0 : M = [] := List.eq_nil_of_length_eq_zero (by have := h3 rfl; omega)
    have hc0 : cap = 0 := h3 rfl
    subst hM0; subst hc0
    refine wpList_append_own_none hgd s x 23 ho B 5 i0 1 Try.underlying23 hi v _ _ hs hown hx ?_
    exact h v w (by simpa using hown) (grown_refl _ _)
  | some ad =>
    obtain ⟨_, hnews⟩ := seg_news hseg
    refine wpList_append_fine w hgd s x 23 ho B 5 i0 (.int .u8 0) Try.underlying23 hi hz0 hz1 hz2 rfl v L.length (BV L) hs hown ad M.length cap (BV M) hx (by simp [BV]) hnews (BV_one M) (by unfold maxLen; omega) (by omega) hB ?_
    intro v' w' h1 h2
    exact h v' w' (by unfold Own; rw [BV_append, List.length_append]; exact h1) h2

theorem app23 {ops : Array Oper} {rest : List Oper} {o : Oper} {a : Act} {Q : Exit → Act → World → Prop} (w : World) (hgd : o.guard = none) (s x : Operand)
    (ho : o.op = .call { callee := .builtin .append, args := #[s, x], argTypes := #[23, 23] })
    (B : Nat) (v : Value) (L : List UInt8) (u : Value) (M : List UInt8) (hs : a.eval s = v) (hx : a.eval x = u) (hown : Own w B v L) (hseg : Seg w u M) (hb : L.length + M.length ≤ 140737488355328) (hB : B ≤ w.heap.size)
    (h : ∀ v' w', Own w' B v' (L ++ M) → w.grownBy w' v.ownBlock → wpList Try.prog ops Q rest (a.put o.dst v') w') : wpList Try.prog ops Q (o :: rest) a w :=
  app23f w hgd s x ho B v L u M hs hx hown hseg (by omega) hB h

theorem Own.alloc {w : World} {B : Nat} {v : Value} {L : List UInt8} (h : Own w B v L) (o : Obj) : Own (w.alloc o) B v L := World.ownsRow.alloc h o

theorem seg_one (w : World) (x : Int) (c : UInt8) (hx : x = (c.toNat : Int)) : Seg (w.alloc (.cells #[.int .u8 x] 5)) (.slice (some ⟨w.heap.size, 0, none⟩) 1 1) [c] := by
  subst hx
  refine ⟨_, 1, rfl, Nat.le_refl _, by unfold maxLen; omega, by simp, fun j hj => ⟨w.heap.size, 0, rfl, ?_⟩⟩
  have : j = 0 := by simpa using hj
  subst this
  simp

theorem Own.lt {w : World} {B : Nat} {v : Value} {L : List UInt8} (h : Own w B v L) : ∀ k, v.ownBlock = some k → B ≤ k := fun k hk => (World.ownsRow.lt h k hk).1
end Go.Proofs.Ytneppkbbnajpnaa
