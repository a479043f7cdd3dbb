/-
  spoil: it writes over a row of bytes of the call's own and grows it: no other block that was there turns.
-/
import Derived.Test.YtneppkbbnajpnaaC
import Derived.Maps.AppendAt
namespace Go.Proofs.Ytneppkbbnajpnaa
open Go.RowKit

/-- Bytes appended to a row of the call's own, and where the new row lies. -/
theorem app23_at {ops : Array Oper} {rest : List Oper} {o : Oper} {a : Act} {Q : Exit → Act → World → Prop} (w : World) (hgd : o.guard = none) (s x : Operand)
    (ho : o.op = .call { callee := .builtin .append, args := #[s, x], argTypes := #[23, 23] })
    (B : Nat) (v : Value) (L : List UInt8) (u : Value) (M : List UInt8) (hs : a.eval s = v) (hx : a.eval x = u) (hown : Own w B v L) (hseg : Seg w u M) (hb : L.length + M.length ≤ 140737488355328) (hB : B ≤ w.heap.size)
    (h : ∀ v' w', Own w' B v' (L ++ M) → w.grownBy w' v.ownBlock → (v'.ownBlock = v.ownBlock ∨ v'.ownBlock = some w.heap.size) → wpList Try.prog ops Q rest (a.put o.dst v') w') : wpList Try.prog ops Q (o :: rest) a w := by
  obtain ⟨i0, hi, hz0, hz1, hz2⟩ := info_parts Try.info5
  have hsg := hseg
  obtain ⟨ao, cap, rfl, h1, h2, h3, h4⟩ := hsg
  cases ao with
  | none =>
    have hM0 : M = [] := List.eq_nil_of_length_eq_zero (by have := h3 rfl; omega)
    have hc0 : cap = 0 := h3 rfl
    subst hM0; subst hc0
    refine wpList_append_own_none hgd s x 23 ho B 5 i0 1 Try.underlying23 hi v _ _ hs hown hx ?_
    exact h v w (by simpa using hown) (grown_refl _ _) (.inl rfl)
  | some ad =>
    obtain ⟨_, hnews⟩ := seg_news hseg
    refine wpList_append_own_at w hgd s x 23 ho B 5 i0 (.int .u8 0) 1 1 Try.underlying23 hi hz0 hz1 hz2 rfl (by decide) v L.length (BV L) hs hown ad M.length cap (BV M) hx (by simp [BV]) hnews (BV_one M) (by unfold maxLen; omega) (by omega) hB ?_
    intro v' w' h1 h2 _ h5
    exact h v' w' (by unfold Own; rw [BV_append, List.length_append]; exact h1) h2 h5

/-- A store into an owned row. -/
theorem own_store {w : World} {B g n cap : Nat} {L : List UInt8} (h : Own w B (.slice (some ⟨g, 0, none⟩) n cap) L) (j : Nat) (x : Int) (c : UInt8) (hx : x = (c.toNat : Int)) :
    Own (w.setCell ⟨g, j, none⟩ (.int .u8 x)) B (.slice (some ⟨g, 0, none⟩) n cap) (L.set j c) := by
  subst hx
  have hn : n = L.length := by obtain ⟨ao, cap', hv, _⟩ := h.seg; simp at hv; exact hv.2.1
  subst hn
  have h1 := (World.ownsRow.stored h j (.int .u8 (c.toNat : Int))).1
  unfold Own
  rw [List.length_set]
  have e : BV (L.set j c) = (BV L).set j (.int .u8 (c.toNat : Int)) := by simp [BV, List.map_set]
  rw [e]; exact h1

theorem Own.shape {w : World} {B : Nat} {v : Value} {L : List UInt8} (h : Own w B v L) : (v = .slice none 0 0 ∧ L = []) ∨ ∃ g cap, v = .slice (some ⟨g, 0, none⟩) L.length cap ∧ B ≤ g ∧ g < w.heap.size := by
  rcases h.2 with ⟨rfl, hn⟩ | ⟨g, cap, cur, rfl, hb, hg, _⟩
  · exact .inl ⟨rfl, List.eq_nil_of_length_eq_zero hn⟩
  · exact .inr ⟨g, cap, rfl, hb, (Array.getElem?_eq_some_iff.1 hg).1⟩

set_option maxRecDepth 100000 in
set_option maxHeartbeats 1000000 in
theorem spoil17_some (B g cap : Nat) (L : List UInt8) (w : World) (h : Own w B (.slice (some ⟨g, 0, none⟩) L.length cap) L) (hB : B ≤ w.heap.size) (hz : L.length ≤ 140737488355318) :
    Calls Try.prog 17 #[.slice (some ⟨g, 0, none⟩) L.length cap] w fun e w' => e = .returned (.tuple #[]) ∧ w.grownBy w' (some g) := by
  have HZ : Hid (L.length ≤ 140737488355318) := hz
  have hlen := h.seg.len
  clear hz
  go_enter Try.func17, Try.ntmps17
  go_wp2
  go_loopw [2] (fun i wr => ∃ (k : Nat) (M : List UInt8), k ≤ L.length ∧ M.length = L.length ∧ i = .int .i64 k ∧ Own wr B (.slice (some ⟨g, 0, none⟩) L.length cap) M ∧ w.grownBy wr (some g)) (fun i _ => L.length - (intOf i).toNat)
  case atStart => exact ⟨0, L, by omega, rfl, rfl, h, grown_refl _ _⟩
  case round =>
    obtain ⟨k, M, hk, HM, rfl, hown, hg⟩ := hrel
    have HM' : Hid _ := HM
    clear HM
    by_cases hlt : k < L.length
    · have hc : ∃ y, wr.cell? ⟨g, k, none⟩ = some y := by
        obtain ⟨ao, cap', hv, _, _, _, h4⟩ := hown.seg
        obtain ⟨b, off, e, hc⟩ := h4 k (by rw [HM'.out]; exact hlt)
        simp at hv; rw [e] at hv; simp at hv
        obtain ⟨⟨rfl, rfl⟩, _⟩ := hv
        simp at hc
        exact ⟨_, hc⟩
      obtain ⟨y, hc⟩ := hc
      have hf : wr.frozen? ⟨g, k, none⟩ = false := by
        have h2 := hown
        have e := HM'.out
        unfold Own at h2
        rw [e] at h2
        exact h2.frozenAt k
      have F : Hid _ := And.intro (own_store hown k 90 90 rfl) (grown_trans hg (grown_setCell wr g k (.int .u8 90)))
      have hle : HM'.out = HM'.out := rfl
      clear hown hg hle
      go_wp2
      obtain ⟨h1, h2⟩ := F.out
      go_roundw
      case rel => exact ⟨k + 1, M.set k 90, by omega, by rw [List.length_set]; exact HM'.out, by go_num, h1, h2⟩
      case measure => simp [intOf]; omega
    · have F : Hid _ := And.intro hown hg
      clear hown hg h
      go_wp2
      go_loopw [0, 3] (fun x i w2 => ∃ (k : Nat) (M : List UInt8), k ≤ 9 ∧ M.length ≤ L.length + k ∧ i = .int .i64 k ∧ Own w2 B x M ∧ w.grownBy w2 (some g) ∧ (x.ownBlock = some g ∨ ∃ q, x.ownBlock = some q ∧ w.heap.size ≤ q)) (fun _ i _ => 9 - (intOf i).toNat)
      case atStart => exact ⟨0, M, by omega, by have := HM'.out; omega, rfl, F.out.1, F.out.2, .inl rfl⟩
      case round =>
        obtain ⟨k2, M2, hk2, hM2, rfl, hown, hg, hat⟩ := hrel
        have HM2 : Hid _ := hM2
        have hsz := hg.size
        clear hM2
        by_cases hlt2 : k2 < 9
        · go_wp2_with (at_builtin; refine app23_at _ rfl _ _ rfl B _ M2 _ [91] rfl rfl (hown.alloc _) (seg_one _ _ _ ?c0) ?c1 ?c2 ?_)
          case c0 => rfl
          case c1 => have := HZ.out; have := HM2.out; simp; omega
          case c2 => simp; omega
          intro v' w3 hown' hg' hat'
          have G : w.grownBy w3 (some g) ∧ (v'.ownBlock = some g ∨ ∃ q, v'.ownBlock = some q ∧ w.heap.size ≤ q) := by
            have ha := grown_trans hg (World.grownBy_alloc _ (.cells #[.int .u8 91] 5) (some g))
            refine ⟨?_, ?_⟩
            · rcases hat with e | ⟨q, e, hq⟩
              · rw [e] at hg'; exact grown_trans ha hg'
              · exact grown_new ha hg' (by intro x hx; rw [e] at hx; simp at hx; omega)
            · rcases hat' with e | e
              · rw [e]; exact hat
              · exact .inr ⟨_, e, by first | (simp; omega) | omega⟩
          have F2 : Hid _ := And.intro hown' G
          clear hown' G hg' hat' hat hg hown
          go_wp2_with fail
          obtain ⟨h1, h2, h3⟩ := F2.out
          go_roundw
          case rel => exact ⟨k2 + 1, M2 ++ [91], by omega, by have := HM2.out; simp; omega, by go_num, h1, h2, h3⟩
          case measure => simp [intOf]; omega
        · have F2 : Hid _ := hg
          clear hg hown hat
          go_wp2_with fail
          go_end0
          exact ⟨rfl, F2.out⟩

set_option maxRecDepth 100000 in
set_option maxHeartbeats 1000000 in
theorem spoil17_nil (w : World) : Calls Try.prog 17 #[.slice none 0 0] w fun e w' => e = .returned (.tuple #[]) ∧ w.grownBy w' none := by
  go_enter Try.func17, Try.ntmps17
  go_wp2
  refine wp_loop_rounds 1 ?_
  rw [rounds_succ]
  go_wp2
  go_loopw [0, 3] (fun x i w2 => ∃ (k : Nat) (M : List UInt8), k ≤ 9 ∧ M.length ≤ k ∧ i = .int .i64 k ∧ Own w2 w.heap.size x M ∧ w.grownBy w2 none) (fun _ i _ => 9 - (intOf i).toNat)
  case atStart => exact ⟨0, [], by omega, by simp, rfl, Own.nil _ _, grown_refl _ _⟩
  case round =>
    obtain ⟨k2, M2, hk2, hM2, rfl, hown, hg⟩ := hrel
    have HM2 : Hid _ := hM2
    have hsz := hg.size
    clear hM2
    by_cases hlt2 : k2 < 9
    · go_wp2_with (at_builtin; refine app23 _ rfl _ _ rfl w.heap.size _ M2 _ [91] rfl rfl (hown.alloc _) (seg_one _ _ _ ?c0) ?c1 ?c2 ?_)
      case c0 => rfl
      case c1 => have := HM2.out; simp; omega
      case c2 => simp; omega
      intro v' w3 hown' hg'
      have F2 : Hid _ := And.intro hown' (grown_new (grown_trans hg (World.grownBy_alloc _ (.cells #[.int .u8 91] 5) none)) hg' hown.lt)
      clear hown' hg' hg hown
      go_wp2_with fail
      obtain ⟨h1, h2⟩ := F2.out
      go_roundw
      case rel => exact ⟨k2 + 1, M2 ++ [91], by omega, by have := HM2.out; simp; omega, by go_num, h1, h2⟩
      case measure => simp [intOf]; omega
    · have F2 : Hid _ := hg
      clear hg hown
      go_wp2_with fail
      go_end0
      exact ⟨rfl, F2.out⟩

/-- Both together. -/
theorem spoil17 (B : Nat) (v : Value) (L : List UInt8) (w : World) (h : Own w B v L) (hB : B ≤ w.heap.size) (hz : L.length ≤ 140737488355318) :
    Calls Try.prog 17 #[v] w fun e w' => e = .returned (.tuple #[]) ∧ w.grownBy w' v.ownBlock := by
  rcases h.shape with ⟨rfl, _⟩ | ⟨g, cap, rfl, _, _⟩
  · exact spoil17_nil w
  · exact spoil17_some B g cap L w h hB hz
end Go.Proofs.Ytneppkbbnajpnaa
