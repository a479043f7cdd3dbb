/-
  Meet of the program; what it calls.
-/
import Derived.Test.YtahpkgglkibikaaN
namespace Go.Proofs.Ytahpkgglkibikaa
open Go.RowKit Disk

set_option maxHeartbeats 400000 in
theorem later36 (a b : Value) (F G : List UInt8) (w : World) (ha : Seg w a F) (hb : Seg w b G) :
    Calls Try.prog 36 #[a, b] w fun e w' => ∃ x, e = .returned x ∧ Seg w x (laterL F G) ∧ ∃ m, w' = w.drewN m := by
  have HA : Hid (Seg w a F ∧ Seg w b G) := ⟨ha, hb⟩
  clear ha hb
  obtain ⟨r, hr⟩ : ∃ r, cmpL F G = r := ⟨_, rfl⟩
  have HR : Hid (cmpL F G = r) := hr
  clear hr
  go_enter Try.func36, Try.ntmps36
  by_cases h : r < 0
  · go_wp2_with (first | (go_at_call 26; refine (cmp26 _ _ _ _ _ HA.out.1 HA.out.2).mono ?_; rintro e w1 ⟨rfl, hm⟩; rw [HR.out]))
    go_ret
    exact ⟨_, rfl, by unfold laterL; rw [HR.out, if_pos h]; exact HA.out.2, hm⟩
  · go_wp2_with (first | (go_at_call 26; refine (cmp26 _ _ _ _ _ HA.out.1 HA.out.2).mono ?_; rintro e w1 ⟨rfl, hm⟩; rw [HR.out]))
    go_ret
    exact ⟨_, rfl, by unfold laterL; rw [HR.out, if_neg (by omega)]; exact HA.out.1, hm⟩

set_option maxHeartbeats 400000 in
theorem earlier37 (a b : Value) (T U : List UInt8) (w : World) (ha : Seg w a T) (hb : Seg w b U) :
    Calls Try.prog 37 #[a, b] w fun e w' => ∃ x, e = .returned x ∧ Seg w x (earlyL T U) ∧ ∃ m, w' = w.drewN m := by
  obtain ⟨ao, na, ca, rfl, hna, la, HA⟩ := seg_open ha
  have HB : Hid (Seg w b U) := hb
  have HN : Hid (T.length = na) := hna
  clear ha hb hna
  obtain ⟨r, hr⟩ : ∃ r, endB U T = r := ⟨_, rfl⟩
  have HR : Hid (endB U T = r) := hr
  clear hr
  go_enter Try.func37, Try.ntmps37
  by_cases h0 : na = 0
  · subst h0
    go_wp2_with fail
    go_ret
    exact ⟨_, rfl, by unfold earlyL; rw [if_neg (by rw [HN.out]; omega)]; exact HB.out, 0, rfl⟩
  · have i0 : (0 : Int) < (na : Int) := by omega
    cases r with
    | true =>
      go_wp2_with (first | (go_at_call 40; refine (ends40 _ _ _ _ _ HB.out HA.out).mono ?_; rintro e w1 ⟨rfl, hm⟩; rw [HR.out]))
      go_ret
      exact ⟨_, rfl, by unfold earlyL; rw [if_pos ⟨by rw [HN.out]; omega, HR.out⟩]; exact HA.out, hm⟩
    | false =>
      go_wp2_with (first | (go_at_call 40; refine (ends40 _ _ _ _ _ HB.out HA.out).mono ?_; rintro e w1 ⟨rfl, hm⟩; rw [HR.out]))
      go_ret
      exact ⟨_, rfl, by unfold earlyL; rw [if_neg (by rw [HR.out]; simp)]; exact HB.out, hm⟩

theorem early_len (T U : List UInt8) (z : Nat) (h1 : T.length ≤ z) (h2 : U.length ≤ z) : (earlyL T U).length ≤ z := by
  unfold earlyL
  split <;> assumption
theorem later_len (T U : List UInt8) (z : Nat) (h1 : T.length ≤ z) (h2 : U.length ≤ z) : (laterL T U).length ≤ z := by
  unfold laterL
  split <;> assumption

/-- Two rows that were made: apart from each other, all that was there before is as it was. -/
def Two (w w' : World) (x y : Value) (X Y : List UInt8) : Prop :=
  Cut w' w.heap.size x X ∧ Cut w' w.heap.size y Y ∧ (∀ k, x.ownBlock = some k → y.ownBlock ≠ some k) ∧ w.grownBy w' none

set_option maxRecDepth 100000 in
set_option maxHeartbeats 1000000 in
theorem meet24 (a b c d : Value) (F T G U : List UInt8) (w : World) (ha : Seg w a F) (hb : Seg w b T) (hc : Seg w c G) (hd : Seg w d U)
    (lF : F.length ≤ 140737488355328) (lT : T.length ≤ 140737488355328) (lG : G.length ≤ 140737488355328) (lU : U.length ≤ 140737488355328) :
    Calls Try.prog 24 #[a, b, c, d] w fun e w' => ∃ x y, e = .returned (.tuple #[x, y, .bool (meetB F T G U)]) ∧ Two w w' x y (meetA F T G U) (meetZ F T G U) := by
  have HA : Hid (Seg w a F ∧ Seg w b T ∧ Seg w c G ∧ Seg w d U) := ⟨ha, hb, hc, hd⟩
  have HL : Hid ((laterL F G).length ≤ 140737488355328 ∧ (earlyL T U).length ≤ 140737488355328) := ⟨later_len _ _ _ lF lG, early_len _ _ _ lT lU⟩
  clear ha hb hc hd lF lT lG lU
  obtain ⟨r, hr⟩ : ∃ r, meetB F T G U = r := ⟨_, rfl⟩
  have HR : Hid (meetB F T G U = r) := hr
  rw [hr]
  clear hr
  go_enter Try.func24, Try.ntmps24
  go_wp2_with fail
  refine (later36 _ _ _ _ _ HA.out.1 HA.out.2.2.1).mono ?_
  rintro e w1 ⟨x1, rfl, s1, m1, hm1⟩
  have H1 : Hid (Seg w x1 (laterL F G) ∧ w1 = w.drewN m1) := ⟨s1, hm1⟩
  clear s1 hm1
  go_wp2_with fail
  refine (earlier37 _ _ T U _ (by rw [H1.out.2]; exact seg_drewN HA.out.2.1 _) (by rw [H1.out.2]; exact seg_drewN HA.out.2.2.2 _)).mono ?_
  rintro e w2 ⟨x2, rfl, s2, m2, hm2⟩
  have H2 : Hid (Seg w2 x1 (laterL F G) ∧ Seg w2 x2 (earlyL T U) ∧ w.grownBy w2 none) := by
    refine ⟨?_, ?_, ?_⟩
    · rw [hm2, H1.out.2]; exact seg_drewN (seg_drewN H1.out.1 _) _
    · rw [hm2]; exact seg_drewN s2 _
    · rw [hm2, H1.out.2]; exact grown_trans (grown_drewN _ _ _) (grown_drewN _ _ _)
  clear s2 hm2
  go_wp2_with fail
  refine (in28 _ _ _ _ _ _ _ H2.out.1 H2.out.1 H2.out.2.1).mono ?_
  rintro e w3 ⟨rfl, m3, hm3⟩
  have e3 : inB (laterL F G) (laterL F G) (earlyL T U) = r := HR.out
  rw [e3]
  have H3 : Hid (Seg w3 x1 (laterL F G) ∧ Seg w3 x2 (earlyL T U) ∧ w.grownBy w3 none) := by
    rw [hm3]
    exact ⟨seg_drewN H2.out.1 _, seg_drewN H2.out.2.1 _, grown_trans H2.out.2.2 (grown_drewN _ _ _)⟩
  clear e3 hm3
  cases r with
  | false =>
    go_wp2_with fail
    refine bodyPost_ret (v := .tuple #[.slice none 0 0, .slice none 0 0, .bool false]) (by simp [results, Try.results24]) rfl ?_
    refine ⟨_, _, rfl, ?_⟩
    unfold meetA meetZ
    rw [HR.out]
    exact ⟨.inl (Own.nil _ _), .inl (Own.nil _ _), by simp [Value.ownBlock], H3.out.2.2⟩
  | true =>
    go_wp2_with fail
    refine (copied31 _ _ (laterL F G) [] _ H3.out.1 (seg_nil _) (by have := HL.out.1; simp; omega)).mono ?_
    rintro e w4 ⟨y1, rfl, c4, g4⟩
    rw [List.append_nil] at c4
    have H4 : Hid (Cut w4 w3.heap.size y1 (laterL F G) ∧ w3.grownBy w4 none) := ⟨c4, g4⟩
    clear c4 g4
    go_wp2_with fail
    refine (copied31 _ _ (earlyL T U) [] _ (H3.out.2.1.grown H4.out.2) (seg_nil _) (by have := HL.out.2; simp; omega)).mono ?_
    rintro e w5 ⟨y2, rfl, c5, g5⟩
    rw [List.append_nil] at c5
    have H5 : Hid (Cut w5 w4.heap.size y2 (earlyL T U) ∧ w4.grownBy w5 none) := ⟨c5, g5⟩
    clear c5 g5
    go_wp2_with fail
    refine bodyPost_ret (v := .tuple #[y1, y2, .bool true]) (by simp [results, Try.results24]) rfl ?_
    refine ⟨_, _, rfl, ?_⟩
    unfold meetA meetZ
    rw [HR.out]
    have z3 := H3.out.2.2.size
    have z4 := H4.out.2.size
    refine ⟨(H4.out.1.grown H5.out.2).mono z3, H5.out.1.mono (by omega), fun k h1 h2 => ?_, grown_trans (grown_trans H3.out.2.2 H4.out.2) H5.out.2⟩
    have := H4.out.1.lt k h1
    have := H5.out.1.lt k h2
    omega
end Go.Proofs.Ytahpkgglkibikaa
