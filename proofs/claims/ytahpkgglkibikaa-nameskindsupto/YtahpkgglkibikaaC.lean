/-
  Cmp, In and what they call: the program's, the document's.
-/
import Derived.Test.YtahpkgglkibikaaP
import Derived.Test.YtahpkgglkibikaaDiskA
namespace Go.Proofs.Ytahpkgglkibikaa
open Go.RowKit Disk

theorem seg_drewN {w : World} {v : Value} {L : List UInt8} (h : Seg w v L) (q : Nat) : Seg (w.drewN q) v L := h.grown (grown_drewN _ _ _)

theorem run_minn (ts : Array TypeId) (t : TypeId) (m n : Nat) (w : World) : (Builtin.min_ ts t #[.int .i64 m, .int .i64 n]).run Try.prog w = .ok (.int .i64 ((min m n : Nat) : Int)) w := by
  by_cases h : m ≤ n
  · rw [Nat.min_eq_left h]
    simp [Builtin.min_, Builtin.min2]
    try omega
  · rw [Nat.min_eq_right (by omega)]
    simp [Builtin.min_, Builtin.min2]
    try omega
attribute [local go_sem ↓] run_minn

set_option maxHeartbeats 400000 in
theorem compare38 (m n : Nat) (w : World) : Calls Try.prog 38 #[.int .i64 m, .int .i64 n] w fun e w' => e = .returned (.int .i64 (cmpN m n)) ∧ w' = w := by
  go_enter Try.func38, Try.ntmps38
  by_cases h1 : (m : Int) < n
  · have e : cmpN m n = -1 := by unfold cmpN; rw [if_pos (by omega)]
    rw [e]
    go_wp2
    go_ret
    exact ⟨rfl, rfl⟩
  · by_cases h2 : (n : Int) < m
    · have e : cmpN m n = 1 := by unfold cmpN; rw [if_neg (by omega), if_pos (by omega)]
      rw [e]
      go_wp2
      go_ret
      exact ⟨rfl, rfl⟩
    · have e : cmpN m n = 0 := by unfold cmpN; rw [if_neg (by omega), if_neg (by omega)]
      rw [e]
      go_wp2
      go_ret
      exact ⟨rfl, rfl⟩

set_option maxHeartbeats 400000 in
theorem compare39 (m n : Nat) (w : World) : Calls Try.prog 39 #[.int .u8 m, .int .u8 n] w fun e w' => e = .returned (.int .i64 (cmpN m n)) ∧ w' = w := by
  go_enter Try.func39, Try.ntmps39
  by_cases h1 : (m : Int) < n
  · have e : cmpN m n = -1 := by unfold cmpN; rw [if_pos (by omega)]
    rw [e]
    go_wp2
    go_ret
    exact ⟨rfl, rfl⟩
  · by_cases h2 : (n : Int) < m
    · have e : cmpN m n = 1 := by unfold cmpN; rw [if_neg (by omega), if_pos (by omega)]
      rw [e]
      go_wp2
      go_ret
      exact ⟨rfl, rfl⟩
    · have e : cmpN m n = 0 := by unfold cmpN; rw [if_neg (by omega), if_neg (by omega)]
      rw [e]
      go_wp2
      go_ret
      exact ⟨rfl, rfl⟩

/-- A byte of a slice. -/
theorem seg_at {w : World} {ao : Option Addr} {n cap : Nat} {L : List UInt8} (h : Seg w (.slice ao n cap) L) (j : Nat) (hj : j < L.length) : ∃ b off, ao = some ⟨b, off, none⟩ ∧ w.cell? ⟨b, off + j, none⟩ = some (.int .u8 (L[j].toNat : Int)) := by
  obtain ⟨ao', cap', hv, _, _, _, h4⟩ := h
  simp at hv
  rw [hv.1]
  exact h4 j hj

theorem seg_open {w : World} {v : Value} {L : List UInt8} (h : Seg w v L) : ∃ ao n cap, v = .slice ao n cap ∧ L.length = n ∧ n ≤ 9223372036854775807 ∧ Hid (Seg w (.slice ao n cap) L) := by
  obtain ⟨ao, cap, e⟩ := h.shape
  exact ⟨ao, L.length, cap, e, rfl, h.len, by rw [← e]; exact h⟩

set_option maxRecDepth 100000 in
set_option maxHeartbeats 1000000 in
theorem cmp26 (a b : Value) (A B : List UInt8) (w : World) (ha : Seg w a A) (hb : Seg w b B) :
    Calls Try.prog 26 #[a, b] w fun e w' => e = .returned (.int .i64 (cmpL A B)) ∧ ∃ m, w' = w.drewN m := by
  obtain ⟨ao, na, ca, rfl, hna, la, HA⟩ := seg_open ha
  obtain ⟨bo, nb, cb, rfl, hnb, lb, HB⟩ := seg_open hb
  have HN : Hid (A.length = na ∧ B.length = nb) := And.intro hna hnb
  clear ha hb hna hnb
  obtain ⟨mn, hmn⟩ : ∃ n, min na nb = n := ⟨_, rfl⟩
  have HM : Hid (min na nb = mn) := hmn
  have hm1 : mn ≤ na := by omega
  have hm2 : mn ≤ nb := by omega
  obtain ⟨c0, hc0⟩ : ∃ c, cmpN na nb = c := ⟨_, rfl⟩
  have HC : Hid (cmpN na nb = c0) := hc0
  obtain ⟨R, hR⟩ : ∃ c, cmpL A B = c := ⟨_, rfl⟩
  have HR : Hid (cmpL A B = R) := hR
  rw [hR]
  clear hmn hc0 hR
  go_enter Try.func26, Try.ntmps26
  go_wp2_with fail
  refine wp_scope_straight ?_
  go_wp2_with (first | (go_at_call 38; refine (compare38 _ _ _).mono ?_; rintro e w1 ⟨rfl, h1⟩; rw [h1]; clear h1))
  refine wp_label ?_
  refine (‹∀ (a : Act) (w : World), Code.wp Try.prog _ _ a w → _› _ _ ?_)
  go_wp2_with fail
  rw [HM.out, HC.out]
  go_loopw [5, 18] (fun o i wr => ∃ k q : Nat, k ≤ mn ∧ o = .int .i64 c0 ∧ i = .int .i64 k ∧ wr = w.drewN q ∧ cmpL (A.drop k) (B.drop k) = R) (fun _ i _ => mn - (intOf i).toNat)
  case atStart => exact ⟨0, 0, by omega, rfl, rfl, rfl, HR.out⟩
  case round =>
    obtain ⟨k, q, hk, rfl, rfl, hwr, hinv⟩ := hrel
    have HW : Hid (wr = w.drewN q) := hwr
    by_cases hlt : k < mn
    · have hka : k < A.length := by rw [HN.out.1]; omega
      have hkb : k < B.length := by rw [HN.out.2]; omega
      have ha := seg_drewN HA.out q
      have hb := seg_drewN HB.out q
      rw [← hwr] at ha hb
      obtain ⟨b1, o1, rfl, x1⟩ := seg_at ha k hka
      obtain ⟨b2, o2, rfl, x2⟩ := seg_at hb k hkb
      rw [cmp_step hka hkb] at hinv
      obtain ⟨x, hx⟩ : ∃ x, A[k].toNat = x := ⟨_, rfl⟩
      obtain ⟨y, hy⟩ : ∃ x, B[k].toNat = x := ⟨_, rfl⟩
      rw [hx] at x1 hinv
      rw [hy] at x2 hinv
      have HI : Hid _ := hinv
      have i1 : (0 : Int) ≤ (k : Int) := by omega
      have i2 : (k : Int) < (na : Int) := by omega
      have i3 : (k : Int) < (nb : Int) := by omega
      clear hinv hx hy hka hkb ha hb hwr
      go_wp2_with fail
      go_quiet ((go_at_call 39; exact Calls.quiet_of_same (compare39 _ _ _)))
      by_cases c1 : x < y
      · have e : cmpN x y = -1 := by unfold cmpN; rw [if_pos c1]
        have eR : R = -1 := by have := HI.out; rw [if_pos c1] at this; exact this.symm
        subst eR
        rw [e]
        go_wp2_with fail
        first | rw [Exit.noGoto_ret] | skip
        go_ret
        exact ⟨rfl, _, by rw [HW.out, World.drewN_drewN]⟩
      · by_cases c2 : y < x
        · have e : cmpN x y = 1 := by unfold cmpN; rw [if_neg c1, if_pos c2]
          have eR : R = 1 := by have := HI.out; rw [if_neg c1, if_pos c2] at this; exact this.symm
          subst eR
          rw [e]
          go_wp2_with fail
          first | rw [Exit.noGoto_ret] | skip
          go_ret
          exact ⟨rfl, _, by rw [HW.out, World.drewN_drewN]⟩
        · have e : cmpN x y = 0 := by unfold cmpN; rw [if_neg c1, if_neg c2]
          have eR := HI.out
          rw [if_neg c1, if_neg c2] at eR
          rw [e]
          have HE : Hid _ := eR
          clear eR
          go_wp2_with fail
          go_roundw
          case rel => exact ⟨k + 1, _, by omega, rfl, by go_num, by rw [HW.out, World.drewN_drewN], HE.out⟩
          case measure => simp [intOf]; omega
    · have e : R = c0 := by
        rw [← hinv, ← HC.out, ← HN.out.1, ← HN.out.2]
        exact cmp_end (by rw [HN.out.1, HN.out.2, HM.out]; omega)
      subst e
      clear hinv hwr
      go_wp2_with fail
      first | rw [Exit.noGoto_ret] | skip
      go_ret
      exact ⟨rfl, _, HW.out⟩

set_option maxRecDepth 100000 in
set_option maxHeartbeats 1000000 in
theorem cmp27 (a b : Value) (A B : List UInt8) (w : World) (ha : Seg w a A) (hb : Seg w b B) :
    Calls Try.prog 27 #[a, b] w fun e w' => e = .returned (.int .i64 (cmpL A B)) ∧ ∃ m, w' = w.drewN m := by
  obtain ⟨ao, na, ca, rfl, hna, la, HA⟩ := seg_open ha
  obtain ⟨bo, nb, cb, rfl, hnb, lb, HB⟩ := seg_open hb
  have HN : Hid (A.length = na ∧ B.length = nb) := And.intro hna hnb
  clear ha hb hna hnb
  obtain ⟨R, hR⟩ : ∃ c, cmpL A B = c := ⟨_, rfl⟩
  have HR : Hid (cmpL A B = R) := hR
  rw [hR]
  clear hR
  go_enter Try.func27, Try.ntmps27
  go_wp2_with fail
  go_loopw [5] (fun i wr => ∃ k q : Nat, k ≤ na ∧ k ≤ nb ∧ i = .int .i64 k ∧ wr = w.drewN q ∧ cmpL (A.drop k) (B.drop k) = R) (fun i _ => na - (intOf i).toNat)
  case atStart => exact ⟨0, 0, by omega, by omega, rfl, rfl, HR.out⟩
  case round =>
    obtain ⟨k, q, hk, hk2, rfl, hwr, hinv⟩ := hrel
    have HW : Hid (wr = w.drewN q) := hwr
    by_cases hlt : k < na ∧ k < nb
    · have hka : k < A.length := by rw [HN.out.1]; omega
      have hkb : k < B.length := by rw [HN.out.2]; omega
      have ha := seg_drewN HA.out q
      have hb := seg_drewN HB.out q
      rw [← hwr] at ha hb
      obtain ⟨b1, o1, rfl, x1⟩ := seg_at ha k hka
      obtain ⟨b2, o2, rfl, x2⟩ := seg_at hb k hkb
      rw [cmp_step hka hkb] at hinv
      obtain ⟨x, hx⟩ : ∃ x, A[k].toNat = x := ⟨_, rfl⟩
      obtain ⟨y, hy⟩ : ∃ x, B[k].toNat = x := ⟨_, rfl⟩
      rw [hx] at x1 hinv
      rw [hy] at x2 hinv
      have HI : Hid _ := hinv
      have i1 : (0 : Int) ≤ (k : Int) := by omega
      have i2 : (k : Int) < (na : Int) := by omega
      have i3 : (k : Int) < (nb : Int) := by omega
      clear hinv hx hy hka hkb ha hb hwr
      go_wp2_with fail
      go_quiet (fail)
      by_cases c1 : (x : Int) < y
      · have eR : R = -1 := by have := HI.out; rw [if_pos (by omega)] at this; exact this.symm
        subst eR
        go_wp2_with fail
        go_ret
        exact ⟨rfl, _, by rw [HW.out, World.drewN_drewN]⟩
      · go_wp2_with fail
        go_quiet (fail)
        by_cases c2 : (y : Int) < x
        · have eR : R = 1 := by have := HI.out; rw [if_neg (by omega), if_pos (by omega)] at this; exact this.symm
          subst eR
          go_wp2_with fail
          go_ret
          exact ⟨rfl, _, by rw [HW.out]; repeat rw [World.drewN_drewN]⟩
        · have eR := HI.out
          rw [if_neg (by omega), if_neg (by omega)] at eR
          have HE : Hid _ := eR
          clear eR
          go_wp2_with fail
          go_roundw
          case rel => exact ⟨k + 1, _, by omega, by omega, by go_num, by rw [HW.out]; repeat rw [World.drewN_drewN], HE.out⟩
          case measure => simp [intOf]; omega
    · have e : R = cmpN na nb := by
        rw [← hinv, ← HN.out.1, ← HN.out.2]
        exact cmp_end (by rw [HN.out.1, HN.out.2]; omega)
      clear hinv hwr
      have hor : (¬ (k : Int) < na) ∨ ((k : Int) < na ∧ ¬ (k : Int) < nb) := by omega
      by_cases c1 : (na : Int) < nb
      · have e : R = -1 := by rw [e]; unfold cmpN; rw [if_pos (by omega)]
        subst e
        rcases hor with hor | ⟨hor, hor2⟩ <;> (
          go_wp2_with fail
          go_ret
          exact ⟨rfl, _, HW.out⟩)
      · by_cases c2 : (nb : Int) < na
        · have e : R = 1 := by rw [e]; unfold cmpN; rw [if_neg (by omega), if_pos (by omega)]
          subst e
          rcases hor with hor | ⟨hor, hor2⟩ <;> (
            go_wp2_with fail
            go_ret
            exact ⟨rfl, _, HW.out⟩)
        · have e : R = 0 := by rw [e]; unfold cmpN; rw [if_neg (by omega), if_neg (by omega)]
          subst e
          rcases hor with hor | ⟨hor, hor2⟩ <;> (
            go_wp2_with fail
            go_ret
            exact ⟨rfl, _, HW.out⟩)

set_option maxHeartbeats 400000 in
theorem ends40 (a b : Value) (T K : List UInt8) (w : World) (ha : Seg w a T) (hb : Seg w b K) :
    Calls Try.prog 40 #[a, b] w fun e w' => e = .returned (.bool (endB T K)) ∧ ∃ m, w' = w.drewN m := by
  obtain ⟨ao, na, ca, rfl, hna, la, HA⟩ := seg_open ha
  have HB : Hid (Seg w b K) := hb
  clear ha hb
  obtain ⟨R, hR⟩ : ∃ c, endB T K = c := ⟨_, rfl⟩
  have HR : Hid (endB T K = R) := hR
  rw [hR]
  clear hR
  go_enter Try.func40, Try.ntmps40
  by_cases h0 : na = 0
  · have e : R = true := by rw [← HR.out]; simp [endB, hna, h0]
    subst e; subst h0
    clear hna
    go_wp2_with fail
    go_ret
    exact ⟨rfl, 0, rfl⟩
  · have e : R = decide (cmpL K T < 0) := by rw [← HR.out]; simp [endB, hna, h0]
    subst e
    have i0 : ¬ (na : Int) = 0 := by omega
    clear hna
    go_wp2_with (first | (go_at_call 26; refine (cmp26 _ _ _ _ _ HB.out HA.out).mono ?_; rintro e w1 ⟨rfl, hm⟩))
    go_ret
    exact ⟨by simp [h0], hm⟩

set_option maxHeartbeats 400000 in
theorem in28 (a b c : Value) (K F T : List UInt8) (w : World) (ha : Seg w a K) (hb : Seg w b F) (hc : Seg w c T) :
    Calls Try.prog 28 #[a, b, c] w fun e w' => e = .returned (.bool (inB K F T)) ∧ ∃ m, w' = w.drewN m := by
  have HA : Hid (Seg w a K ∧ Seg w b F ∧ Seg w c T) := ⟨ha, hb, hc⟩
  clear ha hb hc
  rw [in_end]
  obtain ⟨r, hr⟩ : ∃ r, cmpL K F = r := ⟨_, rfl⟩
  have HR : Hid (cmpL K F = r) := hr
  rw [hr]
  clear hr
  go_enter Try.func28, Try.ntmps28
  by_cases h : 0 ≤ r
  · rw [decide_eq_true h, Bool.true_and]
    go_wp2_with (first | (go_at_call 26; refine (cmp26 _ _ _ _ _ HA.out.1 HA.out.2.1).mono ?_; rintro e w1 ⟨rfl, hm⟩; rw [HR.out]; obtain ⟨m, hm⟩ := hm; have HM : Hid _ := hm; clear hm) | (go_at_call 40; refine (ends40 _ _ T K _ (by rw [HM.out]; exact seg_drewN HA.out.2.2 m) (by rw [HM.out]; exact seg_drewN HA.out.1 m)).mono ?_; rintro e w2 ⟨rfl, hm2⟩))
    go_ret
    obtain ⟨m2, hm2⟩ := hm2
    exact ⟨rfl, m + m2, by rw [hm2, HM.out, World.drewN_drewN]⟩
  · rw [decide_eq_false h, Bool.false_and]
    go_wp2_with (first | (go_at_call 26; refine (cmp26 _ _ _ _ _ HA.out.1 HA.out.2.1).mono ?_; rintro e w1 ⟨rfl, hm⟩; rw [HR.out]; obtain ⟨m, hm⟩ := hm; have HM : Hid _ := hm; clear hm))
    go_ret
    exact ⟨rfl, m, HM.out⟩

set_option maxHeartbeats 400000 in
theorem in29 (a b c : Value) (K F T : List UInt8) (w : World) (ha : Seg w a K) (hb : Seg w b F) (hc : Seg w c T) :
    Calls Try.prog 29 #[a, b, c] w fun e w' => e = .returned (.bool (inB K F T)) ∧ ∃ m, w' = w.drewN m := by
  obtain ⟨co, nc, cc, rfl, hnc, lc, HC⟩ := seg_open hc
  have HA : Hid (Seg w a K ∧ Seg w b F) := ⟨ha, hb⟩
  have HN : Hid (T.length = nc) := hnc
  clear ha hb hc hnc
  rw [in_end]
  obtain ⟨r, hr⟩ : ∃ r, cmpL K F = r := ⟨_, rfl⟩
  have HR : Hid (cmpL K F = r) := hr
  rw [hr]
  clear hr
  go_enter Try.func29, Try.ntmps29
  by_cases h : 0 ≤ r
  · rw [decide_eq_true h, Bool.true_and]
    by_cases h0 : nc = 0
    · have e : endB T K = true := by simp [endB, HN.out, h0]
      rw [e]
      subst h0
      go_wp2_with (first | (go_at_call 27; refine (cmp27 _ _ _ _ _ HA.out.1 HA.out.2).mono ?_; rintro e w1 ⟨rfl, hm⟩; rw [HR.out]; obtain ⟨m, hm⟩ := hm; have HM : Hid _ := hm; clear hm))
      go_ret
      exact ⟨rfl, m, HM.out⟩
    · have e : endB T K = decide (cmpL K T < 0) := by simp [endB, HN.out, h0]
      rw [e]
      have i0 : ¬ (nc : Int) = 0 := by omega
      go_wp2_with fail
      refine (cmp27 _ _ _ _ _ HA.out.1 HA.out.2).mono ?_
      rintro e w1 ⟨rfl, hm⟩
      rw [HR.out]
      obtain ⟨m, hm⟩ := hm
      have HM : Hid _ := hm
      clear hm
      go_wp2_with fail
      refine (cmp27 _ _ K T _ (by rw [HM.out]; exact seg_drewN HA.out.1 m) (by rw [HM.out]; exact seg_drewN HC.out m)).mono ?_
      rintro e w2 ⟨rfl, hm2⟩
      go_wp2_with fail
      go_ret
      obtain ⟨m2, hm2⟩ := hm2
      exact ⟨by simp [h0], m + m2, by rw [hm2, HM.out, World.drewN_drewN]⟩
  · rw [decide_eq_false h, Bool.false_and]
    go_wp2_with (first | (go_at_call 27; refine (cmp27 _ _ _ _ _ HA.out.1 HA.out.2).mono ?_; rintro e w1 ⟨rfl, hm⟩; rw [HR.out]; obtain ⟨m, hm⟩ := hm; have HM : Hid _ := hm; clear hm))
    go_ret
    exact ⟨rfl, m, HM.out⟩
end Go.Proofs.Ytahpkgglkibikaa
