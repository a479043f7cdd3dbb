/-
  Table of the document; the byte that a text begins with.
-/
import Derived.Test.YtahpkgglkibikaaU
namespace Go.Proofs.Ytahpkgglkibikaa
open Go.RowKit Disk

set_option maxRecDepth 100000 in
set_option maxHeartbeats 1000000 in
theorem table10 (L : List UInt8) (w : World) (hl : L.length ≤ 9223372036854775807) : Calls Try.prog 10 #[Str L] w fun e w' => e = .returned (.bool (tabB L)) ∧ w' = w := by
  unfold Str
  obtain ⟨X, hX⟩ : ∃ X, (⟨L.toArray⟩ : ByteArray) = X := ⟨_, rfl⟩
  obtain ⟨n, hn⟩ : ∃ n, L.length = n := ⟨_, rfl⟩
  have hsz : X.size = n := by rw [← hX, str_size, hn]
  have HX : Hid ((⟨L.toArray⟩ : ByteArray) = X ∧ L.length = n) := ⟨hX, hn⟩
  rw [hX]
  rw [hn] at hl
  obtain ⟨R, hR⟩ : ∃ R, tabB L = R := ⟨_, rfl⟩
  have HR : Hid (tabB L = R) := hR
  rw [hR]
  clear hX hn hR
  go_enter Try.func10, Try.ntmps10
  go_wp2_with fail
  go_loopw [3] (fun i wr => ∃ k : Nat, k ≤ n ∧ i = .int .i64 k ∧ wr = w ∧ ∀ j (hj : j < L.length), j < k → alnum L[j] = true) (fun i _ => n - (intOf i).toNat)
  case atStart => exact ⟨0, by omega, rfl, rfl, fun j _ h => by omega⟩
  case round =>
    obtain ⟨k, hk, rfl, hwr, hinv⟩ := hrel
    have HW : Hid (wr = w ∧ ∀ j (hj : j < L.length), j < k → alnum L[j] = true) := ⟨hwr, hinv⟩
    clear hwr hinv
    by_cases hlt : k < n
    · have hkl : k < L.length := by rw [HX.out.2]; exact hlt
      have hidx := run_index9 L k hkl
      rw [HX.out.1] at hidx
      obtain ⟨q, hq⟩ : ∃ q, alnum L[k] = q := ⟨_, rfl⟩
      have HQ : Hid (alnum L[k] = q) := hq
      have hd := hq
      unfold alnum at hd
      obtain ⟨x, hx⟩ : ∃ x, L[k].toNat = x := ⟨_, rfl⟩
      rw [hx] at hidx hd
      clear hq hx
      have i3 : (0 : Int) ≤ (k : Int) := by omega
      have i4 : (k : Int) < (n : Int) := by omega
      by_cases a1 : (97 : Int) ≤ x ∧ (x : Int) ≤ 122
      · obtain ⟨a1, a2⟩ := a1
        have e : q = true := by rw [← hd]; simp; omega
        subst e
        clear hd
        go_wp2_with fail
        go_roundw
        case rel => exact ⟨k + 1, by omega, by go_num, HW.out.1, fun j hj hjk => by
          by_cases e : j = k
          · subst e; exact HQ.out
          · exact HW.out.2 j hj (by omega)⟩
        case measure => simp [intOf]; omega
      · by_cases a3 : (48 : Int) ≤ x ∧ (x : Int) ≤ 57
        · obtain ⟨a3, a4⟩ := a3
          have e : q = true := by rw [← hd]; simp; omega
          subst e
          have a5 : ¬ (97 : Int) ≤ x := by omega
          clear hd
          go_wp2_with fail
          go_roundw
          case rel => exact ⟨k + 1, by omega, by go_num, HW.out.1, fun j hj hjk => by
            by_cases e : j = k
            · subst e; exact HQ.out
            · exact HW.out.2 j hj (by omega)⟩
          case measure => simp [intOf]; omega
        · have a1' : (¬ (97 : Int) ≤ x) ∨ ((97 : Int) ≤ x ∧ ¬ (x : Int) ≤ 122) := by omega
          have a3' : (¬ (48 : Int) ≤ x) ∨ ((48 : Int) ≤ x ∧ ¬ (x : Int) ≤ 57) := by omega
          have e : q = false := by rw [← hd]; simp; omega
          subst e
          have e : R = false := by rw [← HR.out]; exact tab_bad hkl HQ.out
          subst e
          clear hd a1 a3
          rcases a1' with a5 | ⟨a5, a6⟩ <;> rcases a3' with a7 | ⟨a7, a8⟩
          all_goals (
            go_wp2_with fail
            go_ret
            exact ⟨rfl, HW.out.1⟩)
    · have e : R = (decide (1 ≤ n) && decide (n ≤ 16)) := by
        rw [← HR.out, tab_end (fun j hj => HW.out.2 j hj (by have := HX.out.2; omega)), HX.out.2]
      by_cases h1 : (1 : Int) ≤ n
      · rw [decide_eq_true (by omega : 1 ≤ n), Bool.true_and] at e
        subst e
        go_wp2_with fail
        go_ret
        exact ⟨by first | rfl | (simp; try omega), HW.out.1⟩
      · rw [decide_eq_false (by omega : ¬ 1 ≤ n), Bool.false_and] at e
        subst e
        go_wp2_with fail
        go_ret
        exact ⟨rfl, HW.out.1⟩

theorem or_all : ((List.range 16).all fun a => (List.range 16).all fun b => bits .or .i64 ((a * 16 : Nat) : Int) (b : Int) == ((16 * a + b : Nat) : Int)) = true := by kernel_rfl
theorem or_two {a b : Nat} (ha : a < 16) (hb : b < 16) : bits .or .i64 ((a * 16 : Nat) : Int) (b : Int) = ((16 * a + b : Nat) : Int) :=
  eq_of_beq (List.all_eq_true.1 (List.all_eq_true.1 or_all a (List.mem_range.2 ha)) b (List.mem_range.2 hb))

set_option maxRecDepth 100000 in
set_option maxHeartbeats 2000000 in
theorem first30 (L : List UInt8) (w : World) (hl : L.length ≤ 9223372036854775807) (h0 : L ≠ []) :
    Calls Try.prog 30 #[Str L] w fun e w' => e = .returned (.tuple #[.int .u8 ((first L).1.toNat : Int), .int .i64 ((first L).2 : Int)]) ∧ ∃ m, w' = w.drewN m := by
  unfold Str
  obtain ⟨X, hX⟩ : ∃ X, (⟨L.toArray⟩ : ByteArray) = X := ⟨_, rfl⟩
  obtain ⟨n, hn⟩ : ∃ n, L.length = n := ⟨_, rfl⟩
  have hsz : X.size = n := by rw [← hX, str_size, hn]
  have hn0 : 0 < n := by rw [← hn]; exact List.length_pos_iff.2 h0
  obtain ⟨x, r, hL⟩ : ∃ x r, L = x :: r := List.exists_cons_of_ne_nil h0
  have i0 : ∀ wk, (Instr.index 9 (.string X) (.int .i64 0)).run Try.prog wk = .ok (.int .u8 (x.toNat : Int)) wk := by
    intro wk
    have := run_index9 L 0 (by omega) wk
    rw [hX] at this
    simp only [hL, List.getElem_cons_zero] at this
    exact this
  rw [hX]
  rw [hn] at hl
  obtain ⟨fr, hfr⟩ : ∃ fr, first L = fr := ⟨_, rfl⟩
  rw [hfr]
  have HF : Hid (first L = fr) := hfr
  have hf := hfr
  rw [hL] at hf
  simp only [first] at hf
  obtain ⟨p, hp⟩ : ∃ p, plainB x = p := ⟨_, rfl⟩
  have HP : Hid (plainB x = p) := hp
  rw [hp] at hf
  clear hfr hp
  cases p with
  | true =>
    rw [if_pos rfl] at hf
    subst hf
    clear hX hn hL h0
    go_enter Try.func30, Try.ntmps30
    go_wp2_with (first | (go_at_call 33; refine (goes33 _ _).mono ?_; rintro e w1 ⟨rfl, h1⟩; rw [h1, HP.out]; clear h1))
    go_ret2
    exact ⟨rfl, 0, rfl⟩
  | false =>
    rw [if_neg (by simp)] at hf
    by_cases hx : x.toNat = 37
    · rw [if_neg (by simp [hx])] at hf
      by_cases h3 : n < 3
      · have e : fr = (0, 0) := by
          match r, hL, hf with
          | [], _, hf => exact hf.symm
          | [_], _, hf => exact hf.symm
          | a :: b :: t, hL, _ => rw [hL] at hn; simp at hn; omega
        subst e
        have i3 : (n : Int) < 3 := by omega
        rw [hx] at i0
        clear hX hn hL h0 hf
        go_enter Try.func30, Try.ntmps30
        go_wp2_with (first | (go_at_call 33; refine (goes33 37 _).mono ?_; rintro e w1 ⟨rfl, h1⟩; rw [h1, show plainB 37 = false from by decide]; clear h1))
        go_ret2
        exact ⟨rfl, 0, rfl⟩
      · obtain ⟨a, b, t, hr⟩ : ∃ a b t, r = a :: b :: t := by
          match r, hL with
          | [], hL => rw [hL] at hn; simp at hn; omega
          | [_], hL => rw [hL] at hn; simp at hn; omega
          | a :: b :: t, _ => exact ⟨a, b, t, rfl⟩
        subst hr
        simp only at hf
        have i1 : ∀ wk, (Instr.index 9 (.string X) (.int .i64 1)).run Try.prog wk = .ok (.int .u8 (a.toNat : Int)) wk := by
          intro wk
          have := run_index9 L 1 (by omega) wk
          rw [hX] at this
          simp only [hL, List.getElem_cons_succ, List.getElem_cons_zero] at this
          exact this
        have i2 : ∀ wk, (Instr.index 9 (.string X) (.int .i64 2)).run Try.prog wk = .ok (.int .u8 (b.toNat : Int)) wk := by
          intro wk
          have := run_index9 L 2 (by omega) wk
          rw [hX] at this
          simp only [hL, List.getElem_cons_succ, List.getElem_cons_zero] at this
          exact this
        have i3 : ¬ (n : Int) < 3 := by omega
        rw [hx] at i0
        clear hX hn hL h0
        obtain ⟨ha, hha⟩ : ∃ v, hexI a = v := ⟨_, rfl⟩
        obtain ⟨hb, hhb⟩ : ∃ v, hexI b = v := ⟨_, rfl⟩
        have HAB : Hid (hexI a = ha ∧ hexI b = hb) := ⟨hha, hhb⟩
        go_enter Try.func30, Try.ntmps30
        go_wp2_with (first | (go_at_call 33; refine (goes33 37 _).mono ?_; rintro e w1 ⟨rfl, h1⟩; rw [h1, show plainB 37 = false from by decide]; clear h1))
        go_quiet ((go_at_call 41; exact Calls.quiet_of_same (index41 _ _)))
        rw [HAB.out.1, HAB.out.2]
        unfold hexI at hha hhb
        cases va : hexV a with
        | none =>
          rw [va] at hf hha
          subst hf; subst hha
          clear hhb va
          go_wp2_with fail
          go_ret2
          exact ⟨rfl, _, rfl⟩
        | some na =>
          have la := hex_lt va
          rw [va] at hf hha
          cases vb : hexV b with
          | none =>
            rw [vb] at hf hhb
            subst hf; subst hha; subst hhb
            have j1 : ¬ (na : Int) < 0 := by omega
            clear va vb
            go_wp2_with fail
            go_ret2
            exact ⟨rfl, _, rfl⟩
          | some nb =>
            have lb := hex_lt vb
            rw [vb] at hf hhb
            simp only at hf hha hhb
            subst hha; subst hhb
            have ht := two_nat la lb
            obtain ⟨c, hc⟩ : ∃ c, two na nb = c := ⟨_, rfl⟩
            rw [hc] at hf ht
            obtain ⟨q, hq⟩ : ∃ q, plainB c = q := ⟨_, rfl⟩
            have HQ : Hid (plainB c = q) := hq
            rw [hq] at hf
            have j1 : ¬ (na : Int) < 0 := by omega
            have j2 : ¬ (nb : Int) < 0 := by omega
            have ho := or_two la lb
            rw [← ht] at ho
            obtain ⟨m, hm⟩ : ∃ m, na * 16 = m := ⟨_, rfl⟩
            rw [hm] at ho
            have j3 : IntKind.i64.wrap ((na : Int) * 16) = (m : Int) := by rw [IntKind.wrap_i64]; omega
            have j4 : (na : Int) * 16 = (m : Int) := by omega
            have hcl := byte_lt c
            have j5 : IntKind.u8.wrap (c.toNat : Int) = (c.toNat : Int) := by simp [IntKind.wrap, IntKind.bits, IntKind.signed]; omega
            clear va vb hc hq hm ht
            cases q with
            | true =>
              rw [if_pos rfl] at hf
              subst hf
              go_wp2_with (first | (go_at_call 33; refine (goes33 c _).mono ?_; rintro e w1 ⟨rfl, h1⟩; rw [h1, HQ.out]; clear h1))
              go_ret2
              exact ⟨rfl, _, rfl⟩
            | false =>
              rw [if_neg (by simp)] at hf
              subst hf
              go_wp2_with (first | (go_at_call 33; refine (goes33 c _).mono ?_; rintro e w1 ⟨rfl, h1⟩; rw [h1, HQ.out]; clear h1))
              go_ret2
              exact ⟨rfl, _, rfl⟩
    · rw [if_pos hx] at hf
      subst hf
      have j1 : ¬ (x.toNat : Int) = 37 := by omega
      clear hX hn hL h0
      go_enter Try.func30, Try.ntmps30
      go_wp2_with (first | (go_at_call 33; refine (goes33 _ _).mono ?_; rintro e w1 ⟨rfl, h1⟩; rw [h1, HP.out]; clear h1))
      go_ret2
      exact ⟨rfl, 0, rfl⟩
end Go.Proofs.Ytahpkgglkibikaa
