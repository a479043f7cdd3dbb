/-
  Same, Size, At of a table.
-/
import Derived.Test.YtlehikdlkdbacaaX
namespace Go.Proofs.Ytlehikdlkdbacaa
open Go.RowKit Disk
open Names (cmpL keyB valueB)

theorem same37b (p q : Nat) (r s : PRow) (d : Bool) (w : World) (hp : RowAt w p r) (hq : RowAt w q s) (hd : decide (r = s) = d) :
    Calls Try.prog 37 #[.pointer (some ⟨p, 0, none⟩), .pointer (some ⟨q, 0, none⟩)] w fun e w' => e = .returned (.bool d) ∧ ∃ m, w' = w.drewN m := by
  subst hd
  refine (same37 p q r s w hp hq).mono ?_
  rintro e w1 ⟨rfl, rfl⟩
  exact ⟨rfl, 1, rfl⟩

set_option maxRecDepth 100000 in
set_option maxHeartbeats 4000000 in
theorem equal36 (a b : Value) (A B : List PRow) (w : World) (ha : Rows w a A) (hb : Rows w b B) :
    Calls Try.prog 36 #[a, b, .func (.func 37) #[] #[]] w fun e w' => e = .returned (.bool (decide (A = B))) ∧ ∃ m, w' = w.drewN m := by
  obtain ⟨ao, n, ca, rfl, hna, la, la2, HA⟩ := rows_open ha
  obtain ⟨bo, m, cb, rfl, hnb, lb, lb2, HB⟩ := rows_open hb
  have HN : Hid (A.length = n ∧ B.length = m) := ⟨hna, hnb⟩
  obtain ⟨D, hD⟩ : ∃ D, decide (A = B) = D := ⟨_, rfl⟩
  have HD : Hid (decide (A = B) = D) := hD
  rw [hD]
  clear ha hb hna hnb hD
  by_cases hnm : n = m
  · subst hnm
    go_enter Try.func36, Try.ntmps36
    go_wp2_with fail
    go_loopw [17] (fun i wr => ∃ (k q : Nat), k ≤ n ∧ i = .int .i64 (k : Int) ∧ wr = w.drewN q ∧ (∀ j (h1 : j < A.length) (h2 : j < B.length), j < k → A[j] = B[j])) (fun i _ => n - (intOf i).toNat)
    case atStart => exact ⟨0, 0, Nat.zero_le _, rfl, rfl, fun j _ _ h => absurd h (by omega)⟩
    case round =>
      obtain ⟨k, q, hk, rfl, rfl, hall⟩ := hrel
      have HL : Hid (∀ j (h1 : j < A.length) (h2 : j < B.length), j < k → A[j] = B[j]) := hall
      clear hall
      rcases Nat.lt_or_ge k n with hlt | hge
      · have ka : k < A.length := by rw [HN.out.1]; exact hlt
        have kb : k < B.length := by rw [HN.out.2]; exact hlt
        obtain ⟨b1, o1, p1, rfl, c1, d1⟩ := rows_row (HA.out.grown (grown_drewN _ q none)) k ka
        obtain ⟨b2, o2, p2, rfl, c2, d2⟩ := rows_row (HB.out.grown (grown_drewN _ q none)) k kb
        have HR : Hid (RowAt (w.drewN q) p1 A[k] ∧ RowAt (w.drewN q) p2 B[k]) := ⟨d1, d2⟩
        obtain ⟨dk, hdk⟩ : ∃ d, decide (A[k] = B[k]) = d := ⟨_, rfl⟩
        have HK : Hid (decide (A[k] = B[k]) = dk) := hdk
        have i0 : (0 : Int) ≤ (k : Int) := by omega
        have i1 : (k : Int) < (n : Int) := by omega
        clear d1 d2 hdk
        go_wp2_with fail
        refine (same37b p1 p2 A[k] B[k] dk _ HR.out.1 HR.out.2 HK.out).mono ?_
        rintro e w2 ⟨rfl, q2, hw2⟩
        rw [hw2]
        clear hw2
        cases dk with
        | true =>
          go_wp2_with fail
          go_roundw
          case rel =>
            refine ⟨k + 1, _, by omega, by go_num, rfl, fun j h1 h2 h3 => ?_⟩
            rcases Nat.lt_or_ge j k with h4 | h4
            · exact HL.out j h1 h2 h4
            · have : j = k := by omega
              subst this
              exact of_decide_eq_true HK.out
          case measure => simp [intOf]; omega
        | false =>
          go_wp2_with fail
          go_ret
          refine ⟨?_, _, rfl⟩
          rw [← HD.out]
          have hne : A ≠ B := fun e => by
            have := HK.out
            subst e
            simp at this
          simp [hne]
      · have hkn : k = n := by omega
        subst hkn
        go_wp2_with fail
        go_ret
        refine ⟨?_, _, rfl⟩
        have he : A = B := List.ext_getElem (by rw [HN.out.1, HN.out.2]) fun j h1 h2 => HL.out j h1 h2 (by rw [HN.out.1] at h1; exact h1)
        rw [← HD.out]
        simp [he]
  · have hi : ¬ (n : Int) = (m : Int) := by omega
    go_enter Try.func36, Try.ntmps36
    go_wp2_with fail
    go_ret
    have hne : A ≠ B := fun e => by
      have := HN.out
      subst e
      omega
    exact ⟨by rw [← HD.out]; simp [hne], 0, rfl⟩

set_option maxRecDepth 100000 in
set_option maxHeartbeats 4000000 in
theorem same11 (a b : Value) (i j : Bool) (A B : List PRow) (w : World) (ha : Tl w a i A) (hb : Tl w b j B) :
    Calls Try.prog 11 #[a, b] w fun e w' => e = .returned (.bool (decide (i = j) && decide (A = B))) ∧ ∃ m, w' = w.drewN m := by
  have HT : Hid (Tl w a i A ∧ Tl w b j B) := ⟨ha, hb⟩
  obtain ⟨D, hD⟩ : ∃ D, (decide (i = j) && decide (A = B)) = D := ⟨_, rfl⟩
  have HD : Hid ((decide (i = j) && decide (A = B)) = D) := hD
  rw [hD]
  clear ha hb hD
  by_cases h : i = j
  · subst h
    go_enter Try.func11, Try.ntmps11
    go_wp2_with fail
    refine (there34g a i A w HT.out.1).mono ?_
    rintro e w1 ⟨rfl, hw⟩
    rw [hw]
    clear hw
    go_wp2_with fail
    refine (there34g b i B w HT.out.2).mono ?_
    rintro e w1 ⟨rfl, hw⟩
    rw [hw]
    clear hw
    go_wp2_with fail
    refine (list35g a i A w HT.out.1).mono ?_
    rintro e w1 ⟨f, n, rfl, hn, hr, hw⟩
    rw [hw]
    have HA : Hid (Rows w (.slice f n n) A) := hr
    clear hw hr hn
    go_wp2_with fail
    refine (list35g b i B w HT.out.2).mono ?_
    rintro e w1 ⟨f2, n2, rfl, hn, hr, hw⟩
    rw [hw]
    have HB : Hid (Rows w (.slice f2 n2 n2) B) := hr
    clear hw hr hn
    go_wp2_with fail
    refine (equal36 _ _ A B w HA.out HB.out).mono ?_
    rintro e w1 ⟨rfl, q, hw⟩
    rw [hw]
    clear hw
    go_wp2_with fail
    go_ret
    exact ⟨by rw [← HD.out]; simp, _, rfl⟩
  · have hd : decide (i = j) = false := by simp [h]
    go_enter Try.func11, Try.ntmps11
    go_wp2_with fail
    refine (there34g a i A w HT.out.1).mono ?_
    rintro e w1 ⟨rfl, hw⟩
    rw [hw]
    clear hw
    go_wp2_with fail
    refine (there34g b j B w HT.out.2).mono ?_
    rintro e w1 ⟨rfl, hw⟩
    rw [hw]
    clear hw
    have HX : Hid (D = false) := by rw [Hid, ← HD.out, hd]; rfl
    rcases i with _ | _ <;> rcases j with _ | _
    · exact absurd rfl h
    · go_wp2_with fail
      go_ret
      exact ⟨by rw [HX.out]; rfl, 0, rfl⟩
    · go_wp2_with fail
      go_ret
      exact ⟨by rw [HX.out]; rfl, 0, rfl⟩
    · exact absurd rfl h
end Go.Proofs.Ytlehikdlkdbacaa
