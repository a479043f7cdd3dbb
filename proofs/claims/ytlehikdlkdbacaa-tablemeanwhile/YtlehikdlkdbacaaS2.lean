/-
  Rank's question, Search, Rank.
-/
import Derived.Test.YtlehikdlkdbacaaS
namespace Go.Proofs.Ytlehikdlkdbacaa
open Go.RowKit Disk
open Names (cmpL)

theorem cmp61q (a b : Value) (A B : List UInt8) (w : World) (n : Nat) (ha : Seg w a A) (hb : Seg w b B) :
    Calls Try.prog 61 #[a, b] (w.drewN n) fun e w'' => e = .returned (.int .i64 (cmpL A B)) ∧ ∃ m, w'' = w.drewN m :=
  Calls.quiet_of (Names.cmp26 a b A B _ (Names.seg_drewN ha n) (Names.seg_drewN hb n))

set_option maxRecDepth 100000 in
set_option maxHeartbeats 4000000 in
theorem ask63 (p q : Nat) (v kv : Value) (l : List PRow) (key : Bs) (i : Nat) (hi : i < l.length) (w : World) (hp : Blk w p 66 #[v]) (hq : Blk w q 30 #[kv]) (hv : Rows w v l) (hk : Seg w kv key) :
    Calls Try.prog 63 #[.int .i64 (i : Int), .pointer (some ⟨p, 0, none⟩), .pointer (some ⟨q, 0, none⟩)] w fun e w' => e = .returned (.bool (decide (0 ≤ cmpL l[i].1 key))) ∧ ∃ m, w' = w.drewN m := by
  obtain ⟨ao, n, cap, rfl, hn, h1, h2, HR⟩ := rows_open hv
  obtain ⟨b, off, pr, k, x, rfl, hc, hb, hs1, hs2⟩ := rows_at HR.out i hi
  obtain ⟨A, hA⟩ : ∃ A, l[i].1 = A := ⟨_, rfl⟩
  rw [hA] at hs1 ⊢
  have hp0 := hp.cell 0
  have hq0 := hq.cell 0
  have hb0 := hb.cell 0
  simp at hp0 hq0 hb0
  have i0 : (0 : Int) ≤ (i : Int) := by omega
  have i1 : (i : Int) < (n : Int) := by omega
  have i2 : i < n := by omega
  clear hp hq hv hb hn hA HR hs2 hi
  go_enter Try.func63, Try.ntmps63
  go_wp2_with fail
  go_quiet ((go_at_call 61; exact cmp61q _ _ _ _ _ _ (by assumption) (by assumption)))
  go_wp2_with fail
  go_ret
  exact ⟨by simp, _, rfl⟩

theorem half_facts (i j n : Nat) (hi : i < j) (_hj : j ≤ n) (_hn : n ≤ 140737488355328) : ∃ h, (i + j) / 2 = h ∧ i ≤ h ∧ h < j := ⟨_, rfl, by omega, by omega⟩

set_option maxRecDepth 100000 in
set_option maxHeartbeats 4000000 in
theorem search62 (p q : Nat) (v kv : Value) (l : List PRow) (key : Bs) (n : Nat) (hn : l.length = n) (hz : n ≤ 140737488355328) (hr : Rise l) (w : World) (hp : Blk w p 66 #[v]) (hq : Blk w q 30 #[kv]) (hv : Rows w v l) (hk : Seg w kv key) :
    Calls Try.prog 62 #[.int .i64 (n : Int), .func (.func 63) #[] #[.pointer (some ⟨p, 0, none⟩), .pointer (some ⟨q, 0, none⟩)]] w fun e w' => e = .returned (.int .i64 (rankL l key : Nat)) ∧ ∃ m, w' = w.drewN m := by
  have HN : Hid (l.length = n) := hn
  have HQ : Hid (∀ (i : Nat) (hi : i < l.length) (m : Nat), Calls Try.prog 63 #[.int .i64 (i : Int), .pointer (some ⟨p, 0, none⟩), .pointer (some ⟨q, 0, none⟩)] (w.drewN m) fun e w' => e = .returned (.bool (decide (0 ≤ cmpL l[i].1 key))) ∧ ∃ m, w' = w.drewN m) := fun i hi m => Calls.quiet_of (ask63 p q v kv l key i hi _ (hp.grown (grown_drewN _ _ none) (by simp)) (hq.grown (grown_drewN _ _ none) (by simp)) (hv.grown (grown_drewN _ _ _)) (hk.grown (grown_drewN _ _ _)))
  have HR : Hid (Rise l) := hr
  clear hn hr hp hq hv hk
  go_enter Try.func62, Try.ntmps62
  go_wp2_with fail
  go_loopw [5, 6] (fun x y wr => ∃ (i j m : Nat), x = .int .i64 (i : Int) ∧ y = .int .i64 (j : Int) ∧ wr = w.drewN m ∧ i ≤ j ∧ j ≤ n ∧ (∀ (a : Nat) (ha : a < l.length), a < i → cmpL l[a].1 key < 0) ∧ (∀ ha : j < l.length, ¬ cmpL l[j].1 key < 0)) (fun x y _ => (intOf y).toNat - (intOf x).toNat)
  case atStart => exact ⟨0, n, 0, rfl, rfl, rfl, Nat.zero_le _, Nat.le_refl _, fun a _ h => absurd h (by omega), fun h => absurd h (by rw [HN.out]; omega)⟩
  case round =>
    obtain ⟨i, j, m, rfl, rfl, rfl, hij, hjn, ha, hb⟩ := hrel
    have HA : Hid (∀ (a : Nat) (ha : a < l.length), a < i → cmpL l[a].1 key < 0) := ha
    have HB : Hid (∀ ha : j < l.length, ¬ cmpL l[j].1 key < 0) := hb
    clear ha hb
    rcases Nat.lt_or_ge i j with hlt | hge
    · have h0 : (i : Int) < (j : Int) := by omega
      obtain ⟨h, eh, h1, h2⟩ := half_facts i j n hlt hjn hz
      have HE : Hid ((i + j) / 2 = h) := eh
      clear eh
      go_wp2_with fail
      rw [show ((i : Int) + (j : Int)) / 2 = (h : Int) from by rw [← HE.out]; omega]
      refine (HQ.out h (by rw [HN.out]; omega) m).mono ?_
      rintro e w2 ⟨rfl, m2, hw2⟩
      subst hw2
      obtain ⟨c, hc⟩ : ∃ c, cmpL (l[h]'(by rw [HN.out]; omega)).1 key = c := ⟨_, rfl⟩
      have HC : Hid (cmpL (l[h]'(by rw [HN.out]; omega)).1 key = c) := hc
      rw [hc]
      clear hc
      by_cases hneg : c < 0
      · have hd : decide (0 ≤ c) = false := decide_eq_false (by omega)
        rw [hd]
        go_wp2_with fail
        go_roundw
        case rel =>
          refine ⟨h + 1, j, m2, by simp, rfl, rfl, by omega, hjn, fun a ha hlt => ?_, by have := HB.out; intro ha; have := this ha; omega⟩
          rcases Nat.lt_or_ge a h with h3 | h3
          · exact rise_below (j := h) HR.out ha (by rw [HN.out]; omega) (by omega) (by rw [HC.out]; exact hneg)
          · have : a = h := by omega
            subst this
            rw [HC.out]
            exact hneg
        case measure => simp [intOf]; omega
      · have hd : decide (0 ≤ c) = true := decide_eq_true (by omega)
        rw [hd]
        go_wp2_with fail
        go_roundw
        case rel => exact ⟨i, h, m2, rfl, rfl, rfl, by omega, by omega, HA.out, fun ha => by rw [HC.out]; omega⟩
        case measure => simp [intOf]; omega
    · have : i = j := by omega
      subst this
      go_wp2_with fail
      go_ret
      exact ⟨by rw [rank_unique (key := key) (k := i) (by rw [HN.out]; omega) HA.out (fun h => by have := HB.out h; omega)]; rfl, _, rfl⟩

set_option maxRecDepth 100000 in
set_option maxHeartbeats 4000000 in
theorem rank25 (tv : Value) (is : Bool) (kv : Value) (l : List PRow) (key : Bs) (hr : Rise l) (hz : l.length ≤ 1000000) (w : World) (ht : Tl w tv is l) (hk : Seg w kv key) :
    Calls Try.prog 25 #[tv, kv] w fun e w' => e = .returned (.int .i64 (rankL l key : Nat)) ∧ w.grownBy w' none := by
  have HT : Hid (Tl w tv is l) := ht
  obtain ⟨ak, nk, ck, rfl, _, _, HK⟩ := Names.seg_open hk
  have HR : Hid (Rise l) := hr
  have HZ : Hid (l.length ≤ 1000000) := hz
  clear ht hk hr hz
  go_enter Try.func25, Try.ntmps25
  go_wp2_with fail
  obtain ⟨w1, hw1, H1⟩ := al w #[.slice ak nk ck] 30
  rw [hw1]
  clear hw1
  refine (list35g tv is l w1 (HT.out.grown H1.out.2.1)).mono ?_
  rintro e w2 ⟨f, n, rfl, hn, hrw, hw2⟩
  rw [hw2]
  clear hw2
  have HN : Hid (n = l.length ∧ n ≤ 140737488355328) := ⟨hn, by have := HZ.out; omega⟩
  have HW : Hid (Rows w1 (.slice f n n) l) := hrw
  clear hn hrw
  go_wp2_with fail
  obtain ⟨w2, hw2, H2⟩ := al w1 #[.slice f n n] 66
  rw [hw2]
  clear hw2
  refine (search62 w1.heap.size w.heap.size _ _ l key n HN.out.1.symm HN.out.2 HR.out w2 H2.out.1 (H1.out.1.grown H2.out.2.1 (by simp)) (HW.out.grown H2.out.2.1) (HK.out.grown (grown_trans H1.out.2.1 H2.out.2.1))).mono ?_
  rintro e w3 ⟨rfl, m, hw3⟩
  rw [hw3]
  clear hw3
  go_wp2_with fail
  go_ret
  exact ⟨rfl, grown_trans (grown_trans H1.out.2.1 H2.out.2.1) (grown_drewN _ _ _)⟩
end Go.Proofs.Ytlehikdlkdbacaa
