/-
  The document's reader's Numbers.
-/
import Derived.Test.YtneppkbbnajpnaaL
namespace Go.Proofs.Ytneppkbbnajpnaa
open Go.RowKit

theorem rdNum_err {M : List UInt8} (h : scan 0 0 M = none) : (rdNum M).1 = 0 ∧ (rdNum M).2.1 = 4 := by rw [rdNum_none h]; exact ⟨rfl, rfl⟩

theorem OwnN.keptF {w w' : World} {B d : Nat} {v : Value} {xs : List Nat} (h : OwnN w B v xs) (hg : w.grownBy w' (some d)) (hd : d < B) : OwnN w' B v xs := h.keptB hg hd

section
variable (d : Nat) (ao : Option Addr) (cap k : Nat) (L : List UInt8) (most : Int) (w : World)

set_option maxRecDepth 100000 in
set_option maxHeartbeats 1000000 in
theorem numbers44_none (hr : RfB w d (.slice ao L.length cap) k) (hs : Seg w (.slice ao L.length cap) L) (hk : k ≤ L.length) (hn : scan 0 0 (L.drop k) = none) :
    Calls Try.prog 44 #[.pointer (some ⟨d, 0, none⟩), .int .i64 most] w fun e w' => e = .returned (.tuple #[.slice none 0 0, .int .i64 4]) ∧ RfB w' d (.slice ao L.length cap) k ∧ w.grownBy w' (some d) := by
  have h1 := hr.cell1
  have HC : Hid _ := number39_none d ao cap k L w hr hs hk hn
  have HR : Hid (RfB w d (.slice ao L.length cap) k) := hr
  clear hr hs hn
  go_enter Try.func44, Try.ntmps44
  go_wp2_with fail
  refine Calls.mono HC.out ?_
  rintro e w1 ⟨rfl, q, hq⟩
  have S1 : Hid (RfB w1 d (.slice ao L.length cap) k ∧ w.grownBy w1 (some d)) := by subst hq; exact ⟨RfB.kept HR.out (grown_drewN w q none) (by simp), grown_drewN w q _⟩
  have f1 := RfB.cell1 S1.out.1
  have fz := RfB.free S1.out.1 1
  clear hq
  go_wp2_with fail
  refine wp_loop_rounds 1 ?_
  rw [rounds_succ]
  go_wp2_with fail
  go_ret2
  exact ⟨rfl, RfB.store S1.out.1 k, grown_trans S1.out.2 (grown_setCell _ d 1 _)⟩

set_option maxRecDepth 100000 in
set_option maxHeartbeats 1000000 in
theorem numbers44_long (n m : Nat) (hr : RfB w d (.slice ao L.length cap) k) (hs : Seg w (.slice ao L.length cap) L) (hk : k ≤ L.length) (h0 : 0 ≤ most) (hm : most ≤ 9223372036854775807) (hn : scan 0 0 (L.drop k) = some (n, m)) (hl : most < (n : Int)) :
    Calls Try.prog 44 #[.pointer (some ⟨d, 0, none⟩), .int .i64 most] w fun e w' => e = .returned (.tuple #[.slice none 0 0, .int .i64 3]) ∧ RfB w' d (.slice ao L.length cap) k ∧ w.grownBy w' (some d) := by
  have h1 := hr.cell1
  have HC : Hid _ := number39_some d ao cap k L n m w hr hs hk hn
  have HR : Hid (RfB w d (.slice ao L.length cap) k) := hr
  have hn64 : n ≤ 18446744073709551615 := by have := (scan_bound _ 0 0 (by omega) (by simp) n m hn).1; omega
  clear hr hs hn
  go_enter Try.func44, Try.ntmps44
  go_wp2_with fail
  refine Calls.mono HC.out ?_
  rintro e w1 ⟨rfl, q, hq⟩
  have S1 : Hid (RfB w1 d (.slice ao L.length cap) (k + m) ∧ w.grownBy w1 (some d)) := by subst hq; exact ⟨RfB.store (RfB.kept HR.out (grown_drewN w q none) (by simp)) (k + m), grown_trans (grown_drewN w q _) (grown_setCell _ d 1 _)⟩
  have f1 := RfB.cell1 S1.out.1
  have fz := RfB.free S1.out.1 1
  clear hq
  go_wp2_with fail
  refine wp_loop_rounds 1 ?_
  rw [rounds_succ]
  go_wp2_with fail
  go_ret2
  exact ⟨rfl, RfB.store S1.out.1 k, grown_trans S1.out.2 (grown_setCell _ d 1 _)⟩

set_option maxRecDepth 100000 in
set_option maxHeartbeats 1000000 in
theorem numbers44_ok (n m : Nat) (ys : List Nat) (N : List UInt8) (hr : RfB w d (.slice ao L.length cap) k) (hs : Seg w (.slice ao L.length cap) L) (hk : k ≤ L.length) (h0 : 0 ≤ most) (hm : most ≤ 9223372036854775807) (hn : scan 0 0 (L.drop k) = some (n, m)) (hl : ¬ most < (n : Int)) (hz : L.length ≤ 1048576) (hf : rdMany n (L.drop (k + m)) = some (ys, N)) :
    Calls Try.prog 44 #[.pointer (some ⟨d, 0, none⟩), .int .i64 most] w fun e w' => ∃ v, e = .returned (.tuple #[v, .int .i64 0]) ∧ OwnN w' w.heap.size v ys ∧ RfPost d (.slice ao L.length cap) L N w w' := by
  have h1 := hr.cell1
  have HC : Hid _ := number39_some d ao cap k L n m w hr hs hk hn
  have HR : Hid (RfB w d (.slice ao L.length cap) k) := hr
  have HS : Hid (Seg w (.slice ao L.length cap) L) := hs
  have hb := scan_bound _ 0 0 (by omega) (by simp) n m hn
  have hn64 : n ≤ 18446744073709551615 := by omega
  have hkm : k + m ≤ L.length := by simp at hb; omega
  have hdl := hr.lt
  have HF : Hid _ := hf
  clear hr hs hn hb hf
  go_enter Try.func44, Try.ntmps44
  go_wp2_with fail
  refine Calls.mono HC.out ?_
  rintro e w1 ⟨rfl, q, hq⟩
  have S1 : Hid (RfB w1 d (.slice ao L.length cap) (k + m) ∧ w.grownBy w1 (some d)) := by subst hq; exact ⟨RfB.store (RfB.kept HR.out (grown_drewN w q none) (by simp)) (k + m), grown_trans (grown_drewN w q _) (grown_setCell _ d 1 _)⟩
  clear hq HC
  go_wp2_with fail
  go_loopw [8, 9, 10] (fun er v i wr => ∃ (j : Nat) (xs : List Nat) (M : List UInt8) (kj : Nat), j ≤ n ∧ er = .int .i64 0 ∧ i = .int .u64 j ∧ Hid (rdMany j (L.drop (k + m)) = some (xs, M)) ∧ OwnN wr w.heap.size v xs ∧ kj ≤ L.length ∧ Hid (L.drop kj = M) ∧ RfB wr d (.slice ao L.length cap) kj ∧ w.grownBy wr (some d)) (fun _ _ i _ => n - (intOf i).toNat)
  case atStart => exact ⟨0, [], L.drop (k + m), k + m, by omega, rfl, rfl, rfl, OwnN.nil _ _, hkm, rfl, S1.out.1, S1.out.2⟩
  case round =>
    obtain ⟨j, xs, M, kj, hj, rfl, rfl, HJ, hown, hkj, HK, hrf, hg⟩ := hrel
    have hln := rdMany_len j _ xs M HJ.out
    by_cases hlt : j < n
    · have hltb : decide ((j : Int) < (n : Int)) = true := by simp; omega
      cases hsc : scan 0 0 M with
      | none =>
        exfalso
        have q1 : rdMany (j + 1) (L.drop (k + m)) = none := by rw [rdMany, HJ.out]; simp only [hsc]
        have q2 := rdMany_none (n - (j + 1)) (j + 1) _ q1
        rw [show j + 1 + (n - (j + 1)) = n by omega, HF.out] at q2
        cases q2
      | some z =>
        obtain ⟨x, kx⟩ := z
        have hC := number39_some d ao cap kj L x kx wr hrf (Seg.grownF HS.out HR.out hg) hkj (by rw [HK.out]; exact hsc)
        have HC : Hid _ := hC
        have HJ1 : Hid (rdMany (j + 1) (L.drop (k + m)) = some (xs ++ [x], M.drop kx)) := by unfold Hid; rw [rdMany, HJ.out]; simp only [hsc]
        have hbx := scan_bound M 0 0 (by omega) (by simp) x kx hsc
        have hx64 : x ≤ 18446744073709551615 := by omega
        have hkx : kj + kx ≤ L.length := by
          have h3 := congrArg List.length HK.out
          simp at h3; omega
        have HK1 : Hid (L.drop (kj + kx) = M.drop kx) := by unfold Hid; rw [← HK.out, List.drop_drop]
        have hxl : xs.length ≤ 1048576 := by
          have h4 : (L.drop (k + m)).length ≤ L.length := by simp
          omega
        have hsz := hg.size
        clear hC hsc hbx hln HK
        go_wp2_with fail
        refine Calls.mono HC.out ?_
        rintro e w2 ⟨rfl, q2, hq2⟩
        have S2 : Hid (OwnN w2 w.heap.size u9 xs ∧ RfB w2 d (.slice ao L.length cap) (kj + kx) ∧ w.grownBy w2 (some d) ∧ w.heap.size ≤ w2.heap.size) := by
          have gg : wr.grownBy w2 (some d) := by subst hq2; exact grown_trans (grown_drewN wr q2 _) (grown_setCell _ d 1 _)
          refine ⟨hown.keptF gg hdl, ?_, grown_trans hg gg, Nat.le_trans hsz gg.size⟩
          subst hq2
          exact RfB.store (RfB.kept hrf (grown_drewN wr q2 none) (by simp)) (kj + kx)
        clear hq2 hown hrf hg HC hsz
        go_wp2_with (at_builtin; refine app83 _ rfl (.tmp 45) (.tmp 47) rfl w.heap.size u9 xs x rfl rfl S2.out.1 hxl S2.out.2.2.2 ?_)
        intro v' w3 hown' hg'
        have S3 : Hid (OwnN w3 w.heap.size v' (xs ++ [x]) ∧ RfB w3 d (.slice ao L.length cap) (kj + kx) ∧ w.grownBy w3 (some d)) := by
          obtain ⟨q1, q2, q3, q4⟩ := S2.out
          have ga := World.grownBy_alloc w2 (.cells #[.int .u64 (x : Int)] 22) none
          exact ⟨hown', (q2.kept ga (by simp)).kept hg' (own_ne q1 hdl), grown_new (grown_trans q3 (grown_weak ga _)) hg' (by intro y hy; have := q1.lt y hy; omega)⟩
        clear hown' hg' S2
        go_wp2_with fail
        obtain ⟨p1, p2, p3⟩ := S3.out
        go_roundw
        case rel => exact ⟨j + 1, xs ++ [x], M.drop kx, kj + kx, by omega, rfl, by go_num, HJ1, p1, hkx, HK1, p2, p3⟩
        case measure => simp [intOf]; omega
    · have hltb : decide ((j : Int) < (n : Int)) = false := by simp; omega
      have e : j = n := by omega
      subst e
      have e2 := HF.out
      rw [HJ.out] at e2
      simp at e2
      obtain ⟨rfl, rfl⟩ := e2
      have S2 : Hid (OwnN wr w.heap.size u9 xs ∧ RfPost d (.slice ao L.length cap) L M w wr) := ⟨hown, kj, hkj, HK.out, hrf, hg⟩
      clear hown hrf hg hln
      go_wp2_with fail
      go_ret2
      exact ⟨_, rfl, S2.out⟩

set_option maxRecDepth 100000 in
set_option maxHeartbeats 1000000 in
theorem numbers44_fail (n m : Nat) (hr : RfB w d (.slice ao L.length cap) k) (hs : Seg w (.slice ao L.length cap) L) (hk : k ≤ L.length) (h0 : 0 ≤ most) (hm : most ≤ 9223372036854775807) (hn : scan 0 0 (L.drop k) = some (n, m)) (hl : ¬ most < (n : Int)) (hz : L.length ≤ 1048576) (hf : rdMany n (L.drop (k + m)) = none) :
    Calls Try.prog 44 #[.pointer (some ⟨d, 0, none⟩), .int .i64 most] w fun e w' => e = .returned (.tuple #[.slice none 0 0, .int .i64 4]) ∧ RfB w' d (.slice ao L.length cap) k ∧ w.grownBy w' (some d) := by
  have h1 := hr.cell1
  have HC : Hid _ := number39_some d ao cap k L n m w hr hs hk hn
  have HR : Hid (RfB w d (.slice ao L.length cap) k) := hr
  have HS : Hid (Seg w (.slice ao L.length cap) L) := hs
  have hb := scan_bound _ 0 0 (by omega) (by simp) n m hn
  have hn64 : n ≤ 18446744073709551615 := by omega
  have hkm : k + m ≤ L.length := by simp at hb; omega
  have hdl := hr.lt
  have HF : Hid _ := hf
  clear hr hs hn hb hf
  go_enter Try.func44, Try.ntmps44
  go_wp2_with fail
  refine Calls.mono HC.out ?_
  rintro e w1 ⟨rfl, q, hq⟩
  have S1 : Hid (RfB w1 d (.slice ao L.length cap) (k + m) ∧ w.grownBy w1 (some d)) := by subst hq; exact ⟨RfB.store (RfB.kept HR.out (grown_drewN w q none) (by simp)) (k + m), grown_trans (grown_drewN w q _) (grown_setCell _ d 1 _)⟩
  clear hq HC
  go_wp2_with fail
  go_loopw [8, 9, 10] (fun er v i wr => ∃ (j : Nat) (xs : List Nat) (M : List UInt8) (kj : Nat), j ≤ n ∧ i = .int .u64 j ∧ ((er = .int .i64 0 ∧ Hid (rdMany j (L.drop (k + m)) = some (xs, M)) ∧ kj ≤ L.length ∧ Hid (L.drop kj = M)) ∨ er = .int .i64 4) ∧ OwnN wr w.heap.size v xs ∧ RfB wr d (.slice ao L.length cap) kj ∧ w.grownBy wr (some d)) (fun _ _ i _ => n - (intOf i).toNat)
  case atStart => exact ⟨0, [], L.drop (k + m), k + m, by omega, rfl, .inl ⟨rfl, rfl, hkm, rfl⟩, OwnN.nil _ _, S1.out.1, S1.out.2⟩
  case round =>
    obtain ⟨j, xs, M, kj, hj, rfl, hcase, hown, hrf, hg⟩ := hrel
    rcases hcase with ⟨rfl, HJ, hkj, HK⟩ | rfl
    · have hln := rdMany_len j _ xs M HJ.out
      by_cases hlt : j < n
      · have hltb : decide ((j : Int) < (n : Int)) = true := by simp; omega
        cases hsc : scan 0 0 M with
        | none =>
          have hC := number39_none d ao cap kj L wr hrf (Seg.grownF HS.out HR.out hg) hkj (by rw [HK.out]; exact hsc)
          have HC : Hid _ := hC
          have hxl : xs.length ≤ 1048576 := by
            have h4 : (L.drop (k + m)).length ≤ L.length := by simp
            omega
          have hsz := hg.size
          clear hC hsc hln HK
          go_wp2_with fail
          refine Calls.mono HC.out ?_
          rintro e w2 ⟨rfl, q2, hq2⟩
          have S2 : Hid (OwnN w2 w.heap.size u9 xs ∧ RfB w2 d (.slice ao L.length cap) kj ∧ w.grownBy w2 (some d) ∧ w.heap.size ≤ w2.heap.size) := by
            have gg : wr.grownBy w2 (some d) := by subst hq2; exact grown_drewN wr q2 _
            refine ⟨hown.keptF gg hdl, ?_, grown_trans hg gg, Nat.le_trans hsz gg.size⟩
            subst hq2
            exact RfB.kept hrf (grown_drewN wr q2 none) (by simp)
          clear hq2 hown hrf hg HC hsz
          go_wp2_with (at_builtin; refine app83 _ rfl (.tmp 45) (.tmp 47) rfl w.heap.size u9 xs 0 rfl rfl S2.out.1 hxl S2.out.2.2.2 ?_)
          intro v' w3 hown' hg'
          have S3 : Hid (OwnN w3 w.heap.size v' (xs ++ [0]) ∧ RfB w3 d (.slice ao L.length cap) kj ∧ w.grownBy w3 (some d)) := by
            obtain ⟨q1, q2, q3, q4⟩ := S2.out
            have ga := World.grownBy_alloc w2 (.cells #[.int .u64 ((0 : Nat) : Int)] 22) none
            exact ⟨hown', (q2.kept ga (by simp)).kept hg' (own_ne q1 hdl), grown_new (grown_trans q3 (grown_weak ga _)) hg' (by intro y hy; have := q1.lt y hy; omega)⟩
          clear hown' hg' S2
          go_wp2_with fail
          obtain ⟨p1, p2, p3⟩ := S3.out
          go_roundw
          case rel => exact ⟨j + 1, xs ++ [0], [], kj, by omega, by go_num, .inr rfl, p1, p2, p3⟩
          case measure => simp [intOf]; omega
        | some z =>
          obtain ⟨x, kx⟩ := z
          have hC := number39_some d ao cap kj L x kx wr hrf (Seg.grownF HS.out HR.out hg) hkj (by rw [HK.out]; exact hsc)
          have HC : Hid _ := hC
          have HJ1 : Hid (rdMany (j + 1) (L.drop (k + m)) = some (xs ++ [x], M.drop kx)) := by unfold Hid; rw [rdMany, HJ.out]; simp only [hsc]
          have hbx := scan_bound M 0 0 (by omega) (by simp) x kx hsc
          have hx64 : x ≤ 18446744073709551615 := by omega
          have hkx : kj + kx ≤ L.length := by
            have h3 := congrArg List.length HK.out
            simp at h3; omega
          have HK1 : Hid (L.drop (kj + kx) = M.drop kx) := by unfold Hid; rw [← HK.out, List.drop_drop]
          have hxl : xs.length ≤ 1048576 := by
            have h4 : (L.drop (k + m)).length ≤ L.length := by simp
            omega
          have hsz := hg.size
          clear hC hsc hbx hln HK
          go_wp2_with fail
          refine Calls.mono HC.out ?_
          rintro e w2 ⟨rfl, q2, hq2⟩
          have S2 : Hid (OwnN w2 w.heap.size u9 xs ∧ RfB w2 d (.slice ao L.length cap) (kj + kx) ∧ w.grownBy w2 (some d) ∧ w.heap.size ≤ w2.heap.size) := by
            have gg : wr.grownBy w2 (some d) := by subst hq2; exact grown_trans (grown_drewN wr q2 _) (grown_setCell _ d 1 _)
            refine ⟨hown.keptF gg hdl, ?_, grown_trans hg gg, Nat.le_trans hsz gg.size⟩
            subst hq2
            exact RfB.store (RfB.kept hrf (grown_drewN wr q2 none) (by simp)) (kj + kx)
          clear hq2 hown hrf hg HC hsz
          go_wp2_with (at_builtin; refine app83 _ rfl (.tmp 45) (.tmp 47) rfl w.heap.size u9 xs x rfl rfl S2.out.1 hxl S2.out.2.2.2 ?_)
          intro v' w3 hown' hg'
          have S3 : Hid (OwnN w3 w.heap.size v' (xs ++ [x]) ∧ RfB w3 d (.slice ao L.length cap) (kj + kx) ∧ w.grownBy w3 (some d)) := by
            obtain ⟨q1, q2, q3, q4⟩ := S2.out
            have ga := World.grownBy_alloc w2 (.cells #[.int .u64 ((x : Nat) : Int)] 22) none
            exact ⟨hown', (q2.kept ga (by simp)).kept hg' (own_ne q1 hdl), grown_new (grown_trans q3 (grown_weak ga _)) hg' (by intro y hy; have := q1.lt y hy; omega)⟩
          clear hown' hg' S2
          go_wp2_with fail
          obtain ⟨p1, p2, p3⟩ := S3.out
          go_roundw
          case rel => exact ⟨j + 1, xs ++ [x], M.drop kx, kj + kx, by omega, by go_num, .inl ⟨rfl, HJ1, hkx, HK1⟩, p1, p2, p3⟩
          case measure => simp [intOf]; omega
      · exfalso
        have e : j = n := by omega
        subst e
        have e2 := HF.out
        rw [HJ.out] at e2
        cases e2
    · have f1 := RfB.cell1 hrf
      have fz := RfB.free hrf 1
      have S2 : Hid (RfB wr d (.slice ao L.length cap) kj ∧ w.grownBy wr (some d)) := ⟨hrf, hg⟩
      clear hown hrf hg
      go_wp2_with fail
      go_ret2
      exact ⟨rfl, RfB.store S2.out.1 k, grown_trans S2.out.2 (grown_setCell _ d 1 _)⟩
end
end Go.Proofs.Ytneppkbbnajpnaa
