/-
  Copy, Same, Size, At of a table.
-/
import Derived.Test.YtlehikdlkdbacaaU
import Derived.Test.YtlehikdlkdbacaaJg
namespace Go.Proofs.Ytlehikdlkdbacaa
open Go.RowKit Disk
open Names (cmpL keyB valueB)

set_option maxRecDepth 100000 in
set_option maxHeartbeats 4000000 in
theorem copy10 (b : Nat) (l : List PRow) (w : World) (ht : Tb w b l) :
    Calls Try.prog 10 #[.pointer (some ⟨b, 0, none⟩)] w fun e w' => e = .returned (.pointer (some ⟨w.heap.size, 0, none⟩)) ∧ Tb w' w.heap.size l ∧ w.grownBy w' none := by
  have HT : Hid (Tl w (.pointer (some ⟨b, 0, none⟩)) true l) := ht.tl
  clear ht
  go_enter Try.func10, Try.ntmps10
  go_wp2_with (go_at_call 34; refine (there34g _ true l w HT.out).mono ?_; rintro e w1 ⟨rfl, hw⟩; rw [hw]; clear hw)
  refine (list35g _ true l w HT.out).mono ?_
  rintro e w1 ⟨f, n, rfl, hn, hr, hw⟩
  rw [hw]
  have HR : Hid (Rows w (.slice f n n) l) := hr
  clear hw hr hn
  go_wp2_with fail
  obtain ⟨w1, hw1, H1⟩ := al w #[.bool true, .slice f n n] 68
  rw [hw1]
  clear hw1
  go_wp2_with fail
  go_ret
  exact ⟨rfl, ⟨_, H1.out.1, HR.out.grown H1.out.2.1⟩, H1.out.2.1⟩
set_option maxHeartbeats 4000000 in
theorem copy10_no (v : Value) (l : List PRow) (w : World) (ht : Tl w v false l) : Calls Try.prog 10 #[v] w fun e w' => e = .returned (.pointer none) ∧ w' = w := by
  have HT : Hid (Tl w v false l) := ht
  clear ht
  go_enter Try.func10, Try.ntmps10
  go_wp2_with (go_at_call 34; refine (there34g _ false l w HT.out).mono ?_; rintro e w1 ⟨rfl, hw⟩; rw [hw]; clear hw)
  go_ret
  exact ⟨rfl, rfl⟩

set_option maxHeartbeats 4000000 in
theorem equal66 (a b : Value) (A B : Bs) (w : World) (ha : Seg w a A) (hb : Seg w b B) : Calls Try.prog 66 #[a, b] w fun e w' => e = .returned (.bool (decide (A = B))) ∧ w' = w := by
  have s1 := seg_str ha
  have s2 := seg_str hb
  obtain ⟨ao, na, ca, rfl, _, _, _⟩ := Names.seg_open ha
  obtain ⟨bo, nb, cb, rfl, _, _, _⟩ := Names.seg_open hb
  clear ha hb
  have he : (A == B) = decide (A = B) := by
    by_cases h : A = B
    · subst h; simp
    · simp [h]
  go_enter Try.func66, Try.ntmps66
  go_wp2_with fail
  go_ret
  refine ⟨?_, rfl⟩
  rw [← he]
  simp

theorem equal66b (a b : Value) (A B : Bs) (d : Bool) (w : World) (ha : Seg w a A) (hb : Seg w b B) (hd : decide (A = B) = d) : Calls Try.prog 66 #[a, b] w fun e w' => e = .returned (.bool d) ∧ w' = w := by
  subst hd
  exact equal66 a b A B w ha hb

set_option maxRecDepth 100000 in
set_option maxHeartbeats 4000000 in
theorem same37 (p q : Nat) (r s : PRow) (w : World) (hp : RowAt w p r) (hq : RowAt w q s) :
    Calls Try.prog 37 #[.pointer (some ⟨p, 0, none⟩), .pointer (some ⟨q, 0, none⟩)] w fun e w' => e = .returned (.bool (decide (r = s))) ∧ w' = w.drew := by
  obtain ⟨k, v, hb, hk, hv⟩ := hp
  obtain ⟨k', v', hb', hk', hv'⟩ := hq
  obtain ⟨A, B⟩ := r
  obtain ⟨A', B'⟩ := s
  dsimp only at hk hv hk' hv'
  have HS : Hid (Seg w.drew k A ∧ Seg w.drew v B ∧ Seg w.drew k' A' ∧ Seg w.drew v' B') := ⟨hk.seg.grown (grown_drew _ _), hv.seg.grown (grown_drew _ _), hk'.seg.grown (grown_drew _ _), hv'.seg.grown (grown_drew _ _)⟩
  have HM : Hid (∀ y : World, y = w.drew → y.cell? ⟨p, 0, none⟩ = some k ∧ y.cell? ⟨p, 1, none⟩ = some v ∧ y.cell? ⟨q, 0, none⟩ = some k' ∧ y.cell? ⟨q, 1, none⟩ = some v') := fun y hy => by
    subst hy
    exact ⟨(hb.grown (grown_drew _ none) (by simp)).cell 0, (hb.grown (grown_drew _ none) (by simp)).cell 1, (hb'.grown (grown_drew _ none) (by simp)).cell 0, (hb'.grown (grown_drew _ none) (by simp)).cell 1⟩
  obtain ⟨dB, hdB⟩ : ∃ d, decide (B = B') = d := ⟨_, rfl⟩
  have HD : Hid (decide (B = B') = dB) := hdB
  clear hdB
  have HE : Hid (decide ((A, B) = (A', B')) = (decide (A = A') && decide (B = B'))) := by simp [Hid]
  clear hb hb' hk hv hk' hv'
  generalize hwd : w.drew = wd at HS HM ⊢
  have HW : Hid (w.drew = wd) := hwd
  clear hwd
  by_cases h : A = A'
  · subst h
    go_enter Try.func37, Try.ntmps37
    go_wp2_with fail
    refine wp_region_noPanic ?_
    refine wp_region_hold 1000 (fun y => y = wd) (by kernel_rfl) ?_
    rw [HW.out]
    refine wpHold_take (i := 0) (v := _) (rfl) rfl rfl (by kernel_rfl) (by kernel_rfl) (by kernel_rfl) (by kernel_rfl) (by kernel_rfl) (fun _ _ _ h => h) (by rfl) (fun wk hk => by have hk2 : wk = wd := hk; clear hk; subst hk2; obtain ⟨m0, m1, m2, m3⟩ := HM.out _ rfl; go_simp; try rfl) ?_
    try simp only [Act.put, List.setIfInBounds_toArray, List.set_cons_zero, List.set_cons_succ]
    refine wpHold_take (i := 1) (v := _) (rfl) rfl rfl (by kernel_rfl) (by kernel_rfl) (by kernel_rfl) (by kernel_rfl) (by kernel_rfl) (fun _ _ _ h => h) (by rfl) (fun wk hk => by have hk2 : wk = wd := hk; clear hk; subst hk2; obtain ⟨m0, m1, m2, m3⟩ := HM.out _ rfl; go_simp; try rfl) ?_
    try simp only [Act.put, List.setIfInBounds_toArray, List.set_cons_zero, List.set_cons_succ]
    refine wpHold_take (i := 2) (v := _) (rfl) rfl rfl (by kernel_rfl) (by kernel_rfl) (by kernel_rfl) (by kernel_rfl) (by kernel_rfl) (fun _ _ _ h => h) (by rfl) (fun wk hk => by have hk2 : wk = wd := hk; clear hk; subst hk2; obtain ⟨m0, m1, m2, m3⟩ := HM.out _ rfl; go_simp; try rfl) ?_
    try simp only [Act.put, List.setIfInBounds_toArray, List.set_cons_zero, List.set_cons_succ]
    refine wpHold_take (i := 3) (v := _) (rfl) rfl rfl (by kernel_rfl) (by kernel_rfl) (by kernel_rfl) (by kernel_rfl) (by kernel_rfl) (fun _ _ _ h => h) (by rfl) (fun wk hk => by have hk2 : wk = wd := hk; clear hk; subst hk2; obtain ⟨m0, m1, m2, m3⟩ := HM.out _ rfl; go_simp; try rfl) ?_
    try simp only [Act.put, List.setIfInBounds_toArray, List.set_cons_zero, List.set_cons_succ]
    refine wpHold_take (i := 4) (v := _) (rfl) rfl rfl (by kernel_rfl) (by kernel_rfl) (by kernel_rfl) (by kernel_rfl) (by kernel_rfl) (fun _ _ _ h => h) (by rfl) (fun wk hk => by have hk2 : wk = wd := hk; clear hk; subst hk2; obtain ⟨m0, m1, m2, m3⟩ := HM.out _ rfl; go_simp; try rfl) ?_
    try simp only [Act.put, List.setIfInBounds_toArray, List.set_cons_zero, List.set_cons_succ]
    refine wpHold_take (i := 5) (v := _) (rfl) rfl rfl (by kernel_rfl) (by kernel_rfl) (by kernel_rfl) (by kernel_rfl) (by kernel_rfl) (fun _ _ _ h => h) (by rfl) (fun wk hk => by have hk2 : wk = wd := hk; clear hk; subst hk2; obtain ⟨m0, m1, m2, m3⟩ := HM.out _ rfl; go_simp; try rfl) ?_
    try simp only [Act.put, List.setIfInBounds_toArray, List.set_cons_zero, List.set_cons_succ]
    refine wpHold_take (i := 6) (v := _) (rfl) rfl rfl (by kernel_rfl) (by kernel_rfl) (by kernel_rfl) (by kernel_rfl) (by kernel_rfl) (fun _ _ _ h => h) (by rfl) (fun wk hk => by have hk2 : wk = wd := hk; clear hk; subst hk2; obtain ⟨m0, m1, m2, m3⟩ := HM.out _ rfl; go_simp; try rfl) ?_
    try simp only [Act.put, List.setIfInBounds_toArray, List.set_cons_zero, List.set_cons_succ]
    refine wpHold_take (i := 7) (v := _) (rfl) rfl rfl (by kernel_rfl) (by kernel_rfl) (by kernel_rfl) (by kernel_rfl) (by kernel_rfl) (fun _ _ _ h => h) (by rfl) (fun wk hk => by have hk2 : wk = wd := hk; clear hk; subst hk2; obtain ⟨m0, m1, m2, m3⟩ := HM.out _ rfl; go_simp; try rfl) ?_
    try simp only [Act.put, List.setIfInBounds_toArray, List.set_cons_zero, List.set_cons_succ]
    refine wpHold_one (i := 8) rfl (by kernel_rfl) (by rfl) (fun K hK => ?_)
    go_wp2_with (go_at_call 66; refine (equal66b k k' A A true wd HS.out.1 HS.out.2.2.1 (decide_eq_true rfl)).mono ?_)
    rintro e w2 ⟨rfl, hw2⟩
    rw [hw2]
    clear hw2
    go_wp2_with fail
    refine hK.out _ _ (fun _ => rfl) ?_
    clear hK K
    try simp only [Act.put, List.setIfInBounds_toArray, List.set_cons_zero, List.set_cons_succ]
    refine wpHold_take (i := 9) (v := _) (rfl) rfl rfl (by kernel_rfl) (by kernel_rfl) (by kernel_rfl) (by kernel_rfl) (by kernel_rfl) (fun _ _ _ h => h) (by rfl) (fun wk hk => by have hk2 : wk = wd := hk; clear hk; subst hk2; obtain ⟨m0, m1, m2, m3⟩ := HM.out _ rfl; go_simp; try rfl) ?_
    try simp only [Act.put, List.setIfInBounds_toArray, List.set_cons_zero, List.set_cons_succ]
    refine wpHold_take (i := 10) (v := _) (rfl) rfl rfl (by kernel_rfl) (by kernel_rfl) (by kernel_rfl) (by kernel_rfl) (by kernel_rfl) (fun _ _ _ h => h) (by rfl) (fun wk hk => by have hk2 : wk = wd := hk; clear hk; subst hk2; obtain ⟨m0, m1, m2, m3⟩ := HM.out _ rfl; go_simp; try rfl) ?_
    try simp only [Act.put, List.setIfInBounds_toArray, List.set_cons_zero, List.set_cons_succ]
    refine wpHold_take (i := 11) (v := _) (rfl) rfl rfl (by kernel_rfl) (by kernel_rfl) (by kernel_rfl) (by kernel_rfl) (by kernel_rfl) (fun _ _ _ h => h) (by rfl) (fun wk hk => by have hk2 : wk = wd := hk; clear hk; subst hk2; obtain ⟨m0, m1, m2, m3⟩ := HM.out _ rfl; go_simp; try rfl) ?_
    try simp only [Act.put, List.setIfInBounds_toArray, List.set_cons_zero, List.set_cons_succ]
    refine wpHold_take (i := 12) (v := _) (rfl) rfl rfl (by kernel_rfl) (by kernel_rfl) (by kernel_rfl) (by kernel_rfl) (by kernel_rfl) (fun _ _ _ h => h) (by rfl) (fun wk hk => by have hk2 : wk = wd := hk; clear hk; subst hk2; obtain ⟨m0, m1, m2, m3⟩ := HM.out _ rfl; go_simp; try rfl) ?_
    try simp only [Act.put, List.setIfInBounds_toArray, List.set_cons_zero, List.set_cons_succ]
    refine wpHold_take (i := 13) (v := _) (rfl) rfl rfl (by kernel_rfl) (by kernel_rfl) (by kernel_rfl) (by kernel_rfl) (by kernel_rfl) (fun _ _ _ h => h) (by rfl) (fun wk hk => by have hk2 : wk = wd := hk; clear hk; subst hk2; obtain ⟨m0, m1, m2, m3⟩ := HM.out _ rfl; go_simp; try rfl) ?_
    try simp only [Act.put, List.setIfInBounds_toArray, List.set_cons_zero, List.set_cons_succ]
    refine wpHold_take (i := 14) (v := _) (rfl) rfl rfl (by kernel_rfl) (by kernel_rfl) (by kernel_rfl) (by kernel_rfl) (by kernel_rfl) (fun _ _ _ h => h) (by rfl) (fun wk hk => by have hk2 : wk = wd := hk; clear hk; subst hk2; obtain ⟨m0, m1, m2, m3⟩ := HM.out _ rfl; go_simp; try rfl) ?_
    try simp only [Act.put, List.setIfInBounds_toArray, List.set_cons_zero, List.set_cons_succ]
    refine wpHold_take (i := 15) (v := _) (rfl) rfl rfl (by kernel_rfl) (by kernel_rfl) (by kernel_rfl) (by kernel_rfl) (by kernel_rfl) (fun _ _ _ h => h) (by rfl) (fun wk hk => by have hk2 : wk = wd := hk; clear hk; subst hk2; obtain ⟨m0, m1, m2, m3⟩ := HM.out _ rfl; go_simp; try rfl) ?_
    try simp only [Act.put, List.setIfInBounds_toArray, List.set_cons_zero, List.set_cons_succ]
    refine wpHold_take (i := 16) (v := _) (rfl) rfl rfl (by kernel_rfl) (by kernel_rfl) (by kernel_rfl) (by kernel_rfl) (by kernel_rfl) (fun _ _ _ h => h) (by rfl) (fun wk hk => by have hk2 : wk = wd := hk; clear hk; subst hk2; obtain ⟨m0, m1, m2, m3⟩ := HM.out _ rfl; go_simp; try rfl) ?_
    try simp only [Act.put, List.setIfInBounds_toArray, List.set_cons_zero, List.set_cons_succ]
    refine wpHold_take (i := 17) (v := _) (rfl) rfl rfl (by kernel_rfl) (by kernel_rfl) (by kernel_rfl) (by kernel_rfl) (by kernel_rfl) (fun _ _ _ h => h) (by rfl) (fun wk hk => by have hk2 : wk = wd := hk; clear hk; subst hk2; obtain ⟨m0, m1, m2, m3⟩ := HM.out _ rfl; go_simp; try rfl) ?_
    try simp only [Act.put, List.setIfInBounds_toArray, List.set_cons_zero, List.set_cons_succ]
    refine wpHold_one (i := 18) rfl (by kernel_rfl) (by rfl) (fun K hK => ?_)
    go_wp2_with (go_at_call 66; refine (equal66b v v' B B' dB wd HS.out.2.1 HS.out.2.2.2 HD.out).mono ?_)
    rintro e w2 ⟨rfl, hw2⟩
    rw [hw2]
    clear hw2
    go_wp2_with fail
    refine hK.out _ _ (fun _ => rfl) ?_
    clear hK K
    try simp only [Act.put, List.setIfInBounds_toArray, List.set_cons_zero, List.set_cons_succ]
    refine wpHold_take (i := 19) (v := _) (rfl) rfl rfl (by kernel_rfl) (by kernel_rfl) (by kernel_rfl) (by kernel_rfl) (by kernel_rfl) (fun _ _ _ h => h) (by rfl) (fun wk hk => by have hk2 : wk = wd := hk; clear hk; subst hk2; obtain ⟨m0, m1, m2, m3⟩ := HM.out _ rfl; go_simp; try rfl) ?_
    try simp only [Act.put, List.setIfInBounds_toArray, List.set_cons_zero, List.set_cons_succ]
    refine wpHold_take (i := 20) (v := _) (rfl) rfl rfl (by kernel_rfl) (by kernel_rfl) (by kernel_rfl) (by kernel_rfl) (by kernel_rfl) (fun _ _ _ h => h) (by rfl) (fun wk hk => by have hk2 : wk = wd := hk; clear hk; subst hk2; obtain ⟨m0, m1, m2, m3⟩ := HM.out _ rfl; go_simp; try rfl) ?_
    try simp only [Act.put, List.setIfInBounds_toArray, List.set_cons_zero, List.set_cons_succ]
    refine wpHold_done (by kernel_rfl) ?_
    refine (‹∀ (a : Act) (w : World), Code.wp Try.prog _ _ a w → _› _ _ ?_)
    go_wp2_with fail
    go_ret
    exact ⟨by rw [HE.out, HD.out]; simp, rfl⟩
  · have HX : Hid (decide (A = A') = false) := by simp [Hid, h]
    go_enter Try.func37, Try.ntmps37
    go_wp2_with fail
    refine wp_region_noPanic ?_
    refine wp_region_hold 1000 (fun y => y = wd) (by kernel_rfl) ?_
    rw [HW.out]
    refine wpHold_take (i := 0) (v := _) (rfl) rfl rfl (by kernel_rfl) (by kernel_rfl) (by kernel_rfl) (by kernel_rfl) (by kernel_rfl) (fun _ _ _ h => h) (by rfl) (fun wk hk => by have hk2 : wk = wd := hk; clear hk; subst hk2; obtain ⟨m0, m1, m2, m3⟩ := HM.out _ rfl; go_simp; try rfl) ?_
    try simp only [Act.put, List.setIfInBounds_toArray, List.set_cons_zero, List.set_cons_succ]
    refine wpHold_take (i := 1) (v := _) (rfl) rfl rfl (by kernel_rfl) (by kernel_rfl) (by kernel_rfl) (by kernel_rfl) (by kernel_rfl) (fun _ _ _ h => h) (by rfl) (fun wk hk => by have hk2 : wk = wd := hk; clear hk; subst hk2; obtain ⟨m0, m1, m2, m3⟩ := HM.out _ rfl; go_simp; try rfl) ?_
    try simp only [Act.put, List.setIfInBounds_toArray, List.set_cons_zero, List.set_cons_succ]
    refine wpHold_take (i := 2) (v := _) (rfl) rfl rfl (by kernel_rfl) (by kernel_rfl) (by kernel_rfl) (by kernel_rfl) (by kernel_rfl) (fun _ _ _ h => h) (by rfl) (fun wk hk => by have hk2 : wk = wd := hk; clear hk; subst hk2; obtain ⟨m0, m1, m2, m3⟩ := HM.out _ rfl; go_simp; try rfl) ?_
    try simp only [Act.put, List.setIfInBounds_toArray, List.set_cons_zero, List.set_cons_succ]
    refine wpHold_take (i := 3) (v := _) (rfl) rfl rfl (by kernel_rfl) (by kernel_rfl) (by kernel_rfl) (by kernel_rfl) (by kernel_rfl) (fun _ _ _ h => h) (by rfl) (fun wk hk => by have hk2 : wk = wd := hk; clear hk; subst hk2; obtain ⟨m0, m1, m2, m3⟩ := HM.out _ rfl; go_simp; try rfl) ?_
    try simp only [Act.put, List.setIfInBounds_toArray, List.set_cons_zero, List.set_cons_succ]
    refine wpHold_take (i := 4) (v := _) (rfl) rfl rfl (by kernel_rfl) (by kernel_rfl) (by kernel_rfl) (by kernel_rfl) (by kernel_rfl) (fun _ _ _ h => h) (by rfl) (fun wk hk => by have hk2 : wk = wd := hk; clear hk; subst hk2; obtain ⟨m0, m1, m2, m3⟩ := HM.out _ rfl; go_simp; try rfl) ?_
    try simp only [Act.put, List.setIfInBounds_toArray, List.set_cons_zero, List.set_cons_succ]
    refine wpHold_take (i := 5) (v := _) (rfl) rfl rfl (by kernel_rfl) (by kernel_rfl) (by kernel_rfl) (by kernel_rfl) (by kernel_rfl) (fun _ _ _ h => h) (by rfl) (fun wk hk => by have hk2 : wk = wd := hk; clear hk; subst hk2; obtain ⟨m0, m1, m2, m3⟩ := HM.out _ rfl; go_simp; try rfl) ?_
    try simp only [Act.put, List.setIfInBounds_toArray, List.set_cons_zero, List.set_cons_succ]
    refine wpHold_take (i := 6) (v := _) (rfl) rfl rfl (by kernel_rfl) (by kernel_rfl) (by kernel_rfl) (by kernel_rfl) (by kernel_rfl) (fun _ _ _ h => h) (by rfl) (fun wk hk => by have hk2 : wk = wd := hk; clear hk; subst hk2; obtain ⟨m0, m1, m2, m3⟩ := HM.out _ rfl; go_simp; try rfl) ?_
    try simp only [Act.put, List.setIfInBounds_toArray, List.set_cons_zero, List.set_cons_succ]
    refine wpHold_take (i := 7) (v := _) (rfl) rfl rfl (by kernel_rfl) (by kernel_rfl) (by kernel_rfl) (by kernel_rfl) (by kernel_rfl) (fun _ _ _ h => h) (by rfl) (fun wk hk => by have hk2 : wk = wd := hk; clear hk; subst hk2; obtain ⟨m0, m1, m2, m3⟩ := HM.out _ rfl; go_simp; try rfl) ?_
    try simp only [Act.put, List.setIfInBounds_toArray, List.set_cons_zero, List.set_cons_succ]
    refine wpHold_one (i := 8) rfl (by kernel_rfl) (by rfl) (fun K hK => ?_)
    go_wp2_with (go_at_call 66; refine (equal66b k k' A A' false wd HS.out.1 HS.out.2.2.1 HX.out).mono ?_)
    rintro e w2 ⟨rfl, hw2⟩
    rw [hw2]
    clear hw2
    go_wp2_with fail
    refine hK.out _ _ (fun _ => rfl) ?_
    clear hK K
    try simp only [Act.put, List.setIfInBounds_toArray, List.set_cons_zero, List.set_cons_succ]
    refine wpHold_take (i := 9) (v := _) (rfl) rfl rfl (by kernel_rfl) (by kernel_rfl) (by kernel_rfl) (by kernel_rfl) (by kernel_rfl) (fun _ _ _ h => h) (by rfl) (fun wk hk => by have hk2 : wk = wd := hk; clear hk; subst hk2; obtain ⟨m0, m1, m2, m3⟩ := HM.out _ rfl; go_simp; try rfl) ?_
    try simp only [Act.put, List.setIfInBounds_toArray, List.set_cons_zero, List.set_cons_succ]
    refine wpHold_skip (i := 10) (rfl) rfl rfl (by kernel_rfl) (by kernel_rfl) (by kernel_rfl) (by kernel_rfl) (by kernel_rfl) (fun _ _ _ h => h) (by rfl) ?_
    try simp only [Act.put, List.setIfInBounds_toArray, List.set_cons_zero, List.set_cons_succ]
    refine wpHold_skip (i := 11) (rfl) rfl rfl (by kernel_rfl) (by kernel_rfl) (by kernel_rfl) (by kernel_rfl) (by kernel_rfl) (fun _ _ _ h => h) (by rfl) ?_
    try simp only [Act.put, List.setIfInBounds_toArray, List.set_cons_zero, List.set_cons_succ]
    refine wpHold_skip (i := 12) (rfl) rfl rfl (by kernel_rfl) (by kernel_rfl) (by kernel_rfl) (by kernel_rfl) (by kernel_rfl) (fun _ _ _ h => h) (by rfl) ?_
    try simp only [Act.put, List.setIfInBounds_toArray, List.set_cons_zero, List.set_cons_succ]
    refine wpHold_skip (i := 13) (rfl) rfl rfl (by kernel_rfl) (by kernel_rfl) (by kernel_rfl) (by kernel_rfl) (by kernel_rfl) (fun _ _ _ h => h) (by rfl) ?_
    try simp only [Act.put, List.setIfInBounds_toArray, List.set_cons_zero, List.set_cons_succ]
    refine wpHold_skip (i := 14) (rfl) rfl rfl (by kernel_rfl) (by kernel_rfl) (by kernel_rfl) (by kernel_rfl) (by kernel_rfl) (fun _ _ _ h => h) (by rfl) ?_
    try simp only [Act.put, List.setIfInBounds_toArray, List.set_cons_zero, List.set_cons_succ]
    refine wpHold_skip (i := 15) (rfl) rfl rfl (by kernel_rfl) (by kernel_rfl) (by kernel_rfl) (by kernel_rfl) (by kernel_rfl) (fun _ _ _ h => h) (by rfl) ?_
    try simp only [Act.put, List.setIfInBounds_toArray, List.set_cons_zero, List.set_cons_succ]
    refine wpHold_skip (i := 16) (rfl) rfl rfl (by kernel_rfl) (by kernel_rfl) (by kernel_rfl) (by kernel_rfl) (by kernel_rfl) (fun _ _ _ h => h) (by rfl) ?_
    try simp only [Act.put, List.setIfInBounds_toArray, List.set_cons_zero, List.set_cons_succ]
    refine wpHold_skip (i := 17) (rfl) rfl rfl (by kernel_rfl) (by kernel_rfl) (by kernel_rfl) (by kernel_rfl) (by kernel_rfl) (fun _ _ _ h => h) (by rfl) ?_
    try simp only [Act.put, List.setIfInBounds_toArray, List.set_cons_zero, List.set_cons_succ]
    refine wpHold_skip (i := 18) (rfl) rfl rfl (by kernel_rfl) (by kernel_rfl) (by kernel_rfl) (by kernel_rfl) (by kernel_rfl) (fun _ _ _ h => h) (by rfl) ?_
    try simp only [Act.put, List.setIfInBounds_toArray, List.set_cons_zero, List.set_cons_succ]
    refine wpHold_take (i := 19) (v := _) (rfl) rfl rfl (by kernel_rfl) (by kernel_rfl) (by kernel_rfl) (by kernel_rfl) (by kernel_rfl) (fun _ _ _ h => h) (by rfl) (fun wk hk => by have hk2 : wk = wd := hk; clear hk; subst hk2; obtain ⟨m0, m1, m2, m3⟩ := HM.out _ rfl; go_simp; try rfl) ?_
    try simp only [Act.put, List.setIfInBounds_toArray, List.set_cons_zero, List.set_cons_succ]
    refine wpHold_take (i := 20) (v := _) (rfl) rfl rfl (by kernel_rfl) (by kernel_rfl) (by kernel_rfl) (by kernel_rfl) (by kernel_rfl) (fun _ _ _ h => h) (by rfl) (fun wk hk => by have hk2 : wk = wd := hk; clear hk; subst hk2; obtain ⟨m0, m1, m2, m3⟩ := HM.out _ rfl; go_simp; try rfl) ?_
    try simp only [Act.put, List.setIfInBounds_toArray, List.set_cons_zero, List.set_cons_succ]
    refine wpHold_done (by kernel_rfl) ?_
    refine (‹∀ (a : Act) (w : World), Code.wp Try.prog _ _ a w → _› _ _ ?_)
    go_wp2_with fail
    go_ret
    exact ⟨by rw [HE.out, HX.out]; simp, rfl⟩
end Go.Proofs.Ytlehikdlkdbacaa
