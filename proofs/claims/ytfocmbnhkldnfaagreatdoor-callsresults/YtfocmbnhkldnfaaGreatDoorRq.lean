/-
  The document's MayResult.
-/
import Derived.Test.YtfocmbnhkldnfaaGreatDoorRj
import Derived.Test.YtfocmbnhkldnfaaGreatDoorJg
namespace Go.Proofs.YtfocmbnhkldnfaaGreatDoor
open Go.RowKit Disk
open Names (Str)

def MayPost (r : PRes) (w : World) (e : Ending) (w' : World) : Prop := e = .returned (.bool (mayRes r)) ∧ w.grownBy w' none

set_option maxRecDepth 100000 in
set_option maxHeartbeats 8000000 in
theorem may31_why (ab pl : Int) (v : Value) (l : List POut) (w : World) (ha : ab = 1 ∨ ab = 2 ∨ ab = 3) (hv : Outs w v l) :
    Calls Tryz.prog 31 #[.agg #[.int .i64 ab, .int .i64 pl, v]] w (MayPost ⟨ab, pl, l⟩ w) := by
  obtain ⟨ao, n, cap, rfl, hn, hn2, HV⟩ := outs_open hv
  have HN : Hid (l.length = n ∧ ab ≠ 0 ∧ 1 ≤ ab ∧ ab ≤ 3) := ⟨hn, by omega, by omega, by omega⟩
  obtain ⟨M, hM⟩ : ∃ M, mayRes ⟨ab, pl, l⟩ = M := ⟨_, rfl⟩
  have HX : Hid (M = decide (0 ≤ pl ∧ pl < 16 ∧ n = 0)) := by
    rw [← hM]
    simp only [mayRes, if_neg HN.out.2.1, HN.out.1, HN.out.2.2.1, HN.out.2.2.2, decide_true, Bool.true_and, Hid]
    by_cases a : 0 ≤ pl <;> by_cases b : pl < 16 <;> by_cases c : n = 0 <;> simp [a, b, c]
  unfold MayPost
  rw [hM]
  clear hv hn hM
  have hcase : (pl < 0) ∨ (0 ≤ pl ∧ 16 ≤ pl) ∨ (0 ≤ pl ∧ pl < 16 ∧ n ≠ 0) ∨ (0 ≤ pl ∧ pl < 16 ∧ n = 0) := by omega
  rcases hcase with h | ⟨h, h'⟩ | ⟨h, h', h''⟩ | ⟨h, h', h''⟩
  · have HY : Hid (M = false) := by rw [HX.out]; simp [Hid]; omega
    have i0 : ((0 : Int) ≤ pl) = False := eq_false (by omega)
    rcases ha with rfl | rfl | rfl
    all_goals (
      go_enter Tryz.func31, Tryz.ntmps31
      go_wp2_with fail
      go_ret
      exact ⟨by rw [HY.out]; rfl, World.grownBy_alloc _ _ none⟩)
  · have HY : Hid (M = false) := by rw [HX.out]; simp [Hid]; omega
    have i0 : (pl < (16 : Int)) = False := eq_false (by omega)
    rcases ha with rfl | rfl | rfl
    all_goals (
      go_enter Tryz.func31, Tryz.ntmps31
      go_wp2_with fail
      go_ret
      exact ⟨by rw [HY.out]; rfl, World.grownBy_alloc _ _ none⟩)
  · have HY : Hid (M = false) := by rw [HX.out]; simp [Hid]; omega
    have i0 : ((n : Int) == 0) = false := by simp; omega
    have i2 : (n == 0) = false := by simp; omega
    have i3 : (n = 0) = False := eq_false h''
    clear h''
    rcases ha with rfl | rfl | rfl
    all_goals (
      go_enter Tryz.func31, Tryz.ntmps31
      go_wp2_with fail
      go_ret
      exact ⟨by rw [HY.out]; rfl, World.grownBy_alloc _ _ none⟩)
  · have HY : Hid (M = true) := by rw [HX.out]; simp [Hid]; omega
    subst h''
    rcases ha with rfl | rfl | rfl
    all_goals (
      go_enter Tryz.func31, Tryz.ntmps31
      go_wp2_with fail
      go_ret
      exact ⟨by rw [HY.out]; rfl, World.grownBy_alloc _ _ none⟩)

set_option maxRecDepth 100000 in
set_option maxHeartbeats 8000000 in
theorem may31_no (ab pl : Int) (v : Value) (l : List POut) (w : World) (h0 : ¬ ab = 0) (h1 : ¬ ab = 1) (h2 : ¬ ab = 2) (h3 : ¬ ab = 3) (hv : Outs w v l) :
    Calls Tryz.prog 31 #[.agg #[.int .i64 ab, .int .i64 pl, v]] w (MayPost ⟨ab, pl, l⟩ w) := by
  obtain ⟨ao, n, cap, rfl, hn, hn2, HV⟩ := outs_open hv
  have HX : Hid (mayRes ⟨ab, pl, l⟩ = false) := by
    cases hm : mayRes ⟨ab, pl, l⟩ with
    | false => rfl
    | true =>
      simp only [mayRes, if_neg h0, Bool.and_eq_true, decide_eq_true_eq] at hm
      omega
  unfold MayPost
  rw [HX.out]
  clear hv hn
  go_enter Tryz.func31, Tryz.ntmps31
  go_wp2_with fail
  go_ret
  exact ⟨rfl, World.grownBy_alloc _ _ none⟩

set_option maxRecDepth 100000 in
set_option maxHeartbeats 16000000 in
theorem may31_none (pl : Int) (v : Value) (l : List POut) (w : World) (hv : Outs w v l) :
    Calls Tryz.prog 31 #[.agg #[.int .i64 0, .int .i64 pl, v]] w (MayPost ⟨0, pl, l⟩ w) := by
  obtain ⟨ao, n, cap, rfl, hn, hn2, HV⟩ := outs_open hv
  have HN : Hid (l.length = n) := hn
  unfold MayPost
  obtain ⟨M, hM⟩ : ∃ M, mayRes ⟨0, pl, l⟩ = M := ⟨_, rfl⟩
  have HMM : Hid (mayRes ⟨0, pl, l⟩ = M) := hM
  rw [hM]
  clear hv hn hM
  by_cases hp : pl = 0
  · subst hp
    by_cases h1 : 1 ≤ n
    · have i1 : ((n : Int) < 1) = False := eq_false (by omega)
      by_cases h16 : n ≤ 16
      · have i2 : ((16 : Int) < (n : Int)) = False := eq_false (by omega)
        have HAL : Hid (M = l.all mayOut) := by
          rw [← HMM.out]
          simp [mayRes, HN.out, h1, h16, Hid]
        clear HMM
        go_enter Tryz.func31, Tryz.ntmps31
        go_upto_region 1 with fail
        have S0 : Hid (Blk (w.alloc (.cells #[.int .i64 0, .int .i64 0, .slice ao n cap] 51)) w.heap.size 51 #[.int .i64 0, .int .i64 0, .slice ao n cap] ∧ w.grownBy (w.alloc (.cells #[.int .i64 0, .int .i64 0, .slice ao n cap] 51)) none) := ⟨heap_alloc_new w _, World.grownBy_alloc _ _ none⟩
        generalize (w.alloc (.cells #[.int .i64 0, .int .i64 0, .slice ao n cap] 51)) = W0 at S0 ⊢
        have c0 := S0.out.1.cell 0
        have c1 := S0.out.1.cell 1
        have c2 := S0.out.1.cell 2
        go_wp2_with fail
        clear c0 c1 c2
        go_loopw [3] (fun i wr => ∃ k : Nat, k ≤ n ∧ i = .int .i64 k ∧ Hid ((l.take k).all mayOut = true ∧ W0.grownBy wr none)) (fun i _ => n - (intOf i).toNat)
        case atStart => exact ⟨0, by omega, rfl, by simp, grown_refl _ _⟩
        case round =>
          obtain ⟨k, hk, rfl, HR⟩ := hrel
          have c2 := (S0.out.1.grown HR.out.2 (by simp)).cell 2
          by_cases hlt : k < n
          · have i3 : (k : Int) < (n : Int) := by omega
            have i0 : (0 : Int) ≤ (k : Int) := by omega
            have hkl : k < l.length := by rw [HN.out]; omega
            obtain ⟨b1, o1, x1, y1, rfl, h1', s1⟩ := outs_at (HV.out.grown S0.out.2) k hkl
            have HA : Hid _ := all_take mayOut l k hkl
            have HF : Hid _ := all_false mayOut l k hkl
            obtain ⟨o, ho⟩ : ∃ o, o = l[k] := ⟨_, rfl⟩
            rw [← ho] at h1' s1 HA HF
            clear ho hkl
            obtain ⟨ax, nx, cx, rfl, _, _, _⟩ := Names.seg_open s1.value
            obtain ⟨ay, m, cy, rfl, hny, hny2, _⟩ := rws_open s1.rows
            have HS : Hid (OutSeg W0 (.slice ax nx cx) (.slice ay m cy) o ∧ o.rows.length = m) := ⟨s1, hny⟩
            obtain ⟨a0, a1, a2⟩ := h1'.grown HR.out.2
            clear s1 hny h1'
            cases hvb : Names.valueB o.value with
            | false =>
              have HX : Hid (M = false) := by rw [HAL.out]; exact HF.out (by simp [mayOut, hvb])
              go_wp2_with (go_at_call 64; refine (Names.value14 _ o.value _ (HS.out.1.value.grown HR.out.2)).mono ?_; rintro e w4 ⟨rfl, hw4⟩; rw [hw4, hvb]; clear hw4)
              go_ret
              exact ⟨by rw [HX.out]; rfl, grown_trans S0.out.2 HR.out.2⟩
            | true =>
              by_cases h64 : m ≤ 64
              · have i64 : ((64 : Int) < (m : Int)) = False := eq_false (by omega)
                go_wp2_with (go_at_call 64; refine (Names.value14 _ o.value _ (HS.out.1.value.grown HR.out.2)).mono ?_; rintro e w4 ⟨rfl, hw4⟩; rw [hw4, hvb]; clear hw4)
                clear a0 a1 a2 c2
                go_loopw [5] (fun i wr => ∃ j : Nat, j ≤ m ∧ i = .int .i64 j ∧ Hid ((o.rows.take j).all mayRow = true ∧ (∀ i (h : i + 1 < o.rows.length), i + 1 < j → Names.cmpL o.rows[i].1 o.rows[i + 1].1 < 0) ∧ W0.grownBy wr none)) (fun i _ => m - (intOf i).toNat)
                case atStart => exact ⟨0, by omega, rfl, by simp, fun i _ h => absurd h (by omega), HR.out.2⟩
                case round =>
                  obtain ⟨j, hj, rfl, HJ⟩ := hrel
                  by_cases hjm : j < m
                  · have j3 : (j : Int) < (m : Int) := by omega
                    have j0 : (0 : Int) ≤ (j : Int) := by omega
                    have hjl : j < o.rows.length := by rw [HS.out.2]; omega
                    obtain ⟨b2, o2, x2, y2, rfl, h2⟩ := rws_at HS.out.1.rows j hjl
                    have HA2 : Hid _ := all_take mayRow o.rows j hjl
                    have HF2 : Hid _ := all_false mayRow o.rows j hjl
                    obtain ⟨f1, m1, e1, rfl, _, _, _⟩ := Names.seg_open h2.s0
                    obtain ⟨f2, m2, e2, rfl, _, _, _⟩ := Names.seg_open h2.s1
                    obtain ⟨r, hr⟩ : ∃ r, r = o.rows[j] := ⟨_, rfl⟩
                    rw [← hr] at h2 HA2 HF2
                    have HRJ : Hid (r = o.rows[j]) := hr
                    clear hr
                    have hmo : ∀ (b : Bool), b = false → (b = o.rows.all mayRow ∨ b = riseB o.rows) → mayOut o = false := by
                      rintro b rfl (h | h) <;> simp [mayOut, ← h]
                    have HMO : Hid _ := hmo
                    clear hmo
                    by_cases hj0 : j = 0
                    · have HC : Hid (∀ y : World, W0.grownBy y none → y.cell? ⟨b2, o2, none⟩ = some (.slice f1 m1 e1) ∧ y.cell? ⟨b2, o2 + 1, none⟩ = some (.slice f2 m2 e2) ∧ True) := fun y hy => ⟨by have := (h2.grown hy).c0; simpa [hj0] using this, by have := (h2.grown hy).c1; simpa [hj0] using this, trivial⟩
                      have HSG : Hid (∀ y : World, W0.grownBy y none → Seg y (.slice f1 m1 e1) r.1 ∧ Seg y (.slice f2 m2 e2) r.2 ∧ True) := fun y hy => ⟨(h2.grown hy).s0, (h2.grown hy).s1, trivial⟩
                      clear h2
                      subst hj0
                      cases hkb : Names.keyB r.1 with
                      | false =>
                        have HX : Hid (M = false) := by rw [HAL.out]; exact HF.out (HMO.out false rfl (.inl (HF2.out (by simp [mayRow, hkb])).symm))
                        go_upto_region 19 with fail
                        refine wp_region_noPanic ?_
                        refine wp_region_hold 1000 (fun y => W0.grownBy y none) (by kernel_rfl) ?_
                        have G0 : Hid (W0.grownBy wr.drew none) := grown_trans HJ.out.2.2 (grown_drew _ _)
                        generalize wr.drew = wd at G0 ⊢
                        refine wt (i := 0) (G0.out) rfl rfl (fun wk hk => by obtain ⟨z0, z1, z2⟩ := HC.out wk hk; go_simp; try rfl) ?_
                        try simp only [pN]
                        refine wt (i := 1) (G0.out) rfl rfl (fun wk hk => by obtain ⟨z0, z1, z2⟩ := HC.out wk hk; go_simp; try rfl) ?_
                        try simp only [pN]
                        refine wt (i := 2) (G0.out) rfl rfl (fun wk hk => by obtain ⟨z0, z1, z2⟩ := HC.out wk hk; go_simp; try rfl) ?_
                        try simp only [pN]
                        refine wt (i := 3) (G0.out) rfl rfl (fun wk hk => by obtain ⟨z0, z1, z2⟩ := HC.out wk hk; go_simp; try rfl) ?_
                        try simp only [pN]
                        refine wt (i := 4) (G0.out) rfl rfl (fun wk hk => by obtain ⟨z0, z1, z2⟩ := HC.out wk hk; go_simp; try rfl) ?_
                        try simp only [pN]
                        refine wpHold_one (i := 5) rfl (by kernel_rfl) (by rfl) (fun K hK => ?_)
                        go_wp2_with fail
                        refine (Names.key12 _ r.1 wd (HSG.out wd G0.out).1).mono ?_
                        rintro e w1 ⟨rfl, hw1⟩
                        rw [hw1, hkb]
                        clear hw1
                        refine hK.out _ _ (fun _ => G0.out) ?_
                        clear hK K
                        try simp only [pN]
                        refine wt (i := 6) (G0.out) rfl rfl (fun wk hk => by obtain ⟨z0, z1, z2⟩ := HC.out wk hk; go_simp; try rfl) ?_
                        try simp only [pN]
                        refine wt (i := 7) (G0.out) rfl rfl (fun wk hk => by obtain ⟨z0, z1, z2⟩ := HC.out wk hk; go_simp; try rfl) ?_
                        try simp only [pN]
                        refine wpHold_skip (i := 8) (G0.out) rfl rfl (by kernel_rfl) (by kernel_rfl) (by kernel_rfl) (by kernel_rfl) (by kernel_rfl) (fun _ _ _ h => h) (by rfl) ?_
                        try simp only [pN]
                        refine wpHold_skip (i := 9) (G0.out) rfl rfl (by kernel_rfl) (by kernel_rfl) (by kernel_rfl) (by kernel_rfl) (by kernel_rfl) (fun _ _ _ h => h) (by rfl) ?_
                        try simp only [pN]
                        refine wpHold_skip (i := 10) (G0.out) rfl rfl (by kernel_rfl) (by kernel_rfl) (by kernel_rfl) (by kernel_rfl) (by kernel_rfl) (fun _ _ _ h => h) (by rfl) ?_
                        try simp only [pN]
                        refine wpHold_skip (i := 11) (G0.out) rfl rfl (by kernel_rfl) (by kernel_rfl) (by kernel_rfl) (by kernel_rfl) (by kernel_rfl) (fun _ _ _ h => h) (by rfl) ?_
                        try simp only [pN]
                        refine wpHold_skip (i := 12) (G0.out) rfl rfl (by kernel_rfl) (by kernel_rfl) (by kernel_rfl) (by kernel_rfl) (by kernel_rfl) (fun _ _ _ h => h) (by rfl) ?_
                        try simp only [pN]
                        refine wpHold_skip (i := 13) (G0.out) rfl rfl (by kernel_rfl) (by kernel_rfl) (by kernel_rfl) (by kernel_rfl) (by kernel_rfl) (fun _ _ _ h => h) (by rfl) ?_
                        try simp only [pN]
                        refine wpHold_skip (i := 14) (G0.out) rfl rfl (by kernel_rfl) (by kernel_rfl) (by kernel_rfl) (by kernel_rfl) (by kernel_rfl) (fun _ _ _ h => h) (by rfl) ?_
                        try simp only [pN]
                        refine wt (i := 15) (G0.out) rfl rfl (fun wk hk => by obtain ⟨z0, z1, z2⟩ := HC.out wk hk; go_simp; try rfl) ?_
                        try simp only [pN]
                        refine wt (i := 16) (G0.out) rfl rfl (fun wk hk => by obtain ⟨z0, z1, z2⟩ := HC.out wk hk; go_simp; try rfl) ?_
                        try simp only [pN]
                        refine wpHold_skip (i := 17) (G0.out) rfl rfl (by kernel_rfl) (by kernel_rfl) (by kernel_rfl) (by kernel_rfl) (by kernel_rfl) (fun _ _ _ h => h) (by rfl) ?_
                        try simp only [pN]
                        refine wpHold_skip (i := 18) (G0.out) rfl rfl (by kernel_rfl) (by kernel_rfl) (by kernel_rfl) (by kernel_rfl) (by kernel_rfl) (fun _ _ _ h => h) (by rfl) ?_
                        try simp only [pN]
                        refine wpHold_skip (i := 19) (G0.out) rfl rfl (by kernel_rfl) (by kernel_rfl) (by kernel_rfl) (by kernel_rfl) (by kernel_rfl) (fun _ _ _ h => h) (by rfl) ?_
                        try simp only [pN]
                        refine wpHold_skip (i := 20) (G0.out) rfl rfl (by kernel_rfl) (by kernel_rfl) (by kernel_rfl) (by kernel_rfl) (by kernel_rfl) (fun _ _ _ h => h) (by rfl) ?_
                        try simp only [pN]
                        refine wpHold_skip (i := 21) (G0.out) rfl rfl (by kernel_rfl) (by kernel_rfl) (by kernel_rfl) (by kernel_rfl) (by kernel_rfl) (fun _ _ _ h => h) (by rfl) ?_
                        try simp only [pN]
                        refine wpHold_skip (i := 22) (G0.out) rfl rfl (by kernel_rfl) (by kernel_rfl) (by kernel_rfl) (by kernel_rfl) (by kernel_rfl) (fun _ _ _ h => h) (by rfl) ?_
                        try simp only [pN]
                        refine wpHold_skip (i := 23) (G0.out) rfl rfl (by kernel_rfl) (by kernel_rfl) (by kernel_rfl) (by kernel_rfl) (by kernel_rfl) (fun _ _ _ h => h) (by rfl) ?_
                        try simp only [pN]
                        refine wpHold_skip (i := 24) (G0.out) rfl rfl (by kernel_rfl) (by kernel_rfl) (by kernel_rfl) (by kernel_rfl) (by kernel_rfl) (fun _ _ _ h => h) (by rfl) ?_
                        try simp only [pN]
                        refine wpHold_skip (i := 25) (G0.out) rfl rfl (by kernel_rfl) (by kernel_rfl) (by kernel_rfl) (by kernel_rfl) (by kernel_rfl) (fun _ _ _ h => h) (by rfl) ?_
                        try simp only [pN]
                        refine wpHold_skip (i := 26) (G0.out) rfl rfl (by kernel_rfl) (by kernel_rfl) (by kernel_rfl) (by kernel_rfl) (by kernel_rfl) (fun _ _ _ h => h) (by rfl) ?_
                        try simp only [pN]
                        refine wpHold_skip (i := 27) (G0.out) rfl rfl (by kernel_rfl) (by kernel_rfl) (by kernel_rfl) (by kernel_rfl) (by kernel_rfl) (fun _ _ _ h => h) (by rfl) ?_
                        try simp only [pN]
                        refine wpHold_skip (i := 28) (G0.out) rfl rfl (by kernel_rfl) (by kernel_rfl) (by kernel_rfl) (by kernel_rfl) (by kernel_rfl) (fun _ _ _ h => h) (by rfl) ?_
                        try simp only [pN]
                        refine wpHold_skip (i := 29) (G0.out) rfl rfl (by kernel_rfl) (by kernel_rfl) (by kernel_rfl) (by kernel_rfl) (by kernel_rfl) (fun _ _ _ h => h) (by rfl) ?_
                        try simp only [pN]
                        refine wpHold_skip (i := 30) (G0.out) rfl rfl (by kernel_rfl) (by kernel_rfl) (by kernel_rfl) (by kernel_rfl) (by kernel_rfl) (fun _ _ _ h => h) (by rfl) ?_
                        try simp only [pN]
                        refine wpHold_skip (i := 31) (G0.out) rfl rfl (by kernel_rfl) (by kernel_rfl) (by kernel_rfl) (by kernel_rfl) (by kernel_rfl) (fun _ _ _ h => h) (by rfl) ?_
                        try simp only [pN]
                        refine wpHold_skip (i := 32) (G0.out) rfl rfl (by kernel_rfl) (by kernel_rfl) (by kernel_rfl) (by kernel_rfl) (by kernel_rfl) (fun _ _ _ h => h) (by rfl) ?_
                        try simp only [pN]
                        refine wpHold_skip (i := 33) (G0.out) rfl rfl (by kernel_rfl) (by kernel_rfl) (by kernel_rfl) (by kernel_rfl) (by kernel_rfl) (fun _ _ _ h => h) (by rfl) ?_
                        try simp only [pN]
                        refine wt (i := 34) (G0.out) rfl rfl (fun wk hk => by obtain ⟨z0, z1, z2⟩ := HC.out wk hk; go_simp; try rfl) ?_
                        try simp only [pN]
                        refine wpHold_done (by kernel_rfl) ?_
                        refine (‹∀ (a : Act) (w : World), Code.wp Tryz.prog _ _ a w → _› _ _ ?_)
                        go_wp2_with fail
                        go_ret
                        exact ⟨by rw [HX.out]; rfl, grown_trans S0.out.2 G0.out⟩
                      | true =>
                        cases hvb2 : Names.valueB r.2 with
                        | false =>
                          have HX : Hid (M = false) := by rw [HAL.out]; exact HF.out (HMO.out false rfl (.inl (HF2.out (by simp [mayRow, hvb2])).symm))
                          go_upto_region 19 with fail
                          refine wp_region_noPanic ?_
                          refine wp_region_hold 1000 (fun y => W0.grownBy y none) (by kernel_rfl) ?_
                          have G0 : Hid (W0.grownBy wr.drew none) := grown_trans HJ.out.2.2 (grown_drew _ _)
                          generalize wr.drew = wd at G0 ⊢
                          refine wt (i := 0) (G0.out) rfl rfl (fun wk hk => by obtain ⟨z0, z1, z2⟩ := HC.out wk hk; go_simp; try rfl) ?_
                          try simp only [pN]
                          refine wt (i := 1) (G0.out) rfl rfl (fun wk hk => by obtain ⟨z0, z1, z2⟩ := HC.out wk hk; go_simp; try rfl) ?_
                          try simp only [pN]
                          refine wt (i := 2) (G0.out) rfl rfl (fun wk hk => by obtain ⟨z0, z1, z2⟩ := HC.out wk hk; go_simp; try rfl) ?_
                          try simp only [pN]
                          refine wt (i := 3) (G0.out) rfl rfl (fun wk hk => by obtain ⟨z0, z1, z2⟩ := HC.out wk hk; go_simp; try rfl) ?_
                          try simp only [pN]
                          refine wt (i := 4) (G0.out) rfl rfl (fun wk hk => by obtain ⟨z0, z1, z2⟩ := HC.out wk hk; go_simp; try rfl) ?_
                          try simp only [pN]
                          refine wpHold_one (i := 5) rfl (by kernel_rfl) (by rfl) (fun K hK => ?_)
                          go_wp2_with fail
                          refine (Names.key12 _ r.1 wd (HSG.out wd G0.out).1).mono ?_
                          rintro e w1 ⟨rfl, hw1⟩
                          rw [hw1, hkb]
                          clear hw1
                          refine hK.out _ _ (fun _ => G0.out) ?_
                          clear hK K
                          try simp only [pN]
                          refine wt (i := 6) (G0.out) rfl rfl (fun wk hk => by obtain ⟨z0, z1, z2⟩ := HC.out wk hk; go_simp; try rfl) ?_
                          try simp only [pN]
                          refine wt (i := 7) (G0.out) rfl rfl (fun wk hk => by obtain ⟨z0, z1, z2⟩ := HC.out wk hk; go_simp; try rfl) ?_
                          try simp only [pN]
                          refine wt (i := 8) (G0.out) rfl rfl (fun wk hk => by obtain ⟨z0, z1, z2⟩ := HC.out wk hk; go_simp; try rfl) ?_
                          try simp only [pN]
                          refine wt (i := 9) (G0.out) rfl rfl (fun wk hk => by obtain ⟨z0, z1, z2⟩ := HC.out wk hk; go_simp; try rfl) ?_
                          try simp only [pN]
                          refine wt (i := 10) (G0.out) rfl rfl (fun wk hk => by obtain ⟨z0, z1, z2⟩ := HC.out wk hk; go_simp; try rfl) ?_
                          try simp only [pN]
                          refine wt (i := 11) (G0.out) rfl rfl (fun wk hk => by obtain ⟨z0, z1, z2⟩ := HC.out wk hk; go_simp; try rfl) ?_
                          try simp only [pN]
                          refine wt (i := 12) (G0.out) rfl rfl (fun wk hk => by obtain ⟨z0, z1, z2⟩ := HC.out wk hk; go_simp; try rfl) ?_
                          try simp only [pN]
                          refine wpHold_one (i := 13) rfl (by kernel_rfl) (by rfl) (fun K hK => ?_)
                          go_wp2_with fail
                          refine (Names.value14 _ r.2 wd (HSG.out wd G0.out).2.1).mono ?_
                          rintro e w1 ⟨rfl, hw1⟩
                          rw [hw1, hvb2]
                          clear hw1
                          refine hK.out _ _ (fun _ => G0.out) ?_
                          clear hK K
                          try simp only [pN]
                          refine wt (i := 14) (G0.out) rfl rfl (fun wk hk => by obtain ⟨z0, z1, z2⟩ := HC.out wk hk; go_simp; try rfl) ?_
                          try simp only [pN]
                          refine wt (i := 15) (G0.out) rfl rfl (fun wk hk => by obtain ⟨z0, z1, z2⟩ := HC.out wk hk; go_simp; try rfl) ?_
                          try simp only [pN]
                          refine wt (i := 16) (G0.out) rfl rfl (fun wk hk => by obtain ⟨z0, z1, z2⟩ := HC.out wk hk; go_simp; try rfl) ?_
                          try simp only [pN]
                          refine wpHold_skip (i := 17) (G0.out) rfl rfl (by kernel_rfl) (by kernel_rfl) (by kernel_rfl) (by kernel_rfl) (by kernel_rfl) (fun _ _ _ h => h) (by rfl) ?_
                          try simp only [pN]
                          refine wpHold_skip (i := 18) (G0.out) rfl rfl (by kernel_rfl) (by kernel_rfl) (by kernel_rfl) (by kernel_rfl) (by kernel_rfl) (fun _ _ _ h => h) (by rfl) ?_
                          try simp only [pN]
                          refine wpHold_skip (i := 19) (G0.out) rfl rfl (by kernel_rfl) (by kernel_rfl) (by kernel_rfl) (by kernel_rfl) (by kernel_rfl) (fun _ _ _ h => h) (by rfl) ?_
                          try simp only [pN]
                          refine wpHold_skip (i := 20) (G0.out) rfl rfl (by kernel_rfl) (by kernel_rfl) (by kernel_rfl) (by kernel_rfl) (by kernel_rfl) (fun _ _ _ h => h) (by rfl) ?_
                          try simp only [pN]
                          refine wpHold_skip (i := 21) (G0.out) rfl rfl (by kernel_rfl) (by kernel_rfl) (by kernel_rfl) (by kernel_rfl) (by kernel_rfl) (fun _ _ _ h => h) (by rfl) ?_
                          try simp only [pN]
                          refine wpHold_skip (i := 22) (G0.out) rfl rfl (by kernel_rfl) (by kernel_rfl) (by kernel_rfl) (by kernel_rfl) (by kernel_rfl) (fun _ _ _ h => h) (by rfl) ?_
                          try simp only [pN]
                          refine wpHold_skip (i := 23) (G0.out) rfl rfl (by kernel_rfl) (by kernel_rfl) (by kernel_rfl) (by kernel_rfl) (by kernel_rfl) (fun _ _ _ h => h) (by rfl) ?_
                          try simp only [pN]
                          refine wpHold_skip (i := 24) (G0.out) rfl rfl (by kernel_rfl) (by kernel_rfl) (by kernel_rfl) (by kernel_rfl) (by kernel_rfl) (fun _ _ _ h => h) (by rfl) ?_
                          try simp only [pN]
                          refine wpHold_skip (i := 25) (G0.out) rfl rfl (by kernel_rfl) (by kernel_rfl) (by kernel_rfl) (by kernel_rfl) (by kernel_rfl) (fun _ _ _ h => h) (by rfl) ?_
                          try simp only [pN]
                          refine wpHold_skip (i := 26) (G0.out) rfl rfl (by kernel_rfl) (by kernel_rfl) (by kernel_rfl) (by kernel_rfl) (by kernel_rfl) (fun _ _ _ h => h) (by rfl) ?_
                          try simp only [pN]
                          refine wpHold_skip (i := 27) (G0.out) rfl rfl (by kernel_rfl) (by kernel_rfl) (by kernel_rfl) (by kernel_rfl) (by kernel_rfl) (fun _ _ _ h => h) (by rfl) ?_
                          try simp only [pN]
                          refine wpHold_skip (i := 28) (G0.out) rfl rfl (by kernel_rfl) (by kernel_rfl) (by kernel_rfl) (by kernel_rfl) (by kernel_rfl) (fun _ _ _ h => h) (by rfl) ?_
                          try simp only [pN]
                          refine wpHold_skip (i := 29) (G0.out) rfl rfl (by kernel_rfl) (by kernel_rfl) (by kernel_rfl) (by kernel_rfl) (by kernel_rfl) (fun _ _ _ h => h) (by rfl) ?_
                          try simp only [pN]
                          refine wpHold_skip (i := 30) (G0.out) rfl rfl (by kernel_rfl) (by kernel_rfl) (by kernel_rfl) (by kernel_rfl) (by kernel_rfl) (fun _ _ _ h => h) (by rfl) ?_
                          try simp only [pN]
                          refine wpHold_skip (i := 31) (G0.out) rfl rfl (by kernel_rfl) (by kernel_rfl) (by kernel_rfl) (by kernel_rfl) (by kernel_rfl) (fun _ _ _ h => h) (by rfl) ?_
                          try simp only [pN]
                          refine wpHold_skip (i := 32) (G0.out) rfl rfl (by kernel_rfl) (by kernel_rfl) (by kernel_rfl) (by kernel_rfl) (by kernel_rfl) (fun _ _ _ h => h) (by rfl) ?_
                          try simp only [pN]
                          refine wpHold_skip (i := 33) (G0.out) rfl rfl (by kernel_rfl) (by kernel_rfl) (by kernel_rfl) (by kernel_rfl) (by kernel_rfl) (fun _ _ _ h => h) (by rfl) ?_
                          try simp only [pN]
                          refine wt (i := 34) (G0.out) rfl rfl (fun wk hk => by obtain ⟨z0, z1, z2⟩ := HC.out wk hk; go_simp; try rfl) ?_
                          try simp only [pN]
                          refine wpHold_done (by kernel_rfl) ?_
                          refine (‹∀ (a : Act) (w : World), Code.wp Tryz.prog _ _ a w → _› _ _ ?_)
                          go_wp2_with fail
                          go_ret
                          exact ⟨by rw [HX.out]; rfl, grown_trans S0.out.2 G0.out⟩
                        | true =>
                          go_upto_region 19 with fail
                          refine wp_region_noPanic ?_
                          refine wp_region_hold 1000 (fun y => W0.grownBy y none) (by kernel_rfl) ?_
                          have G0 : Hid (W0.grownBy wr.drew none) := grown_trans HJ.out.2.2 (grown_drew _ _)
                          generalize wr.drew = wd at G0 ⊢
                          refine wt (i := 0) (G0.out) rfl rfl (fun wk hk => by obtain ⟨z0, z1, z2⟩ := HC.out wk hk; go_simp; try rfl) ?_
                          try simp only [pN]
                          refine wt (i := 1) (G0.out) rfl rfl (fun wk hk => by obtain ⟨z0, z1, z2⟩ := HC.out wk hk; go_simp; try rfl) ?_
                          try simp only [pN]
                          refine wt (i := 2) (G0.out) rfl rfl (fun wk hk => by obtain ⟨z0, z1, z2⟩ := HC.out wk hk; go_simp; try rfl) ?_
                          try simp only [pN]
                          refine wt (i := 3) (G0.out) rfl rfl (fun wk hk => by obtain ⟨z0, z1, z2⟩ := HC.out wk hk; go_simp; try rfl) ?_
                          try simp only [pN]
                          refine wt (i := 4) (G0.out) rfl rfl (fun wk hk => by obtain ⟨z0, z1, z2⟩ := HC.out wk hk; go_simp; try rfl) ?_
                          try simp only [pN]
                          refine wpHold_one (i := 5) rfl (by kernel_rfl) (by rfl) (fun K hK => ?_)
                          go_wp2_with fail
                          refine (Names.key12 _ r.1 wd (HSG.out wd G0.out).1).mono ?_
                          rintro e w1 ⟨rfl, hw1⟩
                          rw [hw1, hkb]
                          clear hw1
                          refine hK.out _ _ (fun _ => G0.out) ?_
                          clear hK K
                          try simp only [pN]
                          refine wt (i := 6) (G0.out) rfl rfl (fun wk hk => by obtain ⟨z0, z1, z2⟩ := HC.out wk hk; go_simp; try rfl) ?_
                          try simp only [pN]
                          refine wt (i := 7) (G0.out) rfl rfl (fun wk hk => by obtain ⟨z0, z1, z2⟩ := HC.out wk hk; go_simp; try rfl) ?_
                          try simp only [pN]
                          refine wt (i := 8) (G0.out) rfl rfl (fun wk hk => by obtain ⟨z0, z1, z2⟩ := HC.out wk hk; go_simp; try rfl) ?_
                          try simp only [pN]
                          refine wt (i := 9) (G0.out) rfl rfl (fun wk hk => by obtain ⟨z0, z1, z2⟩ := HC.out wk hk; go_simp; try rfl) ?_
                          try simp only [pN]
                          refine wt (i := 10) (G0.out) rfl rfl (fun wk hk => by obtain ⟨z0, z1, z2⟩ := HC.out wk hk; go_simp; try rfl) ?_
                          try simp only [pN]
                          refine wt (i := 11) (G0.out) rfl rfl (fun wk hk => by obtain ⟨z0, z1, z2⟩ := HC.out wk hk; go_simp; try rfl) ?_
                          try simp only [pN]
                          refine wt (i := 12) (G0.out) rfl rfl (fun wk hk => by obtain ⟨z0, z1, z2⟩ := HC.out wk hk; go_simp; try rfl) ?_
                          try simp only [pN]
                          refine wpHold_one (i := 13) rfl (by kernel_rfl) (by rfl) (fun K hK => ?_)
                          go_wp2_with fail
                          refine (Names.value14 _ r.2 wd (HSG.out wd G0.out).2.1).mono ?_
                          rintro e w1 ⟨rfl, hw1⟩
                          rw [hw1, hvb2]
                          clear hw1
                          refine hK.out _ _ (fun _ => G0.out) ?_
                          clear hK K
                          try simp only [pN]
                          refine wt (i := 14) (G0.out) rfl rfl (fun wk hk => by obtain ⟨z0, z1, z2⟩ := HC.out wk hk; go_simp; try rfl) ?_
                          try simp only [pN]
                          refine wt (i := 15) (G0.out) rfl rfl (fun wk hk => by obtain ⟨z0, z1, z2⟩ := HC.out wk hk; go_simp; try rfl) ?_
                          try simp only [pN]
                          refine wt (i := 16) (G0.out) rfl rfl (fun wk hk => by obtain ⟨z0, z1, z2⟩ := HC.out wk hk; go_simp; try rfl) ?_
                          try simp only [pN]
                          refine wt (i := 17) (G0.out) rfl rfl (fun wk hk => by obtain ⟨z0, z1, z2⟩ := HC.out wk hk; go_simp; try rfl) ?_
                          try simp only [pN]
                          refine wpHold_one (i := 18) rfl (by kernel_rfl) (by rfl) (fun K hK => ?_)
                          go_wp2_with fail
                          refine hK.out _ _ (fun _ => G0.out) ?_
                          clear hK K
                          try simp only [pN]
                          refine wt (i := 19) (G0.out) rfl rfl (fun wk hk => by obtain ⟨z0, z1, z2⟩ := HC.out wk hk; go_simp; try rfl) ?_
                          try simp only [pN]
                          refine wpHold_skip (i := 20) (G0.out) rfl rfl (by kernel_rfl) (by kernel_rfl) (by kernel_rfl) (by kernel_rfl) (by kernel_rfl) (fun _ _ _ h => h) (by rfl) ?_
                          try simp only [pN]
                          refine wpHold_skip (i := 21) (G0.out) rfl rfl (by kernel_rfl) (by kernel_rfl) (by kernel_rfl) (by kernel_rfl) (by kernel_rfl) (fun _ _ _ h => h) (by rfl) ?_
                          try simp only [pN]
                          refine wpHold_skip (i := 22) (G0.out) rfl rfl (by kernel_rfl) (by kernel_rfl) (by kernel_rfl) (by kernel_rfl) (by kernel_rfl) (fun _ _ _ h => h) (by rfl) ?_
                          try simp only [pN]
                          refine wpHold_skip (i := 23) (G0.out) rfl rfl (by kernel_rfl) (by kernel_rfl) (by kernel_rfl) (by kernel_rfl) (by kernel_rfl) (fun _ _ _ h => h) (by rfl) ?_
                          try simp only [pN]
                          refine wpHold_skip (i := 24) (G0.out) rfl rfl (by kernel_rfl) (by kernel_rfl) (by kernel_rfl) (by kernel_rfl) (by kernel_rfl) (fun _ _ _ h => h) (by rfl) ?_
                          try simp only [pN]
                          refine wpHold_skip (i := 25) (G0.out) rfl rfl (by kernel_rfl) (by kernel_rfl) (by kernel_rfl) (by kernel_rfl) (by kernel_rfl) (fun _ _ _ h => h) (by rfl) ?_
                          try simp only [pN]
                          refine wpHold_skip (i := 26) (G0.out) rfl rfl (by kernel_rfl) (by kernel_rfl) (by kernel_rfl) (by kernel_rfl) (by kernel_rfl) (fun _ _ _ h => h) (by rfl) ?_
                          try simp only [pN]
                          refine wpHold_skip (i := 27) (G0.out) rfl rfl (by kernel_rfl) (by kernel_rfl) (by kernel_rfl) (by kernel_rfl) (by kernel_rfl) (fun _ _ _ h => h) (by rfl) ?_
                          try simp only [pN]
                          refine wpHold_skip (i := 28) (G0.out) rfl rfl (by kernel_rfl) (by kernel_rfl) (by kernel_rfl) (by kernel_rfl) (by kernel_rfl) (fun _ _ _ h => h) (by rfl) ?_
                          try simp only [pN]
                          refine wpHold_skip (i := 29) (G0.out) rfl rfl (by kernel_rfl) (by kernel_rfl) (by kernel_rfl) (by kernel_rfl) (by kernel_rfl) (fun _ _ _ h => h) (by rfl) ?_
                          try simp only [pN]
                          refine wpHold_skip (i := 30) (G0.out) rfl rfl (by kernel_rfl) (by kernel_rfl) (by kernel_rfl) (by kernel_rfl) (by kernel_rfl) (fun _ _ _ h => h) (by rfl) ?_
                          try simp only [pN]
                          refine wpHold_skip (i := 31) (G0.out) rfl rfl (by kernel_rfl) (by kernel_rfl) (by kernel_rfl) (by kernel_rfl) (by kernel_rfl) (fun _ _ _ h => h) (by rfl) ?_
                          try simp only [pN]
                          refine wpHold_skip (i := 32) (G0.out) rfl rfl (by kernel_rfl) (by kernel_rfl) (by kernel_rfl) (by kernel_rfl) (by kernel_rfl) (fun _ _ _ h => h) (by rfl) ?_
                          try simp only [pN]
                          refine wt (i := 33) (G0.out) rfl rfl (fun wk hk => by obtain ⟨z0, z1, z2⟩ := HC.out wk hk; go_simp; try rfl) ?_
                          try simp only [pN]
                          refine wt (i := 34) (G0.out) rfl rfl (fun wk hk => by obtain ⟨z0, z1, z2⟩ := HC.out wk hk; go_simp; try rfl) ?_
                          try simp only [pN]
                          refine wpHold_done (by kernel_rfl) ?_
                          refine (‹∀ (a : Act) (w : World), Code.wp Tryz.prog _ _ a w → _› _ _ ?_)
                          go_wp2_with fail
                          go_roundw
                          case rel => exact ⟨0 + 1, by omega, by go_num, (by rw [HA2.out, HJ.out.1]; simp [mayRow, hkb, hvb2]), (fun i h hi => absurd hi (by omega)), G0.out⟩
                          case measure => simp [intOf]; omega
                    · obtain ⟨p, hp⟩ : ∃ p, j = p + 1 := ⟨j - 1, by omega⟩
                      have hpl : p < o.rows.length := by omega
                      have hpl2 : p + 1 < o.rows.length := by omega
                      obtain ⟨b3, o3, x3, y3, e3, h3⟩ := rws_at HS.out.1.rows p hpl
                      simp at e3
                      obtain ⟨rfl, rfl⟩ := e3
                      obtain ⟨f3, m3, e3, rfl, _, _, _⟩ := Names.seg_open h3.s0
                      obtain ⟨c, hc⟩ : ∃ c, Names.cmpL o.rows[p].1 r.1 = c := ⟨_, rfl⟩
                      have HCM : Hid (Names.cmpL o.rows[p].1 r.1 = c ∧ Names.cmpL o.rows[p].1 o.rows[p + 1].1 = c) := by
                        refine ⟨hc, ?_⟩
                        have h := HRJ.out
                        subst hp
                        rw [← h]
                        exact hc
                      have HC : Hid (∀ y : World, W0.grownBy y none → y.cell? ⟨b2, o2 + j * 2, none⟩ = some (.slice f1 m1 e1) ∧ y.cell? ⟨b2, o2 + j * 2 + 1, none⟩ = some (.slice f2 m2 e2) ∧ y.cell? ⟨b2, o2 + p * 2, none⟩ = some (.slice f3 m3 e3)) := fun y hy => ⟨(h2.grown hy).c0, (h2.grown hy).c1, (h3.grown hy).c0⟩
                      have HSG : Hid (∀ y : World, W0.grownBy y none → Seg y (.slice f1 m1 e1) r.1 ∧ Seg y (.slice f2 m2 e2) r.2 ∧ Seg y (.slice f3 m3 e3) o.rows[p].1) := fun y hy => ⟨(h2.grown hy).s0, (h2.grown hy).s1, (h3.grown hy).s0⟩
                      have HPJ : Hid (j = p + 1) := hp
                      have hjp : (j : Int) - 1 = (p : Int) := by omega
                      have j4 : (0 : Int) < (j : Int) := by omega
                      have j4' : 0 < j := by omega
                      have j5 : (0 : Int) ≤ (p : Int) := by omega
                      have j6 : (p : Int) < (m : Int) := by omega
                      clear h2 h3 hc hp hj0
                      cases hkb : Names.keyB r.1 with
                      | false =>
                        have HX : Hid (M = false) := by rw [HAL.out]; exact HF.out (HMO.out false rfl (.inl (HF2.out (by simp [mayRow, hkb])).symm))
                        go_upto_region 19 with fail
                        refine wp_region_noPanic ?_
                        refine wp_region_hold 1000 (fun y => W0.grownBy y none) (by kernel_rfl) ?_
                        have G0 : Hid (W0.grownBy wr.drew none) := grown_trans HJ.out.2.2 (grown_drew _ _)
                        generalize wr.drew = wd at G0 ⊢
                        refine wt (i := 0) (G0.out) rfl rfl (fun wk hk => by obtain ⟨z0, z1, z2⟩ := HC.out wk hk; go_simp; try rfl) ?_
                        try simp only [pN]
                        refine wt (i := 1) (G0.out) rfl rfl (fun wk hk => by obtain ⟨z0, z1, z2⟩ := HC.out wk hk; go_simp; try rfl) ?_
                        try simp only [pN]
                        refine wt (i := 2) (G0.out) rfl rfl (fun wk hk => by obtain ⟨z0, z1, z2⟩ := HC.out wk hk; go_simp; try rfl) ?_
                        try simp only [pN]
                        refine wt (i := 3) (G0.out) rfl rfl (fun wk hk => by obtain ⟨z0, z1, z2⟩ := HC.out wk hk; go_simp; try rfl) ?_
                        try simp only [pN]
                        refine wt (i := 4) (G0.out) rfl rfl (fun wk hk => by obtain ⟨z0, z1, z2⟩ := HC.out wk hk; go_simp; try rfl) ?_
                        try simp only [pN]
                        refine wpHold_one (i := 5) rfl (by kernel_rfl) (by rfl) (fun K hK => ?_)
                        go_wp2_with fail
                        refine (Names.key12 _ r.1 wd (HSG.out wd G0.out).1).mono ?_
                        rintro e w1 ⟨rfl, hw1⟩
                        rw [hw1, hkb]
                        clear hw1
                        refine hK.out _ _ (fun _ => G0.out) ?_
                        clear hK K
                        try simp only [pN]
                        refine wt (i := 6) (G0.out) rfl rfl (fun wk hk => by obtain ⟨z0, z1, z2⟩ := HC.out wk hk; go_simp; try rfl) ?_
                        try simp only [pN]
                        refine wt (i := 7) (G0.out) rfl rfl (fun wk hk => by obtain ⟨z0, z1, z2⟩ := HC.out wk hk; go_simp; try rfl) ?_
                        try simp only [pN]
                        refine wpHold_skip (i := 8) (G0.out) rfl rfl (by kernel_rfl) (by kernel_rfl) (by kernel_rfl) (by kernel_rfl) (by kernel_rfl) (fun _ _ _ h => h) (by rfl) ?_
                        try simp only [pN]
                        refine wpHold_skip (i := 9) (G0.out) rfl rfl (by kernel_rfl) (by kernel_rfl) (by kernel_rfl) (by kernel_rfl) (by kernel_rfl) (fun _ _ _ h => h) (by rfl) ?_
                        try simp only [pN]
                        refine wpHold_skip (i := 10) (G0.out) rfl rfl (by kernel_rfl) (by kernel_rfl) (by kernel_rfl) (by kernel_rfl) (by kernel_rfl) (fun _ _ _ h => h) (by rfl) ?_
                        try simp only [pN]
                        refine wpHold_skip (i := 11) (G0.out) rfl rfl (by kernel_rfl) (by kernel_rfl) (by kernel_rfl) (by kernel_rfl) (by kernel_rfl) (fun _ _ _ h => h) (by rfl) ?_
                        try simp only [pN]
                        refine wpHold_skip (i := 12) (G0.out) rfl rfl (by kernel_rfl) (by kernel_rfl) (by kernel_rfl) (by kernel_rfl) (by kernel_rfl) (fun _ _ _ h => h) (by rfl) ?_
                        try simp only [pN]
                        refine wpHold_skip (i := 13) (G0.out) rfl rfl (by kernel_rfl) (by kernel_rfl) (by kernel_rfl) (by kernel_rfl) (by kernel_rfl) (fun _ _ _ h => h) (by rfl) ?_
                        try simp only [pN]
                        refine wpHold_skip (i := 14) (G0.out) rfl rfl (by kernel_rfl) (by kernel_rfl) (by kernel_rfl) (by kernel_rfl) (by kernel_rfl) (fun _ _ _ h => h) (by rfl) ?_
                        try simp only [pN]
                        refine wt (i := 15) (G0.out) rfl rfl (fun wk hk => by obtain ⟨z0, z1, z2⟩ := HC.out wk hk; go_simp; try rfl) ?_
                        try simp only [pN]
                        refine wt (i := 16) (G0.out) rfl rfl (fun wk hk => by obtain ⟨z0, z1, z2⟩ := HC.out wk hk; go_simp; try rfl) ?_
                        try simp only [pN]
                        refine wpHold_skip (i := 17) (G0.out) rfl rfl (by kernel_rfl) (by kernel_rfl) (by kernel_rfl) (by kernel_rfl) (by kernel_rfl) (fun _ _ _ h => h) (by rfl) ?_
                        try simp only [pN]
                        refine wpHold_skip (i := 18) (G0.out) rfl rfl (by kernel_rfl) (by kernel_rfl) (by kernel_rfl) (by kernel_rfl) (by kernel_rfl) (fun _ _ _ h => h) (by rfl) ?_
                        try simp only [pN]
                        refine wpHold_skip (i := 19) (G0.out) rfl rfl (by kernel_rfl) (by kernel_rfl) (by kernel_rfl) (by kernel_rfl) (by kernel_rfl) (fun _ _ _ h => h) (by rfl) ?_
                        try simp only [pN]
                        refine wpHold_skip (i := 20) (G0.out) rfl rfl (by kernel_rfl) (by kernel_rfl) (by kernel_rfl) (by kernel_rfl) (by kernel_rfl) (fun _ _ _ h => h) (by rfl) ?_
                        try simp only [pN]
                        refine wpHold_skip (i := 21) (G0.out) rfl rfl (by kernel_rfl) (by kernel_rfl) (by kernel_rfl) (by kernel_rfl) (by kernel_rfl) (fun _ _ _ h => h) (by rfl) ?_
                        try simp only [pN]
                        refine wpHold_skip (i := 22) (G0.out) rfl rfl (by kernel_rfl) (by kernel_rfl) (by kernel_rfl) (by kernel_rfl) (by kernel_rfl) (fun _ _ _ h => h) (by rfl) ?_
                        try simp only [pN]
                        refine wpHold_skip (i := 23) (G0.out) rfl rfl (by kernel_rfl) (by kernel_rfl) (by kernel_rfl) (by kernel_rfl) (by kernel_rfl) (fun _ _ _ h => h) (by rfl) ?_
                        try simp only [pN]
                        refine wpHold_skip (i := 24) (G0.out) rfl rfl (by kernel_rfl) (by kernel_rfl) (by kernel_rfl) (by kernel_rfl) (by kernel_rfl) (fun _ _ _ h => h) (by rfl) ?_
                        try simp only [pN]
                        refine wpHold_skip (i := 25) (G0.out) rfl rfl (by kernel_rfl) (by kernel_rfl) (by kernel_rfl) (by kernel_rfl) (by kernel_rfl) (fun _ _ _ h => h) (by rfl) ?_
                        try simp only [pN]
                        refine wpHold_skip (i := 26) (G0.out) rfl rfl (by kernel_rfl) (by kernel_rfl) (by kernel_rfl) (by kernel_rfl) (by kernel_rfl) (fun _ _ _ h => h) (by rfl) ?_
                        try simp only [pN]
                        refine wpHold_skip (i := 27) (G0.out) rfl rfl (by kernel_rfl) (by kernel_rfl) (by kernel_rfl) (by kernel_rfl) (by kernel_rfl) (fun _ _ _ h => h) (by rfl) ?_
                        try simp only [pN]
                        refine wpHold_skip (i := 28) (G0.out) rfl rfl (by kernel_rfl) (by kernel_rfl) (by kernel_rfl) (by kernel_rfl) (by kernel_rfl) (fun _ _ _ h => h) (by rfl) ?_
                        try simp only [pN]
                        refine wpHold_skip (i := 29) (G0.out) rfl rfl (by kernel_rfl) (by kernel_rfl) (by kernel_rfl) (by kernel_rfl) (by kernel_rfl) (fun _ _ _ h => h) (by rfl) ?_
                        try simp only [pN]
                        refine wpHold_skip (i := 30) (G0.out) rfl rfl (by kernel_rfl) (by kernel_rfl) (by kernel_rfl) (by kernel_rfl) (by kernel_rfl) (fun _ _ _ h => h) (by rfl) ?_
                        try simp only [pN]
                        refine wpHold_skip (i := 31) (G0.out) rfl rfl (by kernel_rfl) (by kernel_rfl) (by kernel_rfl) (by kernel_rfl) (by kernel_rfl) (fun _ _ _ h => h) (by rfl) ?_
                        try simp only [pN]
                        refine wpHold_skip (i := 32) (G0.out) rfl rfl (by kernel_rfl) (by kernel_rfl) (by kernel_rfl) (by kernel_rfl) (by kernel_rfl) (fun _ _ _ h => h) (by rfl) ?_
                        try simp only [pN]
                        refine wpHold_skip (i := 33) (G0.out) rfl rfl (by kernel_rfl) (by kernel_rfl) (by kernel_rfl) (by kernel_rfl) (by kernel_rfl) (fun _ _ _ h => h) (by rfl) ?_
                        try simp only [pN]
                        refine wt (i := 34) (G0.out) rfl rfl (fun wk hk => by obtain ⟨z0, z1, z2⟩ := HC.out wk hk; go_simp; try rfl) ?_
                        try simp only [pN]
                        refine wpHold_done (by kernel_rfl) ?_
                        refine (‹∀ (a : Act) (w : World), Code.wp Tryz.prog _ _ a w → _› _ _ ?_)
                        go_wp2_with fail
                        go_ret
                        exact ⟨by rw [HX.out]; rfl, grown_trans S0.out.2 G0.out⟩
                      | true =>
                        cases hvb2 : Names.valueB r.2 with
                        | false =>
                          have HX : Hid (M = false) := by rw [HAL.out]; exact HF.out (HMO.out false rfl (.inl (HF2.out (by simp [mayRow, hvb2])).symm))
                          go_upto_region 19 with fail
                          refine wp_region_noPanic ?_
                          refine wp_region_hold 1000 (fun y => W0.grownBy y none) (by kernel_rfl) ?_
                          have G0 : Hid (W0.grownBy wr.drew none) := grown_trans HJ.out.2.2 (grown_drew _ _)
                          generalize wr.drew = wd at G0 ⊢
                          refine wt (i := 0) (G0.out) rfl rfl (fun wk hk => by obtain ⟨z0, z1, z2⟩ := HC.out wk hk; go_simp; try rfl) ?_
                          try simp only [pN]
                          refine wt (i := 1) (G0.out) rfl rfl (fun wk hk => by obtain ⟨z0, z1, z2⟩ := HC.out wk hk; go_simp; try rfl) ?_
                          try simp only [pN]
                          refine wt (i := 2) (G0.out) rfl rfl (fun wk hk => by obtain ⟨z0, z1, z2⟩ := HC.out wk hk; go_simp; try rfl) ?_
                          try simp only [pN]
                          refine wt (i := 3) (G0.out) rfl rfl (fun wk hk => by obtain ⟨z0, z1, z2⟩ := HC.out wk hk; go_simp; try rfl) ?_
                          try simp only [pN]
                          refine wt (i := 4) (G0.out) rfl rfl (fun wk hk => by obtain ⟨z0, z1, z2⟩ := HC.out wk hk; go_simp; try rfl) ?_
                          try simp only [pN]
                          refine wpHold_one (i := 5) rfl (by kernel_rfl) (by rfl) (fun K hK => ?_)
                          go_wp2_with fail
                          refine (Names.key12 _ r.1 wd (HSG.out wd G0.out).1).mono ?_
                          rintro e w1 ⟨rfl, hw1⟩
                          rw [hw1, hkb]
                          clear hw1
                          refine hK.out _ _ (fun _ => G0.out) ?_
                          clear hK K
                          try simp only [pN]
                          refine wt (i := 6) (G0.out) rfl rfl (fun wk hk => by obtain ⟨z0, z1, z2⟩ := HC.out wk hk; go_simp; try rfl) ?_
                          try simp only [pN]
                          refine wt (i := 7) (G0.out) rfl rfl (fun wk hk => by obtain ⟨z0, z1, z2⟩ := HC.out wk hk; go_simp; try rfl) ?_
                          try simp only [pN]
                          refine wt (i := 8) (G0.out) rfl rfl (fun wk hk => by obtain ⟨z0, z1, z2⟩ := HC.out wk hk; go_simp; try rfl) ?_
                          try simp only [pN]
                          refine wt (i := 9) (G0.out) rfl rfl (fun wk hk => by obtain ⟨z0, z1, z2⟩ := HC.out wk hk; go_simp; try rfl) ?_
                          try simp only [pN]
                          refine wt (i := 10) (G0.out) rfl rfl (fun wk hk => by obtain ⟨z0, z1, z2⟩ := HC.out wk hk; go_simp; try rfl) ?_
                          try simp only [pN]
                          refine wt (i := 11) (G0.out) rfl rfl (fun wk hk => by obtain ⟨z0, z1, z2⟩ := HC.out wk hk; go_simp; try rfl) ?_
                          try simp only [pN]
                          refine wt (i := 12) (G0.out) rfl rfl (fun wk hk => by obtain ⟨z0, z1, z2⟩ := HC.out wk hk; go_simp; try rfl) ?_
                          try simp only [pN]
                          refine wpHold_one (i := 13) rfl (by kernel_rfl) (by rfl) (fun K hK => ?_)
                          go_wp2_with fail
                          refine (Names.value14 _ r.2 wd (HSG.out wd G0.out).2.1).mono ?_
                          rintro e w1 ⟨rfl, hw1⟩
                          rw [hw1, hvb2]
                          clear hw1
                          refine hK.out _ _ (fun _ => G0.out) ?_
                          clear hK K
                          try simp only [pN]
                          refine wt (i := 14) (G0.out) rfl rfl (fun wk hk => by obtain ⟨z0, z1, z2⟩ := HC.out wk hk; go_simp; try rfl) ?_
                          try simp only [pN]
                          refine wt (i := 15) (G0.out) rfl rfl (fun wk hk => by obtain ⟨z0, z1, z2⟩ := HC.out wk hk; go_simp; try rfl) ?_
                          try simp only [pN]
                          refine wt (i := 16) (G0.out) rfl rfl (fun wk hk => by obtain ⟨z0, z1, z2⟩ := HC.out wk hk; go_simp; try rfl) ?_
                          try simp only [pN]
                          refine wpHold_skip (i := 17) (G0.out) rfl rfl (by kernel_rfl) (by kernel_rfl) (by kernel_rfl) (by kernel_rfl) (by kernel_rfl) (fun _ _ _ h => h) (by rfl) ?_
                          try simp only [pN]
                          refine wpHold_skip (i := 18) (G0.out) rfl rfl (by kernel_rfl) (by kernel_rfl) (by kernel_rfl) (by kernel_rfl) (by kernel_rfl) (fun _ _ _ h => h) (by rfl) ?_
                          try simp only [pN]
                          refine wpHold_skip (i := 19) (G0.out) rfl rfl (by kernel_rfl) (by kernel_rfl) (by kernel_rfl) (by kernel_rfl) (by kernel_rfl) (fun _ _ _ h => h) (by rfl) ?_
                          try simp only [pN]
                          refine wpHold_skip (i := 20) (G0.out) rfl rfl (by kernel_rfl) (by kernel_rfl) (by kernel_rfl) (by kernel_rfl) (by kernel_rfl) (fun _ _ _ h => h) (by rfl) ?_
                          try simp only [pN]
                          refine wpHold_skip (i := 21) (G0.out) rfl rfl (by kernel_rfl) (by kernel_rfl) (by kernel_rfl) (by kernel_rfl) (by kernel_rfl) (fun _ _ _ h => h) (by rfl) ?_
                          try simp only [pN]
                          refine wpHold_skip (i := 22) (G0.out) rfl rfl (by kernel_rfl) (by kernel_rfl) (by kernel_rfl) (by kernel_rfl) (by kernel_rfl) (fun _ _ _ h => h) (by rfl) ?_
                          try simp only [pN]
                          refine wpHold_skip (i := 23) (G0.out) rfl rfl (by kernel_rfl) (by kernel_rfl) (by kernel_rfl) (by kernel_rfl) (by kernel_rfl) (fun _ _ _ h => h) (by rfl) ?_
                          try simp only [pN]
                          refine wpHold_skip (i := 24) (G0.out) rfl rfl (by kernel_rfl) (by kernel_rfl) (by kernel_rfl) (by kernel_rfl) (by kernel_rfl) (fun _ _ _ h => h) (by rfl) ?_
                          try simp only [pN]
                          refine wpHold_skip (i := 25) (G0.out) rfl rfl (by kernel_rfl) (by kernel_rfl) (by kernel_rfl) (by kernel_rfl) (by kernel_rfl) (fun _ _ _ h => h) (by rfl) ?_
                          try simp only [pN]
                          refine wpHold_skip (i := 26) (G0.out) rfl rfl (by kernel_rfl) (by kernel_rfl) (by kernel_rfl) (by kernel_rfl) (by kernel_rfl) (fun _ _ _ h => h) (by rfl) ?_
                          try simp only [pN]
                          refine wpHold_skip (i := 27) (G0.out) rfl rfl (by kernel_rfl) (by kernel_rfl) (by kernel_rfl) (by kernel_rfl) (by kernel_rfl) (fun _ _ _ h => h) (by rfl) ?_
                          try simp only [pN]
                          refine wpHold_skip (i := 28) (G0.out) rfl rfl (by kernel_rfl) (by kernel_rfl) (by kernel_rfl) (by kernel_rfl) (by kernel_rfl) (fun _ _ _ h => h) (by rfl) ?_
                          try simp only [pN]
                          refine wpHold_skip (i := 29) (G0.out) rfl rfl (by kernel_rfl) (by kernel_rfl) (by kernel_rfl) (by kernel_rfl) (by kernel_rfl) (fun _ _ _ h => h) (by rfl) ?_
                          try simp only [pN]
                          refine wpHold_skip (i := 30) (G0.out) rfl rfl (by kernel_rfl) (by kernel_rfl) (by kernel_rfl) (by kernel_rfl) (by kernel_rfl) (fun _ _ _ h => h) (by rfl) ?_
                          try simp only [pN]
                          refine wpHold_skip (i := 31) (G0.out) rfl rfl (by kernel_rfl) (by kernel_rfl) (by kernel_rfl) (by kernel_rfl) (by kernel_rfl) (fun _ _ _ h => h) (by rfl) ?_
                          try simp only [pN]
                          refine wpHold_skip (i := 32) (G0.out) rfl rfl (by kernel_rfl) (by kernel_rfl) (by kernel_rfl) (by kernel_rfl) (by kernel_rfl) (fun _ _ _ h => h) (by rfl) ?_
                          try simp only [pN]
                          refine wpHold_skip (i := 33) (G0.out) rfl rfl (by kernel_rfl) (by kernel_rfl) (by kernel_rfl) (by kernel_rfl) (by kernel_rfl) (fun _ _ _ h => h) (by rfl) ?_
                          try simp only [pN]
                          refine wt (i := 34) (G0.out) rfl rfl (fun wk hk => by obtain ⟨z0, z1, z2⟩ := HC.out wk hk; go_simp; try rfl) ?_
                          try simp only [pN]
                          refine wpHold_done (by kernel_rfl) ?_
                          refine (‹∀ (a : Act) (w : World), Code.wp Tryz.prog _ _ a w → _› _ _ ?_)
                          go_wp2_with fail
                          go_ret
                          exact ⟨by rw [HX.out]; rfl, grown_trans S0.out.2 G0.out⟩
                        | true =>
                          by_cases hneg : c < 0
                          · have q : ((0 : Int) ≤ c) = False := eq_false (by omega)
                            go_upto_region 19 with fail
                            refine wp_region_noPanic ?_
                            refine wp_region_hold 1000 (fun y => W0.grownBy y none) (by kernel_rfl) ?_
                            have G0 : Hid (W0.grownBy wr.drew none) := grown_trans HJ.out.2.2 (grown_drew _ _)
                            generalize wr.drew = wd at G0 ⊢
                            refine wt (i := 0) (G0.out) rfl rfl (fun wk hk => by obtain ⟨z0, z1, z2⟩ := HC.out wk hk; go_simp; try rfl) ?_
                            try simp only [pN]
                            refine wt (i := 1) (G0.out) rfl rfl (fun wk hk => by obtain ⟨z0, z1, z2⟩ := HC.out wk hk; go_simp; try rfl) ?_
                            try simp only [pN]
                            refine wt (i := 2) (G0.out) rfl rfl (fun wk hk => by obtain ⟨z0, z1, z2⟩ := HC.out wk hk; go_simp; try rfl) ?_
                            try simp only [pN]
                            refine wt (i := 3) (G0.out) rfl rfl (fun wk hk => by obtain ⟨z0, z1, z2⟩ := HC.out wk hk; go_simp; try rfl) ?_
                            try simp only [pN]
                            refine wt (i := 4) (G0.out) rfl rfl (fun wk hk => by obtain ⟨z0, z1, z2⟩ := HC.out wk hk; go_simp; try rfl) ?_
                            try simp only [pN]
                            refine wpHold_one (i := 5) rfl (by kernel_rfl) (by rfl) (fun K hK => ?_)
                            go_wp2_with fail
                            refine (Names.key12 _ r.1 wd (HSG.out wd G0.out).1).mono ?_
                            rintro e w1 ⟨rfl, hw1⟩
                            rw [hw1, hkb]
                            clear hw1
                            refine hK.out _ _ (fun _ => G0.out) ?_
                            clear hK K
                            try simp only [pN]
                            refine wt (i := 6) (G0.out) rfl rfl (fun wk hk => by obtain ⟨z0, z1, z2⟩ := HC.out wk hk; go_simp; try rfl) ?_
                            try simp only [pN]
                            refine wt (i := 7) (G0.out) rfl rfl (fun wk hk => by obtain ⟨z0, z1, z2⟩ := HC.out wk hk; go_simp; try rfl) ?_
                            try simp only [pN]
                            refine wt (i := 8) (G0.out) rfl rfl (fun wk hk => by obtain ⟨z0, z1, z2⟩ := HC.out wk hk; go_simp; try rfl) ?_
                            try simp only [pN]
                            refine wt (i := 9) (G0.out) rfl rfl (fun wk hk => by obtain ⟨z0, z1, z2⟩ := HC.out wk hk; go_simp; try rfl) ?_
                            try simp only [pN]
                            refine wt (i := 10) (G0.out) rfl rfl (fun wk hk => by obtain ⟨z0, z1, z2⟩ := HC.out wk hk; go_simp; try rfl) ?_
                            try simp only [pN]
                            refine wt (i := 11) (G0.out) rfl rfl (fun wk hk => by obtain ⟨z0, z1, z2⟩ := HC.out wk hk; go_simp; try rfl) ?_
                            try simp only [pN]
                            refine wt (i := 12) (G0.out) rfl rfl (fun wk hk => by obtain ⟨z0, z1, z2⟩ := HC.out wk hk; go_simp; try rfl) ?_
                            try simp only [pN]
                            refine wpHold_one (i := 13) rfl (by kernel_rfl) (by rfl) (fun K hK => ?_)
                            go_wp2_with fail
                            refine (Names.value14 _ r.2 wd (HSG.out wd G0.out).2.1).mono ?_
                            rintro e w1 ⟨rfl, hw1⟩
                            rw [hw1, hvb2]
                            clear hw1
                            refine hK.out _ _ (fun _ => G0.out) ?_
                            clear hK K
                            try simp only [pN]
                            refine wt (i := 14) (G0.out) rfl rfl (fun wk hk => by obtain ⟨z0, z1, z2⟩ := HC.out wk hk; go_simp; try rfl) ?_
                            try simp only [pN]
                            refine wt (i := 15) (G0.out) rfl rfl (fun wk hk => by obtain ⟨z0, z1, z2⟩ := HC.out wk hk; go_simp; try rfl) ?_
                            try simp only [pN]
                            refine wt (i := 16) (G0.out) rfl rfl (fun wk hk => by obtain ⟨z0, z1, z2⟩ := HC.out wk hk; go_simp; try rfl) ?_
                            try simp only [pN]
                            refine wt (i := 17) (G0.out) rfl rfl (fun wk hk => by obtain ⟨z0, z1, z2⟩ := HC.out wk hk; go_simp; try rfl) ?_
                            try simp only [pN]
                            refine wpHold_one (i := 18) rfl (by kernel_rfl) (by rfl) (fun K hK => ?_)
                            go_wp2_with fail
                            refine hK.out _ _ (fun _ => G0.out) ?_
                            clear hK K
                            try simp only [pN]
                            refine wt (i := 19) (G0.out) rfl rfl (fun wk hk => by obtain ⟨z0, z1, z2⟩ := HC.out wk hk; go_simp; try rfl) ?_
                            try simp only [pN]
                            refine wt (i := 20) (G0.out) rfl rfl (fun wk hk => by obtain ⟨z0, z1, z2⟩ := HC.out wk hk; go_simp; try rfl) ?_
                            try simp only [pN]
                            refine wt (i := 21) (G0.out) rfl rfl (fun wk hk => by obtain ⟨z0, z1, z2⟩ := HC.out wk hk; go_simp; try rfl) ?_
                            try simp only [pN]
                            refine wt (i := 26) (G0.out) rfl rfl (fun wk hk => by obtain ⟨z0, z1, z2⟩ := HC.out wk hk; go_simp; try rfl) ?_
                            try simp only [pN]
                            refine wt (i := 27) (G0.out) rfl rfl (fun wk hk => by obtain ⟨z0, z1, z2⟩ := HC.out wk hk; go_simp; try rfl) ?_
                            try simp only [pN]
                            refine wt (i := 28) (G0.out) rfl rfl (fun wk hk => by obtain ⟨z0, z1, z2⟩ := HC.out wk hk; go_simp; try rfl) ?_
                            try simp only [pN]
                            refine wt (i := 29) (G0.out) rfl rfl (fun wk hk => by obtain ⟨z0, z1, z2⟩ := HC.out wk hk; go_simp; try rfl) ?_
                            try simp only [pN]
                            refine wt (i := 30) (G0.out) rfl rfl (fun wk hk => by obtain ⟨z0, z1, z2⟩ := HC.out wk hk; go_simp; try rfl) ?_
                            try simp only [pN]
                            refine wpHold_one (i := 22) rfl (by kernel_rfl) (by rfl) (fun K hK => ?_)
                            go_wp2_with fail
                            refine hK.out _ _ (fun _ => G0.out) ?_
                            clear hK K
                            try simp only [pN]
                            refine wt (i := 23) (G0.out) rfl rfl (fun wk hk => by obtain ⟨z0, z1, z2⟩ := HC.out wk hk; go_simp; try rfl) ?_
                            try simp only [pN]
                            refine wt (i := 24) (G0.out) rfl rfl (fun wk hk => by obtain ⟨z0, z1, z2⟩ := HC.out wk hk; go_simp; try rfl) ?_
                            try simp only [pN]
                            refine wt (i := 25) (G0.out) rfl rfl (fun wk hk => by obtain ⟨z0, z1, z2⟩ := HC.out wk hk; go_simp; try rfl) ?_
                            try simp only [pN]
                            refine wpHold_one (i := 31) rfl (by kernel_rfl) (by rfl) (fun K hK => ?_)
                            go_wp2_with fail
                            refine (Names.cmp27 _ _ _ _ wd (HSG.out wd G0.out).2.2 (HSG.out wd G0.out).1).mono ?_
                            rintro e w1 ⟨rfl, q1, hw1⟩
                            rw [HCM.out.1]
                            have G1 : Hid (W0.grownBy w1 none) := by rw [hw1]; exact grown_trans G0.out (grown_drewN _ _ _)
                            clear hw1
                            refine hK.out _ _ (fun _ => G1.out) ?_
                            clear hK K
                            try simp only [pN]
                            refine wpHold_one (i := 32) rfl (by kernel_rfl) (by rfl) (fun K hK => ?_)
                            go_wp2_with fail
                            refine hK.out _ _ (fun _ => G1.out) ?_
                            clear hK K
                            try simp only [pN]
                            refine wt (i := 33) (G1.out) rfl rfl (fun wk hk => by obtain ⟨z0, z1, z2⟩ := HC.out wk hk; go_simp; try rfl) ?_
                            try simp only [pN]
                            refine wt (i := 34) (G1.out) rfl rfl (fun wk hk => by obtain ⟨z0, z1, z2⟩ := HC.out wk hk; go_simp; try rfl) ?_
                            try simp only [pN]
                            refine wpHold_done (by kernel_rfl) ?_
                            refine (‹∀ (a : Act) (w : World), Code.wp Tryz.prog _ _ a w → _› _ _ ?_)
                            go_wp2_with fail
                            go_roundw
                            case rel => exact ⟨j + 1, by omega, by go_num, (by rw [HA2.out, HJ.out.1]; simp [mayRow, hkb, hvb2]), (fun i h hi => by
                                by_cases hip : i + 1 < j
                                · exact HJ.out.2.1 i h hip
                                · have hpj := HPJ.out
                                  have : i = p := by omega
                                  subst this
                                  rw [HCM.out.2]
                                  exact hneg), G1.out⟩
                            case measure => simp [intOf]; omega
                          · have q : (0 : Int) ≤ c := by omega
                            have HX : Hid (M = false) := by
                              rw [HAL.out]
                              refine HF.out (HMO.out false rfl (.inr ?_))
                              cases hrb : riseB o.rows with
                              | false => rfl
                              | true =>
                                have := (rise_iff o.rows).1 hrb p hpl2
                                rw [HCM.out.2] at this
                                omega
                            go_upto_region 19 with fail
                            refine wp_region_noPanic ?_
                            refine wp_region_hold 1000 (fun y => W0.grownBy y none) (by kernel_rfl) ?_
                            have G0 : Hid (W0.grownBy wr.drew none) := grown_trans HJ.out.2.2 (grown_drew _ _)
                            generalize wr.drew = wd at G0 ⊢
                            refine wt (i := 0) (G0.out) rfl rfl (fun wk hk => by obtain ⟨z0, z1, z2⟩ := HC.out wk hk; go_simp; try rfl) ?_
                            try simp only [pN]
                            refine wt (i := 1) (G0.out) rfl rfl (fun wk hk => by obtain ⟨z0, z1, z2⟩ := HC.out wk hk; go_simp; try rfl) ?_
                            try simp only [pN]
                            refine wt (i := 2) (G0.out) rfl rfl (fun wk hk => by obtain ⟨z0, z1, z2⟩ := HC.out wk hk; go_simp; try rfl) ?_
                            try simp only [pN]
                            refine wt (i := 3) (G0.out) rfl rfl (fun wk hk => by obtain ⟨z0, z1, z2⟩ := HC.out wk hk; go_simp; try rfl) ?_
                            try simp only [pN]
                            refine wt (i := 4) (G0.out) rfl rfl (fun wk hk => by obtain ⟨z0, z1, z2⟩ := HC.out wk hk; go_simp; try rfl) ?_
                            try simp only [pN]
                            refine wpHold_one (i := 5) rfl (by kernel_rfl) (by rfl) (fun K hK => ?_)
                            go_wp2_with fail
                            refine (Names.key12 _ r.1 wd (HSG.out wd G0.out).1).mono ?_
                            rintro e w1 ⟨rfl, hw1⟩
                            rw [hw1, hkb]
                            clear hw1
                            refine hK.out _ _ (fun _ => G0.out) ?_
                            clear hK K
                            try simp only [pN]
                            refine wt (i := 6) (G0.out) rfl rfl (fun wk hk => by obtain ⟨z0, z1, z2⟩ := HC.out wk hk; go_simp; try rfl) ?_
                            try simp only [pN]
                            refine wt (i := 7) (G0.out) rfl rfl (fun wk hk => by obtain ⟨z0, z1, z2⟩ := HC.out wk hk; go_simp; try rfl) ?_
                            try simp only [pN]
                            refine wt (i := 8) (G0.out) rfl rfl (fun wk hk => by obtain ⟨z0, z1, z2⟩ := HC.out wk hk; go_simp; try rfl) ?_
                            try simp only [pN]
                            refine wt (i := 9) (G0.out) rfl rfl (fun wk hk => by obtain ⟨z0, z1, z2⟩ := HC.out wk hk; go_simp; try rfl) ?_
                            try simp only [pN]
                            refine wt (i := 10) (G0.out) rfl rfl (fun wk hk => by obtain ⟨z0, z1, z2⟩ := HC.out wk hk; go_simp; try rfl) ?_
                            try simp only [pN]
                            refine wt (i := 11) (G0.out) rfl rfl (fun wk hk => by obtain ⟨z0, z1, z2⟩ := HC.out wk hk; go_simp; try rfl) ?_
                            try simp only [pN]
                            refine wt (i := 12) (G0.out) rfl rfl (fun wk hk => by obtain ⟨z0, z1, z2⟩ := HC.out wk hk; go_simp; try rfl) ?_
                            try simp only [pN]
                            refine wpHold_one (i := 13) rfl (by kernel_rfl) (by rfl) (fun K hK => ?_)
                            go_wp2_with fail
                            refine (Names.value14 _ r.2 wd (HSG.out wd G0.out).2.1).mono ?_
                            rintro e w1 ⟨rfl, hw1⟩
                            rw [hw1, hvb2]
                            clear hw1
                            refine hK.out _ _ (fun _ => G0.out) ?_
                            clear hK K
                            try simp only [pN]
                            refine wt (i := 14) (G0.out) rfl rfl (fun wk hk => by obtain ⟨z0, z1, z2⟩ := HC.out wk hk; go_simp; try rfl) ?_
                            try simp only [pN]
                            refine wt (i := 15) (G0.out) rfl rfl (fun wk hk => by obtain ⟨z0, z1, z2⟩ := HC.out wk hk; go_simp; try rfl) ?_
                            try simp only [pN]
                            refine wt (i := 16) (G0.out) rfl rfl (fun wk hk => by obtain ⟨z0, z1, z2⟩ := HC.out wk hk; go_simp; try rfl) ?_
                            try simp only [pN]
                            refine wt (i := 17) (G0.out) rfl rfl (fun wk hk => by obtain ⟨z0, z1, z2⟩ := HC.out wk hk; go_simp; try rfl) ?_
                            try simp only [pN]
                            refine wpHold_one (i := 18) rfl (by kernel_rfl) (by rfl) (fun K hK => ?_)
                            go_wp2_with fail
                            refine hK.out _ _ (fun _ => G0.out) ?_
                            clear hK K
                            try simp only [pN]
                            refine wt (i := 19) (G0.out) rfl rfl (fun wk hk => by obtain ⟨z0, z1, z2⟩ := HC.out wk hk; go_simp; try rfl) ?_
                            try simp only [pN]
                            refine wt (i := 20) (G0.out) rfl rfl (fun wk hk => by obtain ⟨z0, z1, z2⟩ := HC.out wk hk; go_simp; try rfl) ?_
                            try simp only [pN]
                            refine wt (i := 21) (G0.out) rfl rfl (fun wk hk => by obtain ⟨z0, z1, z2⟩ := HC.out wk hk; go_simp; try rfl) ?_
                            try simp only [pN]
                            refine wt (i := 26) (G0.out) rfl rfl (fun wk hk => by obtain ⟨z0, z1, z2⟩ := HC.out wk hk; go_simp; try rfl) ?_
                            try simp only [pN]
                            refine wt (i := 27) (G0.out) rfl rfl (fun wk hk => by obtain ⟨z0, z1, z2⟩ := HC.out wk hk; go_simp; try rfl) ?_
                            try simp only [pN]
                            refine wt (i := 28) (G0.out) rfl rfl (fun wk hk => by obtain ⟨z0, z1, z2⟩ := HC.out wk hk; go_simp; try rfl) ?_
                            try simp only [pN]
                            refine wt (i := 29) (G0.out) rfl rfl (fun wk hk => by obtain ⟨z0, z1, z2⟩ := HC.out wk hk; go_simp; try rfl) ?_
                            try simp only [pN]
                            refine wt (i := 30) (G0.out) rfl rfl (fun wk hk => by obtain ⟨z0, z1, z2⟩ := HC.out wk hk; go_simp; try rfl) ?_
                            try simp only [pN]
                            refine wpHold_one (i := 22) rfl (by kernel_rfl) (by rfl) (fun K hK => ?_)
                            go_wp2_with fail
                            refine hK.out _ _ (fun _ => G0.out) ?_
                            clear hK K
                            try simp only [pN]
                            refine wt (i := 23) (G0.out) rfl rfl (fun wk hk => by obtain ⟨z0, z1, z2⟩ := HC.out wk hk; go_simp; try rfl) ?_
                            try simp only [pN]
                            refine wt (i := 24) (G0.out) rfl rfl (fun wk hk => by obtain ⟨z0, z1, z2⟩ := HC.out wk hk; go_simp; try rfl) ?_
                            try simp only [pN]
                            refine wt (i := 25) (G0.out) rfl rfl (fun wk hk => by obtain ⟨z0, z1, z2⟩ := HC.out wk hk; go_simp; try rfl) ?_
                            try simp only [pN]
                            refine wpHold_one (i := 31) rfl (by kernel_rfl) (by rfl) (fun K hK => ?_)
                            go_wp2_with fail
                            refine (Names.cmp27 _ _ _ _ wd (HSG.out wd G0.out).2.2 (HSG.out wd G0.out).1).mono ?_
                            rintro e w1 ⟨rfl, q1, hw1⟩
                            rw [HCM.out.1]
                            have G1 : Hid (W0.grownBy w1 none) := by rw [hw1]; exact grown_trans G0.out (grown_drewN _ _ _)
                            clear hw1
                            refine hK.out _ _ (fun _ => G1.out) ?_
                            clear hK K
                            try simp only [pN]
                            refine wpHold_one (i := 32) rfl (by kernel_rfl) (by rfl) (fun K hK => ?_)
                            go_wp2_with fail
                            refine hK.out _ _ (fun _ => G1.out) ?_
                            clear hK K
                            try simp only [pN]
                            refine wt (i := 33) (G1.out) rfl rfl (fun wk hk => by obtain ⟨z0, z1, z2⟩ := HC.out wk hk; go_simp; try rfl) ?_
                            try simp only [pN]
                            refine wt (i := 34) (G1.out) rfl rfl (fun wk hk => by obtain ⟨z0, z1, z2⟩ := HC.out wk hk; go_simp; try rfl) ?_
                            try simp only [pN]
                            refine wpHold_done (by kernel_rfl) ?_
                            refine (‹∀ (a : Act) (w : World), Code.wp Tryz.prog _ _ a w → _› _ _ ?_)
                            go_wp2_with fail
                            go_ret
                            exact ⟨by rw [HX.out]; rfl, grown_trans S0.out.2 G1.out⟩
                  · have j3 : ((j : Int) < (m : Int)) = False := eq_false (by omega)
                    have R3 : Hid ((l.take (k + 1)).all mayOut = true ∧ W0.grownBy wr none) := by
                      have h := HJ.out
                      rw [List.take_of_length_le (by rw [HS.out.2]; omega)] at h
                      refine ⟨?_, h.2.2⟩
                      rw [HA.out, HR.out.1]
                      have hr : riseB o.rows = true := (rise_iff o.rows).2 fun i hi => h.2.1 i hi (by have := HS.out.2; omega)
                      simp [mayOut, hvb, HS.out.2, h64, hr, h.1]
                    go_wp2_with fail
                    go_roundw
                    case rel => exact ⟨k + 1, by omega, by go_num, R3⟩
                    case measure => simp [intOf]; omega
              · have i64 : (64 : Int) < (m : Int) := by omega
                have HX : Hid (M = false) := by rw [HAL.out]; exact HF.out (by simp [mayOut, HS.out.2, h64])
                go_wp2_with (go_at_call 64; refine (Names.value14 _ o.value _ (HS.out.1.value.grown HR.out.2)).mono ?_; rintro e w4 ⟨rfl, hw4⟩; rw [hw4, hvb]; clear hw4)
                go_ret
                exact ⟨by rw [HX.out]; rfl, grown_trans S0.out.2 HR.out.2⟩
          · have i3 : ((k : Int) < (n : Int)) = False := eq_false (by omega)
            have HX : Hid (M = true) := by
              have h := HR.out.1
              rw [List.take_of_length_le (by rw [HN.out]; omega)] at h
              rw [HAL.out]
              exact h
            go_wp2_with fail
            go_ret
            exact ⟨by rw [HX.out]; rfl, grown_trans S0.out.2 HR.out.2⟩
      · have i2 : (16 : Int) < (n : Int) := by omega
        have HX : Hid (M = false) := by rw [← HMM.out]; simp [mayRes, HN.out, h16, Hid]
        go_enter Tryz.func31, Tryz.ntmps31
        go_wp2_with fail
        go_ret
        exact ⟨by rw [HX.out]; rfl, World.grownBy_alloc _ _ none⟩
    · have hn0 : n = 0 := by omega
      have HX : Hid (M = false) := by
        have : l = [] := List.eq_nil_of_length_eq_zero (by rw [HN.out]; omega)
        rw [← HMM.out]
        simp [mayRes, this, Hid]
      subst hn0
      go_enter Tryz.func31, Tryz.ntmps31
      go_wp2_with fail
      go_ret
      exact ⟨by rw [HX.out]; rfl, World.grownBy_alloc _ _ none⟩
  · have HX : Hid (M = false) := by rw [← HMM.out]; simp [mayRes, hp, Hid]
    go_enter Tryz.func31, Tryz.ntmps31
    go_wp2_with fail
    go_ret
    exact ⟨by rw [HX.out]; rfl, World.grownBy_alloc _ _ none⟩

theorem may31 (v : Value) (r : PRes) (w : World) (hv : Outs w v r.outs) : Calls Tryz.prog 31 #[.agg #[.int .i64 r.abort, .int .i64 r.place, v]] w (MayPost r w) := by
  obtain ⟨ab, pl, l⟩ := r
  by_cases h0 : ab = 0
  · subst h0
    exact may31_none pl v l w hv
  · by_cases h1 : ab = 1 ∨ ab = 2 ∨ ab = 3
    · exact may31_why ab pl v l w h1 hv
    · exact may31_no ab pl v l w h0 (by omega) (by omega) (by omega) hv
end Go.Proofs.YtfocmbnhkldnfaaGreatDoor
