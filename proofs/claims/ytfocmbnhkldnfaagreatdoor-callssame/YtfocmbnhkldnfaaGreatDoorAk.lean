/-
  The document's Alike.
-/
import Derived.Test.YtfocmbnhkldnfaaGreatDoorAl
import Derived.Test.YtfocmbnhkldnfaaGreatDoorC
import Derived.Deep.DeepCutAuto
namespace Go.Proofs.YtfocmbnhkldnfaaGreatDoor
open Go.RowKit Disk
open Names (Str)

theorem grown3s (w : World) (b : Nat) (a0 a1 a2 : Value) : w.grownBy (((w.setCell ⟨b, 0, none⟩ a0).setCell ⟨b, 1, none⟩ a1).setCell ⟨b, 2, none⟩ a2) (some b) :=
  grown_trans (grown_trans (grown_setCell _ _ _ _) (grown_setCell _ _ _ _)) (grown_setCell _ _ _ _)

set_option maxRecDepth 100000 in
set_option maxHeartbeats 8000000 in
theorem alike30 (a b : Value) (A B : PRes) (w : World) (ha : Outs w a A.outs) (hb : Outs w b B.outs) :
    Calls Tryz.prog 30 #[resV a A, resV b B] w fun e w' => e = .returned (.bool (decide (A = B))) ∧ w.grownBy w' none := by
  obtain ⟨ab, pl, LA⟩ := A
  obtain ⟨ab', pl', LB⟩ := B
  simp only at ha hb
  unfold resV
  simp only
  obtain ⟨ao, n, ca, rfl, hna, la, HA⟩ := outs_open ha
  obtain ⟨bo, m, cb, rfl, hnb, lb, HB⟩ := outs_open hb
  have HN : Hid (LA.length = n ∧ LB.length = m) := And.intro hna hnb
  clear ha hb hna hnb
  by_cases h1 : ab = ab'
  case neg =>
    have q : (ab != ab') = true := by simpa using h1
    have HD : Hid (decide ((⟨ab, pl, LA⟩ : PRes) = ⟨ab', pl', LB⟩) = false) := by unfold Hid; simp [h1]
    rw [HD.out]
    go_enter Tryz.func30, Tryz.ntmps30
    go_wp2_with fail
    go_ret
    exact ⟨rfl, grown_trans (World.grownBy_alloc _ _ none) (World.grownBy_alloc _ _ none)⟩
  subst h1
  by_cases h2 : pl = pl'
  case neg =>
    have q : (pl != pl') = true := by simpa using h2
    have HD : Hid (decide ((⟨ab, pl, LA⟩ : PRes) = ⟨ab, pl', LB⟩) = false) := by unfold Hid; simp [h2]
    rw [HD.out]
    go_enter Tryz.func30, Tryz.ntmps30
    go_wp2_with fail
    go_ret
    exact ⟨rfl, grown_trans (World.grownBy_alloc _ _ none) (World.grownBy_alloc _ _ none)⟩
  subst h2
  by_cases h3 : n = m
  case neg =>
    have q : ((n : Int) != (m : Int)) = true := by simp; omega
    have HD : Hid (decide ((⟨ab, pl, LA⟩ : PRes) = ⟨ab, pl, LB⟩) = false) := by
      unfold Hid
      have : ¬ LA = LB := fun h => h3 (by rw [← HN.out.1, ← HN.out.2, h])
      simp [this]
    rw [HD.out]
    go_enter Tryz.func30, Tryz.ntmps30
    go_wp2_with fail
    go_ret
    exact ⟨rfl, grown_trans (World.grownBy_alloc _ _ none) (World.grownBy_alloc _ _ none)⟩
  subst h3
  have HD : Hid (decide ((⟨ab, pl, LA⟩ : PRes) = ⟨ab, pl, LB⟩) = decide (LA = LB)) := by unfold Hid; simp
  rw [HD.out]
  clear HD
  obtain ⟨W0, hW0⟩ : ∃ W, W = (w.alloc (.cells #[.int .i64 ab, .int .i64 pl, .slice ao n ca] 51)).alloc (.cells #[.int .i64 ab, .int .i64 pl, .slice bo n cb] 51) := ⟨_, rfl⟩
  have HG : Hid (w.grownBy W0 none ∧ Blk W0 w.heap.size 51 #[.int .i64 ab, .int .i64 pl, .slice ao n ca] ∧ Blk W0 (w.heap.size + 1) 51 #[.int .i64 ab, .int .i64 pl, .slice bo n cb]) := by
    rw [hW0]
    refine ⟨grown_trans (World.grownBy_alloc _ _ none) (World.grownBy_alloc _ _ none), Blk.grown (heap_alloc_new w _) (World.grownBy_alloc _ _ none) (by simp), ?_⟩
    have := heap_alloc_new (w.alloc (.cells #[.int .i64 ab, .int .i64 pl, .slice ao n ca] 51)) (.cells #[.int .i64 ab, .int .i64 pl, .slice bo n cb] 51)
    simpa [Blk] using this
  go_enter Tryz.func30, Tryz.ntmps30
  go_wp2_with fail
  rw [← hW0]
  clear hW0
  go_loopw [5] (fun i wr => ∃ k : Nat, k ≤ n ∧ i = .int .i64 k ∧ Hid (W0.grownBy wr none ∧ ((LA.drop k = LB.drop k) ↔ LA = LB))) (fun i _ => n - (intOf i).toNat)
  case atStart => exact ⟨0, by omega, rfl, grown_refl _ _, by simp⟩
  case round =>
    obtain ⟨k, hk, rfl, HI⟩ := hrel
    have c0 := (HG.out.2.1.grown HI.out.1 (by simp)).cell 2
    by_cases hlt : k < n
    · have hka : k < LA.length := by rw [HN.out.1]; omega
      have hkb : k < LB.length := by rw [HN.out.2]; omega
      obtain ⟨b1, o1, x1, y1, rfl, h1, s1⟩ := outs_at (HA.out.grown (grown_trans HG.out.1 HI.out.1)) k hka
      obtain ⟨b2, o2, x2, y2, rfl, h2, s2⟩ := outs_at (HB.out.grown (grown_trans HG.out.1 HI.out.1)) k hkb
      have HE : Hid _ := (drop_eq hka hkb)
      obtain ⟨oa, hoa⟩ : ∃ o, o = LA[k] := ⟨_, rfl⟩
      obtain ⟨ob, hob⟩ : ∃ o, o = LB[k] := ⟨_, rfl⟩
      rw [← hoa] at h1 s1
      rw [← hob] at h2 s2
      have HO : Hid (oa = LA[k] ∧ ob = LB[k]) := And.intro hoa hob
      clear hoa hob
      obtain ⟨fa, va, ra⟩ := oa
      obtain ⟨fb, vb, rb⟩ := ob
      obtain ⟨p1, p1', p2, p2', rfl, rfl⟩ := s1.shapes
      obtain ⟨q1, q1', q2, q2', rfl, rfl⟩ := s2.shapes
      simp only at h1 h2 s1 s2
      have HS : Hid (OutSeg wr (.slice p1 va.length p1') (.slice p2 ra.length p2') ⟨fa, va, ra⟩ ∧ OutSeg wr (.slice q1 vb.length q1') (.slice q2 rb.length q2') ⟨fb, vb, rb⟩) := And.intro s1 s2
      have HC : Hid (∀ x : World, wr.grownBy x none → x.cell? ⟨w.heap.size, 2, none⟩ = some (.slice (some ⟨b1, o1, none⟩) n ca) ∧ x.cell? ⟨w.heap.size + 1, 2, none⟩ = some (.slice (some ⟨b2, o2, none⟩) n cb) ∧ OutAt x b1 (o1 + k * 3) ⟨fa, va, ra⟩ (.slice p1 va.length p1') (.slice p2 ra.length p2') ∧ OutAt x b2 (o2 + k * 3) ⟨fb, vb, rb⟩ (.slice q1 vb.length q1') (.slice q2 rb.length q2')) := fun x hx => ⟨((HG.out.2.1.grown HI.out.1 (by simp)).grown hx (by simp)).cell 2, ((HG.out.2.2.grown HI.out.1 (by simp)).grown hx (by simp)).cell 2, h1.grown hx, h2.grown hx⟩
      have i1 : (0 : Int) ≤ (k : Int) := by omega
      have i2 : (k : Int) < (n : Int) := by omega
      clear s1 s2 h1 h2
      go_wp2_with fail
      clear c0
      refine wp_region_noPanic ?_
      refine wp_region_hold 1000 (fun x => wr.grownBy x none) (by kernel_rfl) ?_
      have HD : Hid (wr.grownBy wr.drew none) := grown_drew _ _
      generalize wr.drew = wd at HD ⊢
      refine wpHold_take (i := 0) (v := _) (HD.out) rfl rfl (by kernel_rfl) (by kernel_rfl) (by kernel_rfl) (by kernel_rfl) (by kernel_rfl) (fun _ _ _ h => h) (by rfl) (fun wk hk => by obtain ⟨m0, m1, ⟨r0, r1, r2⟩, ⟨s0, s1, s2⟩⟩ := HC.out wk hk; go_simp; try rfl) ?_
      try simp only [Act.put, List.setIfInBounds_toArray, List.set_cons_zero, List.set_cons_succ]
      refine wpHold_take (i := 1) (v := _) (HD.out) rfl rfl (by kernel_rfl) (by kernel_rfl) (by kernel_rfl) (by kernel_rfl) (by kernel_rfl) (fun _ _ _ h => h) (by rfl) (fun wk hk => by obtain ⟨m0, m1, ⟨r0, r1, r2⟩, ⟨s0, s1, s2⟩⟩ := HC.out wk hk; go_simp; try rfl) ?_
      try simp only [Act.put, List.setIfInBounds_toArray, List.set_cons_zero, List.set_cons_succ]
      refine wpHold_take (i := 2) (v := _) (HD.out) rfl rfl (by kernel_rfl) (by kernel_rfl) (by kernel_rfl) (by kernel_rfl) (by kernel_rfl) (fun _ _ _ h => h) (by rfl) (fun wk hk => by obtain ⟨m0, m1, ⟨r0, r1, r2⟩, ⟨s0, s1, s2⟩⟩ := HC.out wk hk; go_simp; try rfl) ?_
      try simp only [Act.put, List.setIfInBounds_toArray, List.set_cons_zero, List.set_cons_succ]
      refine wpHold_take (i := 3) (v := _) (HD.out) rfl rfl (by kernel_rfl) (by kernel_rfl) (by kernel_rfl) (by kernel_rfl) (by kernel_rfl) (fun _ _ _ h => h) (by rfl) (fun wk hk => by obtain ⟨m0, m1, ⟨r0, r1, r2⟩, ⟨s0, s1, s2⟩⟩ := HC.out wk hk; go_simp; try rfl) ?_
      try simp only [Act.put, List.setIfInBounds_toArray, List.set_cons_zero, List.set_cons_succ]
      refine wpHold_take (i := 4) (v := _) (HD.out) rfl rfl (by kernel_rfl) (by kernel_rfl) (by kernel_rfl) (by kernel_rfl) (by kernel_rfl) (fun _ _ _ h => h) (by rfl) (fun wk hk => by obtain ⟨m0, m1, ⟨r0, r1, r2⟩, ⟨s0, s1, s2⟩⟩ := HC.out wk hk; go_simp; try rfl) ?_
      try simp only [Act.put, List.setIfInBounds_toArray, List.set_cons_zero, List.set_cons_succ]
      refine wpHold_take (i := 5) (v := _) (HD.out) rfl rfl (by kernel_rfl) (by kernel_rfl) (by kernel_rfl) (by kernel_rfl) (by kernel_rfl) (fun _ _ _ h => h) (by rfl) (fun wk hk => by obtain ⟨m0, m1, ⟨r0, r1, r2⟩, ⟨s0, s1, s2⟩⟩ := HC.out wk hk; go_simp; try rfl) ?_
      try simp only [Act.put, List.setIfInBounds_toArray, List.set_cons_zero, List.set_cons_succ]
      refine wpHold_take (i := 6) (v := _) (HD.out) rfl rfl (by kernel_rfl) (by kernel_rfl) (by kernel_rfl) (by kernel_rfl) (by kernel_rfl) (fun _ _ _ h => h) (by rfl) (fun wk hk => by obtain ⟨m0, m1, ⟨r0, r1, r2⟩, ⟨s0, s1, s2⟩⟩ := HC.out wk hk; go_simp; try rfl) ?_
      try simp only [Act.put, List.setIfInBounds_toArray, List.set_cons_zero, List.set_cons_succ]
      refine wpHold_take (i := 7) (v := _) (HD.out) rfl rfl (by kernel_rfl) (by kernel_rfl) (by kernel_rfl) (by kernel_rfl) (by kernel_rfl) (fun _ _ _ h => h) (by rfl) (fun wk hk => by obtain ⟨m0, m1, ⟨r0, r1, r2⟩, ⟨s0, s1, s2⟩⟩ := HC.out wk hk; go_simp; try rfl) ?_
      try simp only [Act.put, List.setIfInBounds_toArray, List.set_cons_zero, List.set_cons_succ]
      refine wpHold_take (i := 8) (v := _) (HD.out) rfl rfl (by kernel_rfl) (by kernel_rfl) (by kernel_rfl) (by kernel_rfl) (by kernel_rfl) (fun _ _ _ h => h) (by rfl) (fun wk hk => by obtain ⟨m0, m1, ⟨r0, r1, r2⟩, ⟨s0, s1, s2⟩⟩ := HC.out wk hk; go_simp; try rfl) ?_
      try simp only [Act.put, List.setIfInBounds_toArray, List.set_cons_zero, List.set_cons_succ]
      refine wpHold_take (i := 9) (v := _) (HD.out) rfl rfl (by kernel_rfl) (by kernel_rfl) (by kernel_rfl) (by kernel_rfl) (by kernel_rfl) (fun _ _ _ h => h) (by rfl) (fun wk hk => by obtain ⟨m0, m1, ⟨r0, r1, r2⟩, ⟨s0, s1, s2⟩⟩ := HC.out wk hk; go_simp; try rfl) ?_
      try simp only [Act.put, List.setIfInBounds_toArray, List.set_cons_zero, List.set_cons_succ]
      refine wpHold_two (i := 10) (j := 11) rfl rfl (by kernel_rfl) (by rfl) (by rfl) (fun K hK => ?_) (fun K hK => ?_)
      · go_wp2_with fail
        have S2 : Hid (Blk (wd.alloc (.cells #[.bool false, .slice none 0 0, .slice none 0 0] 54)) wd.heap.size 54 #[.bool false, .slice none 0 0, .slice none 0 0] ∧ wr.grownBy (wd.alloc (.cells #[.bool false, .slice none 0 0, .slice none 0 0] 54)) none ∧ wr.heap.size ≤ wd.heap.size) := ⟨heap_alloc_new _ _, grown_trans HD.out (World.grownBy_alloc _ _ none), HD.out.size⟩
        generalize wd.alloc (.cells #[.bool false, .slice none 0 0, .slice none 0 0] 54) = w2 at S2 ⊢
        generalize wd.heap.size = p at S2 ⊢
        refine hK.out _ _ (fun _ => S2.out.2.1) ?_
        clear hK K
        try simp only [Act.put, List.setIfInBounds_toArray, List.set_cons_zero, List.set_cons_succ]
        refine wpHold_one (i := 11) rfl (by kernel_rfl) (by rfl) (fun K hK => ?_)
        go_wp2_with fail
        have S3 : Hid (Blk (w2.alloc (.cells #[.bool false, .slice none 0 0, .slice none 0 0] 54)) p 54 #[.bool false, .slice none 0 0, .slice none 0 0] ∧ Blk (w2.alloc (.cells #[.bool false, .slice none 0 0, .slice none 0 0] 54)) w2.heap.size 54 #[.bool false, .slice none 0 0, .slice none 0 0] ∧ wr.grownBy (w2.alloc (.cells #[.bool false, .slice none 0 0, .slice none 0 0] 54)) none ∧ wr.heap.size ≤ p ∧ wr.heap.size ≤ w2.heap.size ∧ ¬ p = w2.heap.size) := ⟨S2.out.1.grown (World.grownBy_alloc _ _ none) (by simp), heap_alloc_new _ _, grown_trans S2.out.2.1 (World.grownBy_alloc _ _ none), S2.out.2.2, S2.out.2.1.size, Nat.ne_of_lt S2.out.1.lt⟩
        generalize w2.alloc (.cells #[.bool false, .slice none 0 0, .slice none 0 0] 54) = w3 at S3 ⊢
        generalize w2.heap.size = q at S3 ⊢
        clear S2
        refine hK.out _ _ (fun _ => S3.out.2.2.1) ?_
        clear hK K
        try simp only [Act.put, List.setIfInBounds_toArray, List.set_cons_zero, List.set_cons_succ]
        refine wpHold_one (i := 12) rfl (by kernel_rfl) (by rfl) (fun K hK => ?_)
        have u0 := S3.out.1.cell 0
        have u1 := S3.out.1.cell 1
        have u2 := S3.out.1.cell 2
        have z0 := S3.out.1.free 0
        have z1 := S3.out.1.free 1
        have z2 := S3.out.1.free 2
        go_wp2_with fail
        clear u0 u1 u2 z0 z1 z2
        have hg3 := grown3s w3 p (.bool fa) (.slice p1 va.length p1') (.slice p2 ra.length p2')
        have S4 : Hid (Blk (((w3.setCell ⟨p, 0, none⟩ (.bool fa)).setCell ⟨p, 1, none⟩ (.slice p1 va.length p1')).setCell ⟨p, 2, none⟩ (.slice p2 ra.length p2')) p 54 #[.bool fa, .slice p1 va.length p1', .slice p2 ra.length p2'] ∧ Blk (((w3.setCell ⟨p, 0, none⟩ (.bool fa)).setCell ⟨p, 1, none⟩ (.slice p1 va.length p1')).setCell ⟨p, 2, none⟩ (.slice p2 ra.length p2')) q 54 #[.bool false, .slice none 0 0, .slice none 0 0] ∧ wr.grownBy (((w3.setCell ⟨p, 0, none⟩ (.bool fa)).setCell ⟨p, 1, none⟩ (.slice p1 va.length p1')).setCell ⟨p, 2, none⟩ (.slice p2 ra.length p2')) none ∧ wr.heap.size ≤ q ∧ ¬ p = q) := ⟨((S3.out.1.store 0 _).store 1 _).store 2 _, S3.out.2.1.grown hg3 (fun e => S3.out.2.2.2.2.2 (by simpa using e)), grown_new S3.out.2.2.1 hg3 (fun y hy => by simp at hy; have := S3.out.2.2.2.1; omega), S3.out.2.2.2.2.1, S3.out.2.2.2.2.2⟩
        generalize (((w3.setCell ⟨p, 0, none⟩ (.bool fa)).setCell ⟨p, 1, none⟩ (.slice p1 va.length p1')).setCell ⟨p, 2, none⟩ (.slice p2 ra.length p2')) = w4 at S4 ⊢
        clear S3 hg3
        refine hK.out _ _ (fun _ => S4.out.2.2.1) ?_
        clear hK K
        try simp only [Act.put, List.setIfInBounds_toArray, List.set_cons_zero, List.set_cons_succ]
        refine wpHold_one (i := 13) rfl (by kernel_rfl) (by rfl) (fun K hK => ?_)
        have u0 := S4.out.2.1.cell 0
        have u1 := S4.out.2.1.cell 1
        have u2 := S4.out.2.1.cell 2
        have z0 := S4.out.2.1.free 0
        have z1 := S4.out.2.1.free 1
        have z2 := S4.out.2.1.free 2
        go_wp2_with fail
        clear u0 u1 u2 z0 z1 z2
        have hg3 := grown3s w4 q (.bool fb) (.slice q1 vb.length q1') (.slice q2 rb.length q2')
        have S5 : Hid (Blk (((w4.setCell ⟨q, 0, none⟩ (.bool fb)).setCell ⟨q, 1, none⟩ (.slice q1 vb.length q1')).setCell ⟨q, 2, none⟩ (.slice q2 rb.length q2')) p 54 #[.bool fa, .slice p1 va.length p1', .slice p2 ra.length p2'] ∧ Blk (((w4.setCell ⟨q, 0, none⟩ (.bool fb)).setCell ⟨q, 1, none⟩ (.slice q1 vb.length q1')).setCell ⟨q, 2, none⟩ (.slice q2 rb.length q2')) q 54 #[.bool fb, .slice q1 vb.length q1', .slice q2 rb.length q2'] ∧ wr.grownBy (((w4.setCell ⟨q, 0, none⟩ (.bool fb)).setCell ⟨q, 1, none⟩ (.slice q1 vb.length q1')).setCell ⟨q, 2, none⟩ (.slice q2 rb.length q2')) none) := ⟨S4.out.1.grown hg3 (fun e => S4.out.2.2.2.2 (by simpa using e.symm)), ((S4.out.2.1.store 0 _).store 1 _).store 2 _, grown_new S4.out.2.2.1 hg3 (fun y hy => by simp at hy; have := S4.out.2.2.2.1; omega)⟩
        generalize (((w4.setCell ⟨q, 0, none⟩ (.bool fb)).setCell ⟨q, 1, none⟩ (.slice q1 vb.length q1')).setCell ⟨q, 2, none⟩ (.slice q2 rb.length q2')) = w5 at S5 ⊢
        clear S4 hg3
        refine hK.out _ _ (fun _ => S5.out.2.2) ?_
        clear hK K
        try simp only [Act.put, List.setIfInBounds_toArray, List.set_cons_zero, List.set_cons_succ]
        refine wpHold_done (by kernel_rfl) ?_
        refine (‹∀ (a : Act) (w : World), Code.wp Tryz.prog _ _ a w → _› _ _ ?_)
        clear HC HD
        have S6 : Hid (W0.grownBy w5 none ∧ OutSeg w5 (.slice p1 va.length p1') (.slice p2 ra.length p2') ⟨fa, va, ra⟩ ∧ OutSeg w5 (.slice q1 vb.length q1') (.slice q2 rb.length q2') ⟨fb, vb, rb⟩) := ⟨grown_trans HI.out.1 S5.out.2.2, HS.out.1.grown S5.out.2.2, HS.out.2.grown S5.out.2.2⟩
        clear HS
        have HNo : Hid (¬ ((⟨fa, va, ra⟩ : POut) = ⟨fb, vb, rb⟩) → decide (LA = LB) = false) := by
          intro h
          have : ¬ LA = LB := by rw [← HI.out.2, HE.out, ← HO.out.1, ← HO.out.2]; exact fun x => h x.1
          simp [this]
        have HYes : Hid ((⟨fa, va, ra⟩ : POut) = ⟨fb, vb, rb⟩ → ((LA.drop (k + 1) = LB.drop (k + 1)) ↔ LA = LB)) := by
          intro h
          rw [← HI.out.2, HE.out, ← HO.out.1, ← HO.out.2, h]; simp
        clear HE HO HI hka hkb
        by_cases e1 : fa = fb
        case neg =>
          have HF : Hid (¬ ((⟨fa, va, ra⟩ : POut) = ⟨fb, vb, rb⟩)) := by unfold Hid; simp [e1]
          have t0 := S5.out.1.cell 0
          have s0 := S5.out.2.1.cell 0
          go_wp2_with fail
          go_ret
          exact ⟨by rw [HNo.out HF.out]; rfl, grown_trans HG.out.1 S6.out.1⟩
        subst e1
        by_cases e2 : va = vb
        case neg =>
          have HF : Hid (¬ ((⟨fa, va, ra⟩ : POut) = ⟨fa, vb, rb⟩)) := by unfold Hid; simp [e2]
          have t0 := S5.out.1.cell 0
          have t1 := S5.out.1.cell 1
          have s0 := S5.out.2.1.cell 0
          have s1 := S5.out.2.1.cell 1
          have v1 := seg_str S6.out.2.1.value
          have v2 := seg_str S6.out.2.2.value
          go_wp2_with fail
          go_ret
          exact ⟨by rw [HNo.out HF.out]; rfl, grown_trans HG.out.1 S6.out.1⟩
        subst e2
        by_cases e3 : ra.length = rb.length
        case neg =>
          have HF : Hid (¬ ((⟨fa, va, ra⟩ : POut) = ⟨fa, va, rb⟩)) := by unfold Hid; simp; exact fun h => e3 (by rw [h])
          have e4 : ((ra.length : Int) != (rb.length : Int)) = true := by simp; omega
          have t0 := S5.out.1.cell 0
          have t1 := S5.out.1.cell 1
          have t2 := S5.out.1.cell 2
          have s0 := S5.out.2.1.cell 0
          have s1 := S5.out.2.1.cell 1
          have s2 := S5.out.2.1.cell 2
          have v1 := seg_str S6.out.2.1.value
          have v2 := seg_str S6.out.2.2.value
          clear e3
          go_wp2_with fail
          go_ret
          exact ⟨by rw [HNo.out HF.out]; rfl, grown_trans HG.out.1 S6.out.1⟩
        obtain ⟨nr, hnr⟩ : ∃ x, ra.length = x := ⟨_, rfl⟩
        rw [← e3] at S5 S6 ⊢
        rw [hnr] at S5 S6 ⊢
        have HL : Hid (ra.length = nr ∧ rb.length = nr) := ⟨hnr, by rw [← e3, hnr]⟩
        have hnr2 : nr ≤ 1099511627776 * 64 := by obtain ⟨_, _, _, h, _⟩ := S6.out.2.1.rows; rw [← hnr]; exact h
        clear e3 hnr
        have t0 := S5.out.1.cell 0
        have t1 := S5.out.1.cell 1
        have t2 := S5.out.1.cell 2
        have s0 := S5.out.2.1.cell 0
        have s1 := S5.out.2.1.cell 1
        have s2 := S5.out.2.1.cell 2
        have v1 := seg_str S6.out.2.1.value
        have v2 := seg_str S6.out.2.2.value
        go_wp2_with fail
        clear t0 t1 t2 s0 s1 s2 v1 v2
        go_loopw [8] (fun i wr => ∃ j : Nat, j ≤ nr ∧ i = .int .i64 j ∧ Hid (w5.grownBy wr none) ∧ Hid ((ra.drop j = rb.drop j) ↔ ra = rb)) (fun i _ => nr - (intOf i).toNat)
        case atStart => exact ⟨0, by omega, rfl, grown_refl _ _, by simp [Hid]⟩
        case round =>
          obtain ⟨j, hj, rfl, hgx, hinv2⟩ := hrel
          have t2 := (S5.out.1.grown hgx.out (by simp)).cell 2
          by_cases hlt2 : j < nr
          · have hja : j < ra.length := by rw [HL.out.1]; omega
            have hjb : j < rb.length := by rw [HL.out.2]; omega
            obtain ⟨b3, o3, x3, y3, e5, h3⟩ := rws_at (S6.out.2.1.rows.grown hgx.out) j hja
            obtain ⟨b4, o4, x4, y4, e6, h4⟩ := rws_at (S6.out.2.2.rows.grown hgx.out) j hjb
            subst e5
            subst e6
            have HE2 : Hid _ := (drop_eq hja hjb)
            obtain ⟨rA, hrA⟩ : ∃ o, o = ra[j] := ⟨_, rfl⟩
            obtain ⟨rB, hrB⟩ : ∃ o, o = rb[j] := ⟨_, rfl⟩
            rw [← hrA] at h3
            rw [← hrB] at h4
            have HO2 : Hid (rA = ra[j] ∧ rB = rb[j]) := And.intro hrA hrB
            clear hrA hrB
            obtain ⟨ka, xa⟩ := rA
            obtain ⟨kb, xb⟩ := rB
            obtain ⟨_, _, rfl⟩ := h3.s0.shape
            obtain ⟨_, _, rfl⟩ := h3.s1.shape
            obtain ⟨_, _, rfl⟩ := h4.s0.shape
            obtain ⟨_, _, rfl⟩ := h4.s1.shape
            have HC2 : Hid (∀ x : World, wr.grownBy x none → x.cell? ⟨p, 2, none⟩ = some (.slice (some ⟨b3, o3, none⟩) nr p2') ∧ x.cell? ⟨q, 2, none⟩ = some (.slice (some ⟨b4, o4, none⟩) nr q2') ∧ RowAt x b3 (o3 + j * 2) (ka, xa) _ _ ∧ RowAt x b4 (o4 + j * 2) (kb, xb) _ _) := fun x hx => ⟨((S5.out.1.grown hgx.out (by simp)).grown hx (by simp)).cell 2, ((S5.out.2.1.grown hgx.out (by simp)).grown hx (by simp)).cell 2, h3.grown hx, h4.grown hx⟩
            have HNr : Hid (¬ ((ka, xa) = (kb, xb)) → ¬ ((⟨fa, va, ra⟩ : POut) = ⟨fa, va, rb⟩)) := by
              intro h he
              have he2 : ra = rb := by simpa using he
              have := hinv2.out.2 he2
              rw [HE2.out, ← HO2.out.1, ← HO2.out.2] at this
              exact h this.1
            have j1 : (0 : Int) ≤ (j : Int) := by omega
            have j2 : (j : Int) < (nr : Int) := by omega
            clear h3 h4
            go_wp2_with fail
            clear t2
            by_cases f1 : ka = kb
            case neg =>
              have HF : Hid (¬ ((⟨fa, va, ra⟩ : POut) = ⟨fa, va, rb⟩)) := HNr.out (by simp [f1])
              have g1 : (ka == kb) = false := by simpa using f1
              have g2 : (ka != kb) = true := by simpa using f1
              have g3 : (!decide (ka = kb)) = true := by simp [f1]
              have g4 : decide (ka = kb) = false := by simp [f1]
              refine wp_region_noPanic ?_
              refine wp_region_hold 1000 (fun x => wr.grownBy x none) (by kernel_rfl) ?_
              refine wpHold_take (i := 0) (v := _) (grown_drew _ _) rfl rfl (by kernel_rfl) (by kernel_rfl) (by kernel_rfl) (by kernel_rfl) (by kernel_rfl) (fun _ _ _ h => h) (by rfl) (fun wk hk => by obtain ⟨m0, m1, ⟨r0, r1, r2, r3⟩, ⟨s0, s1, s2, s3⟩⟩ := HC2.out wk hk; have d1 := seg_str r2; have d2 := seg_str r3; have d3 := seg_str s2; have d4 := seg_str s3; go_simp; try rfl) ?_
              try simp only [Act.put, List.setIfInBounds_toArray, List.set_cons_zero, List.set_cons_succ]
              refine wpHold_take (i := 1) (v := _) (grown_drew _ _) rfl rfl (by kernel_rfl) (by kernel_rfl) (by kernel_rfl) (by kernel_rfl) (by kernel_rfl) (fun _ _ _ h => h) (by rfl) (fun wk hk => by obtain ⟨m0, m1, ⟨r0, r1, r2, r3⟩, ⟨s0, s1, s2, s3⟩⟩ := HC2.out wk hk; have d1 := seg_str r2; have d2 := seg_str r3; have d3 := seg_str s2; have d4 := seg_str s3; go_simp; try rfl) ?_
              try simp only [Act.put, List.setIfInBounds_toArray, List.set_cons_zero, List.set_cons_succ]
              refine wpHold_take (i := 2) (v := _) (grown_drew _ _) rfl rfl (by kernel_rfl) (by kernel_rfl) (by kernel_rfl) (by kernel_rfl) (by kernel_rfl) (fun _ _ _ h => h) (by rfl) (fun wk hk => by obtain ⟨m0, m1, ⟨r0, r1, r2, r3⟩, ⟨s0, s1, s2, s3⟩⟩ := HC2.out wk hk; have d1 := seg_str r2; have d2 := seg_str r3; have d3 := seg_str s2; have d4 := seg_str s3; go_simp; try rfl) ?_
              try simp only [Act.put, List.setIfInBounds_toArray, List.set_cons_zero, List.set_cons_succ]
              refine wpHold_take (i := 3) (v := _) (grown_drew _ _) rfl rfl (by kernel_rfl) (by kernel_rfl) (by kernel_rfl) (by kernel_rfl) (by kernel_rfl) (fun _ _ _ h => h) (by rfl) (fun wk hk => by obtain ⟨m0, m1, ⟨r0, r1, r2, r3⟩, ⟨s0, s1, s2, s3⟩⟩ := HC2.out wk hk; have d1 := seg_str r2; have d2 := seg_str r3; have d3 := seg_str s2; have d4 := seg_str s3; go_simp; try rfl) ?_
              try simp only [Act.put, List.setIfInBounds_toArray, List.set_cons_zero, List.set_cons_succ]
              refine wpHold_take (i := 4) (v := _) (grown_drew _ _) rfl rfl (by kernel_rfl) (by kernel_rfl) (by kernel_rfl) (by kernel_rfl) (by kernel_rfl) (fun _ _ _ h => h) (by rfl) (fun wk hk => by obtain ⟨m0, m1, ⟨r0, r1, r2, r3⟩, ⟨s0, s1, s2, s3⟩⟩ := HC2.out wk hk; have d1 := seg_str r2; have d2 := seg_str r3; have d3 := seg_str s2; have d4 := seg_str s3; go_simp; try rfl) ?_
              try simp only [Act.put, List.setIfInBounds_toArray, List.set_cons_zero, List.set_cons_succ]
              refine wpHold_take (i := 5) (v := _) (grown_drew _ _) rfl rfl (by kernel_rfl) (by kernel_rfl) (by kernel_rfl) (by kernel_rfl) (by kernel_rfl) (fun _ _ _ h => h) (by rfl) (fun wk hk => by obtain ⟨m0, m1, ⟨r0, r1, r2, r3⟩, ⟨s0, s1, s2, s3⟩⟩ := HC2.out wk hk; have d1 := seg_str r2; have d2 := seg_str r3; have d3 := seg_str s2; have d4 := seg_str s3; go_simp; try rfl) ?_
              try simp only [Act.put, List.setIfInBounds_toArray, List.set_cons_zero, List.set_cons_succ]
              refine wpHold_take (i := 6) (v := _) (grown_drew _ _) rfl rfl (by kernel_rfl) (by kernel_rfl) (by kernel_rfl) (by kernel_rfl) (by kernel_rfl) (fun _ _ _ h => h) (by rfl) (fun wk hk => by obtain ⟨m0, m1, ⟨r0, r1, r2, r3⟩, ⟨s0, s1, s2, s3⟩⟩ := HC2.out wk hk; have d1 := seg_str r2; have d2 := seg_str r3; have d3 := seg_str s2; have d4 := seg_str s3; go_simp; try rfl) ?_
              try simp only [Act.put, List.setIfInBounds_toArray, List.set_cons_zero, List.set_cons_succ]
              refine wpHold_take (i := 7) (v := _) (grown_drew _ _) rfl rfl (by kernel_rfl) (by kernel_rfl) (by kernel_rfl) (by kernel_rfl) (by kernel_rfl) (fun _ _ _ h => h) (by rfl) (fun wk hk => by obtain ⟨m0, m1, ⟨r0, r1, r2, r3⟩, ⟨s0, s1, s2, s3⟩⟩ := HC2.out wk hk; have d1 := seg_str r2; have d2 := seg_str r3; have d3 := seg_str s2; have d4 := seg_str s3; go_simp; try rfl) ?_
              try simp only [Act.put, List.setIfInBounds_toArray, List.set_cons_zero, List.set_cons_succ]
              refine wpHold_take (i := 8) (v := _) (grown_drew _ _) rfl rfl (by kernel_rfl) (by kernel_rfl) (by kernel_rfl) (by kernel_rfl) (by kernel_rfl) (fun _ _ _ h => h) (by rfl) (fun wk hk => by obtain ⟨m0, m1, ⟨r0, r1, r2, r3⟩, ⟨s0, s1, s2, s3⟩⟩ := HC2.out wk hk; have d1 := seg_str r2; have d2 := seg_str r3; have d3 := seg_str s2; have d4 := seg_str s3; go_simp; try rfl) ?_
              try simp only [Act.put, List.setIfInBounds_toArray, List.set_cons_zero, List.set_cons_succ]
              refine wpHold_take (i := 9) (v := _) (grown_drew _ _) rfl rfl (by kernel_rfl) (by kernel_rfl) (by kernel_rfl) (by kernel_rfl) (by kernel_rfl) (fun _ _ _ h => h) (by rfl) (fun wk hk => by obtain ⟨m0, m1, ⟨r0, r1, r2, r3⟩, ⟨s0, s1, s2, s3⟩⟩ := HC2.out wk hk; have d1 := seg_str r2; have d2 := seg_str r3; have d3 := seg_str s2; have d4 := seg_str s3; go_simp; try rfl) ?_
              try simp only [Act.put, List.setIfInBounds_toArray, List.set_cons_zero, List.set_cons_succ]
              refine wpHold_take (i := 10) (v := _) (grown_drew _ _) rfl rfl (by kernel_rfl) (by kernel_rfl) (by kernel_rfl) (by kernel_rfl) (by kernel_rfl) (fun _ _ _ h => h) (by rfl) (fun wk hk => by obtain ⟨m0, m1, ⟨r0, r1, r2, r3⟩, ⟨s0, s1, s2, s3⟩⟩ := HC2.out wk hk; have d1 := seg_str r2; have d2 := seg_str r3; have d3 := seg_str s2; have d4 := seg_str s3; go_simp; try rfl) ?_
              try simp only [Act.put, List.setIfInBounds_toArray, List.set_cons_zero, List.set_cons_succ]
              refine wpHold_take (i := 11) (v := _) (grown_drew _ _) rfl rfl (by kernel_rfl) (by kernel_rfl) (by kernel_rfl) (by kernel_rfl) (by kernel_rfl) (fun _ _ _ h => h) (by rfl) (fun wk hk => by obtain ⟨m0, m1, ⟨r0, r1, r2, r3⟩, ⟨s0, s1, s2, s3⟩⟩ := HC2.out wk hk; have d1 := seg_str r2; have d2 := seg_str r3; have d3 := seg_str s2; have d4 := seg_str s3; go_simp; try rfl) ?_
              try simp only [Act.put, List.setIfInBounds_toArray, List.set_cons_zero, List.set_cons_succ]
              refine wpHold_take (i := 12) (v := _) (grown_drew _ _) rfl rfl (by kernel_rfl) (by kernel_rfl) (by kernel_rfl) (by kernel_rfl) (by kernel_rfl) (fun _ _ _ h => h) (by rfl) (fun wk hk => by obtain ⟨m0, m1, ⟨r0, r1, r2, r3⟩, ⟨s0, s1, s2, s3⟩⟩ := HC2.out wk hk; have d1 := seg_str r2; have d2 := seg_str r3; have d3 := seg_str s2; have d4 := seg_str s3; go_simp; try rfl) ?_
              try simp only [Act.put, List.setIfInBounds_toArray, List.set_cons_zero, List.set_cons_succ]
              refine wpHold_take (i := 13) (v := _) (grown_drew _ _) rfl rfl (by kernel_rfl) (by kernel_rfl) (by kernel_rfl) (by kernel_rfl) (by kernel_rfl) (fun _ _ _ h => h) (by rfl) (fun wk hk => by obtain ⟨m0, m1, ⟨r0, r1, r2, r3⟩, ⟨s0, s1, s2, s3⟩⟩ := HC2.out wk hk; have d1 := seg_str r2; have d2 := seg_str r3; have d3 := seg_str s2; have d4 := seg_str s3; go_simp; try rfl) ?_
              try simp only [Act.put, List.setIfInBounds_toArray, List.set_cons_zero, List.set_cons_succ]
              refine wpHold_one (i := 14) rfl (by kernel_rfl) (by rfl) (fun K hK => ?_)
              go_wp2_with fail
              refine hK.out _ _ (fun _ => grown_drew _ _) ?_
              clear hK K
              try simp only [Act.put, List.setIfInBounds_toArray, List.set_cons_zero, List.set_cons_succ]
              refine wpHold_take (i := 15) (v := _) (grown_drew _ _) rfl rfl (by kernel_rfl) (by kernel_rfl) (by kernel_rfl) (by kernel_rfl) (by kernel_rfl) (fun _ _ _ h => h) (by rfl) (fun wk hk => by obtain ⟨m0, m1, ⟨r0, r1, r2, r3⟩, ⟨s0, s1, s2, s3⟩⟩ := HC2.out wk hk; have d1 := seg_str r2; have d2 := seg_str r3; have d3 := seg_str s2; have d4 := seg_str s3; go_simp; try rfl) ?_
              try simp only [Act.put, List.setIfInBounds_toArray, List.set_cons_zero, List.set_cons_succ]
              refine wpHold_skip (i := 16) (grown_drew _ _) rfl rfl (by kernel_rfl) (by kernel_rfl) (by kernel_rfl) (by kernel_rfl) (by kernel_rfl) (fun _ _ _ h => h) (by rfl) ?_
              try simp only [Act.put, List.setIfInBounds_toArray, List.set_cons_zero, List.set_cons_succ]
              refine wpHold_skip (i := 17) (grown_drew _ _) rfl rfl (by kernel_rfl) (by kernel_rfl) (by kernel_rfl) (by kernel_rfl) (by kernel_rfl) (fun _ _ _ h => h) (by rfl) ?_
              try simp only [Act.put, List.setIfInBounds_toArray, List.set_cons_zero, List.set_cons_succ]
              refine wpHold_skip (i := 18) (grown_drew _ _) rfl rfl (by kernel_rfl) (by kernel_rfl) (by kernel_rfl) (by kernel_rfl) (by kernel_rfl) (fun _ _ _ h => h) (by rfl) ?_
              try simp only [Act.put, List.setIfInBounds_toArray, List.set_cons_zero, List.set_cons_succ]
              refine wpHold_skip (i := 19) (grown_drew _ _) rfl rfl (by kernel_rfl) (by kernel_rfl) (by kernel_rfl) (by kernel_rfl) (by kernel_rfl) (fun _ _ _ h => h) (by rfl) ?_
              try simp only [Act.put, List.setIfInBounds_toArray, List.set_cons_zero, List.set_cons_succ]
              refine wpHold_skip (i := 20) (grown_drew _ _) rfl rfl (by kernel_rfl) (by kernel_rfl) (by kernel_rfl) (by kernel_rfl) (by kernel_rfl) (fun _ _ _ h => h) (by rfl) ?_
              try simp only [Act.put, List.setIfInBounds_toArray, List.set_cons_zero, List.set_cons_succ]
              refine wpHold_skip (i := 21) (grown_drew _ _) rfl rfl (by kernel_rfl) (by kernel_rfl) (by kernel_rfl) (by kernel_rfl) (by kernel_rfl) (fun _ _ _ h => h) (by rfl) ?_
              try simp only [Act.put, List.setIfInBounds_toArray, List.set_cons_zero, List.set_cons_succ]
              refine wpHold_skip (i := 22) (grown_drew _ _) rfl rfl (by kernel_rfl) (by kernel_rfl) (by kernel_rfl) (by kernel_rfl) (by kernel_rfl) (fun _ _ _ h => h) (by rfl) ?_
              try simp only [Act.put, List.setIfInBounds_toArray, List.set_cons_zero, List.set_cons_succ]
              refine wpHold_skip (i := 23) (grown_drew _ _) rfl rfl (by kernel_rfl) (by kernel_rfl) (by kernel_rfl) (by kernel_rfl) (by kernel_rfl) (fun _ _ _ h => h) (by rfl) ?_
              try simp only [Act.put, List.setIfInBounds_toArray, List.set_cons_zero, List.set_cons_succ]
              refine wpHold_skip (i := 24) (grown_drew _ _) rfl rfl (by kernel_rfl) (by kernel_rfl) (by kernel_rfl) (by kernel_rfl) (by kernel_rfl) (fun _ _ _ h => h) (by rfl) ?_
              try simp only [Act.put, List.setIfInBounds_toArray, List.set_cons_zero, List.set_cons_succ]
              refine wpHold_skip (i := 25) (grown_drew _ _) rfl rfl (by kernel_rfl) (by kernel_rfl) (by kernel_rfl) (by kernel_rfl) (by kernel_rfl) (fun _ _ _ h => h) (by rfl) ?_
              try simp only [Act.put, List.setIfInBounds_toArray, List.set_cons_zero, List.set_cons_succ]
              refine wpHold_skip (i := 26) (grown_drew _ _) rfl rfl (by kernel_rfl) (by kernel_rfl) (by kernel_rfl) (by kernel_rfl) (by kernel_rfl) (fun _ _ _ h => h) (by rfl) ?_
              try simp only [Act.put, List.setIfInBounds_toArray, List.set_cons_zero, List.set_cons_succ]
              refine wpHold_skip (i := 27) (grown_drew _ _) rfl rfl (by kernel_rfl) (by kernel_rfl) (by kernel_rfl) (by kernel_rfl) (by kernel_rfl) (fun _ _ _ h => h) (by rfl) ?_
              try simp only [Act.put, List.setIfInBounds_toArray, List.set_cons_zero, List.set_cons_succ]
              refine wpHold_skip (i := 28) (grown_drew _ _) rfl rfl (by kernel_rfl) (by kernel_rfl) (by kernel_rfl) (by kernel_rfl) (by kernel_rfl) (fun _ _ _ h => h) (by rfl) ?_
              try simp only [Act.put, List.setIfInBounds_toArray, List.set_cons_zero, List.set_cons_succ]
              refine wpHold_skip (i := 29) (grown_drew _ _) rfl rfl (by kernel_rfl) (by kernel_rfl) (by kernel_rfl) (by kernel_rfl) (by kernel_rfl) (fun _ _ _ h => h) (by rfl) ?_
              try simp only [Act.put, List.setIfInBounds_toArray, List.set_cons_zero, List.set_cons_succ]
              refine wpHold_skip (i := 30) (grown_drew _ _) rfl rfl (by kernel_rfl) (by kernel_rfl) (by kernel_rfl) (by kernel_rfl) (by kernel_rfl) (fun _ _ _ h => h) (by rfl) ?_
              try simp only [Act.put, List.setIfInBounds_toArray, List.set_cons_zero, List.set_cons_succ]
              refine wpHold_take (i := 31) (v := _) (grown_drew _ _) rfl rfl (by kernel_rfl) (by kernel_rfl) (by kernel_rfl) (by kernel_rfl) (by kernel_rfl) (fun _ _ _ h => h) (by rfl) (fun wk hk => by obtain ⟨m0, m1, ⟨r0, r1, r2, r3⟩, ⟨s0, s1, s2, s3⟩⟩ := HC2.out wk hk; have d1 := seg_str r2; have d2 := seg_str r3; have d3 := seg_str s2; have d4 := seg_str s3; go_simp; try rfl) ?_
              try simp only [Act.put, List.setIfInBounds_toArray, List.set_cons_zero, List.set_cons_succ]
              refine wpHold_done (by kernel_rfl) ?_
              refine (‹∀ (a : Act) (w : World), Code.wp Tryz.prog _ _ a w → _› _ _ ?_)
              go_wp2_with fail
              go_ret
              exact ⟨by rw [HNo.out HF.out]; rfl, grown_trans HG.out.1 (grown_trans S6.out.1 (grown_trans hgx.out (grown_drew _ _)))⟩
            subst f1
            by_cases f2 : xa = xb
            case neg =>
              have HF : Hid (¬ ((⟨fa, va, ra⟩ : POut) = ⟨fa, va, rb⟩)) := HNr.out (by simp [f2])
              have g1 : (xa == xb) = false := by simpa using f2
              have g2 : (xa != xb) = true := by simpa using f2
              have g3 : (!decide (xa = xb)) = true := by simp [f2]
              have g4 : decide (xa = xb) = false := by simp [f2]
              refine wp_region_noPanic ?_
              refine wp_region_hold 1000 (fun x => wr.grownBy x none) (by kernel_rfl) ?_
              refine wpHold_take (i := 0) (v := _) (grown_drew _ _) rfl rfl (by kernel_rfl) (by kernel_rfl) (by kernel_rfl) (by kernel_rfl) (by kernel_rfl) (fun _ _ _ h => h) (by rfl) (fun wk hk => by obtain ⟨m0, m1, ⟨r0, r1, r2, r3⟩, ⟨s0, s1, s2, s3⟩⟩ := HC2.out wk hk; have d1 := seg_str r2; have d2 := seg_str r3; have d3 := seg_str s2; have d4 := seg_str s3; go_simp; try rfl) ?_
              try simp only [Act.put, List.setIfInBounds_toArray, List.set_cons_zero, List.set_cons_succ]
              refine wpHold_take (i := 1) (v := _) (grown_drew _ _) rfl rfl (by kernel_rfl) (by kernel_rfl) (by kernel_rfl) (by kernel_rfl) (by kernel_rfl) (fun _ _ _ h => h) (by rfl) (fun wk hk => by obtain ⟨m0, m1, ⟨r0, r1, r2, r3⟩, ⟨s0, s1, s2, s3⟩⟩ := HC2.out wk hk; have d1 := seg_str r2; have d2 := seg_str r3; have d3 := seg_str s2; have d4 := seg_str s3; go_simp; try rfl) ?_
              try simp only [Act.put, List.setIfInBounds_toArray, List.set_cons_zero, List.set_cons_succ]
              refine wpHold_take (i := 2) (v := _) (grown_drew _ _) rfl rfl (by kernel_rfl) (by kernel_rfl) (by kernel_rfl) (by kernel_rfl) (by kernel_rfl) (fun _ _ _ h => h) (by rfl) (fun wk hk => by obtain ⟨m0, m1, ⟨r0, r1, r2, r3⟩, ⟨s0, s1, s2, s3⟩⟩ := HC2.out wk hk; have d1 := seg_str r2; have d2 := seg_str r3; have d3 := seg_str s2; have d4 := seg_str s3; go_simp; try rfl) ?_
              try simp only [Act.put, List.setIfInBounds_toArray, List.set_cons_zero, List.set_cons_succ]
              refine wpHold_take (i := 3) (v := _) (grown_drew _ _) rfl rfl (by kernel_rfl) (by kernel_rfl) (by kernel_rfl) (by kernel_rfl) (by kernel_rfl) (fun _ _ _ h => h) (by rfl) (fun wk hk => by obtain ⟨m0, m1, ⟨r0, r1, r2, r3⟩, ⟨s0, s1, s2, s3⟩⟩ := HC2.out wk hk; have d1 := seg_str r2; have d2 := seg_str r3; have d3 := seg_str s2; have d4 := seg_str s3; go_simp; try rfl) ?_
              try simp only [Act.put, List.setIfInBounds_toArray, List.set_cons_zero, List.set_cons_succ]
              refine wpHold_take (i := 4) (v := _) (grown_drew _ _) rfl rfl (by kernel_rfl) (by kernel_rfl) (by kernel_rfl) (by kernel_rfl) (by kernel_rfl) (fun _ _ _ h => h) (by rfl) (fun wk hk => by obtain ⟨m0, m1, ⟨r0, r1, r2, r3⟩, ⟨s0, s1, s2, s3⟩⟩ := HC2.out wk hk; have d1 := seg_str r2; have d2 := seg_str r3; have d3 := seg_str s2; have d4 := seg_str s3; go_simp; try rfl) ?_
              try simp only [Act.put, List.setIfInBounds_toArray, List.set_cons_zero, List.set_cons_succ]
              refine wpHold_take (i := 5) (v := _) (grown_drew _ _) rfl rfl (by kernel_rfl) (by kernel_rfl) (by kernel_rfl) (by kernel_rfl) (by kernel_rfl) (fun _ _ _ h => h) (by rfl) (fun wk hk => by obtain ⟨m0, m1, ⟨r0, r1, r2, r3⟩, ⟨s0, s1, s2, s3⟩⟩ := HC2.out wk hk; have d1 := seg_str r2; have d2 := seg_str r3; have d3 := seg_str s2; have d4 := seg_str s3; go_simp; try rfl) ?_
              try simp only [Act.put, List.setIfInBounds_toArray, List.set_cons_zero, List.set_cons_succ]
              refine wpHold_take (i := 6) (v := _) (grown_drew _ _) rfl rfl (by kernel_rfl) (by kernel_rfl) (by kernel_rfl) (by kernel_rfl) (by kernel_rfl) (fun _ _ _ h => h) (by rfl) (fun wk hk => by obtain ⟨m0, m1, ⟨r0, r1, r2, r3⟩, ⟨s0, s1, s2, s3⟩⟩ := HC2.out wk hk; have d1 := seg_str r2; have d2 := seg_str r3; have d3 := seg_str s2; have d4 := seg_str s3; go_simp; try rfl) ?_
              try simp only [Act.put, List.setIfInBounds_toArray, List.set_cons_zero, List.set_cons_succ]
              refine wpHold_take (i := 7) (v := _) (grown_drew _ _) rfl rfl (by kernel_rfl) (by kernel_rfl) (by kernel_rfl) (by kernel_rfl) (by kernel_rfl) (fun _ _ _ h => h) (by rfl) (fun wk hk => by obtain ⟨m0, m1, ⟨r0, r1, r2, r3⟩, ⟨s0, s1, s2, s3⟩⟩ := HC2.out wk hk; have d1 := seg_str r2; have d2 := seg_str r3; have d3 := seg_str s2; have d4 := seg_str s3; go_simp; try rfl) ?_
              try simp only [Act.put, List.setIfInBounds_toArray, List.set_cons_zero, List.set_cons_succ]
              refine wpHold_take (i := 8) (v := _) (grown_drew _ _) rfl rfl (by kernel_rfl) (by kernel_rfl) (by kernel_rfl) (by kernel_rfl) (by kernel_rfl) (fun _ _ _ h => h) (by rfl) (fun wk hk => by obtain ⟨m0, m1, ⟨r0, r1, r2, r3⟩, ⟨s0, s1, s2, s3⟩⟩ := HC2.out wk hk; have d1 := seg_str r2; have d2 := seg_str r3; have d3 := seg_str s2; have d4 := seg_str s3; go_simp; try rfl) ?_
              try simp only [Act.put, List.setIfInBounds_toArray, List.set_cons_zero, List.set_cons_succ]
              refine wpHold_take (i := 9) (v := _) (grown_drew _ _) rfl rfl (by kernel_rfl) (by kernel_rfl) (by kernel_rfl) (by kernel_rfl) (by kernel_rfl) (fun _ _ _ h => h) (by rfl) (fun wk hk => by obtain ⟨m0, m1, ⟨r0, r1, r2, r3⟩, ⟨s0, s1, s2, s3⟩⟩ := HC2.out wk hk; have d1 := seg_str r2; have d2 := seg_str r3; have d3 := seg_str s2; have d4 := seg_str s3; go_simp; try rfl) ?_
              try simp only [Act.put, List.setIfInBounds_toArray, List.set_cons_zero, List.set_cons_succ]
              refine wpHold_take (i := 10) (v := _) (grown_drew _ _) rfl rfl (by kernel_rfl) (by kernel_rfl) (by kernel_rfl) (by kernel_rfl) (by kernel_rfl) (fun _ _ _ h => h) (by rfl) (fun wk hk => by obtain ⟨m0, m1, ⟨r0, r1, r2, r3⟩, ⟨s0, s1, s2, s3⟩⟩ := HC2.out wk hk; have d1 := seg_str r2; have d2 := seg_str r3; have d3 := seg_str s2; have d4 := seg_str s3; go_simp; try rfl) ?_
              try simp only [Act.put, List.setIfInBounds_toArray, List.set_cons_zero, List.set_cons_succ]
              refine wpHold_take (i := 11) (v := _) (grown_drew _ _) rfl rfl (by kernel_rfl) (by kernel_rfl) (by kernel_rfl) (by kernel_rfl) (by kernel_rfl) (fun _ _ _ h => h) (by rfl) (fun wk hk => by obtain ⟨m0, m1, ⟨r0, r1, r2, r3⟩, ⟨s0, s1, s2, s3⟩⟩ := HC2.out wk hk; have d1 := seg_str r2; have d2 := seg_str r3; have d3 := seg_str s2; have d4 := seg_str s3; go_simp; try rfl) ?_
              try simp only [Act.put, List.setIfInBounds_toArray, List.set_cons_zero, List.set_cons_succ]
              refine wpHold_take (i := 12) (v := _) (grown_drew _ _) rfl rfl (by kernel_rfl) (by kernel_rfl) (by kernel_rfl) (by kernel_rfl) (by kernel_rfl) (fun _ _ _ h => h) (by rfl) (fun wk hk => by obtain ⟨m0, m1, ⟨r0, r1, r2, r3⟩, ⟨s0, s1, s2, s3⟩⟩ := HC2.out wk hk; have d1 := seg_str r2; have d2 := seg_str r3; have d3 := seg_str s2; have d4 := seg_str s3; go_simp; try rfl) ?_
              try simp only [Act.put, List.setIfInBounds_toArray, List.set_cons_zero, List.set_cons_succ]
              refine wpHold_take (i := 13) (v := _) (grown_drew _ _) rfl rfl (by kernel_rfl) (by kernel_rfl) (by kernel_rfl) (by kernel_rfl) (by kernel_rfl) (fun _ _ _ h => h) (by rfl) (fun wk hk => by obtain ⟨m0, m1, ⟨r0, r1, r2, r3⟩, ⟨s0, s1, s2, s3⟩⟩ := HC2.out wk hk; have d1 := seg_str r2; have d2 := seg_str r3; have d3 := seg_str s2; have d4 := seg_str s3; go_simp; try rfl) ?_
              try simp only [Act.put, List.setIfInBounds_toArray, List.set_cons_zero, List.set_cons_succ]
              refine wpHold_take (i := 14) (v := _) (grown_drew _ _) rfl rfl (by kernel_rfl) (by kernel_rfl) (by kernel_rfl) (by kernel_rfl) (by kernel_rfl) (fun _ _ _ h => h) (by rfl) (fun wk hk => by obtain ⟨m0, m1, ⟨r0, r1, r2, r3⟩, ⟨s0, s1, s2, s3⟩⟩ := HC2.out wk hk; have d1 := seg_str r2; have d2 := seg_str r3; have d3 := seg_str s2; have d4 := seg_str s3; go_simp; try rfl) ?_
              try simp only [Act.put, List.setIfInBounds_toArray, List.set_cons_zero, List.set_cons_succ]
              refine wpHold_take (i := 15) (v := _) (grown_drew _ _) rfl rfl (by kernel_rfl) (by kernel_rfl) (by kernel_rfl) (by kernel_rfl) (by kernel_rfl) (fun _ _ _ h => h) (by rfl) (fun wk hk => by obtain ⟨m0, m1, ⟨r0, r1, r2, r3⟩, ⟨s0, s1, s2, s3⟩⟩ := HC2.out wk hk; have d1 := seg_str r2; have d2 := seg_str r3; have d3 := seg_str s2; have d4 := seg_str s3; go_simp; try rfl) ?_
              try simp only [Act.put, List.setIfInBounds_toArray, List.set_cons_zero, List.set_cons_succ]
              refine wpHold_take (i := 16) (v := _) (grown_drew _ _) rfl rfl (by kernel_rfl) (by kernel_rfl) (by kernel_rfl) (by kernel_rfl) (by kernel_rfl) (fun _ _ _ h => h) (by rfl) (fun wk hk => by obtain ⟨m0, m1, ⟨r0, r1, r2, r3⟩, ⟨s0, s1, s2, s3⟩⟩ := HC2.out wk hk; have d1 := seg_str r2; have d2 := seg_str r3; have d3 := seg_str s2; have d4 := seg_str s3; go_simp; try rfl) ?_
              try simp only [Act.put, List.setIfInBounds_toArray, List.set_cons_zero, List.set_cons_succ]
              refine wpHold_take (i := 17) (v := _) (grown_drew _ _) rfl rfl (by kernel_rfl) (by kernel_rfl) (by kernel_rfl) (by kernel_rfl) (by kernel_rfl) (fun _ _ _ h => h) (by rfl) (fun wk hk => by obtain ⟨m0, m1, ⟨r0, r1, r2, r3⟩, ⟨s0, s1, s2, s3⟩⟩ := HC2.out wk hk; have d1 := seg_str r2; have d2 := seg_str r3; have d3 := seg_str s2; have d4 := seg_str s3; go_simp; try rfl) ?_
              try simp only [Act.put, List.setIfInBounds_toArray, List.set_cons_zero, List.set_cons_succ]
              refine wpHold_take (i := 18) (v := _) (grown_drew _ _) rfl rfl (by kernel_rfl) (by kernel_rfl) (by kernel_rfl) (by kernel_rfl) (by kernel_rfl) (fun _ _ _ h => h) (by rfl) (fun wk hk => by obtain ⟨m0, m1, ⟨r0, r1, r2, r3⟩, ⟨s0, s1, s2, s3⟩⟩ := HC2.out wk hk; have d1 := seg_str r2; have d2 := seg_str r3; have d3 := seg_str s2; have d4 := seg_str s3; go_simp; try rfl) ?_
              try simp only [Act.put, List.setIfInBounds_toArray, List.set_cons_zero, List.set_cons_succ]
              refine wpHold_take (i := 19) (v := _) (grown_drew _ _) rfl rfl (by kernel_rfl) (by kernel_rfl) (by kernel_rfl) (by kernel_rfl) (by kernel_rfl) (fun _ _ _ h => h) (by rfl) (fun wk hk => by obtain ⟨m0, m1, ⟨r0, r1, r2, r3⟩, ⟨s0, s1, s2, s3⟩⟩ := HC2.out wk hk; have d1 := seg_str r2; have d2 := seg_str r3; have d3 := seg_str s2; have d4 := seg_str s3; go_simp; try rfl) ?_
              try simp only [Act.put, List.setIfInBounds_toArray, List.set_cons_zero, List.set_cons_succ]
              refine wpHold_take (i := 20) (v := _) (grown_drew _ _) rfl rfl (by kernel_rfl) (by kernel_rfl) (by kernel_rfl) (by kernel_rfl) (by kernel_rfl) (fun _ _ _ h => h) (by rfl) (fun wk hk => by obtain ⟨m0, m1, ⟨r0, r1, r2, r3⟩, ⟨s0, s1, s2, s3⟩⟩ := HC2.out wk hk; have d1 := seg_str r2; have d2 := seg_str r3; have d3 := seg_str s2; have d4 := seg_str s3; go_simp; try rfl) ?_
              try simp only [Act.put, List.setIfInBounds_toArray, List.set_cons_zero, List.set_cons_succ]
              refine wpHold_take (i := 21) (v := _) (grown_drew _ _) rfl rfl (by kernel_rfl) (by kernel_rfl) (by kernel_rfl) (by kernel_rfl) (by kernel_rfl) (fun _ _ _ h => h) (by rfl) (fun wk hk => by obtain ⟨m0, m1, ⟨r0, r1, r2, r3⟩, ⟨s0, s1, s2, s3⟩⟩ := HC2.out wk hk; have d1 := seg_str r2; have d2 := seg_str r3; have d3 := seg_str s2; have d4 := seg_str s3; go_simp; try rfl) ?_
              try simp only [Act.put, List.setIfInBounds_toArray, List.set_cons_zero, List.set_cons_succ]
              refine wpHold_take (i := 22) (v := _) (grown_drew _ _) rfl rfl (by kernel_rfl) (by kernel_rfl) (by kernel_rfl) (by kernel_rfl) (by kernel_rfl) (fun _ _ _ h => h) (by rfl) (fun wk hk => by obtain ⟨m0, m1, ⟨r0, r1, r2, r3⟩, ⟨s0, s1, s2, s3⟩⟩ := HC2.out wk hk; have d1 := seg_str r2; have d2 := seg_str r3; have d3 := seg_str s2; have d4 := seg_str s3; go_simp; try rfl) ?_
              try simp only [Act.put, List.setIfInBounds_toArray, List.set_cons_zero, List.set_cons_succ]
              refine wpHold_take (i := 23) (v := _) (grown_drew _ _) rfl rfl (by kernel_rfl) (by kernel_rfl) (by kernel_rfl) (by kernel_rfl) (by kernel_rfl) (fun _ _ _ h => h) (by rfl) (fun wk hk => by obtain ⟨m0, m1, ⟨r0, r1, r2, r3⟩, ⟨s0, s1, s2, s3⟩⟩ := HC2.out wk hk; have d1 := seg_str r2; have d2 := seg_str r3; have d3 := seg_str s2; have d4 := seg_str s3; go_simp; try rfl) ?_
              try simp only [Act.put, List.setIfInBounds_toArray, List.set_cons_zero, List.set_cons_succ]
              refine wpHold_take (i := 24) (v := _) (grown_drew _ _) rfl rfl (by kernel_rfl) (by kernel_rfl) (by kernel_rfl) (by kernel_rfl) (by kernel_rfl) (fun _ _ _ h => h) (by rfl) (fun wk hk => by obtain ⟨m0, m1, ⟨r0, r1, r2, r3⟩, ⟨s0, s1, s2, s3⟩⟩ := HC2.out wk hk; have d1 := seg_str r2; have d2 := seg_str r3; have d3 := seg_str s2; have d4 := seg_str s3; go_simp; try rfl) ?_
              try simp only [Act.put, List.setIfInBounds_toArray, List.set_cons_zero, List.set_cons_succ]
              refine wpHold_take (i := 25) (v := _) (grown_drew _ _) rfl rfl (by kernel_rfl) (by kernel_rfl) (by kernel_rfl) (by kernel_rfl) (by kernel_rfl) (fun _ _ _ h => h) (by rfl) (fun wk hk => by obtain ⟨m0, m1, ⟨r0, r1, r2, r3⟩, ⟨s0, s1, s2, s3⟩⟩ := HC2.out wk hk; have d1 := seg_str r2; have d2 := seg_str r3; have d3 := seg_str s2; have d4 := seg_str s3; go_simp; try rfl) ?_
              try simp only [Act.put, List.setIfInBounds_toArray, List.set_cons_zero, List.set_cons_succ]
              refine wpHold_take (i := 26) (v := _) (grown_drew _ _) rfl rfl (by kernel_rfl) (by kernel_rfl) (by kernel_rfl) (by kernel_rfl) (by kernel_rfl) (fun _ _ _ h => h) (by rfl) (fun wk hk => by obtain ⟨m0, m1, ⟨r0, r1, r2, r3⟩, ⟨s0, s1, s2, s3⟩⟩ := HC2.out wk hk; have d1 := seg_str r2; have d2 := seg_str r3; have d3 := seg_str s2; have d4 := seg_str s3; go_simp; try rfl) ?_
              try simp only [Act.put, List.setIfInBounds_toArray, List.set_cons_zero, List.set_cons_succ]
              refine wpHold_take (i := 27) (v := _) (grown_drew _ _) rfl rfl (by kernel_rfl) (by kernel_rfl) (by kernel_rfl) (by kernel_rfl) (by kernel_rfl) (fun _ _ _ h => h) (by rfl) (fun wk hk => by obtain ⟨m0, m1, ⟨r0, r1, r2, r3⟩, ⟨s0, s1, s2, s3⟩⟩ := HC2.out wk hk; have d1 := seg_str r2; have d2 := seg_str r3; have d3 := seg_str s2; have d4 := seg_str s3; go_simp; try rfl) ?_
              try simp only [Act.put, List.setIfInBounds_toArray, List.set_cons_zero, List.set_cons_succ]
              refine wpHold_take (i := 28) (v := _) (grown_drew _ _) rfl rfl (by kernel_rfl) (by kernel_rfl) (by kernel_rfl) (by kernel_rfl) (by kernel_rfl) (fun _ _ _ h => h) (by rfl) (fun wk hk => by obtain ⟨m0, m1, ⟨r0, r1, r2, r3⟩, ⟨s0, s1, s2, s3⟩⟩ := HC2.out wk hk; have d1 := seg_str r2; have d2 := seg_str r3; have d3 := seg_str s2; have d4 := seg_str s3; go_simp; try rfl) ?_
              try simp only [Act.put, List.setIfInBounds_toArray, List.set_cons_zero, List.set_cons_succ]
              refine wpHold_take (i := 29) (v := _) (grown_drew _ _) rfl rfl (by kernel_rfl) (by kernel_rfl) (by kernel_rfl) (by kernel_rfl) (by kernel_rfl) (fun _ _ _ h => h) (by rfl) (fun wk hk => by obtain ⟨m0, m1, ⟨r0, r1, r2, r3⟩, ⟨s0, s1, s2, s3⟩⟩ := HC2.out wk hk; have d1 := seg_str r2; have d2 := seg_str r3; have d3 := seg_str s2; have d4 := seg_str s3; go_simp; try rfl) ?_
              try simp only [Act.put, List.setIfInBounds_toArray, List.set_cons_zero, List.set_cons_succ]
              refine wpHold_one (i := 30) rfl (by kernel_rfl) (by rfl) (fun K hK => ?_)
              go_wp2_with fail
              refine hK.out _ _ (fun _ => grown_drew _ _) ?_
              clear hK K
              try simp only [Act.put, List.setIfInBounds_toArray, List.set_cons_zero, List.set_cons_succ]
              refine wpHold_take (i := 31) (v := _) (grown_drew _ _) rfl rfl (by kernel_rfl) (by kernel_rfl) (by kernel_rfl) (by kernel_rfl) (by kernel_rfl) (fun _ _ _ h => h) (by rfl) (fun wk hk => by obtain ⟨m0, m1, ⟨r0, r1, r2, r3⟩, ⟨s0, s1, s2, s3⟩⟩ := HC2.out wk hk; have d1 := seg_str r2; have d2 := seg_str r3; have d3 := seg_str s2; have d4 := seg_str s3; go_simp; try rfl) ?_
              try simp only [Act.put, List.setIfInBounds_toArray, List.set_cons_zero, List.set_cons_succ]
              refine wpHold_done (by kernel_rfl) ?_
              refine (‹∀ (a : Act) (w : World), Code.wp Tryz.prog _ _ a w → _› _ _ ?_)
              go_wp2_with fail
              go_ret
              exact ⟨by rw [HNo.out HF.out]; rfl, grown_trans HG.out.1 (grown_trans S6.out.1 (grown_trans hgx.out (grown_drew _ _)))⟩
            subst f2
            refine wp_region_noPanic ?_
            refine wp_region_hold 1000 (fun x => wr.grownBy x none) (by kernel_rfl) ?_
            refine wpHold_take (i := 0) (v := _) (grown_drew _ _) rfl rfl (by kernel_rfl) (by kernel_rfl) (by kernel_rfl) (by kernel_rfl) (by kernel_rfl) (fun _ _ _ h => h) (by rfl) (fun wk hk => by obtain ⟨m0, m1, ⟨r0, r1, r2, r3⟩, ⟨s0, s1, s2, s3⟩⟩ := HC2.out wk hk; have d1 := seg_str r2; have d2 := seg_str r3; have d3 := seg_str s2; have d4 := seg_str s3; go_simp; try rfl) ?_
            try simp only [Act.put, List.setIfInBounds_toArray, List.set_cons_zero, List.set_cons_succ]
            refine wpHold_take (i := 1) (v := _) (grown_drew _ _) rfl rfl (by kernel_rfl) (by kernel_rfl) (by kernel_rfl) (by kernel_rfl) (by kernel_rfl) (fun _ _ _ h => h) (by rfl) (fun wk hk => by obtain ⟨m0, m1, ⟨r0, r1, r2, r3⟩, ⟨s0, s1, s2, s3⟩⟩ := HC2.out wk hk; have d1 := seg_str r2; have d2 := seg_str r3; have d3 := seg_str s2; have d4 := seg_str s3; go_simp; try rfl) ?_
            try simp only [Act.put, List.setIfInBounds_toArray, List.set_cons_zero, List.set_cons_succ]
            refine wpHold_take (i := 2) (v := _) (grown_drew _ _) rfl rfl (by kernel_rfl) (by kernel_rfl) (by kernel_rfl) (by kernel_rfl) (by kernel_rfl) (fun _ _ _ h => h) (by rfl) (fun wk hk => by obtain ⟨m0, m1, ⟨r0, r1, r2, r3⟩, ⟨s0, s1, s2, s3⟩⟩ := HC2.out wk hk; have d1 := seg_str r2; have d2 := seg_str r3; have d3 := seg_str s2; have d4 := seg_str s3; go_simp; try rfl) ?_
            try simp only [Act.put, List.setIfInBounds_toArray, List.set_cons_zero, List.set_cons_succ]
            refine wpHold_take (i := 3) (v := _) (grown_drew _ _) rfl rfl (by kernel_rfl) (by kernel_rfl) (by kernel_rfl) (by kernel_rfl) (by kernel_rfl) (fun _ _ _ h => h) (by rfl) (fun wk hk => by obtain ⟨m0, m1, ⟨r0, r1, r2, r3⟩, ⟨s0, s1, s2, s3⟩⟩ := HC2.out wk hk; have d1 := seg_str r2; have d2 := seg_str r3; have d3 := seg_str s2; have d4 := seg_str s3; go_simp; try rfl) ?_
            try simp only [Act.put, List.setIfInBounds_toArray, List.set_cons_zero, List.set_cons_succ]
            refine wpHold_take (i := 4) (v := _) (grown_drew _ _) rfl rfl (by kernel_rfl) (by kernel_rfl) (by kernel_rfl) (by kernel_rfl) (by kernel_rfl) (fun _ _ _ h => h) (by rfl) (fun wk hk => by obtain ⟨m0, m1, ⟨r0, r1, r2, r3⟩, ⟨s0, s1, s2, s3⟩⟩ := HC2.out wk hk; have d1 := seg_str r2; have d2 := seg_str r3; have d3 := seg_str s2; have d4 := seg_str s3; go_simp; try rfl) ?_
            try simp only [Act.put, List.setIfInBounds_toArray, List.set_cons_zero, List.set_cons_succ]
            refine wpHold_take (i := 5) (v := _) (grown_drew _ _) rfl rfl (by kernel_rfl) (by kernel_rfl) (by kernel_rfl) (by kernel_rfl) (by kernel_rfl) (fun _ _ _ h => h) (by rfl) (fun wk hk => by obtain ⟨m0, m1, ⟨r0, r1, r2, r3⟩, ⟨s0, s1, s2, s3⟩⟩ := HC2.out wk hk; have d1 := seg_str r2; have d2 := seg_str r3; have d3 := seg_str s2; have d4 := seg_str s3; go_simp; try rfl) ?_
            try simp only [Act.put, List.setIfInBounds_toArray, List.set_cons_zero, List.set_cons_succ]
            refine wpHold_take (i := 6) (v := _) (grown_drew _ _) rfl rfl (by kernel_rfl) (by kernel_rfl) (by kernel_rfl) (by kernel_rfl) (by kernel_rfl) (fun _ _ _ h => h) (by rfl) (fun wk hk => by obtain ⟨m0, m1, ⟨r0, r1, r2, r3⟩, ⟨s0, s1, s2, s3⟩⟩ := HC2.out wk hk; have d1 := seg_str r2; have d2 := seg_str r3; have d3 := seg_str s2; have d4 := seg_str s3; go_simp; try rfl) ?_
            try simp only [Act.put, List.setIfInBounds_toArray, List.set_cons_zero, List.set_cons_succ]
            refine wpHold_take (i := 7) (v := _) (grown_drew _ _) rfl rfl (by kernel_rfl) (by kernel_rfl) (by kernel_rfl) (by kernel_rfl) (by kernel_rfl) (fun _ _ _ h => h) (by rfl) (fun wk hk => by obtain ⟨m0, m1, ⟨r0, r1, r2, r3⟩, ⟨s0, s1, s2, s3⟩⟩ := HC2.out wk hk; have d1 := seg_str r2; have d2 := seg_str r3; have d3 := seg_str s2; have d4 := seg_str s3; go_simp; try rfl) ?_
            try simp only [Act.put, List.setIfInBounds_toArray, List.set_cons_zero, List.set_cons_succ]
            refine wpHold_take (i := 8) (v := _) (grown_drew _ _) rfl rfl (by kernel_rfl) (by kernel_rfl) (by kernel_rfl) (by kernel_rfl) (by kernel_rfl) (fun _ _ _ h => h) (by rfl) (fun wk hk => by obtain ⟨m0, m1, ⟨r0, r1, r2, r3⟩, ⟨s0, s1, s2, s3⟩⟩ := HC2.out wk hk; have d1 := seg_str r2; have d2 := seg_str r3; have d3 := seg_str s2; have d4 := seg_str s3; go_simp; try rfl) ?_
            try simp only [Act.put, List.setIfInBounds_toArray, List.set_cons_zero, List.set_cons_succ]
            refine wpHold_take (i := 9) (v := _) (grown_drew _ _) rfl rfl (by kernel_rfl) (by kernel_rfl) (by kernel_rfl) (by kernel_rfl) (by kernel_rfl) (fun _ _ _ h => h) (by rfl) (fun wk hk => by obtain ⟨m0, m1, ⟨r0, r1, r2, r3⟩, ⟨s0, s1, s2, s3⟩⟩ := HC2.out wk hk; have d1 := seg_str r2; have d2 := seg_str r3; have d3 := seg_str s2; have d4 := seg_str s3; go_simp; try rfl) ?_
            try simp only [Act.put, List.setIfInBounds_toArray, List.set_cons_zero, List.set_cons_succ]
            refine wpHold_take (i := 10) (v := _) (grown_drew _ _) rfl rfl (by kernel_rfl) (by kernel_rfl) (by kernel_rfl) (by kernel_rfl) (by kernel_rfl) (fun _ _ _ h => h) (by rfl) (fun wk hk => by obtain ⟨m0, m1, ⟨r0, r1, r2, r3⟩, ⟨s0, s1, s2, s3⟩⟩ := HC2.out wk hk; have d1 := seg_str r2; have d2 := seg_str r3; have d3 := seg_str s2; have d4 := seg_str s3; go_simp; try rfl) ?_
            try simp only [Act.put, List.setIfInBounds_toArray, List.set_cons_zero, List.set_cons_succ]
            refine wpHold_take (i := 11) (v := _) (grown_drew _ _) rfl rfl (by kernel_rfl) (by kernel_rfl) (by kernel_rfl) (by kernel_rfl) (by kernel_rfl) (fun _ _ _ h => h) (by rfl) (fun wk hk => by obtain ⟨m0, m1, ⟨r0, r1, r2, r3⟩, ⟨s0, s1, s2, s3⟩⟩ := HC2.out wk hk; have d1 := seg_str r2; have d2 := seg_str r3; have d3 := seg_str s2; have d4 := seg_str s3; go_simp; try rfl) ?_
            try simp only [Act.put, List.setIfInBounds_toArray, List.set_cons_zero, List.set_cons_succ]
            refine wpHold_take (i := 12) (v := _) (grown_drew _ _) rfl rfl (by kernel_rfl) (by kernel_rfl) (by kernel_rfl) (by kernel_rfl) (by kernel_rfl) (fun _ _ _ h => h) (by rfl) (fun wk hk => by obtain ⟨m0, m1, ⟨r0, r1, r2, r3⟩, ⟨s0, s1, s2, s3⟩⟩ := HC2.out wk hk; have d1 := seg_str r2; have d2 := seg_str r3; have d3 := seg_str s2; have d4 := seg_str s3; go_simp; try rfl) ?_
            try simp only [Act.put, List.setIfInBounds_toArray, List.set_cons_zero, List.set_cons_succ]
            refine wpHold_take (i := 13) (v := _) (grown_drew _ _) rfl rfl (by kernel_rfl) (by kernel_rfl) (by kernel_rfl) (by kernel_rfl) (by kernel_rfl) (fun _ _ _ h => h) (by rfl) (fun wk hk => by obtain ⟨m0, m1, ⟨r0, r1, r2, r3⟩, ⟨s0, s1, s2, s3⟩⟩ := HC2.out wk hk; have d1 := seg_str r2; have d2 := seg_str r3; have d3 := seg_str s2; have d4 := seg_str s3; go_simp; try rfl) ?_
            try simp only [Act.put, List.setIfInBounds_toArray, List.set_cons_zero, List.set_cons_succ]
            refine wpHold_take (i := 14) (v := _) (grown_drew _ _) rfl rfl (by kernel_rfl) (by kernel_rfl) (by kernel_rfl) (by kernel_rfl) (by kernel_rfl) (fun _ _ _ h => h) (by rfl) (fun wk hk => by obtain ⟨m0, m1, ⟨r0, r1, r2, r3⟩, ⟨s0, s1, s2, s3⟩⟩ := HC2.out wk hk; have d1 := seg_str r2; have d2 := seg_str r3; have d3 := seg_str s2; have d4 := seg_str s3; go_simp; try rfl) ?_
            try simp only [Act.put, List.setIfInBounds_toArray, List.set_cons_zero, List.set_cons_succ]
            refine wpHold_take (i := 15) (v := _) (grown_drew _ _) rfl rfl (by kernel_rfl) (by kernel_rfl) (by kernel_rfl) (by kernel_rfl) (by kernel_rfl) (fun _ _ _ h => h) (by rfl) (fun wk hk => by obtain ⟨m0, m1, ⟨r0, r1, r2, r3⟩, ⟨s0, s1, s2, s3⟩⟩ := HC2.out wk hk; have d1 := seg_str r2; have d2 := seg_str r3; have d3 := seg_str s2; have d4 := seg_str s3; go_simp; try rfl) ?_
            try simp only [Act.put, List.setIfInBounds_toArray, List.set_cons_zero, List.set_cons_succ]
            refine wpHold_take (i := 16) (v := _) (grown_drew _ _) rfl rfl (by kernel_rfl) (by kernel_rfl) (by kernel_rfl) (by kernel_rfl) (by kernel_rfl) (fun _ _ _ h => h) (by rfl) (fun wk hk => by obtain ⟨m0, m1, ⟨r0, r1, r2, r3⟩, ⟨s0, s1, s2, s3⟩⟩ := HC2.out wk hk; have d1 := seg_str r2; have d2 := seg_str r3; have d3 := seg_str s2; have d4 := seg_str s3; go_simp; try rfl) ?_
            try simp only [Act.put, List.setIfInBounds_toArray, List.set_cons_zero, List.set_cons_succ]
            refine wpHold_take (i := 17) (v := _) (grown_drew _ _) rfl rfl (by kernel_rfl) (by kernel_rfl) (by kernel_rfl) (by kernel_rfl) (by kernel_rfl) (fun _ _ _ h => h) (by rfl) (fun wk hk => by obtain ⟨m0, m1, ⟨r0, r1, r2, r3⟩, ⟨s0, s1, s2, s3⟩⟩ := HC2.out wk hk; have d1 := seg_str r2; have d2 := seg_str r3; have d3 := seg_str s2; have d4 := seg_str s3; go_simp; try rfl) ?_
            try simp only [Act.put, List.setIfInBounds_toArray, List.set_cons_zero, List.set_cons_succ]
            refine wpHold_take (i := 18) (v := _) (grown_drew _ _) rfl rfl (by kernel_rfl) (by kernel_rfl) (by kernel_rfl) (by kernel_rfl) (by kernel_rfl) (fun _ _ _ h => h) (by rfl) (fun wk hk => by obtain ⟨m0, m1, ⟨r0, r1, r2, r3⟩, ⟨s0, s1, s2, s3⟩⟩ := HC2.out wk hk; have d1 := seg_str r2; have d2 := seg_str r3; have d3 := seg_str s2; have d4 := seg_str s3; go_simp; try rfl) ?_
            try simp only [Act.put, List.setIfInBounds_toArray, List.set_cons_zero, List.set_cons_succ]
            refine wpHold_take (i := 19) (v := _) (grown_drew _ _) rfl rfl (by kernel_rfl) (by kernel_rfl) (by kernel_rfl) (by kernel_rfl) (by kernel_rfl) (fun _ _ _ h => h) (by rfl) (fun wk hk => by obtain ⟨m0, m1, ⟨r0, r1, r2, r3⟩, ⟨s0, s1, s2, s3⟩⟩ := HC2.out wk hk; have d1 := seg_str r2; have d2 := seg_str r3; have d3 := seg_str s2; have d4 := seg_str s3; go_simp; try rfl) ?_
            try simp only [Act.put, List.setIfInBounds_toArray, List.set_cons_zero, List.set_cons_succ]
            refine wpHold_take (i := 20) (v := _) (grown_drew _ _) rfl rfl (by kernel_rfl) (by kernel_rfl) (by kernel_rfl) (by kernel_rfl) (by kernel_rfl) (fun _ _ _ h => h) (by rfl) (fun wk hk => by obtain ⟨m0, m1, ⟨r0, r1, r2, r3⟩, ⟨s0, s1, s2, s3⟩⟩ := HC2.out wk hk; have d1 := seg_str r2; have d2 := seg_str r3; have d3 := seg_str s2; have d4 := seg_str s3; go_simp; try rfl) ?_
            try simp only [Act.put, List.setIfInBounds_toArray, List.set_cons_zero, List.set_cons_succ]
            refine wpHold_take (i := 21) (v := _) (grown_drew _ _) rfl rfl (by kernel_rfl) (by kernel_rfl) (by kernel_rfl) (by kernel_rfl) (by kernel_rfl) (fun _ _ _ h => h) (by rfl) (fun wk hk => by obtain ⟨m0, m1, ⟨r0, r1, r2, r3⟩, ⟨s0, s1, s2, s3⟩⟩ := HC2.out wk hk; have d1 := seg_str r2; have d2 := seg_str r3; have d3 := seg_str s2; have d4 := seg_str s3; go_simp; try rfl) ?_
            try simp only [Act.put, List.setIfInBounds_toArray, List.set_cons_zero, List.set_cons_succ]
            refine wpHold_take (i := 22) (v := _) (grown_drew _ _) rfl rfl (by kernel_rfl) (by kernel_rfl) (by kernel_rfl) (by kernel_rfl) (by kernel_rfl) (fun _ _ _ h => h) (by rfl) (fun wk hk => by obtain ⟨m0, m1, ⟨r0, r1, r2, r3⟩, ⟨s0, s1, s2, s3⟩⟩ := HC2.out wk hk; have d1 := seg_str r2; have d2 := seg_str r3; have d3 := seg_str s2; have d4 := seg_str s3; go_simp; try rfl) ?_
            try simp only [Act.put, List.setIfInBounds_toArray, List.set_cons_zero, List.set_cons_succ]
            refine wpHold_take (i := 23) (v := _) (grown_drew _ _) rfl rfl (by kernel_rfl) (by kernel_rfl) (by kernel_rfl) (by kernel_rfl) (by kernel_rfl) (fun _ _ _ h => h) (by rfl) (fun wk hk => by obtain ⟨m0, m1, ⟨r0, r1, r2, r3⟩, ⟨s0, s1, s2, s3⟩⟩ := HC2.out wk hk; have d1 := seg_str r2; have d2 := seg_str r3; have d3 := seg_str s2; have d4 := seg_str s3; go_simp; try rfl) ?_
            try simp only [Act.put, List.setIfInBounds_toArray, List.set_cons_zero, List.set_cons_succ]
            refine wpHold_take (i := 24) (v := _) (grown_drew _ _) rfl rfl (by kernel_rfl) (by kernel_rfl) (by kernel_rfl) (by kernel_rfl) (by kernel_rfl) (fun _ _ _ h => h) (by rfl) (fun wk hk => by obtain ⟨m0, m1, ⟨r0, r1, r2, r3⟩, ⟨s0, s1, s2, s3⟩⟩ := HC2.out wk hk; have d1 := seg_str r2; have d2 := seg_str r3; have d3 := seg_str s2; have d4 := seg_str s3; go_simp; try rfl) ?_
            try simp only [Act.put, List.setIfInBounds_toArray, List.set_cons_zero, List.set_cons_succ]
            refine wpHold_take (i := 25) (v := _) (grown_drew _ _) rfl rfl (by kernel_rfl) (by kernel_rfl) (by kernel_rfl) (by kernel_rfl) (by kernel_rfl) (fun _ _ _ h => h) (by rfl) (fun wk hk => by obtain ⟨m0, m1, ⟨r0, r1, r2, r3⟩, ⟨s0, s1, s2, s3⟩⟩ := HC2.out wk hk; have d1 := seg_str r2; have d2 := seg_str r3; have d3 := seg_str s2; have d4 := seg_str s3; go_simp; try rfl) ?_
            try simp only [Act.put, List.setIfInBounds_toArray, List.set_cons_zero, List.set_cons_succ]
            refine wpHold_take (i := 26) (v := _) (grown_drew _ _) rfl rfl (by kernel_rfl) (by kernel_rfl) (by kernel_rfl) (by kernel_rfl) (by kernel_rfl) (fun _ _ _ h => h) (by rfl) (fun wk hk => by obtain ⟨m0, m1, ⟨r0, r1, r2, r3⟩, ⟨s0, s1, s2, s3⟩⟩ := HC2.out wk hk; have d1 := seg_str r2; have d2 := seg_str r3; have d3 := seg_str s2; have d4 := seg_str s3; go_simp; try rfl) ?_
            try simp only [Act.put, List.setIfInBounds_toArray, List.set_cons_zero, List.set_cons_succ]
            refine wpHold_take (i := 27) (v := _) (grown_drew _ _) rfl rfl (by kernel_rfl) (by kernel_rfl) (by kernel_rfl) (by kernel_rfl) (by kernel_rfl) (fun _ _ _ h => h) (by rfl) (fun wk hk => by obtain ⟨m0, m1, ⟨r0, r1, r2, r3⟩, ⟨s0, s1, s2, s3⟩⟩ := HC2.out wk hk; have d1 := seg_str r2; have d2 := seg_str r3; have d3 := seg_str s2; have d4 := seg_str s3; go_simp; try rfl) ?_
            try simp only [Act.put, List.setIfInBounds_toArray, List.set_cons_zero, List.set_cons_succ]
            refine wpHold_take (i := 28) (v := _) (grown_drew _ _) rfl rfl (by kernel_rfl) (by kernel_rfl) (by kernel_rfl) (by kernel_rfl) (by kernel_rfl) (fun _ _ _ h => h) (by rfl) (fun wk hk => by obtain ⟨m0, m1, ⟨r0, r1, r2, r3⟩, ⟨s0, s1, s2, s3⟩⟩ := HC2.out wk hk; have d1 := seg_str r2; have d2 := seg_str r3; have d3 := seg_str s2; have d4 := seg_str s3; go_simp; try rfl) ?_
            try simp only [Act.put, List.setIfInBounds_toArray, List.set_cons_zero, List.set_cons_succ]
            refine wpHold_take (i := 29) (v := _) (grown_drew _ _) rfl rfl (by kernel_rfl) (by kernel_rfl) (by kernel_rfl) (by kernel_rfl) (by kernel_rfl) (fun _ _ _ h => h) (by rfl) (fun wk hk => by obtain ⟨m0, m1, ⟨r0, r1, r2, r3⟩, ⟨s0, s1, s2, s3⟩⟩ := HC2.out wk hk; have d1 := seg_str r2; have d2 := seg_str r3; have d3 := seg_str s2; have d4 := seg_str s3; go_simp; try rfl) ?_
            try simp only [Act.put, List.setIfInBounds_toArray, List.set_cons_zero, List.set_cons_succ]
            refine wpHold_take (i := 30) (v := _) (grown_drew _ _) rfl rfl (by kernel_rfl) (by kernel_rfl) (by kernel_rfl) (by kernel_rfl) (by kernel_rfl) (fun _ _ _ h => h) (by rfl) (fun wk hk => by obtain ⟨m0, m1, ⟨r0, r1, r2, r3⟩, ⟨s0, s1, s2, s3⟩⟩ := HC2.out wk hk; have d1 := seg_str r2; have d2 := seg_str r3; have d3 := seg_str s2; have d4 := seg_str s3; go_simp; try rfl) ?_
            try simp only [Act.put, List.setIfInBounds_toArray, List.set_cons_zero, List.set_cons_succ]
            refine wpHold_take (i := 31) (v := _) (grown_drew _ _) rfl rfl (by kernel_rfl) (by kernel_rfl) (by kernel_rfl) (by kernel_rfl) (by kernel_rfl) (fun _ _ _ h => h) (by rfl) (fun wk hk => by obtain ⟨m0, m1, ⟨r0, r1, r2, r3⟩, ⟨s0, s1, s2, s3⟩⟩ := HC2.out wk hk; have d1 := seg_str r2; have d2 := seg_str r3; have d3 := seg_str s2; have d4 := seg_str s3; go_simp; try rfl) ?_
            try simp only [Act.put, List.setIfInBounds_toArray, List.set_cons_zero, List.set_cons_succ]
            refine wpHold_done (by kernel_rfl) ?_
            refine (‹∀ (a : Act) (w : World), Code.wp Tryz.prog _ _ a w → _› _ _ ?_)
            go_wp2_with fail
            go_roundw
            case rel => exact ⟨j + 1, by omega, by go_num, grown_trans hgx.out (grown_drew _ _), by unfold Hid; rw [← hinv2.out, HE2.out, ← HO2.out.1, ← HO2.out.2]; simp⟩
            case measure => simp [intOf]; omega
          · have e : j = nr := by omega
            subst e
            go_wp2_with fail
            go_roundw
            case rel => exact ⟨k + 1, by omega, by go_num, grown_trans S6.out.1 hgx.out, HYes.out (by
              have : ra = rb := by rw [← hinv2.out, List.drop_eq_nil_of_le (by rw [HL.out.1]; omega), List.drop_eq_nil_of_le (by rw [HL.out.2]; omega)]
              rw [this])⟩
            case measure => simp [intOf]; omega
      · go_wp2_with fail
        have S2 : Hid (Blk (wd.alloc (.cells #[.bool false, .slice none 0 0, .slice none 0 0] 54)) wd.heap.size 54 #[.bool false, .slice none 0 0, .slice none 0 0] ∧ wr.grownBy (wd.alloc (.cells #[.bool false, .slice none 0 0, .slice none 0 0] 54)) none ∧ wr.heap.size ≤ wd.heap.size) := ⟨heap_alloc_new _ _, grown_trans HD.out (World.grownBy_alloc _ _ none), HD.out.size⟩
        generalize wd.alloc (.cells #[.bool false, .slice none 0 0, .slice none 0 0] 54) = w2 at S2 ⊢
        generalize wd.heap.size = q at S2 ⊢
        refine hK.out _ _ (fun _ => S2.out.2.1) ?_
        clear hK K
        try simp only [Act.put, List.setIfInBounds_toArray, List.set_cons_zero, List.set_cons_succ]
        refine wpHold_one (i := 10) rfl (by kernel_rfl) (by rfl) (fun K hK => ?_)
        go_wp2_with fail
        have S3 : Hid (Blk (w2.alloc (.cells #[.bool false, .slice none 0 0, .slice none 0 0] 54)) w2.heap.size 54 #[.bool false, .slice none 0 0, .slice none 0 0] ∧ Blk (w2.alloc (.cells #[.bool false, .slice none 0 0, .slice none 0 0] 54)) q 54 #[.bool false, .slice none 0 0, .slice none 0 0] ∧ wr.grownBy (w2.alloc (.cells #[.bool false, .slice none 0 0, .slice none 0 0] 54)) none ∧ wr.heap.size ≤ w2.heap.size ∧ wr.heap.size ≤ q ∧ ¬ w2.heap.size = q) := ⟨heap_alloc_new _ _, S2.out.1.grown (World.grownBy_alloc _ _ none) (by simp), grown_trans S2.out.2.1 (World.grownBy_alloc _ _ none), S2.out.2.1.size, S2.out.2.2, (Nat.ne_of_lt S2.out.1.lt).symm⟩
        generalize w2.alloc (.cells #[.bool false, .slice none 0 0, .slice none 0 0] 54) = w3 at S3 ⊢
        generalize w2.heap.size = p at S3 ⊢
        clear S2
        refine hK.out _ _ (fun _ => S3.out.2.2.1) ?_
        clear hK K
        try simp only [Act.put, List.setIfInBounds_toArray, List.set_cons_zero, List.set_cons_succ]
        refine wpHold_one (i := 12) rfl (by kernel_rfl) (by rfl) (fun K hK => ?_)
        have u0 := S3.out.1.cell 0
        have u1 := S3.out.1.cell 1
        have u2 := S3.out.1.cell 2
        have z0 := S3.out.1.free 0
        have z1 := S3.out.1.free 1
        have z2 := S3.out.1.free 2
        go_wp2_with fail
        clear u0 u1 u2 z0 z1 z2
        have hg3 := grown3s w3 p (.bool fa) (.slice p1 va.length p1') (.slice p2 ra.length p2')
        have S4 : Hid (Blk (((w3.setCell ⟨p, 0, none⟩ (.bool fa)).setCell ⟨p, 1, none⟩ (.slice p1 va.length p1')).setCell ⟨p, 2, none⟩ (.slice p2 ra.length p2')) p 54 #[.bool fa, .slice p1 va.length p1', .slice p2 ra.length p2'] ∧ Blk (((w3.setCell ⟨p, 0, none⟩ (.bool fa)).setCell ⟨p, 1, none⟩ (.slice p1 va.length p1')).setCell ⟨p, 2, none⟩ (.slice p2 ra.length p2')) q 54 #[.bool false, .slice none 0 0, .slice none 0 0] ∧ wr.grownBy (((w3.setCell ⟨p, 0, none⟩ (.bool fa)).setCell ⟨p, 1, none⟩ (.slice p1 va.length p1')).setCell ⟨p, 2, none⟩ (.slice p2 ra.length p2')) none ∧ wr.heap.size ≤ q ∧ ¬ p = q) := ⟨((S3.out.1.store 0 _).store 1 _).store 2 _, S3.out.2.1.grown hg3 (fun e => S3.out.2.2.2.2.2 (by simpa using e)), grown_new S3.out.2.2.1 hg3 (fun y hy => by simp at hy; have := S3.out.2.2.2.1; omega), S3.out.2.2.2.2.1, S3.out.2.2.2.2.2⟩
        generalize (((w3.setCell ⟨p, 0, none⟩ (.bool fa)).setCell ⟨p, 1, none⟩ (.slice p1 va.length p1')).setCell ⟨p, 2, none⟩ (.slice p2 ra.length p2')) = w4 at S4 ⊢
        clear S3 hg3
        refine hK.out _ _ (fun _ => S4.out.2.2.1) ?_
        clear hK K
        try simp only [Act.put, List.setIfInBounds_toArray, List.set_cons_zero, List.set_cons_succ]
        refine wpHold_one (i := 13) rfl (by kernel_rfl) (by rfl) (fun K hK => ?_)
        have u0 := S4.out.2.1.cell 0
        have u1 := S4.out.2.1.cell 1
        have u2 := S4.out.2.1.cell 2
        have z0 := S4.out.2.1.free 0
        have z1 := S4.out.2.1.free 1
        have z2 := S4.out.2.1.free 2
        go_wp2_with fail
        clear u0 u1 u2 z0 z1 z2
        have hg3 := grown3s w4 q (.bool fb) (.slice q1 vb.length q1') (.slice q2 rb.length q2')
        have S5 : Hid (Blk (((w4.setCell ⟨q, 0, none⟩ (.bool fb)).setCell ⟨q, 1, none⟩ (.slice q1 vb.length q1')).setCell ⟨q, 2, none⟩ (.slice q2 rb.length q2')) p 54 #[.bool fa, .slice p1 va.length p1', .slice p2 ra.length p2'] ∧ Blk (((w4.setCell ⟨q, 0, none⟩ (.bool fb)).setCell ⟨q, 1, none⟩ (.slice q1 vb.length q1')).setCell ⟨q, 2, none⟩ (.slice q2 rb.length q2')) q 54 #[.bool fb, .slice q1 vb.length q1', .slice q2 rb.length q2'] ∧ wr.grownBy (((w4.setCell ⟨q, 0, none⟩ (.bool fb)).setCell ⟨q, 1, none⟩ (.slice q1 vb.length q1')).setCell ⟨q, 2, none⟩ (.slice q2 rb.length q2')) none) := ⟨S4.out.1.grown hg3 (fun e => S4.out.2.2.2.2 (by simpa using e.symm)), ((S4.out.2.1.store 0 _).store 1 _).store 2 _, grown_new S4.out.2.2.1 hg3 (fun y hy => by simp at hy; have := S4.out.2.2.2.1; omega)⟩
        generalize (((w4.setCell ⟨q, 0, none⟩ (.bool fb)).setCell ⟨q, 1, none⟩ (.slice q1 vb.length q1')).setCell ⟨q, 2, none⟩ (.slice q2 rb.length q2')) = w5 at S5 ⊢
        clear S4 hg3
        refine hK.out _ _ (fun _ => S5.out.2.2) ?_
        clear hK K
        try simp only [Act.put, List.setIfInBounds_toArray, List.set_cons_zero, List.set_cons_succ]
        refine wpHold_done (by kernel_rfl) ?_
        refine (‹∀ (a : Act) (w : World), Code.wp Tryz.prog _ _ a w → _› _ _ ?_)
        clear HC HD
        have S6 : Hid (W0.grownBy w5 none ∧ OutSeg w5 (.slice p1 va.length p1') (.slice p2 ra.length p2') ⟨fa, va, ra⟩ ∧ OutSeg w5 (.slice q1 vb.length q1') (.slice q2 rb.length q2') ⟨fb, vb, rb⟩) := ⟨grown_trans HI.out.1 S5.out.2.2, HS.out.1.grown S5.out.2.2, HS.out.2.grown S5.out.2.2⟩
        clear HS
        have HNo : Hid (¬ ((⟨fa, va, ra⟩ : POut) = ⟨fb, vb, rb⟩) → decide (LA = LB) = false) := by
          intro h
          have : ¬ LA = LB := by rw [← HI.out.2, HE.out, ← HO.out.1, ← HO.out.2]; exact fun x => h x.1
          simp [this]
        have HYes : Hid ((⟨fa, va, ra⟩ : POut) = ⟨fb, vb, rb⟩ → ((LA.drop (k + 1) = LB.drop (k + 1)) ↔ LA = LB)) := by
          intro h
          rw [← HI.out.2, HE.out, ← HO.out.1, ← HO.out.2, h]; simp
        clear HE HO HI hka hkb
        by_cases e1 : fa = fb
        case neg =>
          have HF : Hid (¬ ((⟨fa, va, ra⟩ : POut) = ⟨fb, vb, rb⟩)) := by unfold Hid; simp [e1]
          have t0 := S5.out.1.cell 0
          have s0 := S5.out.2.1.cell 0
          go_wp2_with fail
          go_ret
          exact ⟨by rw [HNo.out HF.out]; rfl, grown_trans HG.out.1 S6.out.1⟩
        subst e1
        by_cases e2 : va = vb
        case neg =>
          have HF : Hid (¬ ((⟨fa, va, ra⟩ : POut) = ⟨fa, vb, rb⟩)) := by unfold Hid; simp [e2]
          have t0 := S5.out.1.cell 0
          have t1 := S5.out.1.cell 1
          have s0 := S5.out.2.1.cell 0
          have s1 := S5.out.2.1.cell 1
          have v1 := seg_str S6.out.2.1.value
          have v2 := seg_str S6.out.2.2.value
          go_wp2_with fail
          go_ret
          exact ⟨by rw [HNo.out HF.out]; rfl, grown_trans HG.out.1 S6.out.1⟩
        subst e2
        by_cases e3 : ra.length = rb.length
        case neg =>
          have HF : Hid (¬ ((⟨fa, va, ra⟩ : POut) = ⟨fa, va, rb⟩)) := by unfold Hid; simp; exact fun h => e3 (by rw [h])
          have e4 : ((ra.length : Int) != (rb.length : Int)) = true := by simp; omega
          have t0 := S5.out.1.cell 0
          have t1 := S5.out.1.cell 1
          have t2 := S5.out.1.cell 2
          have s0 := S5.out.2.1.cell 0
          have s1 := S5.out.2.1.cell 1
          have s2 := S5.out.2.1.cell 2
          have v1 := seg_str S6.out.2.1.value
          have v2 := seg_str S6.out.2.2.value
          clear e3
          go_wp2_with fail
          go_ret
          exact ⟨by rw [HNo.out HF.out]; rfl, grown_trans HG.out.1 S6.out.1⟩
        obtain ⟨nr, hnr⟩ : ∃ x, ra.length = x := ⟨_, rfl⟩
        rw [← e3] at S5 S6 ⊢
        rw [hnr] at S5 S6 ⊢
        have HL : Hid (ra.length = nr ∧ rb.length = nr) := ⟨hnr, by rw [← e3, hnr]⟩
        have hnr2 : nr ≤ 1099511627776 * 64 := by obtain ⟨_, _, _, h, _⟩ := S6.out.2.1.rows; rw [← hnr]; exact h
        clear e3 hnr
        have t0 := S5.out.1.cell 0
        have t1 := S5.out.1.cell 1
        have t2 := S5.out.1.cell 2
        have s0 := S5.out.2.1.cell 0
        have s1 := S5.out.2.1.cell 1
        have s2 := S5.out.2.1.cell 2
        have v1 := seg_str S6.out.2.1.value
        have v2 := seg_str S6.out.2.2.value
        go_wp2_with fail
        clear t0 t1 t2 s0 s1 s2 v1 v2
        go_loopw [8] (fun i wr => ∃ j : Nat, j ≤ nr ∧ i = .int .i64 j ∧ Hid (w5.grownBy wr none) ∧ Hid ((ra.drop j = rb.drop j) ↔ ra = rb)) (fun i _ => nr - (intOf i).toNat)
        case atStart => exact ⟨0, by omega, rfl, grown_refl _ _, by simp [Hid]⟩
        case round =>
          obtain ⟨j, hj, rfl, hgx, hinv2⟩ := hrel
          have t2 := (S5.out.1.grown hgx.out (by simp)).cell 2
          by_cases hlt2 : j < nr
          · have hja : j < ra.length := by rw [HL.out.1]; omega
            have hjb : j < rb.length := by rw [HL.out.2]; omega
            obtain ⟨b3, o3, x3, y3, e5, h3⟩ := rws_at (S6.out.2.1.rows.grown hgx.out) j hja
            obtain ⟨b4, o4, x4, y4, e6, h4⟩ := rws_at (S6.out.2.2.rows.grown hgx.out) j hjb
            subst e5
            subst e6
            have HE2 : Hid _ := (drop_eq hja hjb)
            obtain ⟨rA, hrA⟩ : ∃ o, o = ra[j] := ⟨_, rfl⟩
            obtain ⟨rB, hrB⟩ : ∃ o, o = rb[j] := ⟨_, rfl⟩
            rw [← hrA] at h3
            rw [← hrB] at h4
            have HO2 : Hid (rA = ra[j] ∧ rB = rb[j]) := And.intro hrA hrB
            clear hrA hrB
            obtain ⟨ka, xa⟩ := rA
            obtain ⟨kb, xb⟩ := rB
            obtain ⟨_, _, rfl⟩ := h3.s0.shape
            obtain ⟨_, _, rfl⟩ := h3.s1.shape
            obtain ⟨_, _, rfl⟩ := h4.s0.shape
            obtain ⟨_, _, rfl⟩ := h4.s1.shape
            have HC2 : Hid (∀ x : World, wr.grownBy x none → x.cell? ⟨p, 2, none⟩ = some (.slice (some ⟨b3, o3, none⟩) nr p2') ∧ x.cell? ⟨q, 2, none⟩ = some (.slice (some ⟨b4, o4, none⟩) nr q2') ∧ RowAt x b3 (o3 + j * 2) (ka, xa) _ _ ∧ RowAt x b4 (o4 + j * 2) (kb, xb) _ _) := fun x hx => ⟨((S5.out.1.grown hgx.out (by simp)).grown hx (by simp)).cell 2, ((S5.out.2.1.grown hgx.out (by simp)).grown hx (by simp)).cell 2, h3.grown hx, h4.grown hx⟩
            have HNr : Hid (¬ ((ka, xa) = (kb, xb)) → ¬ ((⟨fa, va, ra⟩ : POut) = ⟨fa, va, rb⟩)) := by
              intro h he
              have he2 : ra = rb := by simpa using he
              have := hinv2.out.2 he2
              rw [HE2.out, ← HO2.out.1, ← HO2.out.2] at this
              exact h this.1
            have j1 : (0 : Int) ≤ (j : Int) := by omega
            have j2 : (j : Int) < (nr : Int) := by omega
            clear h3 h4
            go_wp2_with fail
            clear t2
            by_cases f1 : ka = kb
            case neg =>
              have HF : Hid (¬ ((⟨fa, va, ra⟩ : POut) = ⟨fa, va, rb⟩)) := HNr.out (by simp [f1])
              have g1 : (ka == kb) = false := by simpa using f1
              have g2 : (ka != kb) = true := by simpa using f1
              have g3 : (!decide (ka = kb)) = true := by simp [f1]
              have g4 : decide (ka = kb) = false := by simp [f1]
              refine wp_region_noPanic ?_
              refine wp_region_hold 1000 (fun x => wr.grownBy x none) (by kernel_rfl) ?_
              refine wpHold_take (i := 0) (v := _) (grown_drew _ _) rfl rfl (by kernel_rfl) (by kernel_rfl) (by kernel_rfl) (by kernel_rfl) (by kernel_rfl) (fun _ _ _ h => h) (by rfl) (fun wk hk => by obtain ⟨m0, m1, ⟨r0, r1, r2, r3⟩, ⟨s0, s1, s2, s3⟩⟩ := HC2.out wk hk; have d1 := seg_str r2; have d2 := seg_str r3; have d3 := seg_str s2; have d4 := seg_str s3; go_simp; try rfl) ?_
              try simp only [Act.put, List.setIfInBounds_toArray, List.set_cons_zero, List.set_cons_succ]
              refine wpHold_take (i := 1) (v := _) (grown_drew _ _) rfl rfl (by kernel_rfl) (by kernel_rfl) (by kernel_rfl) (by kernel_rfl) (by kernel_rfl) (fun _ _ _ h => h) (by rfl) (fun wk hk => by obtain ⟨m0, m1, ⟨r0, r1, r2, r3⟩, ⟨s0, s1, s2, s3⟩⟩ := HC2.out wk hk; have d1 := seg_str r2; have d2 := seg_str r3; have d3 := seg_str s2; have d4 := seg_str s3; go_simp; try rfl) ?_
              try simp only [Act.put, List.setIfInBounds_toArray, List.set_cons_zero, List.set_cons_succ]
              refine wpHold_take (i := 2) (v := _) (grown_drew _ _) rfl rfl (by kernel_rfl) (by kernel_rfl) (by kernel_rfl) (by kernel_rfl) (by kernel_rfl) (fun _ _ _ h => h) (by rfl) (fun wk hk => by obtain ⟨m0, m1, ⟨r0, r1, r2, r3⟩, ⟨s0, s1, s2, s3⟩⟩ := HC2.out wk hk; have d1 := seg_str r2; have d2 := seg_str r3; have d3 := seg_str s2; have d4 := seg_str s3; go_simp; try rfl) ?_
              try simp only [Act.put, List.setIfInBounds_toArray, List.set_cons_zero, List.set_cons_succ]
              refine wpHold_take (i := 3) (v := _) (grown_drew _ _) rfl rfl (by kernel_rfl) (by kernel_rfl) (by kernel_rfl) (by kernel_rfl) (by kernel_rfl) (fun _ _ _ h => h) (by rfl) (fun wk hk => by obtain ⟨m0, m1, ⟨r0, r1, r2, r3⟩, ⟨s0, s1, s2, s3⟩⟩ := HC2.out wk hk; have d1 := seg_str r2; have d2 := seg_str r3; have d3 := seg_str s2; have d4 := seg_str s3; go_simp; try rfl) ?_
              try simp only [Act.put, List.setIfInBounds_toArray, List.set_cons_zero, List.set_cons_succ]
              refine wpHold_take (i := 4) (v := _) (grown_drew _ _) rfl rfl (by kernel_rfl) (by kernel_rfl) (by kernel_rfl) (by kernel_rfl) (by kernel_rfl) (fun _ _ _ h => h) (by rfl) (fun wk hk => by obtain ⟨m0, m1, ⟨r0, r1, r2, r3⟩, ⟨s0, s1, s2, s3⟩⟩ := HC2.out wk hk; have d1 := seg_str r2; have d2 := seg_str r3; have d3 := seg_str s2; have d4 := seg_str s3; go_simp; try rfl) ?_
              try simp only [Act.put, List.setIfInBounds_toArray, List.set_cons_zero, List.set_cons_succ]
              refine wpHold_take (i := 5) (v := _) (grown_drew _ _) rfl rfl (by kernel_rfl) (by kernel_rfl) (by kernel_rfl) (by kernel_rfl) (by kernel_rfl) (fun _ _ _ h => h) (by rfl) (fun wk hk => by obtain ⟨m0, m1, ⟨r0, r1, r2, r3⟩, ⟨s0, s1, s2, s3⟩⟩ := HC2.out wk hk; have d1 := seg_str r2; have d2 := seg_str r3; have d3 := seg_str s2; have d4 := seg_str s3; go_simp; try rfl) ?_
              try simp only [Act.put, List.setIfInBounds_toArray, List.set_cons_zero, List.set_cons_succ]
              refine wpHold_take (i := 6) (v := _) (grown_drew _ _) rfl rfl (by kernel_rfl) (by kernel_rfl) (by kernel_rfl) (by kernel_rfl) (by kernel_rfl) (fun _ _ _ h => h) (by rfl) (fun wk hk => by obtain ⟨m0, m1, ⟨r0, r1, r2, r3⟩, ⟨s0, s1, s2, s3⟩⟩ := HC2.out wk hk; have d1 := seg_str r2; have d2 := seg_str r3; have d3 := seg_str s2; have d4 := seg_str s3; go_simp; try rfl) ?_
              try simp only [Act.put, List.setIfInBounds_toArray, List.set_cons_zero, List.set_cons_succ]
              refine wpHold_take (i := 7) (v := _) (grown_drew _ _) rfl rfl (by kernel_rfl) (by kernel_rfl) (by kernel_rfl) (by kernel_rfl) (by kernel_rfl) (fun _ _ _ h => h) (by rfl) (fun wk hk => by obtain ⟨m0, m1, ⟨r0, r1, r2, r3⟩, ⟨s0, s1, s2, s3⟩⟩ := HC2.out wk hk; have d1 := seg_str r2; have d2 := seg_str r3; have d3 := seg_str s2; have d4 := seg_str s3; go_simp; try rfl) ?_
              try simp only [Act.put, List.setIfInBounds_toArray, List.set_cons_zero, List.set_cons_succ]
              refine wpHold_take (i := 8) (v := _) (grown_drew _ _) rfl rfl (by kernel_rfl) (by kernel_rfl) (by kernel_rfl) (by kernel_rfl) (by kernel_rfl) (fun _ _ _ h => h) (by rfl) (fun wk hk => by obtain ⟨m0, m1, ⟨r0, r1, r2, r3⟩, ⟨s0, s1, s2, s3⟩⟩ := HC2.out wk hk; have d1 := seg_str r2; have d2 := seg_str r3; have d3 := seg_str s2; have d4 := seg_str s3; go_simp; try rfl) ?_
              try simp only [Act.put, List.setIfInBounds_toArray, List.set_cons_zero, List.set_cons_succ]
              refine wpHold_take (i := 9) (v := _) (grown_drew _ _) rfl rfl (by kernel_rfl) (by kernel_rfl) (by kernel_rfl) (by kernel_rfl) (by kernel_rfl) (fun _ _ _ h => h) (by rfl) (fun wk hk => by obtain ⟨m0, m1, ⟨r0, r1, r2, r3⟩, ⟨s0, s1, s2, s3⟩⟩ := HC2.out wk hk; have d1 := seg_str r2; have d2 := seg_str r3; have d3 := seg_str s2; have d4 := seg_str s3; go_simp; try rfl) ?_
              try simp only [Act.put, List.setIfInBounds_toArray, List.set_cons_zero, List.set_cons_succ]
              refine wpHold_take (i := 10) (v := _) (grown_drew _ _) rfl rfl (by kernel_rfl) (by kernel_rfl) (by kernel_rfl) (by kernel_rfl) (by kernel_rfl) (fun _ _ _ h => h) (by rfl) (fun wk hk => by obtain ⟨m0, m1, ⟨r0, r1, r2, r3⟩, ⟨s0, s1, s2, s3⟩⟩ := HC2.out wk hk; have d1 := seg_str r2; have d2 := seg_str r3; have d3 := seg_str s2; have d4 := seg_str s3; go_simp; try rfl) ?_
              try simp only [Act.put, List.setIfInBounds_toArray, List.set_cons_zero, List.set_cons_succ]
              refine wpHold_take (i := 11) (v := _) (grown_drew _ _) rfl rfl (by kernel_rfl) (by kernel_rfl) (by kernel_rfl) (by kernel_rfl) (by kernel_rfl) (fun _ _ _ h => h) (by rfl) (fun wk hk => by obtain ⟨m0, m1, ⟨r0, r1, r2, r3⟩, ⟨s0, s1, s2, s3⟩⟩ := HC2.out wk hk; have d1 := seg_str r2; have d2 := seg_str r3; have d3 := seg_str s2; have d4 := seg_str s3; go_simp; try rfl) ?_
              try simp only [Act.put, List.setIfInBounds_toArray, List.set_cons_zero, List.set_cons_succ]
              refine wpHold_take (i := 12) (v := _) (grown_drew _ _) rfl rfl (by kernel_rfl) (by kernel_rfl) (by kernel_rfl) (by kernel_rfl) (by kernel_rfl) (fun _ _ _ h => h) (by rfl) (fun wk hk => by obtain ⟨m0, m1, ⟨r0, r1, r2, r3⟩, ⟨s0, s1, s2, s3⟩⟩ := HC2.out wk hk; have d1 := seg_str r2; have d2 := seg_str r3; have d3 := seg_str s2; have d4 := seg_str s3; go_simp; try rfl) ?_
              try simp only [Act.put, List.setIfInBounds_toArray, List.set_cons_zero, List.set_cons_succ]
              refine wpHold_take (i := 13) (v := _) (grown_drew _ _) rfl rfl (by kernel_rfl) (by kernel_rfl) (by kernel_rfl) (by kernel_rfl) (by kernel_rfl) (fun _ _ _ h => h) (by rfl) (fun wk hk => by obtain ⟨m0, m1, ⟨r0, r1, r2, r3⟩, ⟨s0, s1, s2, s3⟩⟩ := HC2.out wk hk; have d1 := seg_str r2; have d2 := seg_str r3; have d3 := seg_str s2; have d4 := seg_str s3; go_simp; try rfl) ?_
              try simp only [Act.put, List.setIfInBounds_toArray, List.set_cons_zero, List.set_cons_succ]
              refine wpHold_one (i := 14) rfl (by kernel_rfl) (by rfl) (fun K hK => ?_)
              go_wp2_with fail
              refine hK.out _ _ (fun _ => grown_drew _ _) ?_
              clear hK K
              try simp only [Act.put, List.setIfInBounds_toArray, List.set_cons_zero, List.set_cons_succ]
              refine wpHold_take (i := 15) (v := _) (grown_drew _ _) rfl rfl (by kernel_rfl) (by kernel_rfl) (by kernel_rfl) (by kernel_rfl) (by kernel_rfl) (fun _ _ _ h => h) (by rfl) (fun wk hk => by obtain ⟨m0, m1, ⟨r0, r1, r2, r3⟩, ⟨s0, s1, s2, s3⟩⟩ := HC2.out wk hk; have d1 := seg_str r2; have d2 := seg_str r3; have d3 := seg_str s2; have d4 := seg_str s3; go_simp; try rfl) ?_
              try simp only [Act.put, List.setIfInBounds_toArray, List.set_cons_zero, List.set_cons_succ]
              refine wpHold_skip (i := 16) (grown_drew _ _) rfl rfl (by kernel_rfl) (by kernel_rfl) (by kernel_rfl) (by kernel_rfl) (by kernel_rfl) (fun _ _ _ h => h) (by rfl) ?_
              try simp only [Act.put, List.setIfInBounds_toArray, List.set_cons_zero, List.set_cons_succ]
              refine wpHold_skip (i := 17) (grown_drew _ _) rfl rfl (by kernel_rfl) (by kernel_rfl) (by kernel_rfl) (by kernel_rfl) (by kernel_rfl) (fun _ _ _ h => h) (by rfl) ?_
              try simp only [Act.put, List.setIfInBounds_toArray, List.set_cons_zero, List.set_cons_succ]
              refine wpHold_skip (i := 18) (grown_drew _ _) rfl rfl (by kernel_rfl) (by kernel_rfl) (by kernel_rfl) (by kernel_rfl) (by kernel_rfl) (fun _ _ _ h => h) (by rfl) ?_
              try simp only [Act.put, List.setIfInBounds_toArray, List.set_cons_zero, List.set_cons_succ]
              refine wpHold_skip (i := 19) (grown_drew _ _) rfl rfl (by kernel_rfl) (by kernel_rfl) (by kernel_rfl) (by kernel_rfl) (by kernel_rfl) (fun _ _ _ h => h) (by rfl) ?_
              try simp only [Act.put, List.setIfInBounds_toArray, List.set_cons_zero, List.set_cons_succ]
              refine wpHold_skip (i := 20) (grown_drew _ _) rfl rfl (by kernel_rfl) (by kernel_rfl) (by kernel_rfl) (by kernel_rfl) (by kernel_rfl) (fun _ _ _ h => h) (by rfl) ?_
              try simp only [Act.put, List.setIfInBounds_toArray, List.set_cons_zero, List.set_cons_succ]
              refine wpHold_skip (i := 21) (grown_drew _ _) rfl rfl (by kernel_rfl) (by kernel_rfl) (by kernel_rfl) (by kernel_rfl) (by kernel_rfl) (fun _ _ _ h => h) (by rfl) ?_
              try simp only [Act.put, List.setIfInBounds_toArray, List.set_cons_zero, List.set_cons_succ]
              refine wpHold_skip (i := 22) (grown_drew _ _) rfl rfl (by kernel_rfl) (by kernel_rfl) (by kernel_rfl) (by kernel_rfl) (by kernel_rfl) (fun _ _ _ h => h) (by rfl) ?_
              try simp only [Act.put, List.setIfInBounds_toArray, List.set_cons_zero, List.set_cons_succ]
              refine wpHold_skip (i := 23) (grown_drew _ _) rfl rfl (by kernel_rfl) (by kernel_rfl) (by kernel_rfl) (by kernel_rfl) (by kernel_rfl) (fun _ _ _ h => h) (by rfl) ?_
              try simp only [Act.put, List.setIfInBounds_toArray, List.set_cons_zero, List.set_cons_succ]
              refine wpHold_skip (i := 24) (grown_drew _ _) rfl rfl (by kernel_rfl) (by kernel_rfl) (by kernel_rfl) (by kernel_rfl) (by kernel_rfl) (fun _ _ _ h => h) (by rfl) ?_
              try simp only [Act.put, List.setIfInBounds_toArray, List.set_cons_zero, List.set_cons_succ]
              refine wpHold_skip (i := 25) (grown_drew _ _) rfl rfl (by kernel_rfl) (by kernel_rfl) (by kernel_rfl) (by kernel_rfl) (by kernel_rfl) (fun _ _ _ h => h) (by rfl) ?_
              try simp only [Act.put, List.setIfInBounds_toArray, List.set_cons_zero, List.set_cons_succ]
              refine wpHold_skip (i := 26) (grown_drew _ _) rfl rfl (by kernel_rfl) (by kernel_rfl) (by kernel_rfl) (by kernel_rfl) (by kernel_rfl) (fun _ _ _ h => h) (by rfl) ?_
              try simp only [Act.put, List.setIfInBounds_toArray, List.set_cons_zero, List.set_cons_succ]
              refine wpHold_skip (i := 27) (grown_drew _ _) rfl rfl (by kernel_rfl) (by kernel_rfl) (by kernel_rfl) (by kernel_rfl) (by kernel_rfl) (fun _ _ _ h => h) (by rfl) ?_
              try simp only [Act.put, List.setIfInBounds_toArray, List.set_cons_zero, List.set_cons_succ]
              refine wpHold_skip (i := 28) (grown_drew _ _) rfl rfl (by kernel_rfl) (by kernel_rfl) (by kernel_rfl) (by kernel_rfl) (by kernel_rfl) (fun _ _ _ h => h) (by rfl) ?_
              try simp only [Act.put, List.setIfInBounds_toArray, List.set_cons_zero, List.set_cons_succ]
              refine wpHold_skip (i := 29) (grown_drew _ _) rfl rfl (by kernel_rfl) (by kernel_rfl) (by kernel_rfl) (by kernel_rfl) (by kernel_rfl) (fun _ _ _ h => h) (by rfl) ?_
              try simp only [Act.put, List.setIfInBounds_toArray, List.set_cons_zero, List.set_cons_succ]
              refine wpHold_skip (i := 30) (grown_drew _ _) rfl rfl (by kernel_rfl) (by kernel_rfl) (by kernel_rfl) (by kernel_rfl) (by kernel_rfl) (fun _ _ _ h => h) (by rfl) ?_
              try simp only [Act.put, List.setIfInBounds_toArray, List.set_cons_zero, List.set_cons_succ]
              refine wpHold_take (i := 31) (v := _) (grown_drew _ _) rfl rfl (by kernel_rfl) (by kernel_rfl) (by kernel_rfl) (by kernel_rfl) (by kernel_rfl) (fun _ _ _ h => h) (by rfl) (fun wk hk => by obtain ⟨m0, m1, ⟨r0, r1, r2, r3⟩, ⟨s0, s1, s2, s3⟩⟩ := HC2.out wk hk; have d1 := seg_str r2; have d2 := seg_str r3; have d3 := seg_str s2; have d4 := seg_str s3; go_simp; try rfl) ?_
              try simp only [Act.put, List.setIfInBounds_toArray, List.set_cons_zero, List.set_cons_succ]
              refine wpHold_done (by kernel_rfl) ?_
              refine (‹∀ (a : Act) (w : World), Code.wp Tryz.prog _ _ a w → _› _ _ ?_)
              go_wp2_with fail
              go_ret
              exact ⟨by rw [HNo.out HF.out]; rfl, grown_trans HG.out.1 (grown_trans S6.out.1 (grown_trans hgx.out (grown_drew _ _)))⟩
            subst f1
            by_cases f2 : xa = xb
            case neg =>
              have HF : Hid (¬ ((⟨fa, va, ra⟩ : POut) = ⟨fa, va, rb⟩)) := HNr.out (by simp [f2])
              have g1 : (xa == xb) = false := by simpa using f2
              have g2 : (xa != xb) = true := by simpa using f2
              have g3 : (!decide (xa = xb)) = true := by simp [f2]
              have g4 : decide (xa = xb) = false := by simp [f2]
              refine wp_region_noPanic ?_
              refine wp_region_hold 1000 (fun x => wr.grownBy x none) (by kernel_rfl) ?_
              refine wpHold_take (i := 0) (v := _) (grown_drew _ _) rfl rfl (by kernel_rfl) (by kernel_rfl) (by kernel_rfl) (by kernel_rfl) (by kernel_rfl) (fun _ _ _ h => h) (by rfl) (fun wk hk => by obtain ⟨m0, m1, ⟨r0, r1, r2, r3⟩, ⟨s0, s1, s2, s3⟩⟩ := HC2.out wk hk; have d1 := seg_str r2; have d2 := seg_str r3; have d3 := seg_str s2; have d4 := seg_str s3; go_simp; try rfl) ?_
              try simp only [Act.put, List.setIfInBounds_toArray, List.set_cons_zero, List.set_cons_succ]
              refine wpHold_take (i := 1) (v := _) (grown_drew _ _) rfl rfl (by kernel_rfl) (by kernel_rfl) (by kernel_rfl) (by kernel_rfl) (by kernel_rfl) (fun _ _ _ h => h) (by rfl) (fun wk hk => by obtain ⟨m0, m1, ⟨r0, r1, r2, r3⟩, ⟨s0, s1, s2, s3⟩⟩ := HC2.out wk hk; have d1 := seg_str r2; have d2 := seg_str r3; have d3 := seg_str s2; have d4 := seg_str s3; go_simp; try rfl) ?_
              try simp only [Act.put, List.setIfInBounds_toArray, List.set_cons_zero, List.set_cons_succ]
              refine wpHold_take (i := 2) (v := _) (grown_drew _ _) rfl rfl (by kernel_rfl) (by kernel_rfl) (by kernel_rfl) (by kernel_rfl) (by kernel_rfl) (fun _ _ _ h => h) (by rfl) (fun wk hk => by obtain ⟨m0, m1, ⟨r0, r1, r2, r3⟩, ⟨s0, s1, s2, s3⟩⟩ := HC2.out wk hk; have d1 := seg_str r2; have d2 := seg_str r3; have d3 := seg_str s2; have d4 := seg_str s3; go_simp; try rfl) ?_
              try simp only [Act.put, List.setIfInBounds_toArray, List.set_cons_zero, List.set_cons_succ]
              refine wpHold_take (i := 3) (v := _) (grown_drew _ _) rfl rfl (by kernel_rfl) (by kernel_rfl) (by kernel_rfl) (by kernel_rfl) (by kernel_rfl) (fun _ _ _ h => h) (by rfl) (fun wk hk => by obtain ⟨m0, m1, ⟨r0, r1, r2, r3⟩, ⟨s0, s1, s2, s3⟩⟩ := HC2.out wk hk; have d1 := seg_str r2; have d2 := seg_str r3; have d3 := seg_str s2; have d4 := seg_str s3; go_simp; try rfl) ?_
              try simp only [Act.put, List.setIfInBounds_toArray, List.set_cons_zero, List.set_cons_succ]
              refine wpHold_take (i := 4) (v := _) (grown_drew _ _) rfl rfl (by kernel_rfl) (by kernel_rfl) (by kernel_rfl) (by kernel_rfl) (by kernel_rfl) (fun _ _ _ h => h) (by rfl) (fun wk hk => by obtain ⟨m0, m1, ⟨r0, r1, r2, r3⟩, ⟨s0, s1, s2, s3⟩⟩ := HC2.out wk hk; have d1 := seg_str r2; have d2 := seg_str r3; have d3 := seg_str s2; have d4 := seg_str s3; go_simp; try rfl) ?_
              try simp only [Act.put, List.setIfInBounds_toArray, List.set_cons_zero, List.set_cons_succ]
              refine wpHold_take (i := 5) (v := _) (grown_drew _ _) rfl rfl (by kernel_rfl) (by kernel_rfl) (by kernel_rfl) (by kernel_rfl) (by kernel_rfl) (fun _ _ _ h => h) (by rfl) (fun wk hk => by obtain ⟨m0, m1, ⟨r0, r1, r2, r3⟩, ⟨s0, s1, s2, s3⟩⟩ := HC2.out wk hk; have d1 := seg_str r2; have d2 := seg_str r3; have d3 := seg_str s2; have d4 := seg_str s3; go_simp; try rfl) ?_
              try simp only [Act.put, List.setIfInBounds_toArray, List.set_cons_zero, List.set_cons_succ]
              refine wpHold_take (i := 6) (v := _) (grown_drew _ _) rfl rfl (by kernel_rfl) (by kernel_rfl) (by kernel_rfl) (by kernel_rfl) (by kernel_rfl) (fun _ _ _ h => h) (by rfl) (fun wk hk => by obtain ⟨m0, m1, ⟨r0, r1, r2, r3⟩, ⟨s0, s1, s2, s3⟩⟩ := HC2.out wk hk; have d1 := seg_str r2; have d2 := seg_str r3; have d3 := seg_str s2; have d4 := seg_str s3; go_simp; try rfl) ?_
              try simp only [Act.put, List.setIfInBounds_toArray, List.set_cons_zero, List.set_cons_succ]
              refine wpHold_take (i := 7) (v := _) (grown_drew _ _) rfl rfl (by kernel_rfl) (by kernel_rfl) (by kernel_rfl) (by kernel_rfl) (by kernel_rfl) (fun _ _ _ h => h) (by rfl) (fun wk hk => by obtain ⟨m0, m1, ⟨r0, r1, r2, r3⟩, ⟨s0, s1, s2, s3⟩⟩ := HC2.out wk hk; have d1 := seg_str r2; have d2 := seg_str r3; have d3 := seg_str s2; have d4 := seg_str s3; go_simp; try rfl) ?_
              try simp only [Act.put, List.setIfInBounds_toArray, List.set_cons_zero, List.set_cons_succ]
              refine wpHold_take (i := 8) (v := _) (grown_drew _ _) rfl rfl (by kernel_rfl) (by kernel_rfl) (by kernel_rfl) (by kernel_rfl) (by kernel_rfl) (fun _ _ _ h => h) (by rfl) (fun wk hk => by obtain ⟨m0, m1, ⟨r0, r1, r2, r3⟩, ⟨s0, s1, s2, s3⟩⟩ := HC2.out wk hk; have d1 := seg_str r2; have d2 := seg_str r3; have d3 := seg_str s2; have d4 := seg_str s3; go_simp; try rfl) ?_
              try simp only [Act.put, List.setIfInBounds_toArray, List.set_cons_zero, List.set_cons_succ]
              refine wpHold_take (i := 9) (v := _) (grown_drew _ _) rfl rfl (by kernel_rfl) (by kernel_rfl) (by kernel_rfl) (by kernel_rfl) (by kernel_rfl) (fun _ _ _ h => h) (by rfl) (fun wk hk => by obtain ⟨m0, m1, ⟨r0, r1, r2, r3⟩, ⟨s0, s1, s2, s3⟩⟩ := HC2.out wk hk; have d1 := seg_str r2; have d2 := seg_str r3; have d3 := seg_str s2; have d4 := seg_str s3; go_simp; try rfl) ?_
              try simp only [Act.put, List.setIfInBounds_toArray, List.set_cons_zero, List.set_cons_succ]
              refine wpHold_take (i := 10) (v := _) (grown_drew _ _) rfl rfl (by kernel_rfl) (by kernel_rfl) (by kernel_rfl) (by kernel_rfl) (by kernel_rfl) (fun _ _ _ h => h) (by rfl) (fun wk hk => by obtain ⟨m0, m1, ⟨r0, r1, r2, r3⟩, ⟨s0, s1, s2, s3⟩⟩ := HC2.out wk hk; have d1 := seg_str r2; have d2 := seg_str r3; have d3 := seg_str s2; have d4 := seg_str s3; go_simp; try rfl) ?_
              try simp only [Act.put, List.setIfInBounds_toArray, List.set_cons_zero, List.set_cons_succ]
              refine wpHold_take (i := 11) (v := _) (grown_drew _ _) rfl rfl (by kernel_rfl) (by kernel_rfl) (by kernel_rfl) (by kernel_rfl) (by kernel_rfl) (fun _ _ _ h => h) (by rfl) (fun wk hk => by obtain ⟨m0, m1, ⟨r0, r1, r2, r3⟩, ⟨s0, s1, s2, s3⟩⟩ := HC2.out wk hk; have d1 := seg_str r2; have d2 := seg_str r3; have d3 := seg_str s2; have d4 := seg_str s3; go_simp; try rfl) ?_
              try simp only [Act.put, List.setIfInBounds_toArray, List.set_cons_zero, List.set_cons_succ]
              refine wpHold_take (i := 12) (v := _) (grown_drew _ _) rfl rfl (by kernel_rfl) (by kernel_rfl) (by kernel_rfl) (by kernel_rfl) (by kernel_rfl) (fun _ _ _ h => h) (by rfl) (fun wk hk => by obtain ⟨m0, m1, ⟨r0, r1, r2, r3⟩, ⟨s0, s1, s2, s3⟩⟩ := HC2.out wk hk; have d1 := seg_str r2; have d2 := seg_str r3; have d3 := seg_str s2; have d4 := seg_str s3; go_simp; try rfl) ?_
              try simp only [Act.put, List.setIfInBounds_toArray, List.set_cons_zero, List.set_cons_succ]
              refine wpHold_take (i := 13) (v := _) (grown_drew _ _) rfl rfl (by kernel_rfl) (by kernel_rfl) (by kernel_rfl) (by kernel_rfl) (by kernel_rfl) (fun _ _ _ h => h) (by rfl) (fun wk hk => by obtain ⟨m0, m1, ⟨r0, r1, r2, r3⟩, ⟨s0, s1, s2, s3⟩⟩ := HC2.out wk hk; have d1 := seg_str r2; have d2 := seg_str r3; have d3 := seg_str s2; have d4 := seg_str s3; go_simp; try rfl) ?_
              try simp only [Act.put, List.setIfInBounds_toArray, List.set_cons_zero, List.set_cons_succ]
              refine wpHold_take (i := 14) (v := _) (grown_drew _ _) rfl rfl (by kernel_rfl) (by kernel_rfl) (by kernel_rfl) (by kernel_rfl) (by kernel_rfl) (fun _ _ _ h => h) (by rfl) (fun wk hk => by obtain ⟨m0, m1, ⟨r0, r1, r2, r3⟩, ⟨s0, s1, s2, s3⟩⟩ := HC2.out wk hk; have d1 := seg_str r2; have d2 := seg_str r3; have d3 := seg_str s2; have d4 := seg_str s3; go_simp; try rfl) ?_
              try simp only [Act.put, List.setIfInBounds_toArray, List.set_cons_zero, List.set_cons_succ]
              refine wpHold_take (i := 15) (v := _) (grown_drew _ _) rfl rfl (by kernel_rfl) (by kernel_rfl) (by kernel_rfl) (by kernel_rfl) (by kernel_rfl) (fun _ _ _ h => h) (by rfl) (fun wk hk => by obtain ⟨m0, m1, ⟨r0, r1, r2, r3⟩, ⟨s0, s1, s2, s3⟩⟩ := HC2.out wk hk; have d1 := seg_str r2; have d2 := seg_str r3; have d3 := seg_str s2; have d4 := seg_str s3; go_simp; try rfl) ?_
              try simp only [Act.put, List.setIfInBounds_toArray, List.set_cons_zero, List.set_cons_succ]
              refine wpHold_take (i := 16) (v := _) (grown_drew _ _) rfl rfl (by kernel_rfl) (by kernel_rfl) (by kernel_rfl) (by kernel_rfl) (by kernel_rfl) (fun _ _ _ h => h) (by rfl) (fun wk hk => by obtain ⟨m0, m1, ⟨r0, r1, r2, r3⟩, ⟨s0, s1, s2, s3⟩⟩ := HC2.out wk hk; have d1 := seg_str r2; have d2 := seg_str r3; have d3 := seg_str s2; have d4 := seg_str s3; go_simp; try rfl) ?_
              try simp only [Act.put, List.setIfInBounds_toArray, List.set_cons_zero, List.set_cons_succ]
              refine wpHold_take (i := 17) (v := _) (grown_drew _ _) rfl rfl (by kernel_rfl) (by kernel_rfl) (by kernel_rfl) (by kernel_rfl) (by kernel_rfl) (fun _ _ _ h => h) (by rfl) (fun wk hk => by obtain ⟨m0, m1, ⟨r0, r1, r2, r3⟩, ⟨s0, s1, s2, s3⟩⟩ := HC2.out wk hk; have d1 := seg_str r2; have d2 := seg_str r3; have d3 := seg_str s2; have d4 := seg_str s3; go_simp; try rfl) ?_
              try simp only [Act.put, List.setIfInBounds_toArray, List.set_cons_zero, List.set_cons_succ]
              refine wpHold_take (i := 18) (v := _) (grown_drew _ _) rfl rfl (by kernel_rfl) (by kernel_rfl) (by kernel_rfl) (by kernel_rfl) (by kernel_rfl) (fun _ _ _ h => h) (by rfl) (fun wk hk => by obtain ⟨m0, m1, ⟨r0, r1, r2, r3⟩, ⟨s0, s1, s2, s3⟩⟩ := HC2.out wk hk; have d1 := seg_str r2; have d2 := seg_str r3; have d3 := seg_str s2; have d4 := seg_str s3; go_simp; try rfl) ?_
              try simp only [Act.put, List.setIfInBounds_toArray, List.set_cons_zero, List.set_cons_succ]
              refine wpHold_take (i := 19) (v := _) (grown_drew _ _) rfl rfl (by kernel_rfl) (by kernel_rfl) (by kernel_rfl) (by kernel_rfl) (by kernel_rfl) (fun _ _ _ h => h) (by rfl) (fun wk hk => by obtain ⟨m0, m1, ⟨r0, r1, r2, r3⟩, ⟨s0, s1, s2, s3⟩⟩ := HC2.out wk hk; have d1 := seg_str r2; have d2 := seg_str r3; have d3 := seg_str s2; have d4 := seg_str s3; go_simp; try rfl) ?_
              try simp only [Act.put, List.setIfInBounds_toArray, List.set_cons_zero, List.set_cons_succ]
              refine wpHold_take (i := 20) (v := _) (grown_drew _ _) rfl rfl (by kernel_rfl) (by kernel_rfl) (by kernel_rfl) (by kernel_rfl) (by kernel_rfl) (fun _ _ _ h => h) (by rfl) (fun wk hk => by obtain ⟨m0, m1, ⟨r0, r1, r2, r3⟩, ⟨s0, s1, s2, s3⟩⟩ := HC2.out wk hk; have d1 := seg_str r2; have d2 := seg_str r3; have d3 := seg_str s2; have d4 := seg_str s3; go_simp; try rfl) ?_
              try simp only [Act.put, List.setIfInBounds_toArray, List.set_cons_zero, List.set_cons_succ]
              refine wpHold_take (i := 21) (v := _) (grown_drew _ _) rfl rfl (by kernel_rfl) (by kernel_rfl) (by kernel_rfl) (by kernel_rfl) (by kernel_rfl) (fun _ _ _ h => h) (by rfl) (fun wk hk => by obtain ⟨m0, m1, ⟨r0, r1, r2, r3⟩, ⟨s0, s1, s2, s3⟩⟩ := HC2.out wk hk; have d1 := seg_str r2; have d2 := seg_str r3; have d3 := seg_str s2; have d4 := seg_str s3; go_simp; try rfl) ?_
              try simp only [Act.put, List.setIfInBounds_toArray, List.set_cons_zero, List.set_cons_succ]
              refine wpHold_take (i := 22) (v := _) (grown_drew _ _) rfl rfl (by kernel_rfl) (by kernel_rfl) (by kernel_rfl) (by kernel_rfl) (by kernel_rfl) (fun _ _ _ h => h) (by rfl) (fun wk hk => by obtain ⟨m0, m1, ⟨r0, r1, r2, r3⟩, ⟨s0, s1, s2, s3⟩⟩ := HC2.out wk hk; have d1 := seg_str r2; have d2 := seg_str r3; have d3 := seg_str s2; have d4 := seg_str s3; go_simp; try rfl) ?_
              try simp only [Act.put, List.setIfInBounds_toArray, List.set_cons_zero, List.set_cons_succ]
              refine wpHold_take (i := 23) (v := _) (grown_drew _ _) rfl rfl (by kernel_rfl) (by kernel_rfl) (by kernel_rfl) (by kernel_rfl) (by kernel_rfl) (fun _ _ _ h => h) (by rfl) (fun wk hk => by obtain ⟨m0, m1, ⟨r0, r1, r2, r3⟩, ⟨s0, s1, s2, s3⟩⟩ := HC2.out wk hk; have d1 := seg_str r2; have d2 := seg_str r3; have d3 := seg_str s2; have d4 := seg_str s3; go_simp; try rfl) ?_
              try simp only [Act.put, List.setIfInBounds_toArray, List.set_cons_zero, List.set_cons_succ]
              refine wpHold_take (i := 24) (v := _) (grown_drew _ _) rfl rfl (by kernel_rfl) (by kernel_rfl) (by kernel_rfl) (by kernel_rfl) (by kernel_rfl) (fun _ _ _ h => h) (by rfl) (fun wk hk => by obtain ⟨m0, m1, ⟨r0, r1, r2, r3⟩, ⟨s0, s1, s2, s3⟩⟩ := HC2.out wk hk; have d1 := seg_str r2; have d2 := seg_str r3; have d3 := seg_str s2; have d4 := seg_str s3; go_simp; try rfl) ?_
              try simp only [Act.put, List.setIfInBounds_toArray, List.set_cons_zero, List.set_cons_succ]
              refine wpHold_take (i := 25) (v := _) (grown_drew _ _) rfl rfl (by kernel_rfl) (by kernel_rfl) (by kernel_rfl) (by kernel_rfl) (by kernel_rfl) (fun _ _ _ h => h) (by rfl) (fun wk hk => by obtain ⟨m0, m1, ⟨r0, r1, r2, r3⟩, ⟨s0, s1, s2, s3⟩⟩ := HC2.out wk hk; have d1 := seg_str r2; have d2 := seg_str r3; have d3 := seg_str s2; have d4 := seg_str s3; go_simp; try rfl) ?_
              try simp only [Act.put, List.setIfInBounds_toArray, List.set_cons_zero, List.set_cons_succ]
              refine wpHold_take (i := 26) (v := _) (grown_drew _ _) rfl rfl (by kernel_rfl) (by kernel_rfl) (by kernel_rfl) (by kernel_rfl) (by kernel_rfl) (fun _ _ _ h => h) (by rfl) (fun wk hk => by obtain ⟨m0, m1, ⟨r0, r1, r2, r3⟩, ⟨s0, s1, s2, s3⟩⟩ := HC2.out wk hk; have d1 := seg_str r2; have d2 := seg_str r3; have d3 := seg_str s2; have d4 := seg_str s3; go_simp; try rfl) ?_
              try simp only [Act.put, List.setIfInBounds_toArray, List.set_cons_zero, List.set_cons_succ]
              refine wpHold_take (i := 27) (v := _) (grown_drew _ _) rfl rfl (by kernel_rfl) (by kernel_rfl) (by kernel_rfl) (by kernel_rfl) (by kernel_rfl) (fun _ _ _ h => h) (by rfl) (fun wk hk => by obtain ⟨m0, m1, ⟨r0, r1, r2, r3⟩, ⟨s0, s1, s2, s3⟩⟩ := HC2.out wk hk; have d1 := seg_str r2; have d2 := seg_str r3; have d3 := seg_str s2; have d4 := seg_str s3; go_simp; try rfl) ?_
              try simp only [Act.put, List.setIfInBounds_toArray, List.set_cons_zero, List.set_cons_succ]
              refine wpHold_take (i := 28) (v := _) (grown_drew _ _) rfl rfl (by kernel_rfl) (by kernel_rfl) (by kernel_rfl) (by kernel_rfl) (by kernel_rfl) (fun _ _ _ h => h) (by rfl) (fun wk hk => by obtain ⟨m0, m1, ⟨r0, r1, r2, r3⟩, ⟨s0, s1, s2, s3⟩⟩ := HC2.out wk hk; have d1 := seg_str r2; have d2 := seg_str r3; have d3 := seg_str s2; have d4 := seg_str s3; go_simp; try rfl) ?_
              try simp only [Act.put, List.setIfInBounds_toArray, List.set_cons_zero, List.set_cons_succ]
              refine wpHold_take (i := 29) (v := _) (grown_drew _ _) rfl rfl (by kernel_rfl) (by kernel_rfl) (by kernel_rfl) (by kernel_rfl) (by kernel_rfl) (fun _ _ _ h => h) (by rfl) (fun wk hk => by obtain ⟨m0, m1, ⟨r0, r1, r2, r3⟩, ⟨s0, s1, s2, s3⟩⟩ := HC2.out wk hk; have d1 := seg_str r2; have d2 := seg_str r3; have d3 := seg_str s2; have d4 := seg_str s3; go_simp; try rfl) ?_
              try simp only [Act.put, List.setIfInBounds_toArray, List.set_cons_zero, List.set_cons_succ]
              refine wpHold_one (i := 30) rfl (by kernel_rfl) (by rfl) (fun K hK => ?_)
              go_wp2_with fail
              refine hK.out _ _ (fun _ => grown_drew _ _) ?_
              clear hK K
              try simp only [Act.put, List.setIfInBounds_toArray, List.set_cons_zero, List.set_cons_succ]
              refine wpHold_take (i := 31) (v := _) (grown_drew _ _) rfl rfl (by kernel_rfl) (by kernel_rfl) (by kernel_rfl) (by kernel_rfl) (by kernel_rfl) (fun _ _ _ h => h) (by rfl) (fun wk hk => by obtain ⟨m0, m1, ⟨r0, r1, r2, r3⟩, ⟨s0, s1, s2, s3⟩⟩ := HC2.out wk hk; have d1 := seg_str r2; have d2 := seg_str r3; have d3 := seg_str s2; have d4 := seg_str s3; go_simp; try rfl) ?_
              try simp only [Act.put, List.setIfInBounds_toArray, List.set_cons_zero, List.set_cons_succ]
              refine wpHold_done (by kernel_rfl) ?_
              refine (‹∀ (a : Act) (w : World), Code.wp Tryz.prog _ _ a w → _› _ _ ?_)
              go_wp2_with fail
              go_ret
              exact ⟨by rw [HNo.out HF.out]; rfl, grown_trans HG.out.1 (grown_trans S6.out.1 (grown_trans hgx.out (grown_drew _ _)))⟩
            subst f2
            refine wp_region_noPanic ?_
            refine wp_region_hold 1000 (fun x => wr.grownBy x none) (by kernel_rfl) ?_
            refine wpHold_take (i := 0) (v := _) (grown_drew _ _) rfl rfl (by kernel_rfl) (by kernel_rfl) (by kernel_rfl) (by kernel_rfl) (by kernel_rfl) (fun _ _ _ h => h) (by rfl) (fun wk hk => by obtain ⟨m0, m1, ⟨r0, r1, r2, r3⟩, ⟨s0, s1, s2, s3⟩⟩ := HC2.out wk hk; have d1 := seg_str r2; have d2 := seg_str r3; have d3 := seg_str s2; have d4 := seg_str s3; go_simp; try rfl) ?_
            try simp only [Act.put, List.setIfInBounds_toArray, List.set_cons_zero, List.set_cons_succ]
            refine wpHold_take (i := 1) (v := _) (grown_drew _ _) rfl rfl (by kernel_rfl) (by kernel_rfl) (by kernel_rfl) (by kernel_rfl) (by kernel_rfl) (fun _ _ _ h => h) (by rfl) (fun wk hk => by obtain ⟨m0, m1, ⟨r0, r1, r2, r3⟩, ⟨s0, s1, s2, s3⟩⟩ := HC2.out wk hk; have d1 := seg_str r2; have d2 := seg_str r3; have d3 := seg_str s2; have d4 := seg_str s3; go_simp; try rfl) ?_
            try simp only [Act.put, List.setIfInBounds_toArray, List.set_cons_zero, List.set_cons_succ]
            refine wpHold_take (i := 2) (v := _) (grown_drew _ _) rfl rfl (by kernel_rfl) (by kernel_rfl) (by kernel_rfl) (by kernel_rfl) (by kernel_rfl) (fun _ _ _ h => h) (by rfl) (fun wk hk => by obtain ⟨m0, m1, ⟨r0, r1, r2, r3⟩, ⟨s0, s1, s2, s3⟩⟩ := HC2.out wk hk; have d1 := seg_str r2; have d2 := seg_str r3; have d3 := seg_str s2; have d4 := seg_str s3; go_simp; try rfl) ?_
            try simp only [Act.put, List.setIfInBounds_toArray, List.set_cons_zero, List.set_cons_succ]
            refine wpHold_take (i := 3) (v := _) (grown_drew _ _) rfl rfl (by kernel_rfl) (by kernel_rfl) (by kernel_rfl) (by kernel_rfl) (by kernel_rfl) (fun _ _ _ h => h) (by rfl) (fun wk hk => by obtain ⟨m0, m1, ⟨r0, r1, r2, r3⟩, ⟨s0, s1, s2, s3⟩⟩ := HC2.out wk hk; have d1 := seg_str r2; have d2 := seg_str r3; have d3 := seg_str s2; have d4 := seg_str s3; go_simp; try rfl) ?_
            try simp only [Act.put, List.setIfInBounds_toArray, List.set_cons_zero, List.set_cons_succ]
            refine wpHold_take (i := 4) (v := _) (grown_drew _ _) rfl rfl (by kernel_rfl) (by kernel_rfl) (by kernel_rfl) (by kernel_rfl) (by kernel_rfl) (fun _ _ _ h => h) (by rfl) (fun wk hk => by obtain ⟨m0, m1, ⟨r0, r1, r2, r3⟩, ⟨s0, s1, s2, s3⟩⟩ := HC2.out wk hk; have d1 := seg_str r2; have d2 := seg_str r3; have d3 := seg_str s2; have d4 := seg_str s3; go_simp; try rfl) ?_
            try simp only [Act.put, List.setIfInBounds_toArray, List.set_cons_zero, List.set_cons_succ]
            refine wpHold_take (i := 5) (v := _) (grown_drew _ _) rfl rfl (by kernel_rfl) (by kernel_rfl) (by kernel_rfl) (by kernel_rfl) (by kernel_rfl) (fun _ _ _ h => h) (by rfl) (fun wk hk => by obtain ⟨m0, m1, ⟨r0, r1, r2, r3⟩, ⟨s0, s1, s2, s3⟩⟩ := HC2.out wk hk; have d1 := seg_str r2; have d2 := seg_str r3; have d3 := seg_str s2; have d4 := seg_str s3; go_simp; try rfl) ?_
            try simp only [Act.put, List.setIfInBounds_toArray, List.set_cons_zero, List.set_cons_succ]
            refine wpHold_take (i := 6) (v := _) (grown_drew _ _) rfl rfl (by kernel_rfl) (by kernel_rfl) (by kernel_rfl) (by kernel_rfl) (by kernel_rfl) (fun _ _ _ h => h) (by rfl) (fun wk hk => by obtain ⟨m0, m1, ⟨r0, r1, r2, r3⟩, ⟨s0, s1, s2, s3⟩⟩ := HC2.out wk hk; have d1 := seg_str r2; have d2 := seg_str r3; have d3 := seg_str s2; have d4 := seg_str s3; go_simp; try rfl) ?_
            try simp only [Act.put, List.setIfInBounds_toArray, List.set_cons_zero, List.set_cons_succ]
            refine wpHold_take (i := 7) (v := _) (grown_drew _ _) rfl rfl (by kernel_rfl) (by kernel_rfl) (by kernel_rfl) (by kernel_rfl) (by kernel_rfl) (fun _ _ _ h => h) (by rfl) (fun wk hk => by obtain ⟨m0, m1, ⟨r0, r1, r2, r3⟩, ⟨s0, s1, s2, s3⟩⟩ := HC2.out wk hk; have d1 := seg_str r2; have d2 := seg_str r3; have d3 := seg_str s2; have d4 := seg_str s3; go_simp; try rfl) ?_
            try simp only [Act.put, List.setIfInBounds_toArray, List.set_cons_zero, List.set_cons_succ]
            refine wpHold_take (i := 8) (v := _) (grown_drew _ _) rfl rfl (by kernel_rfl) (by kernel_rfl) (by kernel_rfl) (by kernel_rfl) (by kernel_rfl) (fun _ _ _ h => h) (by rfl) (fun wk hk => by obtain ⟨m0, m1, ⟨r0, r1, r2, r3⟩, ⟨s0, s1, s2, s3⟩⟩ := HC2.out wk hk; have d1 := seg_str r2; have d2 := seg_str r3; have d3 := seg_str s2; have d4 := seg_str s3; go_simp; try rfl) ?_
            try simp only [Act.put, List.setIfInBounds_toArray, List.set_cons_zero, List.set_cons_succ]
            refine wpHold_take (i := 9) (v := _) (grown_drew _ _) rfl rfl (by kernel_rfl) (by kernel_rfl) (by kernel_rfl) (by kernel_rfl) (by kernel_rfl) (fun _ _ _ h => h) (by rfl) (fun wk hk => by obtain ⟨m0, m1, ⟨r0, r1, r2, r3⟩, ⟨s0, s1, s2, s3⟩⟩ := HC2.out wk hk; have d1 := seg_str r2; have d2 := seg_str r3; have d3 := seg_str s2; have d4 := seg_str s3; go_simp; try rfl) ?_
            try simp only [Act.put, List.setIfInBounds_toArray, List.set_cons_zero, List.set_cons_succ]
            refine wpHold_take (i := 10) (v := _) (grown_drew _ _) rfl rfl (by kernel_rfl) (by kernel_rfl) (by kernel_rfl) (by kernel_rfl) (by kernel_rfl) (fun _ _ _ h => h) (by rfl) (fun wk hk => by obtain ⟨m0, m1, ⟨r0, r1, r2, r3⟩, ⟨s0, s1, s2, s3⟩⟩ := HC2.out wk hk; have d1 := seg_str r2; have d2 := seg_str r3; have d3 := seg_str s2; have d4 := seg_str s3; go_simp; try rfl) ?_
            try simp only [Act.put, List.setIfInBounds_toArray, List.set_cons_zero, List.set_cons_succ]
            refine wpHold_take (i := 11) (v := _) (grown_drew _ _) rfl rfl (by kernel_rfl) (by kernel_rfl) (by kernel_rfl) (by kernel_rfl) (by kernel_rfl) (fun _ _ _ h => h) (by rfl) (fun wk hk => by obtain ⟨m0, m1, ⟨r0, r1, r2, r3⟩, ⟨s0, s1, s2, s3⟩⟩ := HC2.out wk hk; have d1 := seg_str r2; have d2 := seg_str r3; have d3 := seg_str s2; have d4 := seg_str s3; go_simp; try rfl) ?_
            try simp only [Act.put, List.setIfInBounds_toArray, List.set_cons_zero, List.set_cons_succ]
            refine wpHold_take (i := 12) (v := _) (grown_drew _ _) rfl rfl (by kernel_rfl) (by kernel_rfl) (by kernel_rfl) (by kernel_rfl) (by kernel_rfl) (fun _ _ _ h => h) (by rfl) (fun wk hk => by obtain ⟨m0, m1, ⟨r0, r1, r2, r3⟩, ⟨s0, s1, s2, s3⟩⟩ := HC2.out wk hk; have d1 := seg_str r2; have d2 := seg_str r3; have d3 := seg_str s2; have d4 := seg_str s3; go_simp; try rfl) ?_
            try simp only [Act.put, List.setIfInBounds_toArray, List.set_cons_zero, List.set_cons_succ]
            refine wpHold_take (i := 13) (v := _) (grown_drew _ _) rfl rfl (by kernel_rfl) (by kernel_rfl) (by kernel_rfl) (by kernel_rfl) (by kernel_rfl) (fun _ _ _ h => h) (by rfl) (fun wk hk => by obtain ⟨m0, m1, ⟨r0, r1, r2, r3⟩, ⟨s0, s1, s2, s3⟩⟩ := HC2.out wk hk; have d1 := seg_str r2; have d2 := seg_str r3; have d3 := seg_str s2; have d4 := seg_str s3; go_simp; try rfl) ?_
            try simp only [Act.put, List.setIfInBounds_toArray, List.set_cons_zero, List.set_cons_succ]
            refine wpHold_take (i := 14) (v := _) (grown_drew _ _) rfl rfl (by kernel_rfl) (by kernel_rfl) (by kernel_rfl) (by kernel_rfl) (by kernel_rfl) (fun _ _ _ h => h) (by rfl) (fun wk hk => by obtain ⟨m0, m1, ⟨r0, r1, r2, r3⟩, ⟨s0, s1, s2, s3⟩⟩ := HC2.out wk hk; have d1 := seg_str r2; have d2 := seg_str r3; have d3 := seg_str s2; have d4 := seg_str s3; go_simp; try rfl) ?_
            try simp only [Act.put, List.setIfInBounds_toArray, List.set_cons_zero, List.set_cons_succ]
            refine wpHold_take (i := 15) (v := _) (grown_drew _ _) rfl rfl (by kernel_rfl) (by kernel_rfl) (by kernel_rfl) (by kernel_rfl) (by kernel_rfl) (fun _ _ _ h => h) (by rfl) (fun wk hk => by obtain ⟨m0, m1, ⟨r0, r1, r2, r3⟩, ⟨s0, s1, s2, s3⟩⟩ := HC2.out wk hk; have d1 := seg_str r2; have d2 := seg_str r3; have d3 := seg_str s2; have d4 := seg_str s3; go_simp; try rfl) ?_
            try simp only [Act.put, List.setIfInBounds_toArray, List.set_cons_zero, List.set_cons_succ]
            refine wpHold_take (i := 16) (v := _) (grown_drew _ _) rfl rfl (by kernel_rfl) (by kernel_rfl) (by kernel_rfl) (by kernel_rfl) (by kernel_rfl) (fun _ _ _ h => h) (by rfl) (fun wk hk => by obtain ⟨m0, m1, ⟨r0, r1, r2, r3⟩, ⟨s0, s1, s2, s3⟩⟩ := HC2.out wk hk; have d1 := seg_str r2; have d2 := seg_str r3; have d3 := seg_str s2; have d4 := seg_str s3; go_simp; try rfl) ?_
            try simp only [Act.put, List.setIfInBounds_toArray, List.set_cons_zero, List.set_cons_succ]
            refine wpHold_take (i := 17) (v := _) (grown_drew _ _) rfl rfl (by kernel_rfl) (by kernel_rfl) (by kernel_rfl) (by kernel_rfl) (by kernel_rfl) (fun _ _ _ h => h) (by rfl) (fun wk hk => by obtain ⟨m0, m1, ⟨r0, r1, r2, r3⟩, ⟨s0, s1, s2, s3⟩⟩ := HC2.out wk hk; have d1 := seg_str r2; have d2 := seg_str r3; have d3 := seg_str s2; have d4 := seg_str s3; go_simp; try rfl) ?_
            try simp only [Act.put, List.setIfInBounds_toArray, List.set_cons_zero, List.set_cons_succ]
            refine wpHold_take (i := 18) (v := _) (grown_drew _ _) rfl rfl (by kernel_rfl) (by kernel_rfl) (by kernel_rfl) (by kernel_rfl) (by kernel_rfl) (fun _ _ _ h => h) (by rfl) (fun wk hk => by obtain ⟨m0, m1, ⟨r0, r1, r2, r3⟩, ⟨s0, s1, s2, s3⟩⟩ := HC2.out wk hk; have d1 := seg_str r2; have d2 := seg_str r3; have d3 := seg_str s2; have d4 := seg_str s3; go_simp; try rfl) ?_
            try simp only [Act.put, List.setIfInBounds_toArray, List.set_cons_zero, List.set_cons_succ]
            refine wpHold_take (i := 19) (v := _) (grown_drew _ _) rfl rfl (by kernel_rfl) (by kernel_rfl) (by kernel_rfl) (by kernel_rfl) (by kernel_rfl) (fun _ _ _ h => h) (by rfl) (fun wk hk => by obtain ⟨m0, m1, ⟨r0, r1, r2, r3⟩, ⟨s0, s1, s2, s3⟩⟩ := HC2.out wk hk; have d1 := seg_str r2; have d2 := seg_str r3; have d3 := seg_str s2; have d4 := seg_str s3; go_simp; try rfl) ?_
            try simp only [Act.put, List.setIfInBounds_toArray, List.set_cons_zero, List.set_cons_succ]
            refine wpHold_take (i := 20) (v := _) (grown_drew _ _) rfl rfl (by kernel_rfl) (by kernel_rfl) (by kernel_rfl) (by kernel_rfl) (by kernel_rfl) (fun _ _ _ h => h) (by rfl) (fun wk hk => by obtain ⟨m0, m1, ⟨r0, r1, r2, r3⟩, ⟨s0, s1, s2, s3⟩⟩ := HC2.out wk hk; have d1 := seg_str r2; have d2 := seg_str r3; have d3 := seg_str s2; have d4 := seg_str s3; go_simp; try rfl) ?_
            try simp only [Act.put, List.setIfInBounds_toArray, List.set_cons_zero, List.set_cons_succ]
            refine wpHold_take (i := 21) (v := _) (grown_drew _ _) rfl rfl (by kernel_rfl) (by kernel_rfl) (by kernel_rfl) (by kernel_rfl) (by kernel_rfl) (fun _ _ _ h => h) (by rfl) (fun wk hk => by obtain ⟨m0, m1, ⟨r0, r1, r2, r3⟩, ⟨s0, s1, s2, s3⟩⟩ := HC2.out wk hk; have d1 := seg_str r2; have d2 := seg_str r3; have d3 := seg_str s2; have d4 := seg_str s3; go_simp; try rfl) ?_
            try simp only [Act.put, List.setIfInBounds_toArray, List.set_cons_zero, List.set_cons_succ]
            refine wpHold_take (i := 22) (v := _) (grown_drew _ _) rfl rfl (by kernel_rfl) (by kernel_rfl) (by kernel_rfl) (by kernel_rfl) (by kernel_rfl) (fun _ _ _ h => h) (by rfl) (fun wk hk => by obtain ⟨m0, m1, ⟨r0, r1, r2, r3⟩, ⟨s0, s1, s2, s3⟩⟩ := HC2.out wk hk; have d1 := seg_str r2; have d2 := seg_str r3; have d3 := seg_str s2; have d4 := seg_str s3; go_simp; try rfl) ?_
            try simp only [Act.put, List.setIfInBounds_toArray, List.set_cons_zero, List.set_cons_succ]
            refine wpHold_take (i := 23) (v := _) (grown_drew _ _) rfl rfl (by kernel_rfl) (by kernel_rfl) (by kernel_rfl) (by kernel_rfl) (by kernel_rfl) (fun _ _ _ h => h) (by rfl) (fun wk hk => by obtain ⟨m0, m1, ⟨r0, r1, r2, r3⟩, ⟨s0, s1, s2, s3⟩⟩ := HC2.out wk hk; have d1 := seg_str r2; have d2 := seg_str r3; have d3 := seg_str s2; have d4 := seg_str s3; go_simp; try rfl) ?_
            try simp only [Act.put, List.setIfInBounds_toArray, List.set_cons_zero, List.set_cons_succ]
            refine wpHold_take (i := 24) (v := _) (grown_drew _ _) rfl rfl (by kernel_rfl) (by kernel_rfl) (by kernel_rfl) (by kernel_rfl) (by kernel_rfl) (fun _ _ _ h => h) (by rfl) (fun wk hk => by obtain ⟨m0, m1, ⟨r0, r1, r2, r3⟩, ⟨s0, s1, s2, s3⟩⟩ := HC2.out wk hk; have d1 := seg_str r2; have d2 := seg_str r3; have d3 := seg_str s2; have d4 := seg_str s3; go_simp; try rfl) ?_
            try simp only [Act.put, List.setIfInBounds_toArray, List.set_cons_zero, List.set_cons_succ]
            refine wpHold_take (i := 25) (v := _) (grown_drew _ _) rfl rfl (by kernel_rfl) (by kernel_rfl) (by kernel_rfl) (by kernel_rfl) (by kernel_rfl) (fun _ _ _ h => h) (by rfl) (fun wk hk => by obtain ⟨m0, m1, ⟨r0, r1, r2, r3⟩, ⟨s0, s1, s2, s3⟩⟩ := HC2.out wk hk; have d1 := seg_str r2; have d2 := seg_str r3; have d3 := seg_str s2; have d4 := seg_str s3; go_simp; try rfl) ?_
            try simp only [Act.put, List.setIfInBounds_toArray, List.set_cons_zero, List.set_cons_succ]
            refine wpHold_take (i := 26) (v := _) (grown_drew _ _) rfl rfl (by kernel_rfl) (by kernel_rfl) (by kernel_rfl) (by kernel_rfl) (by kernel_rfl) (fun _ _ _ h => h) (by rfl) (fun wk hk => by obtain ⟨m0, m1, ⟨r0, r1, r2, r3⟩, ⟨s0, s1, s2, s3⟩⟩ := HC2.out wk hk; have d1 := seg_str r2; have d2 := seg_str r3; have d3 := seg_str s2; have d4 := seg_str s3; go_simp; try rfl) ?_
            try simp only [Act.put, List.setIfInBounds_toArray, List.set_cons_zero, List.set_cons_succ]
            refine wpHold_take (i := 27) (v := _) (grown_drew _ _) rfl rfl (by kernel_rfl) (by kernel_rfl) (by kernel_rfl) (by kernel_rfl) (by kernel_rfl) (fun _ _ _ h => h) (by rfl) (fun wk hk => by obtain ⟨m0, m1, ⟨r0, r1, r2, r3⟩, ⟨s0, s1, s2, s3⟩⟩ := HC2.out wk hk; have d1 := seg_str r2; have d2 := seg_str r3; have d3 := seg_str s2; have d4 := seg_str s3; go_simp; try rfl) ?_
            try simp only [Act.put, List.setIfInBounds_toArray, List.set_cons_zero, List.set_cons_succ]
            refine wpHold_take (i := 28) (v := _) (grown_drew _ _) rfl rfl (by kernel_rfl) (by kernel_rfl) (by kernel_rfl) (by kernel_rfl) (by kernel_rfl) (fun _ _ _ h => h) (by rfl) (fun wk hk => by obtain ⟨m0, m1, ⟨r0, r1, r2, r3⟩, ⟨s0, s1, s2, s3⟩⟩ := HC2.out wk hk; have d1 := seg_str r2; have d2 := seg_str r3; have d3 := seg_str s2; have d4 := seg_str s3; go_simp; try rfl) ?_
            try simp only [Act.put, List.setIfInBounds_toArray, List.set_cons_zero, List.set_cons_succ]
            refine wpHold_take (i := 29) (v := _) (grown_drew _ _) rfl rfl (by kernel_rfl) (by kernel_rfl) (by kernel_rfl) (by kernel_rfl) (by kernel_rfl) (fun _ _ _ h => h) (by rfl) (fun wk hk => by obtain ⟨m0, m1, ⟨r0, r1, r2, r3⟩, ⟨s0, s1, s2, s3⟩⟩ := HC2.out wk hk; have d1 := seg_str r2; have d2 := seg_str r3; have d3 := seg_str s2; have d4 := seg_str s3; go_simp; try rfl) ?_
            try simp only [Act.put, List.setIfInBounds_toArray, List.set_cons_zero, List.set_cons_succ]
            refine wpHold_take (i := 30) (v := _) (grown_drew _ _) rfl rfl (by kernel_rfl) (by kernel_rfl) (by kernel_rfl) (by kernel_rfl) (by kernel_rfl) (fun _ _ _ h => h) (by rfl) (fun wk hk => by obtain ⟨m0, m1, ⟨r0, r1, r2, r3⟩, ⟨s0, s1, s2, s3⟩⟩ := HC2.out wk hk; have d1 := seg_str r2; have d2 := seg_str r3; have d3 := seg_str s2; have d4 := seg_str s3; go_simp; try rfl) ?_
            try simp only [Act.put, List.setIfInBounds_toArray, List.set_cons_zero, List.set_cons_succ]
            refine wpHold_take (i := 31) (v := _) (grown_drew _ _) rfl rfl (by kernel_rfl) (by kernel_rfl) (by kernel_rfl) (by kernel_rfl) (by kernel_rfl) (fun _ _ _ h => h) (by rfl) (fun wk hk => by obtain ⟨m0, m1, ⟨r0, r1, r2, r3⟩, ⟨s0, s1, s2, s3⟩⟩ := HC2.out wk hk; have d1 := seg_str r2; have d2 := seg_str r3; have d3 := seg_str s2; have d4 := seg_str s3; go_simp; try rfl) ?_
            try simp only [Act.put, List.setIfInBounds_toArray, List.set_cons_zero, List.set_cons_succ]
            refine wpHold_done (by kernel_rfl) ?_
            refine (‹∀ (a : Act) (w : World), Code.wp Tryz.prog _ _ a w → _› _ _ ?_)
            go_wp2_with fail
            go_roundw
            case rel => exact ⟨j + 1, by omega, by go_num, grown_trans hgx.out (grown_drew _ _), by unfold Hid; rw [← hinv2.out, HE2.out, ← HO2.out.1, ← HO2.out.2]; simp⟩
            case measure => simp [intOf]; omega
          · have e : j = nr := by omega
            subst e
            go_wp2_with fail
            go_roundw
            case rel => exact ⟨k + 1, by omega, by go_num, grown_trans S6.out.1 hgx.out, HYes.out (by
              have : ra = rb := by rw [← hinv2.out, List.drop_eq_nil_of_le (by rw [HL.out.1]; omega), List.drop_eq_nil_of_le (by rw [HL.out.2]; omega)]
              rw [this])⟩
            case measure => simp [intOf]; omega

    · have e : k = n := by omega
      subst e
      go_wp2_with fail
      go_ret
      refine ⟨?_, grown_trans HG.out.1 HI.out.1⟩
      have : LA = LB := by rw [← HI.out.2, List.drop_eq_nil_of_le (by rw [HN.out.1]; omega), List.drop_eq_nil_of_le (by rw [HN.out.2]; omega)]
      simp [this]
end Go.Proofs.YtfocmbnhkldnfaaGreatDoor
