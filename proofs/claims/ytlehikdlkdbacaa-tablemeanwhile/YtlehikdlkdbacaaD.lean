/-
  The document's Same; whether there is too much.
-/
import Derived.Test.YtlehikdlkdbacaaC
namespace Go.Proofs.Ytlehikdlkdbacaa
open Go.RowKit Disk
open Names (cmpL keyB valueB)

theorem str_beq (A B : Bs) : ((⟨A.toArray⟩ : ByteArray).toList == (⟨B.toArray⟩ : ByteArray).toList) = decide (A = B) := by
  by_cases h : A = B
  · subst h; simp
  · have : ((⟨A.toArray⟩ : ByteArray).toList == (⟨B.toArray⟩ : ByteArray).toList) = (A == B) := by simp
    rw [this]
    simp [h]

set_option maxRecDepth 100000 in
set_option maxHeartbeats 4000000 in
theorem same15 (a b : Value) (A B : List PRow) (w : World) (ha : Rws w a A) (hb : Rws w b B) :
    Calls Try.prog 15 #[a, b] w fun e w' => e = .returned (.bool (decide (A = B))) ∧ ∃ m, w' = w.drewN m := by
  obtain ⟨ao, n, ca, rfl, hna, la, la2, HA⟩ := rws_open ha
  obtain ⟨bo, m, cb, rfl, hnb, lb, lb2, HB⟩ := rws_open hb
  have HN : Hid (A.length = n ∧ B.length = m) := ⟨hna, hnb⟩
  obtain ⟨D, hD⟩ : ∃ D, decide (A = B) = D := ⟨_, rfl⟩
  have HD : Hid (decide (A = B) = D) := hD
  rw [hD]
  clear ha hb hna hnb hD
  by_cases hnm : n = m
  · subst hnm
    go_enter Try.func15, Try.ntmps15
    go_wp2_with fail
    go_loopw [5] (fun i wr => ∃ (k q : Nat), k ≤ n ∧ i = .int .i64 (k : Int) ∧ wr = w.drewN q ∧ (∀ j (h1 : j < A.length) (h2 : j < B.length), j < k → A[j] = B[j])) (fun i _ => n - (intOf i).toNat)
    case atStart => exact ⟨0, 0, Nat.zero_le _, rfl, rfl, fun j _ _ h => absurd h (by omega)⟩
    case round =>
      obtain ⟨k, q, hk, rfl, rfl, hall⟩ := hrel
      have HL : Hid (∀ j (h1 : j < A.length) (h2 : j < B.length), j < k → A[j] = B[j]) := hall
      clear hall
      rcases Nat.lt_or_ge k n with hlt | hge
      · have ka : k < A.length := by rw [HN.out.1]; exact hlt
        have kb : k < B.length := by rw [HN.out.2]; exact hlt
        obtain ⟨b1, o1, x1, y1, rfl, c1, d1, s1, t1⟩ := rws_at HA.out k ka
        obtain ⟨b2, o2, x2, y2, rfl, c2, d2, s2, t2⟩ := rws_at HB.out k kb
        obtain ⟨r, hr⟩ : ∃ r, A[k] = r := ⟨_, rfl⟩
        obtain ⟨s, hs⟩ : ∃ s, B[k] = s := ⟨_, rfl⟩
        rw [hr] at s1 t1
        rw [hs] at s2 t2
        have HAB : Hid (A[k] = r ∧ B[k] = s) := ⟨hr, hs⟩
        obtain ⟨X1, hX1⟩ : ∃ X, (⟨r.1.toArray⟩ : ByteArray) = X := ⟨_, rfl⟩
        obtain ⟨X2, hX2⟩ : ∃ X, (⟨s.1.toArray⟩ : ByteArray) = X := ⟨_, rfl⟩
        obtain ⟨Y1, hY1⟩ : ∃ X, (⟨r.2.toArray⟩ : ByteArray) = X := ⟨_, rfl⟩
        obtain ⟨Y2, hY2⟩ : ∃ X, (⟨s.2.toArray⟩ : ByteArray) = X := ⟨_, rfl⟩
        have ek : (X1.toList == X2.toList) = decide (r.1 = s.1) := by rw [← hX1, ← hX2]; exact str_beq _ _
        have ev : (Y1.toList == Y2.toList) = decide (r.2 = s.2) := by rw [← hY1, ← hY2]; exact str_beq _ _
        have HM : Hid (∀ y : World, (∃ m, y = w.drewN m) → (y.cell? ⟨b1, o1 + k * 2, none⟩ = some x1 ∧ y.cell? ⟨b1, o1 + k * 2 + 1, none⟩ = some y1 ∧ y.cell? ⟨b2, o2 + k * 2, none⟩ = some x2 ∧ y.cell? ⟨b2, o2 + k * 2 + 1, none⟩ = some y2) ∧ ((convert 30 9 x1).run Try.prog y = .ok (.string X1) y ∧ (convert 30 9 y1).run Try.prog y = .ok (.string Y1) y ∧ (convert 30 9 x2).run Try.prog y = .ok (.string X2) y ∧ (convert 30 9 y2).run Try.prog y = .ok (.string Y2) y)) := by
          rintro y ⟨m, rfl⟩
          exact ⟨⟨c1, d1, c2, d2⟩, by rw [← hX1]; exact seg_str (Names.seg_drewN s1 m), by rw [← hY1]; exact seg_str (Names.seg_drewN t1 m), by rw [← hX2]; exact seg_str (Names.seg_drewN s2 m), by rw [← hY2]; exact seg_str (Names.seg_drewN t2 m)⟩
        have i0 : (0 : Int) ≤ (k : Int) := by omega
        have i1 : (k : Int) < (n : Int) := by omega
        have HE : Hid ((X1.toList == X2.toList) = decide (r.1 = s.1) ∧ (Y1.toList == Y2.toList) = decide (r.2 = s.2)) := ⟨ek, ev⟩
        clear c1 d1 s1 t1 c2 d2 s2 t2 hX1 hX2 hY1 hY2 hr hs ek ev
        go_upto_region 6 with fail
        go_cut [44] (fun x wc => x = .bool (!(decide (r = s))) ∧ ∃ m, wc = w.drewN m)
        case first =>
          by_cases hke : r.1 = s.1
          · have e1 : (X1.toList == X2.toList) = true := by rw [HE.out.1]; simp [hke]
            obtain ⟨dv, hdv⟩ : ∃ d, (Y1.toList == Y2.toList) = d := ⟨_, rfl⟩
            have HV : Hid (decide (r = s) = dv) := by rw [Hid, ← hdv, HE.out.2]; simp [Prod.ext_iff, hke]
            refine wp_region_noPanic ?_
            refine wp_region_hold 1000 (fun y => ∃ m, y = w.drewN m) (by kernel_rfl) ?_
            have G0 : Hid (∃ m, (w.drewN q).drew = w.drewN m) := ⟨q + 1, rfl⟩
            generalize (w.drewN q).drew = wd at G0 ⊢
            refine wpHold_take (i := 0) (v := _) (G0.out) rfl rfl (by kernel_rfl) (by kernel_rfl) (by kernel_rfl) (by kernel_rfl) (by kernel_rfl) (fun _ _ _ h => h) (by rfl) (fun wk hk => by obtain ⟨⟨z0, z1, z2, z3⟩, z4, z5, z6, z7⟩ := HM.out wk hk; go_simp; try rfl) ?_
            try simp only [Act.put, List.setIfInBounds_toArray, List.set_cons_zero, List.set_cons_succ]
            refine wpHold_take (i := 1) (v := _) (G0.out) rfl rfl (by kernel_rfl) (by kernel_rfl) (by kernel_rfl) (by kernel_rfl) (by kernel_rfl) (fun _ _ _ h => h) (by rfl) (fun wk hk => by obtain ⟨⟨z0, z1, z2, z3⟩, z4, z5, z6, z7⟩ := HM.out wk hk; go_simp; try rfl) ?_
            try simp only [Act.put, List.setIfInBounds_toArray, List.set_cons_zero, List.set_cons_succ]
            refine wpHold_take (i := 2) (v := _) (G0.out) rfl rfl (by kernel_rfl) (by kernel_rfl) (by kernel_rfl) (by kernel_rfl) (by kernel_rfl) (fun _ _ _ h => h) (by rfl) (fun wk hk => by obtain ⟨⟨z0, z1, z2, z3⟩, z4, z5, z6, z7⟩ := HM.out wk hk; go_simp; try rfl) ?_
            try simp only [Act.put, List.setIfInBounds_toArray, List.set_cons_zero, List.set_cons_succ]
            refine wpHold_take (i := 3) (v := _) (G0.out) rfl rfl (by kernel_rfl) (by kernel_rfl) (by kernel_rfl) (by kernel_rfl) (by kernel_rfl) (fun _ _ _ h => h) (by rfl) (fun wk hk => by obtain ⟨⟨z0, z1, z2, z3⟩, z4, z5, z6, z7⟩ := HM.out wk hk; go_simp; try rfl) ?_
            try simp only [Act.put, List.setIfInBounds_toArray, List.set_cons_zero, List.set_cons_succ]
            refine wpHold_take (i := 4) (v := _) (G0.out) rfl rfl (by kernel_rfl) (by kernel_rfl) (by kernel_rfl) (by kernel_rfl) (by kernel_rfl) (fun _ _ _ h => h) (by rfl) (fun wk hk => by obtain ⟨⟨z0, z1, z2, z3⟩, z4, z5, z6, z7⟩ := HM.out wk hk; go_simp; try rfl) ?_
            try simp only [Act.put, List.setIfInBounds_toArray, List.set_cons_zero, List.set_cons_succ]
            refine wpHold_take (i := 5) (v := _) (G0.out) rfl rfl (by kernel_rfl) (by kernel_rfl) (by kernel_rfl) (by kernel_rfl) (by kernel_rfl) (fun _ _ _ h => h) (by rfl) (fun wk hk => by obtain ⟨⟨z0, z1, z2, z3⟩, z4, z5, z6, z7⟩ := HM.out wk hk; go_simp; try rfl) ?_
            try simp only [Act.put, List.setIfInBounds_toArray, List.set_cons_zero, List.set_cons_succ]
            refine wpHold_take (i := 6) (v := _) (G0.out) rfl rfl (by kernel_rfl) (by kernel_rfl) (by kernel_rfl) (by kernel_rfl) (by kernel_rfl) (fun _ _ _ h => h) (by rfl) (fun wk hk => by obtain ⟨⟨z0, z1, z2, z3⟩, z4, z5, z6, z7⟩ := HM.out wk hk; go_simp; try rfl) ?_
            try simp only [Act.put, List.setIfInBounds_toArray, List.set_cons_zero, List.set_cons_succ]
            refine wpHold_take (i := 7) (v := _) (G0.out) rfl rfl (by kernel_rfl) (by kernel_rfl) (by kernel_rfl) (by kernel_rfl) (by kernel_rfl) (fun _ _ _ h => h) (by rfl) (fun wk hk => by obtain ⟨⟨z0, z1, z2, z3⟩, z4, z5, z6, z7⟩ := HM.out wk hk; go_simp; try rfl) ?_
            try simp only [Act.put, List.setIfInBounds_toArray, List.set_cons_zero, List.set_cons_succ]
            refine wpHold_take (i := 8) (v := _) (G0.out) rfl rfl (by kernel_rfl) (by kernel_rfl) (by kernel_rfl) (by kernel_rfl) (by kernel_rfl) (fun _ _ _ h => h) (by rfl) (fun wk hk => by obtain ⟨⟨z0, z1, z2, z3⟩, z4, z5, z6, z7⟩ := HM.out wk hk; go_simp; try rfl) ?_
            try simp only [Act.put, List.setIfInBounds_toArray, List.set_cons_zero, List.set_cons_succ]
            refine wpHold_take (i := 9) (v := _) (G0.out) rfl rfl (by kernel_rfl) (by kernel_rfl) (by kernel_rfl) (by kernel_rfl) (by kernel_rfl) (fun _ _ _ h => h) (by rfl) (fun wk hk => by obtain ⟨⟨z0, z1, z2, z3⟩, z4, z5, z6, z7⟩ := HM.out wk hk; go_simp; try rfl) ?_
            try simp only [Act.put, List.setIfInBounds_toArray, List.set_cons_zero, List.set_cons_succ]
            refine wpHold_take (i := 10) (v := _) (G0.out) rfl rfl (by kernel_rfl) (by kernel_rfl) (by kernel_rfl) (by kernel_rfl) (by kernel_rfl) (fun _ _ _ h => h) (by rfl) (fun wk hk => by obtain ⟨⟨z0, z1, z2, z3⟩, z4, z5, z6, z7⟩ := HM.out wk hk; go_simp; try rfl) ?_
            try simp only [Act.put, List.setIfInBounds_toArray, List.set_cons_zero, List.set_cons_succ]
            refine wpHold_take (i := 11) (v := _) (G0.out) rfl rfl (by kernel_rfl) (by kernel_rfl) (by kernel_rfl) (by kernel_rfl) (by kernel_rfl) (fun _ _ _ h => h) (by rfl) (fun wk hk => by obtain ⟨⟨z0, z1, z2, z3⟩, z4, z5, z6, z7⟩ := HM.out wk hk; go_simp; try rfl) ?_
            try simp only [Act.put, List.setIfInBounds_toArray, List.set_cons_zero, List.set_cons_succ]
            refine wpHold_one (i := 12) rfl (by kernel_rfl) (by rfl) (fun K hK => ?_)
            go_wp2_with fail
            refine hK.out _ _ (fun _ => G0.out) ?_
            clear hK K
            try simp only [Act.put, List.setIfInBounds_toArray, List.set_cons_zero, List.set_cons_succ]
            refine wpHold_take (i := 13) (v := _) (G0.out) rfl rfl (by kernel_rfl) (by kernel_rfl) (by kernel_rfl) (by kernel_rfl) (by kernel_rfl) (fun _ _ _ h => h) (by rfl) (fun wk hk => by obtain ⟨⟨z0, z1, z2, z3⟩, z4, z5, z6, z7⟩ := HM.out wk hk; go_simp; try rfl) ?_
            try simp only [Act.put, List.setIfInBounds_toArray, List.set_cons_zero, List.set_cons_succ]
            refine wpHold_take (i := 14) (v := _) (G0.out) rfl rfl (by kernel_rfl) (by kernel_rfl) (by kernel_rfl) (by kernel_rfl) (by kernel_rfl) (fun _ _ _ h => h) (by rfl) (fun wk hk => by obtain ⟨⟨z0, z1, z2, z3⟩, z4, z5, z6, z7⟩ := HM.out wk hk; go_simp; try rfl) ?_
            try simp only [Act.put, List.setIfInBounds_toArray, List.set_cons_zero, List.set_cons_succ]
            refine wpHold_take (i := 15) (v := _) (G0.out) rfl rfl (by kernel_rfl) (by kernel_rfl) (by kernel_rfl) (by kernel_rfl) (by kernel_rfl) (fun _ _ _ h => h) (by rfl) (fun wk hk => by obtain ⟨⟨z0, z1, z2, z3⟩, z4, z5, z6, z7⟩ := HM.out wk hk; go_simp; try rfl) ?_
            try simp only [Act.put, List.setIfInBounds_toArray, List.set_cons_zero, List.set_cons_succ]
            refine wpHold_take (i := 16) (v := _) (G0.out) rfl rfl (by kernel_rfl) (by kernel_rfl) (by kernel_rfl) (by kernel_rfl) (by kernel_rfl) (fun _ _ _ h => h) (by rfl) (fun wk hk => by obtain ⟨⟨z0, z1, z2, z3⟩, z4, z5, z6, z7⟩ := HM.out wk hk; go_simp; try rfl) ?_
            try simp only [Act.put, List.setIfInBounds_toArray, List.set_cons_zero, List.set_cons_succ]
            refine wpHold_take (i := 17) (v := _) (G0.out) rfl rfl (by kernel_rfl) (by kernel_rfl) (by kernel_rfl) (by kernel_rfl) (by kernel_rfl) (fun _ _ _ h => h) (by rfl) (fun wk hk => by obtain ⟨⟨z0, z1, z2, z3⟩, z4, z5, z6, z7⟩ := HM.out wk hk; go_simp; try rfl) ?_
            try simp only [Act.put, List.setIfInBounds_toArray, List.set_cons_zero, List.set_cons_succ]
            refine wpHold_take (i := 18) (v := _) (G0.out) rfl rfl (by kernel_rfl) (by kernel_rfl) (by kernel_rfl) (by kernel_rfl) (by kernel_rfl) (fun _ _ _ h => h) (by rfl) (fun wk hk => by obtain ⟨⟨z0, z1, z2, z3⟩, z4, z5, z6, z7⟩ := HM.out wk hk; go_simp; try rfl) ?_
            try simp only [Act.put, List.setIfInBounds_toArray, List.set_cons_zero, List.set_cons_succ]
            refine wpHold_take (i := 19) (v := _) (G0.out) rfl rfl (by kernel_rfl) (by kernel_rfl) (by kernel_rfl) (by kernel_rfl) (by kernel_rfl) (fun _ _ _ h => h) (by rfl) (fun wk hk => by obtain ⟨⟨z0, z1, z2, z3⟩, z4, z5, z6, z7⟩ := HM.out wk hk; go_simp; try rfl) ?_
            try simp only [Act.put, List.setIfInBounds_toArray, List.set_cons_zero, List.set_cons_succ]
            refine wpHold_take (i := 20) (v := _) (G0.out) rfl rfl (by kernel_rfl) (by kernel_rfl) (by kernel_rfl) (by kernel_rfl) (by kernel_rfl) (fun _ _ _ h => h) (by rfl) (fun wk hk => by obtain ⟨⟨z0, z1, z2, z3⟩, z4, z5, z6, z7⟩ := HM.out wk hk; go_simp; try rfl) ?_
            try simp only [Act.put, List.setIfInBounds_toArray, List.set_cons_zero, List.set_cons_succ]
            refine wpHold_take (i := 21) (v := _) (G0.out) rfl rfl (by kernel_rfl) (by kernel_rfl) (by kernel_rfl) (by kernel_rfl) (by kernel_rfl) (fun _ _ _ h => h) (by rfl) (fun wk hk => by obtain ⟨⟨z0, z1, z2, z3⟩, z4, z5, z6, z7⟩ := HM.out wk hk; go_simp; try rfl) ?_
            try simp only [Act.put, List.setIfInBounds_toArray, List.set_cons_zero, List.set_cons_succ]
            refine wpHold_take (i := 22) (v := _) (G0.out) rfl rfl (by kernel_rfl) (by kernel_rfl) (by kernel_rfl) (by kernel_rfl) (by kernel_rfl) (fun _ _ _ h => h) (by rfl) (fun wk hk => by obtain ⟨⟨z0, z1, z2, z3⟩, z4, z5, z6, z7⟩ := HM.out wk hk; go_simp; try rfl) ?_
            try simp only [Act.put, List.setIfInBounds_toArray, List.set_cons_zero, List.set_cons_succ]
            refine wpHold_take (i := 23) (v := _) (G0.out) rfl rfl (by kernel_rfl) (by kernel_rfl) (by kernel_rfl) (by kernel_rfl) (by kernel_rfl) (fun _ _ _ h => h) (by rfl) (fun wk hk => by obtain ⟨⟨z0, z1, z2, z3⟩, z4, z5, z6, z7⟩ := HM.out wk hk; go_simp; try rfl) ?_
            try simp only [Act.put, List.setIfInBounds_toArray, List.set_cons_zero, List.set_cons_succ]
            refine wpHold_take (i := 24) (v := _) (G0.out) rfl rfl (by kernel_rfl) (by kernel_rfl) (by kernel_rfl) (by kernel_rfl) (by kernel_rfl) (fun _ _ _ h => h) (by rfl) (fun wk hk => by obtain ⟨⟨z0, z1, z2, z3⟩, z4, z5, z6, z7⟩ := HM.out wk hk; go_simp; try rfl) ?_
            try simp only [Act.put, List.setIfInBounds_toArray, List.set_cons_zero, List.set_cons_succ]
            refine wpHold_take (i := 25) (v := _) (G0.out) rfl rfl (by kernel_rfl) (by kernel_rfl) (by kernel_rfl) (by kernel_rfl) (by kernel_rfl) (fun _ _ _ h => h) (by rfl) (fun wk hk => by obtain ⟨⟨z0, z1, z2, z3⟩, z4, z5, z6, z7⟩ := HM.out wk hk; go_simp; try rfl) ?_
            try simp only [Act.put, List.setIfInBounds_toArray, List.set_cons_zero, List.set_cons_succ]
            refine wpHold_one (i := 26) rfl (by kernel_rfl) (by rfl) (fun K hK => ?_)
            go_wp2_with fail
            refine hK.out _ _ (fun _ => G0.out) ?_
            clear hK K
            try simp only [Act.put, List.setIfInBounds_toArray, List.set_cons_zero, List.set_cons_succ]
            refine wpHold_take (i := 27) (v := _) (G0.out) rfl rfl (by kernel_rfl) (by kernel_rfl) (by kernel_rfl) (by kernel_rfl) (by kernel_rfl) (fun _ _ _ h => h) (by rfl) (fun wk hk => by obtain ⟨⟨z0, z1, z2, z3⟩, z4, z5, z6, z7⟩ := HM.out wk hk; go_simp; try rfl) ?_
            try simp only [Act.put, List.setIfInBounds_toArray, List.set_cons_zero, List.set_cons_succ]
            refine wpHold_done (by kernel_rfl) ?_
            refine (‹∀ (a : Act) (w : World), Met _ a w → _› _ _ ?_)
            go_meet
            case rel => exact ⟨by rw [HV.out], G0.out⟩
          · have e1 : (X1.toList == X2.toList) = false := by rw [HE.out.1]; simp [hke]
            have HV : Hid (decide (r = s) = false) := by rw [Hid]; simp [Prod.ext_iff, hke]
            refine wp_region_noPanic ?_
            refine wp_region_hold 1000 (fun y => ∃ m, y = w.drewN m) (by kernel_rfl) ?_
            have G0 : Hid (∃ m, (w.drewN q).drew = w.drewN m) := ⟨q + 1, rfl⟩
            generalize (w.drewN q).drew = wd at G0 ⊢
            refine wpHold_take (i := 0) (v := _) (G0.out) rfl rfl (by kernel_rfl) (by kernel_rfl) (by kernel_rfl) (by kernel_rfl) (by kernel_rfl) (fun _ _ _ h => h) (by rfl) (fun wk hk => by obtain ⟨⟨z0, z1, z2, z3⟩, z4, z5, z6, z7⟩ := HM.out wk hk; go_simp; try rfl) ?_
            try simp only [Act.put, List.setIfInBounds_toArray, List.set_cons_zero, List.set_cons_succ]
            refine wpHold_take (i := 1) (v := _) (G0.out) rfl rfl (by kernel_rfl) (by kernel_rfl) (by kernel_rfl) (by kernel_rfl) (by kernel_rfl) (fun _ _ _ h => h) (by rfl) (fun wk hk => by obtain ⟨⟨z0, z1, z2, z3⟩, z4, z5, z6, z7⟩ := HM.out wk hk; go_simp; try rfl) ?_
            try simp only [Act.put, List.setIfInBounds_toArray, List.set_cons_zero, List.set_cons_succ]
            refine wpHold_take (i := 2) (v := _) (G0.out) rfl rfl (by kernel_rfl) (by kernel_rfl) (by kernel_rfl) (by kernel_rfl) (by kernel_rfl) (fun _ _ _ h => h) (by rfl) (fun wk hk => by obtain ⟨⟨z0, z1, z2, z3⟩, z4, z5, z6, z7⟩ := HM.out wk hk; go_simp; try rfl) ?_
            try simp only [Act.put, List.setIfInBounds_toArray, List.set_cons_zero, List.set_cons_succ]
            refine wpHold_take (i := 3) (v := _) (G0.out) rfl rfl (by kernel_rfl) (by kernel_rfl) (by kernel_rfl) (by kernel_rfl) (by kernel_rfl) (fun _ _ _ h => h) (by rfl) (fun wk hk => by obtain ⟨⟨z0, z1, z2, z3⟩, z4, z5, z6, z7⟩ := HM.out wk hk; go_simp; try rfl) ?_
            try simp only [Act.put, List.setIfInBounds_toArray, List.set_cons_zero, List.set_cons_succ]
            refine wpHold_take (i := 4) (v := _) (G0.out) rfl rfl (by kernel_rfl) (by kernel_rfl) (by kernel_rfl) (by kernel_rfl) (by kernel_rfl) (fun _ _ _ h => h) (by rfl) (fun wk hk => by obtain ⟨⟨z0, z1, z2, z3⟩, z4, z5, z6, z7⟩ := HM.out wk hk; go_simp; try rfl) ?_
            try simp only [Act.put, List.setIfInBounds_toArray, List.set_cons_zero, List.set_cons_succ]
            refine wpHold_take (i := 5) (v := _) (G0.out) rfl rfl (by kernel_rfl) (by kernel_rfl) (by kernel_rfl) (by kernel_rfl) (by kernel_rfl) (fun _ _ _ h => h) (by rfl) (fun wk hk => by obtain ⟨⟨z0, z1, z2, z3⟩, z4, z5, z6, z7⟩ := HM.out wk hk; go_simp; try rfl) ?_
            try simp only [Act.put, List.setIfInBounds_toArray, List.set_cons_zero, List.set_cons_succ]
            refine wpHold_take (i := 6) (v := _) (G0.out) rfl rfl (by kernel_rfl) (by kernel_rfl) (by kernel_rfl) (by kernel_rfl) (by kernel_rfl) (fun _ _ _ h => h) (by rfl) (fun wk hk => by obtain ⟨⟨z0, z1, z2, z3⟩, z4, z5, z6, z7⟩ := HM.out wk hk; go_simp; try rfl) ?_
            try simp only [Act.put, List.setIfInBounds_toArray, List.set_cons_zero, List.set_cons_succ]
            refine wpHold_take (i := 7) (v := _) (G0.out) rfl rfl (by kernel_rfl) (by kernel_rfl) (by kernel_rfl) (by kernel_rfl) (by kernel_rfl) (fun _ _ _ h => h) (by rfl) (fun wk hk => by obtain ⟨⟨z0, z1, z2, z3⟩, z4, z5, z6, z7⟩ := HM.out wk hk; go_simp; try rfl) ?_
            try simp only [Act.put, List.setIfInBounds_toArray, List.set_cons_zero, List.set_cons_succ]
            refine wpHold_take (i := 8) (v := _) (G0.out) rfl rfl (by kernel_rfl) (by kernel_rfl) (by kernel_rfl) (by kernel_rfl) (by kernel_rfl) (fun _ _ _ h => h) (by rfl) (fun wk hk => by obtain ⟨⟨z0, z1, z2, z3⟩, z4, z5, z6, z7⟩ := HM.out wk hk; go_simp; try rfl) ?_
            try simp only [Act.put, List.setIfInBounds_toArray, List.set_cons_zero, List.set_cons_succ]
            refine wpHold_take (i := 9) (v := _) (G0.out) rfl rfl (by kernel_rfl) (by kernel_rfl) (by kernel_rfl) (by kernel_rfl) (by kernel_rfl) (fun _ _ _ h => h) (by rfl) (fun wk hk => by obtain ⟨⟨z0, z1, z2, z3⟩, z4, z5, z6, z7⟩ := HM.out wk hk; go_simp; try rfl) ?_
            try simp only [Act.put, List.setIfInBounds_toArray, List.set_cons_zero, List.set_cons_succ]
            refine wpHold_take (i := 10) (v := _) (G0.out) rfl rfl (by kernel_rfl) (by kernel_rfl) (by kernel_rfl) (by kernel_rfl) (by kernel_rfl) (fun _ _ _ h => h) (by rfl) (fun wk hk => by obtain ⟨⟨z0, z1, z2, z3⟩, z4, z5, z6, z7⟩ := HM.out wk hk; go_simp; try rfl) ?_
            try simp only [Act.put, List.setIfInBounds_toArray, List.set_cons_zero, List.set_cons_succ]
            refine wpHold_take (i := 11) (v := _) (G0.out) rfl rfl (by kernel_rfl) (by kernel_rfl) (by kernel_rfl) (by kernel_rfl) (by kernel_rfl) (fun _ _ _ h => h) (by rfl) (fun wk hk => by obtain ⟨⟨z0, z1, z2, z3⟩, z4, z5, z6, z7⟩ := HM.out wk hk; go_simp; try rfl) ?_
            try simp only [Act.put, List.setIfInBounds_toArray, List.set_cons_zero, List.set_cons_succ]
            refine wpHold_one (i := 12) rfl (by kernel_rfl) (by rfl) (fun K hK => ?_)
            go_wp2_with fail
            refine hK.out _ _ (fun _ => G0.out) ?_
            clear hK K
            try simp only [Act.put, List.setIfInBounds_toArray, List.set_cons_zero, List.set_cons_succ]
            refine wpHold_take (i := 13) (v := _) (G0.out) rfl rfl (by kernel_rfl) (by kernel_rfl) (by kernel_rfl) (by kernel_rfl) (by kernel_rfl) (fun _ _ _ h => h) (by rfl) (fun wk hk => by obtain ⟨⟨z0, z1, z2, z3⟩, z4, z5, z6, z7⟩ := HM.out wk hk; go_simp; try rfl) ?_
            try simp only [Act.put, List.setIfInBounds_toArray, List.set_cons_zero, List.set_cons_succ]
            refine wpHold_skip (i := 14) (G0.out) rfl rfl (by kernel_rfl) (by kernel_rfl) (by kernel_rfl) (by kernel_rfl) (by kernel_rfl) (fun _ _ _ h => h) (by rfl) ?_
            try simp only [Act.put, List.setIfInBounds_toArray, List.set_cons_zero, List.set_cons_succ]
            refine wpHold_skip (i := 15) (G0.out) rfl rfl (by kernel_rfl) (by kernel_rfl) (by kernel_rfl) (by kernel_rfl) (by kernel_rfl) (fun _ _ _ h => h) (by rfl) ?_
            try simp only [Act.put, List.setIfInBounds_toArray, List.set_cons_zero, List.set_cons_succ]
            refine wpHold_skip (i := 16) (G0.out) rfl rfl (by kernel_rfl) (by kernel_rfl) (by kernel_rfl) (by kernel_rfl) (by kernel_rfl) (fun _ _ _ h => h) (by rfl) ?_
            try simp only [Act.put, List.setIfInBounds_toArray, List.set_cons_zero, List.set_cons_succ]
            refine wpHold_skip (i := 17) (G0.out) rfl rfl (by kernel_rfl) (by kernel_rfl) (by kernel_rfl) (by kernel_rfl) (by kernel_rfl) (fun _ _ _ h => h) (by rfl) ?_
            try simp only [Act.put, List.setIfInBounds_toArray, List.set_cons_zero, List.set_cons_succ]
            refine wpHold_skip (i := 18) (G0.out) rfl rfl (by kernel_rfl) (by kernel_rfl) (by kernel_rfl) (by kernel_rfl) (by kernel_rfl) (fun _ _ _ h => h) (by rfl) ?_
            try simp only [Act.put, List.setIfInBounds_toArray, List.set_cons_zero, List.set_cons_succ]
            refine wpHold_skip (i := 19) (G0.out) rfl rfl (by kernel_rfl) (by kernel_rfl) (by kernel_rfl) (by kernel_rfl) (by kernel_rfl) (fun _ _ _ h => h) (by rfl) ?_
            try simp only [Act.put, List.setIfInBounds_toArray, List.set_cons_zero, List.set_cons_succ]
            refine wpHold_skip (i := 20) (G0.out) rfl rfl (by kernel_rfl) (by kernel_rfl) (by kernel_rfl) (by kernel_rfl) (by kernel_rfl) (fun _ _ _ h => h) (by rfl) ?_
            try simp only [Act.put, List.setIfInBounds_toArray, List.set_cons_zero, List.set_cons_succ]
            refine wpHold_skip (i := 21) (G0.out) rfl rfl (by kernel_rfl) (by kernel_rfl) (by kernel_rfl) (by kernel_rfl) (by kernel_rfl) (fun _ _ _ h => h) (by rfl) ?_
            try simp only [Act.put, List.setIfInBounds_toArray, List.set_cons_zero, List.set_cons_succ]
            refine wpHold_skip (i := 22) (G0.out) rfl rfl (by kernel_rfl) (by kernel_rfl) (by kernel_rfl) (by kernel_rfl) (by kernel_rfl) (fun _ _ _ h => h) (by rfl) ?_
            try simp only [Act.put, List.setIfInBounds_toArray, List.set_cons_zero, List.set_cons_succ]
            refine wpHold_skip (i := 23) (G0.out) rfl rfl (by kernel_rfl) (by kernel_rfl) (by kernel_rfl) (by kernel_rfl) (by kernel_rfl) (fun _ _ _ h => h) (by rfl) ?_
            try simp only [Act.put, List.setIfInBounds_toArray, List.set_cons_zero, List.set_cons_succ]
            refine wpHold_skip (i := 24) (G0.out) rfl rfl (by kernel_rfl) (by kernel_rfl) (by kernel_rfl) (by kernel_rfl) (by kernel_rfl) (fun _ _ _ h => h) (by rfl) ?_
            try simp only [Act.put, List.setIfInBounds_toArray, List.set_cons_zero, List.set_cons_succ]
            refine wpHold_skip (i := 25) (G0.out) rfl rfl (by kernel_rfl) (by kernel_rfl) (by kernel_rfl) (by kernel_rfl) (by kernel_rfl) (fun _ _ _ h => h) (by rfl) ?_
            try simp only [Act.put, List.setIfInBounds_toArray, List.set_cons_zero, List.set_cons_succ]
            refine wpHold_skip (i := 26) (G0.out) rfl rfl (by kernel_rfl) (by kernel_rfl) (by kernel_rfl) (by kernel_rfl) (by kernel_rfl) (fun _ _ _ h => h) (by rfl) ?_
            try simp only [Act.put, List.setIfInBounds_toArray, List.set_cons_zero, List.set_cons_succ]
            refine wpHold_take (i := 27) (v := _) (G0.out) rfl rfl (by kernel_rfl) (by kernel_rfl) (by kernel_rfl) (by kernel_rfl) (by kernel_rfl) (fun _ _ _ h => h) (by rfl) (fun wk hk => by obtain ⟨⟨z0, z1, z2, z3⟩, z4, z5, z6, z7⟩ := HM.out wk hk; go_simp; try rfl) ?_
            try simp only [Act.put, List.setIfInBounds_toArray, List.set_cons_zero, List.set_cons_succ]
            refine wpHold_done (by kernel_rfl) ?_
            refine (‹∀ (a : Act) (w : World), Met _ a w → _› _ _ ?_)
            go_meet
            case rel => exact ⟨by rw [HV.out]; rfl, G0.out⟩
        case rest =>
          obtain ⟨rfl, m, rfl⟩ := hcut
          refine (‹∀ (a : Act) (w : World), Code.wp Try.prog _ _ a w → _› _ _ ?_)
          obtain ⟨dk, hdk⟩ : ∃ d, decide (r = s) = d := ⟨_, rfl⟩
          have HK : Hid (decide (r = s) = dk) := hdk
          rw [hdk]
          clear hdk
          cases dk with
          | true =>
            go_wp2_with fail
            go_roundw
            case rel =>
              refine ⟨k + 1, _, by omega, by go_num, rfl, fun j h1 h2 h3 => ?_⟩
              rcases Nat.lt_or_ge j k with h4 | h4
              · exact HL.out j h1 h2 h4
              · have : j = k := by omega
                subst this
                rw [HAB.out.1, HAB.out.2]
                exact of_decide_eq_true HK.out
            case measure => simp [intOf]; omega
          | false =>
            go_wp2_with fail
            go_ret
            refine ⟨?_, _, rfl⟩
            rw [← HD.out]
            have hne : A ≠ B := fun e => by
              have h1 := HK.out
              have h2 := HAB.out
              subst e
              rw [← h2.1, ← h2.2] at h1
              simp at h1
            simp [hne]
      · have hkn : k = n := by omega
        subst hkn
        go_wp2_with fail
        go_ret
        refine ⟨?_, _, rfl⟩
        have he : A = B := List.ext_getElem (by rw [HN.out.1, HN.out.2]) fun j h1 h2 => HL.out j h1 h2 (by rw [HN.out.1] at h1; exact h1)
        rw [← HD.out]
        simp [he]
  · have hi : ¬ (n : Int) = (m : Int) := by omega
    go_enter Try.func15, Try.ntmps15
    go_wp2_with fail
    go_ret
    have hne : A ≠ B := fun e => by
      have := HN.out
      subst e
      omega
    exact ⟨by rw [← HD.out]; simp [hne], 0, rfl⟩
/-- The same, what it tells named. -/
def SamePost (d : Bool) (w : World) (e : Ending) (w' : World) : Prop := e = .returned (.bool d) ∧ ∃ m, w' = w.drewN m
theorem same15b (a b : Value) (A B : List PRow) (d : Bool) (w : World) (ha : Rws w a A) (hb : Rws w b B) (hd : decide (A = B) = d) : Calls Try.prog 15 #[a, b] w fun e w' => SamePost d w e w' := by
  subst hd
  exact same15 a b A B w ha hb
end Go.Proofs.Ytlehikdlkdbacaa
