/-
  The document's Form, Check, Reads.
-/
import Derived.Test.YtfocmbnhkldnfaaGreatDoorDf
namespace Go.Proofs.YtfocmbnhkldnfaaGreatDoor
open Go.RowKit Disk
open Names (Str)

theorem form45_of (x k v ol t : Value) (a : POp) (w : World) (hx : x = opV k v ol t a) (ha : OpSeg w k v ol t a) (hm : mayOp a = true) : Calls Tryz.prog 45 #[x] w (FormIs (opForm a) w) := by subst hx; exact form45 k v ol t a w ha hm

set_option maxRecDepth 100000 in
set_option maxHeartbeats 4000000 in
theorem form20 (a : Value) (l : List POp) (w : World) (ha : Ops w a l) (hm : mayCall l = true) : Calls Tryz.prog 20 #[.agg #[a]] w (FormIs (callForm l) w) := by
  obtain ⟨ao, n, ca, rfl, hna, la, HA⟩ := ops_open ha
  unfold mayCall at hm
  simp only [Bool.and_eq_true, decide_eq_true_eq] at hm
  have HM : Hid (l.all mayOp = true) := hm.2
  have n16 : n ≤ 16 := by rw [← hna]; exact hm.1.2
  have HN : Hid (l.length = n) := hna
  have wu : IntKind.u64.wrap (n : Int) = (n : Int) := by rw [IntKind.wrap_u64]; omega
  clear ha hna hm
  go_enter Tryz.func20, Tryz.ntmps20
  go_upto_region 1 with fail
  have S0 : Hid (Blk (w.alloc (.cells #[.slice ao n ca] 24)) w.heap.size 24 #[.slice ao n ca] ∧ w.grownBy (w.alloc (.cells #[.slice ao n ca] 24)) none) := ⟨heap_alloc_new w _, World.grownBy_alloc _ _ none⟩
  generalize (w.alloc (.cells #[.slice ao n ca] 24)) = W0 at S0 ⊢
  have c0 := S0.out.1.cell 0
  go_wp2_with (go_at_call 44; refine (dNum _ n rfl (by omega) _).mono ?_)
  rintro e w1 ⟨u1, rfl, o1, g1⟩
  have S1 : Hid (Own w1 W0.heap.size u1 (Wire.numForm n) ∧ W0.grownBy w1 none) := ⟨o1, g1⟩
  clear o1 g1 c0
  go_wp2_with fail
  go_loopw [3, 4] (fun x i wr => ∃ k : Nat, k ≤ n ∧ i = .int .i64 k ∧ Hid (Own wr W0.heap.size x (Wire.numForm n ++ (l.take k).flatMap opForm) ∧ W0.grownBy wr none)) (fun _ i _ => n - (intOf i).toNat)
  case atStart => exact ⟨0, by omega, rfl, by rw [List.take_zero, List.flatMap_nil, List.append_nil]; exact S1.out.1, S1.out.2⟩
  case round =>
    obtain ⟨k, hk, rfl, HR⟩ := hrel
    have c0 := (S0.out.1.grown HR.out.2 (by simp)).cell 0
    by_cases hlt : k < n
    · have i3 : (k : Int) < (n : Int) := by omega
      have i0 : (0 : Int) ≤ (k : Int) := by omega
      have hkl : k < l.length := by rw [HN.out]; omega
      obtain ⟨b1, o1, k1, x1, ol1, t1, rfl, h1, s1⟩ := ops_at (HA.out.grown (grown_trans S0.out.2 HR.out.2)) k hkl
      have HQ : Hid ((l.take (k + 1)).flatMap opForm = (l.take k).flatMap opForm ++ opForm l[k]) := flatMap_take opForm l k hkl
      have HO : Hid (mayOp l[k] = true) := List.all_eq_true.1 HM.out _ (List.getElem_mem hkl)
      have HZ : Hid ((Wire.numForm n ++ (l.take k).flatMap opForm).length ≤ 20000) := by
        have h1 : (l.take k).all mayOp = true := List.all_eq_true.2 fun o ho => List.all_eq_true.1 HM.out o (List.mem_of_mem_take ho)
        have h2 := forms_len h1
        have h3 := num_short n (by omega)
        have h4 : (l.take k).length ≤ 16 := by rw [List.length_take]; omega
        have h5 : 1200 * (l.take k).length ≤ 1200 * 16 := Nat.mul_le_mul_left _ h4
        unfold Hid
        rw [List.length_append]; omega
      obtain ⟨o, ho⟩ : ∃ o, l[k] = o := ⟨_, rfl⟩
      rw [ho] at h1 s1 HQ HO
      clear ho hkl
      obtain ⟨p1, p2, p3, p4, r1, r2, r3, r4, rfl, rfl, rfl, rfl⟩ := s1.shapes
      have HS : Hid (OpSeg wr (.slice p1 o.key.length r1) (.slice p2 o.value.length r2) (.slice p3 o.old.length r3) (.slice p4 o.to.length r4) o) := s1
      clear s1
      obtain ⟨a0, a1, a2, a3, a4, a5, a6, a7⟩ := h1
      unfold Str at a1
      obtain ⟨A, hA⟩ : ∃ A, Wire.numForm n ++ (l.take k).flatMap opForm = A := ⟨_, rfl⟩
      have HAA : Hid (Wire.numForm n ++ (l.take (k + 1)).flatMap opForm = A ++ opForm o) := by unfold Hid; rw [HQ.out, ← List.append_assoc, hA]
      rw [hA] at HR HZ
      clear hA HQ
      go_wp2_with (go_at_call 45; refine (form45_of _ _ _ _ _ o _ rfl HS.out HO.out).mono ?_)
      rintro e w2 ⟨v2, rfl, o2, g2⟩
      have Y : Hid (Seg w2 v2 (opForm o) ∧ wr.grownBy w2 none) := ⟨o2.seg, g2⟩
      clear o2 g2 c0 a0 a1 a2 a3 a4 a5 a6 a7
      go_wp2_with (at_builtin; refine app22 _ rfl _ _ rfl W0.heap.size _ A _ (opForm o) rfl rfl (HR.out.1.grown Y.out.2) Y.out.1 ?c0 ?c1 ?_)
      case c0 => have h1 := HZ.out; have h2 := opForm_len HO.out; omega
      case c1 => have h1 := (grown_trans HR.out.2 Y.out.2).size; omega
      intro x3 w3 oo gg _
      have R3 : Hid (Own w3 W0.heap.size x3 (Wire.numForm n ++ (l.take (k + 1)).flatMap opForm) ∧ W0.grownBy w3 none) := by
        rw [HAA.out]
        exact ⟨oo, grown_new (grown_trans HR.out.2 Y.out.2) gg (fun x hx => (HR.out.1.lt x hx).1)⟩
      clear oo gg Y
      go_wp2_with fail
      go_roundw
      case rel => exact ⟨k + 1, by omega, by go_num, R3⟩
      case measure => simp [intOf]; omega
    · have i3 : ((k : Int) < (n : Int)) = False := eq_false (by omega)
      have R3 : Hid (Own wr W0.heap.size u3 (callForm l) ∧ W0.grownBy wr none) := by
        have h := HR.out
        rw [List.take_of_length_le (by rw [HN.out]; omega), ← HN.out] at h
        exact h
      go_wp2_with fail
      go_ret
      exact ⟨_, rfl, R3.out.1.mono S0.out.2.size, grown_trans S0.out.2 R3.out.2⟩

set_option maxRecDepth 100000 in
set_option maxHeartbeats 4000000 in
theorem check12 (a : Value) (l : List POp) (w : World) (ha : Ops w a l) : Calls Tryz.prog 12 #[.agg #[a]] w fun e w' => e = .returned (.int .i64 (chk l)) ∧ w.grownBy w' none := by
  obtain ⟨ao, n, ca, rfl, hna, la, HA⟩ := ops_open ha
  clear ha hna
  go_enter Tryz.func12, Tryz.ntmps12
  go_upto_region 1 with fail
  have S0 : Hid (Blk (w.alloc (.cells #[.slice ao n ca] 24)) w.heap.size 24 #[.slice ao n ca] ∧ w.grownBy (w.alloc (.cells #[.slice ao n ca] 24)) none) := ⟨heap_alloc_new w _, World.grownBy_alloc _ _ none⟩
  generalize (w.alloc (.cells #[.slice ao n ca] 24)) = W0 at S0 ⊢
  have c0 := S0.out.1.cell 0
  go_wp2_with (go_at_call 37; refine (may37 _ l _ (HA.out.grown S0.out.2)).mono ?_)
  rintro e w1 ⟨rfl, hg⟩
  clear c0
  have S1 : Hid (Blk w1 w.heap.size 24 #[.slice ao n ca] ∧ w.grownBy w1 none) := ⟨S0.out.1.grown hg (by simp), grown_trans S0.out.2 hg⟩
  clear hg S0
  have c0 := S1.out.1.cell 0
  cases hm : mayCall l
  · have HZ : Hid (chk l = 2) := by unfold Hid chk; rw [hm]; rfl
    clear hm
    go_wp2_with fail
    go_ret
    exact ⟨by rw [HZ.out]; rfl, S1.out.2⟩
  · have HM : Hid (mayCall l = true) := hm
    clear hm
    go_wp2_with (go_at_call 20; refine (form20 _ l _ (HA.out.grown S1.out.2) HM.out).mono ?_)
    rintro e w2 ⟨u, rfl, ho, hg⟩
    obtain ⟨f1, q1, e1⟩ := ho.seg.shape
    obtain ⟨m, hm⟩ : ∃ m, (callForm l).length = m := ⟨_, rfl⟩
    rw [hm] at e1
    subst e1
    have HG : Hid (w.grownBy w2 none) := grown_trans S1.out.2 hg
    clear ho hg c0
    by_cases h6 : m ≤ 4096
    · have HZ : Hid (chk l = 0) := by unfold Hid chk; rw [HM.out, if_pos rfl, hm, if_pos h6]
      have i1 : ((4096 : Int) < (m : Int)) = False := eq_false (by omega)
      clear hm
      go_wp2_with fail
      go_ret
      exact ⟨by rw [HZ.out]; rfl, HG.out⟩
    · have HZ : Hid (chk l = 3) := by unfold Hid chk; rw [HM.out, if_pos rfl, hm, if_neg h6]
      have i1 : (4096 : Int) < (m : Int) := by omega
      clear hm
      go_wp2_with fail
      go_ret
      exact ⟨by rw [HZ.out]; rfl, HG.out⟩

theorem any_take (l : List POp) (k : Nat) (hk : k < l.length) : (l.take (k + 1)).any wrt = ((l.take k).any wrt || wrt l[k]) := by
  rw [List.take_succ_eq_append_getElem hk, List.any_append]
  simp only [List.any_cons, List.any_nil, Bool.or_false]
theorem any_true (l : List POp) (k : Nat) (hk : k < l.length) (h : wrt l[k] = true) : l.any wrt = true := List.any_eq_true.2 ⟨l[k], List.getElem_mem hk, h⟩

set_option maxRecDepth 100000 in
set_option maxHeartbeats 4000000 in
theorem reads18 (a : Value) (l : List POp) (w : World) (ha : Ops w a l) : Calls Tryz.prog 18 #[.agg #[a]] w fun e w' => e = .returned (.bool (rds l)) ∧ w.grownBy w' none := by
  obtain ⟨ao, n, ca, rfl, hna, la, HA⟩ := ops_open ha
  have HN : Hid (l.length = n) := hna
  clear ha hna
  go_enter Tryz.func18, Tryz.ntmps18
  go_wp2_with fail
  go_loopw [3] (fun i wr => ∃ k : Nat, k ≤ n ∧ i = .int .i64 k ∧ Hid ((l.take k).any wrt = false) ∧ Hid (Blk wr w.heap.size 24 #[.slice ao n ca] ∧ w.grownBy wr none)) (fun i _ => n - (intOf i).toNat)
  case atStart => exact ⟨0, by omega, rfl, by unfold Hid; simp, heap_alloc_new w _, World.grownBy_alloc _ _ none⟩
  case round =>
    obtain ⟨k, hk, rfl, HT, HR⟩ := hrel
    have c0 := HR.out.1.cell 0
    by_cases hlt : k < n
    · have i3 : (k : Int) < (n : Int) := by omega
      have i0 : (0 : Int) ≤ (k : Int) := by omega
      have hkl : k < l.length := by rw [HN.out]; omega
      obtain ⟨b1, o1, k1, x1, ol1, t1, rfl, h1, s1⟩ := ops_at (HA.out.grown HR.out.2) k hkl
      have HQ : Hid ((l.take (k + 1)).any wrt = ((l.take k).any wrt || wrt l[k])) := any_take l k hkl
      have HF : Hid (wrt l[k] = true → l.any wrt = true) := any_true l k hkl
      obtain ⟨o, ho⟩ : ∃ o, l[k] = o := ⟨_, rfl⟩
      rw [ho] at h1 s1 HQ HF
      clear ho hkl s1
      obtain ⟨a0, a1, a2, a3, a4, a5, a6, a7⟩ := h1
      unfold Str at a1
      by_cases hw : o.kind ≠ 1 ∧ o.kind ≠ 5
      · have HZ : Hid (rds l = false) := by
          have := HF.out (by simp [wrt, hw])
          unfold Hid rds
          rw [this]; simp
        have j1 : (o.kind = 1) = False := eq_false hw.1
        have j2 : (o.kind = 5) = False := eq_false hw.2
        have j3 : (o.kind != 1) = true := by rw [bne_iff_ne]; exact hw.1
        have j4 : (o.kind != 5) = true := by rw [bne_iff_ne]; exact hw.2
        clear hw
        go_wp2_with fail
        go_ret
        exact ⟨by rw [HZ.out]; rfl, HR.out.2⟩
      · have HZ : Hid ((l.take (k + 1)).any wrt = false) := by
          unfold Hid
          rw [HQ.out, HT.out]
          have : wrt o = false := by unfold wrt; exact decide_eq_false hw
          rw [this]; rfl
        have hw2 : o.kind = 1 ∨ o.kind = 5 := by omega
        clear hw
        rcases hw2 with h | h
        · rw [h] at a0
          clear h
          go_wp2_with fail
          go_roundw
          case rel => exact ⟨k + 1, by omega, by go_num, HZ, HR⟩
          case measure => simp [intOf]; omega
        · rw [h] at a0
          clear h
          go_wp2_with fail
          go_roundw
          case rel => exact ⟨k + 1, by omega, by go_num, HZ, HR⟩
          case measure => simp [intOf]; omega
    · have i3 : ((k : Int) < (n : Int)) = False := eq_false (by omega)
      have HZ : Hid (rds l = mayCall l) := by
        have h := HT.out
        rw [List.take_of_length_le (by rw [HN.out]; omega)] at h
        unfold Hid rds
        rw [h]; simp
      go_wp2_with (go_at_call 37; refine (may37 _ l _ (HA.out.grown HR.out.2)).mono ?_)
      rintro e w1 ⟨rfl, hg⟩
      go_wp2_with fail
      go_ret
      exact ⟨by rw [HZ.out]; rfl, grown_trans HR.out.2 hg⟩
end Go.Proofs.YtfocmbnhkldnfaaGreatDoor
