/-
  Bytes, Check, Reads of calls.
-/
import Derived.Test.YtfocmbnhkldnfaaGreatDoorF
namespace Go.Proofs.YtfocmbnhkldnfaaGreatDoor
open Go.RowKit Disk
open Names (Str)

/-- The answer of Bytes. -/
def BytesPost (l : List POp) (w : World) (e : Ending) (w' : World) : Prop := ∃ u, e = .returned (.tuple #[u, .int .i64 (chk l)]) ∧ Own w' w.heap.size u (if chk l = 0 then callForm l else []) ∧ w.grownBy w' none

theorem form_max {l : List POp} (h : mayCall l = true) : (callForm l).length ≤ 20000 := by
  unfold mayCall at h
  simp only [Bool.and_eq_true, decide_eq_true_eq] at h
  have h1 := forms_len h.2
  have h2 := Wire.numForm_len10 l.length (by omega)
  unfold callForm
  rw [List.length_append]; omega

set_option maxRecDepth 100000 in
set_option maxHeartbeats 1000000 in
theorem bytes13 (v : Value) (l : List POp) (w : World) (hv : Ops w v l) :
    Calls Tryz.prog 13 #[.agg #[v]] w (BytesPost l w) := by
  have HV : Hid (Ops w v l) := hv
  obtain ⟨ao, cap, e⟩ := hv.shape
  obtain ⟨n, hn⟩ : ∃ n, n = l.length := ⟨_, rfl⟩
  rw [← hn] at e
  subst e
  clear hv hn
  go_enter Tryz.func13, Tryz.ntmps13
  go_wp2_with (go_at_call 38; refine (form38 _ l _ (HV.out.grown (World.grownBy_alloc _ _ none))).mono ?_)
  rintro e w1 (⟨hok, u, rfl, ho, hg⟩ | ⟨hno, rfl, hg⟩)
  · have HO : Hid (mayCall l = true ∧ Own w1 w.heap.size u (callForm l) ∧ w.grownBy w1 none) := ⟨hok, ho.mono (by simp), grown_trans (World.grownBy_alloc _ _ none) hg⟩
    obtain ⟨x, m, y, e, hm⟩ : ∃ x m y, u = .slice x m y ∧ m = (callForm l).length := by obtain ⟨x, y, e⟩ := ho.seg.shape; exact ⟨x, _, y, e, rfl⟩
    subst e
    have HM : Hid (m = (callForm l).length ∧ m ≤ 20000) := ⟨hm, by rw [hm]; exact form_max hok⟩
    have hm2 := HM.out.2
    clear hok ho hg hm
    by_cases h : m ≤ 4096
    · have i1 : ((m : Int) > 4096) = False := eq_false (by omega)
      have i2 : ¬ (4096 : Int) < (m : Int) := by omega
      have HC : Hid (chk l = 0) := by unfold chk; rw [if_pos HO.out.1, if_pos (by rw [← HM.out.1]; exact h)]; rfl
      go_wp2_with fail
      go_ret2
      exact ⟨_, by rw [HC.out]; rfl, by rw [if_pos HC.out]; exact HO.out.2.1, HO.out.2.2⟩
    · have i2 : (4096 : Int) < (m : Int) := by omega
      have HC : Hid (chk l = 3) := by unfold chk; rw [if_pos HO.out.1, if_neg (by rw [← HM.out.1]; exact h)]; rfl
      go_wp2_with fail
      go_ret2
      exact ⟨_, by rw [HC.out]; rfl, by rw [HC.out]; exact Own.nil _ _, HO.out.2.2⟩
  · have HO : Hid (chk l = 2 ∧ w.grownBy w1 none) := ⟨by unfold chk; rw [if_neg (by rw [hno]; simp)], grown_trans (World.grownBy_alloc _ _ none) hg⟩
    clear hno hg
    go_wp2_with fail
    go_ret2
    exact ⟨_, by rw [HO.out.1]; rfl, by rw [HO.out.1]; exact Own.nil _ _, HO.out.2⟩

set_option maxRecDepth 100000 in
set_option maxHeartbeats 1000000 in
theorem check16 (v : Value) (l : List POp) (w : World) (hv : Ops w v l) :
    Calls Tryz.prog 16 #[.agg #[v]] w fun e w' => e = .returned (.int .i64 (chk l)) ∧ w.grownBy w' none := by
  have HV : Hid (Ops w v l) := hv
  obtain ⟨ao, cap, e⟩ := hv.shape
  obtain ⟨n, hn⟩ : ∃ n, n = l.length := ⟨_, rfl⟩
  rw [← hn] at e
  subst e
  clear hv hn
  go_enter Tryz.func16, Tryz.ntmps16
  go_wp2_with (go_at_call 13; refine (bytes13 _ l _ (HV.out.grown (World.grownBy_alloc _ _ none))).mono ?_)
  rintro e w1 ⟨u, rfl, _, hg⟩
  have HG : Hid (w.grownBy w1 none) := grown_trans (World.grownBy_alloc _ _ none) hg
  clear hg
  go_wp2_with fail
  go_ret
  exact ⟨rfl, HG.out⟩

/-- Does the op write? -/
def wrt (o : POp) : Bool := decide (o.kind ≠ 1 ∧ o.kind ≠ 5)
set_option maxRecDepth 100000 in
set_option maxHeartbeats 1000000 in
theorem writes42 (k v ol t : Value) (a : POp) (w : World) (ha : OpSeg w k v ol t a) :
    Calls Tryz.prog 42 #[opV k v ol t a] w fun e w' => e = .returned (.bool (wrt a)) ∧ w.grownBy w' none := by
  obtain ⟨a1, a2, a3, a4, b1, b2, b3, b4, rfl, rfl, rfl, rfl⟩ := ha.shapes
  unfold opV Str
  clear ha
  go_enter Tryz.func42, Tryz.ntmps42
  go_wp2_with fail
  all_goals go_ret
  all_goals refine ⟨?_, World.grownBy_alloc _ _ none⟩
  all_goals (refine congrArg (fun x => Ending.returned (Value.bool x)) ?_; unfold wrt; first | (simp_all; done) | (by_cases h5 : a.kind = 5 <;> simp_all))

set_option maxRecDepth 100000 in
set_option maxHeartbeats 4000000 in
theorem index83 (a : Value) (A : List POp) (w : World) (ha : Ops w a A) :
    Calls Tryz.prog 83 #[a, .func (.func 42) #[] #[]] w fun e w' => ∃ i : Int, e = .returned (.int .i64 i) ∧ (0 ≤ i ↔ A.any wrt = true) ∧ w.grownBy w' none := by
  obtain ⟨ao, n, ca, rfl, hna, la, HA⟩ := ops_open ha
  have HN : Hid (A.length = n) := hna
  clear ha hna
  go_enter Tryz.func83, Tryz.ntmps83
  go_wp2_with fail
  go_loopw [8] (fun i wr => ∃ k : Nat, k ≤ n ∧ i = .int .i64 k ∧ w.grownBy wr none ∧ Hid ((A.take k).any wrt = false)) (fun i _ => n - (intOf i).toNat)
  case atStart => exact ⟨0, by omega, rfl, grown_refl _ _, by simp [Hid]⟩
  case round =>
    obtain ⟨k, hk, rfl, hg, hinv⟩ := hrel
    by_cases hlt : k < n
    · have hka : k < A.length := by rw [HN.out]; omega
      obtain ⟨b1, o1, k1, x1, ol1, t1, rfl, h1, s1⟩ := ops_at (HA.out.grown hg) k hka
      have HE : Hid _ := (take_snoc A k hka)
      have HT : Hid (A[k] ∈ A) := List.getElem_mem hka
      obtain ⟨oa, hoa⟩ : ∃ o, o = A[k] := ⟨_, rfl⟩
      rw [← hoa] at h1 s1 HE HT
      clear hoa
      obtain ⟨_, _, _, _, _, _, _, _, rfl, rfl, rfl, rfl⟩ := s1.shapes
      obtain ⟨a0, a1, a2, a3, a4, a5, a6, a7⟩ := h1
      unfold Str at a1
      have i1 : (0 : Int) ≤ (k : Int) := by omega
      have i2 : (k : Int) < (n : Int) := by omega
      have HS : Hid _ := s1
      clear s1
      go_wp2_with (go_at_call 42; refine (writes42 _ _ _ _ oa _ HS.out).mono ?_)
      rintro e w1 ⟨rfl, hg1⟩
      have HG : Hid (w.grownBy w1 none) := grown_trans hg hg1
      clear hg1 hg
      cases hw : wrt oa with
      | true =>
        have HW : Hid (A.any wrt = true) := List.any_eq_true.2 ⟨oa, HT.out, hw⟩
        clear hw
        go_wp2_with fail
        go_ret
        exact ⟨_, rfl, ⟨fun _ => HW.out, fun _ => by omega⟩, HG.out⟩
      | false =>
        have HW : Hid (wrt oa = false) := hw
        clear hw
        go_wp2_with fail
        go_roundw
        case rel => exact ⟨k + 1, by omega, by go_num, HG.out, by rw [HE.out]; simp [hinv.out, HW.out, Hid]⟩
        case measure => simp [intOf]; omega
    · have e : k = n := by omega
      subst e
      have HW : Hid (A.any wrt = false) := by have := hinv.out; rwa [List.take_of_length_le (by rw [HN.out]; omega)] at this
      go_wp2_with fail
      go_ret
      exact ⟨-1, rfl, ⟨fun h => absurd h (by decide), fun h => by rw [HW.out] at h; cases h⟩, hg⟩

set_option maxRecDepth 100000 in
set_option maxHeartbeats 1000000 in
theorem contains41 (a : Value) (A : List POp) (w : World) (ha : Ops w a A) :
    Calls Tryz.prog 41 #[a, .func (.func 42) #[] #[]] w fun e w' => e = .returned (.bool (A.any wrt)) ∧ w.grownBy w' none := by
  have HA : Hid (Ops w a A) := ha
  clear ha
  go_enter Tryz.func41, Tryz.ntmps41
  go_wp2_with (go_at_call 83; refine (index83 _ A _ HA.out).mono ?_)
  rintro e w1 ⟨i, rfl, hi, hg⟩
  have HI : Hid ((0 ≤ i ↔ A.any wrt = true) ∧ w.grownBy w1 none) := ⟨hi, hg⟩
  clear hi hg
  go_wp2_with fail
  go_ret
  refine ⟨congrArg (fun x => Ending.returned (Value.bool x)) ?_, HI.out.2⟩
  have := HI.out.1
  cases h : A.any wrt <;> simp_all

/-- Does the call only read? -/
def rds (l : List POp) : Bool := mayCall l && !l.any wrt
set_option maxRecDepth 100000 in
set_option maxHeartbeats 1000000 in
theorem reads17 (v : Value) (l : List POp) (w : World) (hv : Ops w v l) :
    Calls Tryz.prog 17 #[.agg #[v]] w fun e w' => e = .returned (.bool (rds l)) ∧ w.grownBy w' none := by
  have HV : Hid (Ops w v l) := hv
  obtain ⟨ao, cap, e⟩ := hv.shape
  obtain ⟨n, hn⟩ : ∃ n, n = l.length := ⟨_, rfl⟩
  rw [← hn] at e
  subst e
  clear hv hn
  go_enter Tryz.func17, Tryz.ntmps17
  go_wp2_with (go_at_call 38; refine (form38 _ l _ (HV.out.grown (World.grownBy_alloc _ _ none))).mono ?_)
  rintro e w1 (⟨hok, u, rfl, ho, hg⟩ | ⟨hno, rfl, hg⟩)
  · have HO : Hid (mayCall l = true ∧ w.grownBy w1 none) := ⟨hok, grown_trans (World.grownBy_alloc _ _ none) hg⟩
    have hc : w1.cell? ⟨w.heap.size, 0, none⟩ = some (.slice ao n cap) := hg.cell (by simp [go_sem]) (by simp)
    clear hok ho hg
    go_wp2_with (go_at_call 41; refine (contains41 _ l _ (HV.out.grown HO.out.2)).mono ?_)
    rintro e w2 ⟨rfl, hg2⟩
    have HG : Hid (w.grownBy w2 none) := grown_trans HO.out.2 hg2
    clear hg2
    go_wp2_with fail
    go_ret
    exact ⟨by unfold rds; rw [HO.out.1]; rfl, HG.out⟩
  · have HO : Hid (mayCall l = false ∧ w.grownBy w1 none) := ⟨hno, grown_trans (World.grownBy_alloc _ _ none) hg⟩
    clear hno hg
    go_wp2_with fail
    go_ret
    exact ⟨by unfold rds; rw [HO.out.1]; rfl, HO.out.2⟩
end Go.Proofs.YtfocmbnhkldnfaaGreatDoor
