/-
  Results: held against each other by the program.
-/
import Derived.Test.YtfocmbnhkldnfaaGreatDoorA
namespace Go.Proofs.YtfocmbnhkldnfaaGreatDoor
open Go.RowKit Disk
open Names (Str)

structure RowAt (w : World) (b p : Nat) (r : Bs × Bs) (x y : Value) : Prop where
  c0 : w.cell? ⟨b, p, none⟩ = some x
  c1 : w.cell? ⟨b, p + 1, none⟩ = some y
  s0 : Seg w x r.1
  s1 : Seg w y r.2
theorem RowAt.grown {w w' : World} {b p : Nat} {r : Bs × Bs} {x y : Value} (h : RowAt w b p r x y) (hg : w.grownBy w' none) : RowAt w' b p r x y := ⟨hg.cell h.c0 (by simp), hg.cell h.c1 (by simp), h.s0.grown hg, h.s1.grown hg⟩

def Rws (w : World) (v : Value) (l : List (Bs × Bs)) : Prop :=
  ∃ ao cap, v = .slice ao l.length cap ∧ l.length ≤ 1099511627776 * 64 ∧ ∀ j (hj : j < l.length), ∃ b off x y, ao = some ⟨b, off, none⟩ ∧ RowAt w b (off + j * 2) l[j] x y
theorem Rws.grown {w w' : World} {v : Value} {l : List (Bs × Bs)} (h : Rws w v l) (hg : w.grownBy w' none) : Rws w' v l := by
  obtain ⟨ao, cap, hv, hl, h4⟩ := h
  refine ⟨ao, cap, hv, hl, fun j hj => ?_⟩
  obtain ⟨b, off, x, y, e, h1⟩ := h4 j hj
  exact ⟨b, off, x, y, e, h1.grown hg⟩
theorem rws_open {w : World} {v : Value} {l : List (Bs × Bs)} (h : Rws w v l) : ∃ ao n cap, v = .slice ao n cap ∧ l.length = n ∧ n ≤ 1099511627776 * 64 ∧ Hid (Rws w (.slice ao n cap) l) := by
  have h' := h
  obtain ⟨ao, cap, rfl, hl, _⟩ := h
  exact ⟨ao, _, cap, rfl, rfl, hl, h'⟩
theorem rws_at {w : World} {ao : Option Addr} {n cap : Nat} {l : List (Bs × Bs)} (h : Rws w (.slice ao n cap) l) (j : Nat) (hj : j < l.length) : ∃ b off x y, ao = some ⟨b, off, none⟩ ∧ RowAt w b (off + j * 2) l[j] x y := by
  obtain ⟨ao', cap', hv, _, h4⟩ := h
  simp at hv
  obtain ⟨rfl, _, _⟩ := hv
  exact h4 j hj

structure OutAt (w : World) (b p : Nat) (o : POut) (x y : Value) : Prop where
  c0 : w.cell? ⟨b, p, none⟩ = some (.bool o.has)
  c1 : w.cell? ⟨b, p + 1, none⟩ = some x
  c2 : w.cell? ⟨b, p + 2, none⟩ = some y
structure OutSeg (w : World) (x y : Value) (o : POut) : Prop where
  value : Seg w x o.value
  rows : Rws w y o.rows
theorem OutAt.grown {w w' : World} {b p : Nat} {r : POut} {x y : Value} (h : OutAt w b p r x y) (hg : w.grownBy w' none) : OutAt w' b p r x y := ⟨hg.cell h.c0 (by simp), hg.cell h.c1 (by simp), hg.cell h.c2 (by simp)⟩
theorem OutSeg.grown {w w' : World} {r : POut} {x y : Value} (h : OutSeg w x y r) (hg : w.grownBy w' none) : OutSeg w' x y r := ⟨h.value.grown hg, h.rows.grown hg⟩
def outV (x y : Value) (o : POut) : Value := .agg #[.bool o.has, x, y]

def Outs (w : World) (v : Value) (l : List POut) : Prop :=
  ∃ ao cap, v = .slice ao l.length cap ∧ l.length ≤ 1099511627776 * 64 ∧ ∀ j (hj : j < l.length), ∃ b off x y, ao = some ⟨b, off, none⟩ ∧ OutAt w b (off + j * 3) l[j] x y ∧ OutSeg w x y l[j]
theorem Outs.grown {w w' : World} {v : Value} {l : List POut} (h : Outs w v l) (hg : w.grownBy w' none) : Outs w' v l := by
  obtain ⟨ao, cap, hv, hl, h4⟩ := h
  refine ⟨ao, cap, hv, hl, fun j hj => ?_⟩
  obtain ⟨b, off, x, y, e, h1, h2⟩ := h4 j hj
  exact ⟨b, off, x, y, e, h1.grown hg, h2.grown hg⟩
theorem outs_open {w : World} {v : Value} {l : List POut} (h : Outs w v l) : ∃ ao n cap, v = .slice ao n cap ∧ l.length = n ∧ n ≤ 1099511627776 * 64 ∧ Hid (Outs w (.slice ao n cap) l) := by
  have h' := h
  obtain ⟨ao, cap, rfl, hl, _⟩ := h
  exact ⟨ao, _, cap, rfl, rfl, hl, h'⟩
theorem outs_at {w : World} {ao : Option Addr} {n cap : Nat} {l : List POut} (h : Outs w (.slice ao n cap) l) (j : Nat) (hj : j < l.length) : ∃ b off x y, ao = some ⟨b, off, none⟩ ∧ OutAt w b (off + j * 3) l[j] x y ∧ OutSeg w x y l[j] := by
  obtain ⟨ao', cap', hv, _, h4⟩ := h
  simp at hv
  obtain ⟨rfl, _, _⟩ := hv
  exact h4 j hj
theorem OutSeg.shapes {w : World} {x y : Value} {o : POut} (h : OutSeg w x y o) : ∃ a a' b b', x = .slice a o.value.length a' ∧ y = .slice b o.rows.length b' := by
  obtain ⟨a, a', h1⟩ := h.value.shape
  obtain ⟨b, b', h2, _⟩ := h.rows
  exact ⟨a, a', b, b', h1, h2⟩

set_option maxRecDepth 100000 in
set_option maxHeartbeats 4000000 in
theorem same116 (x y x' y' : Value) (a b : Bs × Bs) (w : World) (h1 : Seg w x a.1) (h2 : Seg w y a.2) (i1 : Seg w x' b.1) (i2 : Seg w y' b.2) :
    Calls Tryz.prog 116 #[.agg #[x, y], .agg #[x', y']] w fun e w' => e = .returned (.bool (decide (a = b))) ∧ w.grownBy w' none := by
  go_enter Tryz.func116, Tryz.ntmps116
  go_wp2_with (go_at_call 114; refine (equal114 _ _ _ _ _ (seg_alloc (seg_alloc (by assumption) _) _) (seg_alloc (seg_alloc (by assumption) _) _)).mono ?_; rintro e w1 ⟨rfl, rfl⟩)
  all_goals go_ret
  all_goals refine ⟨?_, grown_trans (World.grownBy_alloc _ _ none) (World.grownBy_alloc _ _ none)⟩
  all_goals (refine congrArg (fun x => Ending.returned (Value.bool x)) ?_; simp [Prod.ext_iff, *])

set_option maxRecDepth 100000 in
set_option maxHeartbeats 4000000 in
theorem equal115 (a b : Value) (A B : List (Bs × Bs)) (w : World) (ha : Rws w a A) (hb : Rws w b B) :
    Calls Tryz.prog 115 #[a, b, .func (.func 116) #[] #[]] w fun e w' => e = .returned (.bool (decide (A = B))) ∧ w.grownBy w' none := by
  obtain ⟨ao, n, ca, rfl, hna, la, HA⟩ := rws_open ha
  obtain ⟨bo, m, cb, rfl, hnb, lb, HB⟩ := rws_open hb
  have HN : Hid (A.length = n ∧ B.length = m) := And.intro hna hnb
  clear ha hb hna hnb
  by_cases hnm : n = m
  · subst hnm
    go_enter Tryz.func115, Tryz.ntmps115
    go_wp2_with fail
    go_loopw [17] (fun i wr => ∃ k : Nat, k ≤ n ∧ i = .int .i64 k ∧ w.grownBy wr none ∧ Hid ((A.drop k = B.drop k) ↔ A = B)) (fun i _ => n - (intOf i).toNat)
    case atStart => exact ⟨0, by omega, rfl, grown_refl _ _, by simp [Hid]⟩
    case round =>
      obtain ⟨k, hk, rfl, hg, hinv⟩ := hrel
      by_cases hlt : k < n
      · have hka : k < A.length := by rw [HN.out.1]; omega
        have hkb : k < B.length := by rw [HN.out.2]; omega
        obtain ⟨b1, o1, x1, y1, rfl, h1⟩ := rws_at (HA.out.grown hg) k hka
        obtain ⟨b2, o2, x2, y2, rfl, h2⟩ := rws_at (HB.out.grown hg) k hkb
        have HE : Hid _ := (drop_eq hka hkb)
        obtain ⟨oa, hoa⟩ : ∃ o, o = A[k] := ⟨_, rfl⟩
        obtain ⟨ob, hob⟩ : ∃ o, o = B[k] := ⟨_, rfl⟩
        rw [← hoa] at h1
        rw [← hob] at h2
        have HO : Hid (oa = A[k] ∧ ob = B[k]) := And.intro hoa hob
        clear hoa hob
        obtain ⟨_, _, rfl⟩ := h1.s0.shape
        obtain ⟨_, _, rfl⟩ := h1.s1.shape
        obtain ⟨_, _, rfl⟩ := h2.s0.shape
        obtain ⟨_, _, rfl⟩ := h2.s1.shape
        have b0 := fun o => (h2.grown (World.grownBy_alloc wr o none)).c0
        have b1' := fun o => (h2.grown (World.grownBy_alloc wr o none)).c1
        obtain ⟨a0, a1, s0, s1⟩ := h1
        obtain ⟨_, _, t0, t1⟩ := h2
        have i1 : (0 : Int) ≤ (k : Int) := by omega
        have i2 : (k : Int) < (n : Int) := by omega
        go_wp2_with (go_at_call 116; refine (same116 _ _ _ _ oa ob _ (s0.grown ?g1) (s1.grown ?g1) (t0.grown ?g1) (t1.grown ?g1)).mono ?_)
        case g1 => exact grown_trans (World.grownBy_alloc _ _ none) (World.grownBy_alloc _ _ none)
        rintro e w1 ⟨rfl, hg1⟩
        have hg2 : w.grownBy w1 none := grown_trans (grown_trans hg (grown_trans (World.grownBy_alloc _ _ none) (World.grownBy_alloc _ _ none))) hg1
        clear hg1
        by_cases hab : oa = ob
        · simp only [hab, decide_true]
          go_wp2_with fail
          go_roundw
          case rel => exact ⟨k + 1, by omega, by go_num, hg2, by rw [← hinv.out, HE.out, ← HO.out.1, ← HO.out.2, hab]; simp [Hid]⟩
          case measure => simp [intOf]; omega
        · simp only [hab, decide_false]
          go_wp2_with fail
          go_ret
          refine ⟨?_, hg2⟩
          have : ¬ A = B := by rw [← hinv.out, HE.out, ← HO.out.1, ← HO.out.2]; exact fun h => hab h.1
          simp [this]
      · have e : k = n := by omega
        subst e
        go_wp2_with fail
        go_ret
        refine ⟨?_, hg⟩
        have : A = B := by rw [← hinv.out, List.drop_eq_nil_of_le (by rw [HN.out.1]; omega), List.drop_eq_nil_of_le (by rw [HN.out.2]; omega)]
        simp [this]
  · have q : ((n : Int) != (m : Int)) = true := by simp; omega
    go_enter Tryz.func115, Tryz.ntmps115
    go_wp2_with fail
    go_ret
    have : ¬ A = B := fun h => hnm (by rw [← HN.out.1, ← HN.out.2, h])
    exact ⟨by simp [this], grown_refl _ _⟩

theorem POut.ext' {a b : POut} : a = b ↔ a.has = b.has ∧ a.value = b.value ∧ a.rows = b.rows := by
  constructor
  · rintro rfl; simp
  · rintro ⟨h1, h2, h3⟩
    cases a; cases b; simp_all
theorem PRes.ext' {a b : PRes} : a = b ↔ a.abort = b.abort ∧ a.place = b.place ∧ a.outs = b.outs := by
  constructor
  · rintro rfl; simp
  · rintro ⟨h1, h2, h3⟩
    cases a; cases b; simp_all

set_option maxRecDepth 100000 in
set_option maxHeartbeats 4000000 in
theorem same70 (x y x' y' : Value) (a b : POut) (w : World) (ha : OutSeg w x y a) (hb : OutSeg w x' y' b) :
    Calls Tryz.prog 70 #[outV x y a, outV x' y' b] w fun e w' => e = .returned (.bool (decide (a = b))) ∧ w.grownBy w' none := by
  unfold outV
  obtain ⟨h1, h2⟩ := ha
  obtain ⟨i1, i2⟩ := hb
  obtain ⟨_, _, _, rfl, _, _, H2⟩ := rws_open h2
  obtain ⟨_, _, _, rfl, _, _, I2⟩ := rws_open i2
  clear h2 i2
  go_enter Tryz.func70, Tryz.ntmps70
  go_wp2_with (first | (go_at_call 114; refine (equal114 _ _ _ _ _ (seg_alloc (seg_alloc (by assumption) _) _) (seg_alloc (seg_alloc (by assumption) _) _)).mono ?_; rintro e w1 ⟨rfl, rfl⟩) | (go_at_call 115; refine (equal115 _ _ _ _ _ (H2.out.grown (grown_trans (World.grownBy_alloc _ _ none) (World.grownBy_alloc _ _ none))) (I2.out.grown (grown_trans (World.grownBy_alloc _ _ none) (World.grownBy_alloc _ _ none)))).mono ?_; rintro e w1 ⟨rfl, hgz⟩))
  all_goals go_ret
  all_goals first | refine ⟨?_, grown_trans (World.grownBy_alloc _ _ none) (World.grownBy_alloc _ _ none)⟩ | refine ⟨?_, grown_trans (grown_trans (World.grownBy_alloc _ _ none) (World.grownBy_alloc _ _ none)) hgz⟩
  all_goals (refine congrArg (fun x => Ending.returned (Value.bool x)) ?_; simp [POut.ext', *])

set_option maxRecDepth 100000 in
set_option maxHeartbeats 4000000 in
theorem equal69 (a b : Value) (A B : List POut) (w : World) (ha : Outs w a A) (hb : Outs w b B) :
    Calls Tryz.prog 69 #[a, b, .func (.func 70) #[] #[]] w fun e w' => e = .returned (.bool (decide (A = B))) ∧ w.grownBy w' none := by
  obtain ⟨ao, n, ca, rfl, hna, la, HA⟩ := outs_open ha
  obtain ⟨bo, m, cb, rfl, hnb, lb, HB⟩ := outs_open hb
  have HN : Hid (A.length = n ∧ B.length = m) := And.intro hna hnb
  clear ha hb hna hnb
  by_cases hnm : n = m
  · subst hnm
    go_enter Tryz.func69, Tryz.ntmps69
    go_wp2_with fail
    go_loopw [17] (fun i wr => ∃ k : Nat, k ≤ n ∧ i = .int .i64 k ∧ w.grownBy wr none ∧ Hid ((A.drop k = B.drop k) ↔ A = B)) (fun i _ => n - (intOf i).toNat)
    case atStart => exact ⟨0, by omega, rfl, grown_refl _ _, by simp [Hid]⟩
    case round =>
      obtain ⟨k, hk, rfl, hg, hinv⟩ := hrel
      by_cases hlt : k < n
      · have hka : k < A.length := by rw [HN.out.1]; omega
        have hkb : k < B.length := by rw [HN.out.2]; omega
        obtain ⟨b1, o1, x1, y1, rfl, h1, s1⟩ := outs_at (HA.out.grown hg) k hka
        obtain ⟨b2, o2, x2, y2, rfl, h2, s2⟩ := outs_at (HB.out.grown hg) k hkb
        have HE : Hid _ := (drop_eq hka hkb)
        obtain ⟨oa, hoa⟩ : ∃ o, o = A[k] := ⟨_, rfl⟩
        obtain ⟨ob, hob⟩ : ∃ o, o = B[k] := ⟨_, rfl⟩
        rw [← hoa] at h1 s1
        rw [← hob] at h2 s2
        have HO : Hid (oa = A[k] ∧ ob = B[k]) := And.intro hoa hob
        clear hoa hob
        obtain ⟨_, _, _, _, rfl, rfl⟩ := s1.shapes
        obtain ⟨_, _, _, _, rfl, rfl⟩ := s2.shapes
        have b0 := fun o => (h2.grown (World.grownBy_alloc wr o none)).c0
        have b1' := fun o => (h2.grown (World.grownBy_alloc wr o none)).c1
        have b2' := fun o => (h2.grown (World.grownBy_alloc wr o none)).c2
        obtain ⟨a0, a1, a2⟩ := h1
        clear h2
        have i1 : (0 : Int) ≤ (k : Int) := by omega
        have i2 : (k : Int) < (n : Int) := by omega
        go_wp2_with (go_at_call 70; refine (same70 _ _ _ _ oa ob _ (OutSeg.grown s1 ?g1) (OutSeg.grown s2 ?g1)).mono ?_)
        case g1 => exact grown_trans (World.grownBy_alloc _ _ none) (World.grownBy_alloc _ _ none)
        rintro e w1 ⟨rfl, hg1⟩
        have hg2 : w.grownBy w1 none := grown_trans (grown_trans hg (grown_trans (World.grownBy_alloc _ _ none) (World.grownBy_alloc _ _ none))) hg1
        clear hg1
        by_cases hab : oa = ob
        · simp only [hab, decide_true]
          go_wp2_with fail
          go_roundw
          case rel => exact ⟨k + 1, by omega, by go_num, hg2, by rw [← hinv.out, HE.out, ← HO.out.1, ← HO.out.2, hab]; simp [Hid]⟩
          case measure => simp [intOf]; omega
        · simp only [hab, decide_false]
          go_wp2_with fail
          go_ret
          refine ⟨?_, hg2⟩
          have : ¬ A = B := by rw [← hinv.out, HE.out, ← HO.out.1, ← HO.out.2]; exact fun h => hab h.1
          simp [this]
      · have e : k = n := by omega
        subst e
        go_wp2_with fail
        go_ret
        refine ⟨?_, hg⟩
        have : A = B := by rw [← hinv.out, List.drop_eq_nil_of_le (by rw [HN.out.1]; omega), List.drop_eq_nil_of_le (by rw [HN.out.2]; omega)]
        simp [this]
  · have q : ((n : Int) != (m : Int)) = true := by simp; omega
    go_enter Tryz.func69, Tryz.ntmps69
    go_wp2_with fail
    go_ret
    have : ¬ A = B := fun h => hnm (by rw [← HN.out.1, ← HN.out.2, h])
    exact ⟨by simp [this], grown_refl _ _⟩

def resV (v : Value) (r : PRes) : Value := .agg #[.int .i64 r.abort, .int .i64 r.place, v]

set_option maxRecDepth 100000 in
set_option maxHeartbeats 4000000 in
theorem alike33 (a b : Value) (A B : PRes) (w : World) (ha : Outs w a A.outs) (hb : Outs w b B.outs) :
    Calls Tryz.prog 33 #[resV a A, resV b B] w fun e w' => e = .returned (.bool (decide (A = B))) ∧ w.grownBy w' none := by
  unfold resV
  obtain ⟨_, _, _, rfl, _, _, HA⟩ := outs_open ha
  obtain ⟨_, _, _, rfl, _, _, HB⟩ := outs_open hb
  clear ha hb
  go_enter Tryz.func33, Tryz.ntmps33
  go_wp2_with (go_at_call 69; refine (equal69 _ _ _ _ _ (HA.out.grown (grown_trans (World.grownBy_alloc _ _ none) (World.grownBy_alloc _ _ none))) (HB.out.grown (grown_trans (World.grownBy_alloc _ _ none) (World.grownBy_alloc _ _ none)))).mono ?_; rintro e w1 ⟨rfl, hgz⟩)
  all_goals go_ret
  all_goals first | refine ⟨?_, grown_trans (World.grownBy_alloc _ _ none) (World.grownBy_alloc _ _ none)⟩ | refine ⟨?_, grown_trans (grown_trans (World.grownBy_alloc _ _ none) (World.grownBy_alloc _ _ none)) hgz⟩
  all_goals (refine congrArg (fun x => Ending.returned (Value.bool x)) ?_; simp [PRes.ext', *])
end Go.Proofs.YtfocmbnhkldnfaaGreatDoor
