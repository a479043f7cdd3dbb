/-
  Lists of ops: held against each other, by the program and by the document.
-/
import Derived.Test.YtfocmbnhkldnfaaGreatDoorW
namespace Go.Proofs.YtfocmbnhkldnfaaGreatDoor
open Go.RowKit Disk
open Names (Str)

/-- The eight cells of an op. -/
structure OpAt (w : World) (b p : Nat) (o : POp) (k v ol t : Value) : Prop where
  c0 : w.cell? ⟨b, p, none⟩ = some (.int .i64 o.kind)
  c1 : w.cell? ⟨b, p + 1, none⟩ = some (Str o.table)
  c2 : w.cell? ⟨b, p + 2, none⟩ = some k
  c3 : w.cell? ⟨b, p + 3, none⟩ = some v
  c4 : w.cell? ⟨b, p + 4, none⟩ = some (.bool o.has)
  c5 : w.cell? ⟨b, p + 5, none⟩ = some ol
  c6 : w.cell? ⟨b, p + 6, none⟩ = some t
  c7 : w.cell? ⟨b, p + 7, none⟩ = some (.int .i64 o.most)

theorem OpAt.grown {w w' : World} {b p : Nat} {o : POp} {k v ol t : Value} (h : OpAt w b p o k v ol t) (hg : w.grownBy w' none) : OpAt w' b p o k v ol t :=
  ⟨hg.cell h.c0 (by simp), hg.cell h.c1 (by simp), hg.cell h.c2 (by simp), hg.cell h.c3 (by simp), hg.cell h.c4 (by simp), hg.cell h.c5 (by simp), hg.cell h.c6 (by simp), hg.cell h.c7 (by simp)⟩

/-- A list of ops reads as l. -/
def Ops (w : World) (v : Value) (l : List POp) : Prop :=
  ∃ ao cap, v = .slice ao l.length cap ∧ l.length ≤ 1099511627776 ∧ ∀ j (hj : j < l.length), ∃ b off k x ol t, ao = some ⟨b, off, none⟩ ∧ OpAt w b (off + j * 8) l[j] k x ol t ∧ OpSeg w k x ol t l[j]

theorem Ops.shape {w : World} {v : Value} {l : List POp} (h : Ops w v l) : ∃ ao cap, v = .slice ao l.length cap := by obtain ⟨ao, cap, h, _⟩ := h; exact ⟨ao, cap, h⟩
theorem Ops.len {w : World} {v : Value} {l : List POp} (h : Ops w v l) : l.length ≤ 1099511627776 := by obtain ⟨ao, cap, _, h, _⟩ := h; exact h
theorem Ops.grown {w w' : World} {v : Value} {l : List POp} (h : Ops w v l) (hg : w.grownBy w' none) : Ops w' v l := by
  obtain ⟨ao, cap, hv, hl, h4⟩ := h
  refine ⟨ao, cap, hv, hl, fun j hj => ?_⟩
  obtain ⟨b, off, k, x, ol, t, e, h1, h2⟩ := h4 j hj
  exact ⟨b, off, k, x, ol, t, e, h1.grown hg, h2.grown hg⟩
theorem ops_open {w : World} {v : Value} {l : List POp} (h : Ops w v l) : ∃ ao n cap, v = .slice ao n cap ∧ l.length = n ∧ n ≤ 1099511627776 ∧ Hid (Ops w (.slice ao n cap) l) := by
  obtain ⟨ao, cap, rfl⟩ := h.shape
  exact ⟨ao, _, cap, rfl, rfl, h.len, h⟩
theorem ops_at {w : World} {ao : Option Addr} {n cap : Nat} {l : List POp} (h : Ops w (.slice ao n cap) l) (j : Nat) (hj : j < l.length) : ∃ b off k x ol t, ao = some ⟨b, off, none⟩ ∧ OpAt w b (off + j * 8) l[j] k x ol t ∧ OpSeg w k x ol t l[j] := by
  obtain ⟨ao', cap', hv, _, h4⟩ := h
  simp at hv
  obtain ⟨rfl, _, _⟩ := hv
  exact h4 j hj

theorem OpSeg.shapes {w : World} {k v ol t : Value} {o : POp} (h : OpSeg w k v ol t o) : ∃ a b c d a' b' c' d', k = .slice a o.key.length a' ∧ v = .slice b o.value.length b' ∧ ol = .slice c o.old.length c' ∧ t = .slice d o.to.length d' := by
  obtain ⟨a, a', h1⟩ := h.key.shape
  obtain ⟨b, b', h2⟩ := h.value.shape
  obtain ⟨c, c', h3⟩ := h.old.shape
  obtain ⟨d, d', h4⟩ := h.to.shape
  exact ⟨a, b, c, d, a', b', c', d', h1, h2, h3, h4⟩

/-- What begins alike is alike if the rest is. -/
theorem drop_eq {α : Type} {A B : List α} {k : Nat} (ha : k < A.length) (hb : k < B.length) : (A.drop k = B.drop k) ↔ (A[k] = B[k] ∧ A.drop (k + 1) = B.drop (k + 1)) := by
  conv => lhs; rw [List.drop_eq_getElem_cons ha, List.drop_eq_getElem_cons hb]
  exact List.cons_eq_cons

set_option maxRecDepth 100000 in
set_option maxHeartbeats 4000000 in
theorem equal71 (a b : Value) (A B : List POp) (w : World) (ha : Ops w a A) (hb : Ops w b B) :
    Calls Tryz.prog 71 #[a, b, .func (.func 72) #[] #[]] w fun e w' => e = .returned (.bool (decide (A = B))) ∧ w.grownBy w' none := by
  obtain ⟨ao, n, ca, rfl, hna, la, HA⟩ := ops_open ha
  obtain ⟨bo, m, cb, rfl, hnb, lb, HB⟩ := ops_open hb
  have HN : Hid (A.length = n ∧ B.length = m) := And.intro hna hnb
  clear ha hb hna hnb
  by_cases hnm : n = m
  · subst hnm
    go_enter Tryz.func71, Tryz.ntmps71
    go_wp2_with fail
    go_loopw [17] (fun i wr => ∃ k : Nat, k ≤ n ∧ i = .int .i64 k ∧ w.grownBy wr none ∧ Hid ((A.drop k = B.drop k) ↔ A = B)) (fun i _ => n - (intOf i).toNat)
    case atStart => exact ⟨0, by omega, rfl, grown_refl _ _, by simp [Hid]⟩
    case round =>
      obtain ⟨k, hk, rfl, hg, hinv⟩ := hrel
      by_cases hlt : k < n
      · have hka : k < A.length := by rw [HN.out.1]; omega
        have hkb : k < B.length := by rw [HN.out.2]; omega
        obtain ⟨b1, o1, k1, x1, ol1, t1, rfl, h1, s1⟩ := ops_at (HA.out.grown hg) k hka
        obtain ⟨b2, o2, k2, x2, ol2, t2, rfl, h2, s2⟩ := ops_at (HB.out.grown hg) k hkb
        have HE : Hid _ := (drop_eq hka hkb)
        obtain ⟨oa, hoa⟩ : ∃ o, o = A[k] := ⟨_, rfl⟩
        obtain ⟨ob, hob⟩ : ∃ o, o = B[k] := ⟨_, rfl⟩
        rw [← hoa] at h1 s1
        rw [← hob] at h2 s2
        have HO : Hid (oa = A[k] ∧ ob = B[k]) := And.intro hoa hob
        clear hoa hob
        obtain ⟨_, _, _, _, _, _, _, _, rfl, rfl, rfl, rfl⟩ := s1.shapes
        obtain ⟨_, _, _, _, _, _, _, _, rfl, rfl, rfl, rfl⟩ := s2.shapes
        obtain ⟨a0, a1, a2, a3, a4, a5, a6, a7⟩ := h1
        have b0 := fun o => (h2.grown (World.grownBy_alloc wr o none)).c0
        have b1' := fun o => (h2.grown (World.grownBy_alloc wr o none)).c1
        have b2' := fun o => (h2.grown (World.grownBy_alloc wr o none)).c2
        have b3 := fun o => (h2.grown (World.grownBy_alloc wr o none)).c3
        have b4 := fun o => (h2.grown (World.grownBy_alloc wr o none)).c4
        have b5 := fun o => (h2.grown (World.grownBy_alloc wr o none)).c5
        have b6 := fun o => (h2.grown (World.grownBy_alloc wr o none)).c6
        have b7 := fun o => (h2.grown (World.grownBy_alloc wr o none)).c7
        clear h2
        unfold Str at a1 b1'
        have i1 : (0 : Int) ≤ (k : Int) := by omega
        have i2 : (k : Int) < (n : Int) := by omega
        go_wp2_with (go_at_call 72; refine (same72 _ _ _ _ _ _ _ _ oa ob _ (OpSeg.grown s1 ?g1) (OpSeg.grown s2 ?g1)).mono ?_)
        case g1 => exact grown_trans (World.grownBy_alloc _ _ none) (World.grownBy_alloc _ _ none)
        rintro e w1 ⟨rfl, hg1⟩
        have hg2 : w.grownBy w1 none := grown_trans (grown_trans hg (grown_trans (World.grownBy_alloc _ _ none) (World.grownBy_alloc _ _ none))) hg1
        clear hg1
        by_cases hab : oa = ob
        · simp only [hab, decide_true]
          go_wp2_with fail
          go_roundw
          case rel => exact ⟨k + 1, by omega, by go_num, hg2, by rw [← hinv.out, HE.out, ← HO.out.1, ← HO.out.2, hab]; simp [Hid]⟩
          case measure => simp [intOf]; omega
        · simp only [hab, decide_false]
          go_wp2_with fail
          go_ret
          refine ⟨?_, hg2⟩
          have : ¬ A = B := by rw [← hinv.out, HE.out, ← HO.out.1, ← HO.out.2]; exact fun h => hab h.1
          simp [this]
      · have e : k = n := by omega
        subst e
        go_wp2_with fail
        go_ret
        refine ⟨?_, hg⟩
        have : A = B := by rw [← hinv.out, List.drop_eq_nil_of_le (by rw [HN.out.1]; omega), List.drop_eq_nil_of_le (by rw [HN.out.2]; omega)]
        simp [this]
  · have q : ((n : Int) != (m : Int)) = true := by simp; omega
    go_enter Tryz.func71, Tryz.ntmps71
    go_wp2_with fail
    go_ret
    have : ¬ A = B := fun h => hnm (by rw [← HN.out.1, ← HN.out.2, h])
    exact ⟨by simp [this], grown_refl _ _⟩

set_option maxHeartbeats 400000 in
theorem same34 (a b : Value) (A B : List POp) (w : World) (ha : Ops w a A) (hb : Ops w b B) :
    Calls Tryz.prog 34 #[.agg #[a], .agg #[b]] w fun e w' => e = .returned (.bool (decide (A = B))) ∧ w.grownBy w' none := by
  obtain ⟨ao, n, ca, rfl, hna, la, HA⟩ := ops_open ha
  obtain ⟨bo, m, cb, rfl, hnb, lb, HB⟩ := ops_open hb
  clear hna hnb
  go_enter Tryz.func34, Tryz.ntmps34
  go_wp2_with (go_at_call 71; refine (equal71 _ _ A B _ (ha.grown ?g1) (hb.grown ?g1)).mono ?_)
  case g1 => exact grown_trans (World.grownBy_alloc _ _ none) (World.grownBy_alloc _ _ none)
  rintro e w1 ⟨rfl, hg1⟩
  go_wp2_with fail
  go_ret
  exact ⟨rfl, grown_trans (grown_trans (World.grownBy_alloc _ _ none) (World.grownBy_alloc _ _ none)) hg1⟩

set_option maxRecDepth 100000 in
set_option maxHeartbeats 4000000 in
theorem sameop43 (k v ol t k' v' ol' t' : Value) (a b : POp) (w : World) (ha : OpSeg w k v ol t a) (hb : OpSeg w k' v' ol' t' b) :
    Calls Tryz.prog 43 #[opV k v ol t a, opV k' v' ol' t' b] w fun e w' => e = .returned (.bool (decide (a = b))) ∧ w.grownBy w' none := by
  unfold opV Str
  obtain ⟨h1, h2, h3, h4, _⟩ := ha
  obtain ⟨i1, i2, i3, i4, _⟩ := hb
  have h1' := fun o1 o2 => seg_str (seg_alloc (seg_alloc h1 o1) o2)
  have h2' := fun o1 o2 => seg_str (seg_alloc (seg_alloc h2 o1) o2)
  have h3' := fun o1 o2 => seg_str (seg_alloc (seg_alloc h3 o1) o2)
  have h4' := fun o1 o2 => seg_str (seg_alloc (seg_alloc h4 o1) o2)
  have i1' := fun o1 o2 => seg_str (seg_alloc (seg_alloc i1 o1) o2)
  have i2' := fun o1 o2 => seg_str (seg_alloc (seg_alloc i2 o1) o2)
  have i3' := fun o1 o2 => seg_str (seg_alloc (seg_alloc i3 o1) o2)
  have i4' := fun o1 o2 => seg_str (seg_alloc (seg_alloc i4 o1) o2)
  go_enter Tryz.func43, Tryz.ntmps43
  go_wp2
  all_goals go_ret
  all_goals refine ⟨?_, grown_trans (World.grownBy_alloc _ _ none) (World.grownBy_alloc _ _ none)⟩
  all_goals (refine congrArg (fun x => Ending.returned (Value.bool x)) ?_; first | (simp [POp.ext', *]; done) | (by_cases hm : a.most = b.most <;> simp [POp.ext', *]))
end Go.Proofs.YtfocmbnhkldnfaaGreatDoor
