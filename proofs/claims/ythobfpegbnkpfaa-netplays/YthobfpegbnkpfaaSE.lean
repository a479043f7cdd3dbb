/-
  slices.IndexFunc, slices.DeleteFunc at what is dropped.
-/
import Derived.Test.YthobfpegbnkpfaaSD
namespace Go.Proofs.Ythobfpegbnkpfaa.S
open Go.RowKit Disk

/-- What stays. -/
def keepB (zs : List Int) (a : Pcl) : Bool := !decide (a.k ∈ zs)
def IdxP (q : List Pcl) (zs : List Int) (r : Int) : Prop := (r = -1 ∧ ∀ a ∈ q, keepB zs a = true) ∨ ∃ j : Nat, r = (j : Int) ∧ j < q.length ∧ (∀ a, q[j]? = some a → keepB zs a = false) ∧ ∀ a ∈ q.take j, keepB zs a = true

set_option maxRecDepth 100000 in
set_option maxHeartbeats 1000000 in
theorem index_func (B g cap n : Nat) (q : List Pcl) (bx : Nat) (u : Value) (zs : List Int) (w : World) (h : Way w B (.slice (some ⟨g, 0, none⟩) n cap) q) (hn : q.length = n) (hl : n ≤ 65536) (hz : Nmb w bx u zs) : Calls Try.prog 51 #[.slice (some ⟨g, 0, none⟩) n cap, .func (.func 45) #[] #[.pointer (some ⟨bx, 0, none⟩)]] w fun e w' => ∃ r, e = .returned (.int .i64 r) ∧ IdxP q zs r ∧ w.grownBy w' none := by
  have HN : Hid (Way w B (.slice (some ⟨g, 0, none⟩) n cap) q ∧ q.length = n ∧ n ≤ 65536 ∧ Nmb w bx u zs) := ⟨h, hn, hl, hz⟩
  clear h hn hz
  go_enter Try.func51, Try.ntmps51
  go_wp2_with fail
  go_loopw [8] (fun p wr => ∃ i : Nat, p = .int .i64 (i : Nat) ∧ i ≤ n ∧ Hid (w.grownBy wr none ∧ ∀ a ∈ q.take i, keepB zs a = true)) (fun p _ => n - (intOf p).toNat)
  case atStart => exact ⟨0, rfl, Nat.zero_le _, grown_refl _ _, by simp⟩
  case round =>
    obtain ⟨i, rfl, hi, HI⟩ := hrel
    by_cases hlt : i < n
    · have j1 : (i : Int) < (n : Int) := by omega
      have j2 : (0 : Int) ≤ (i : Int) := by omega
      have hiq : i < q.length := by have := HN.out; omega
      obtain ⟨a, ha⟩ : ∃ a, q[i] = a := ⟨_, rfl⟩
      have hc := (HN.out.1.grown HI.out.1).row.cell i (by simpa using hiq)
      simp only [List.getElem_map, ha, pv] at hc
      have HA : Hid (q[i]? = some a ∧ a ∈ q) := ⟨by rw [List.getElem?_eq_getElem hiq, ha], by rw [← ha]; exact List.getElem_mem hiq⟩
      clear hiq ha
      go_wp2_with fail
      refine (dropped bx a.p u zs a.k (Value.string a.t) wr (HN.out.2.2.2.grown HI.out.1) ((HN.out.1.par a HA.out.2).grown HI.out.1 (by simp))).mono ?_
      rintro e w2 ⟨rfl, hg⟩
      have HG : Hid (w.grownBy w2 none) := grown_trans HI.out.1 hg
      clear hg hc
      by_cases hk : a.k ∈ zs
      · have d1 : decide (a.k ∈ zs) = true := by simp [hk]
        have HK : Hid (keepB zs a = false) := by unfold keepB Hid; rw [d1]; rfl
        rw [d1]
        clear hk d1
        go_wp2_with fail
        go_ret
        refine ⟨_, rfl, .inr ⟨i, rfl, by have := HN.out; omega, fun c hc => ?_, HI.out.2⟩, HG.out⟩
        rw [HA.out.1] at hc
        simp at hc
        rw [← hc]
        exact HK.out
      · have d1 : decide (a.k ∈ zs) = false := by simp [hk]
        have HK : Hid (∀ c ∈ q.take (i + 1), keepB zs c = true) := by
          intro c hc
          rw [List.take_add_one, HA.out.1] at hc
          simp at hc
          rcases hc with hc | rfl
          · exact HI.out.2 c hc
          · unfold keepB; rw [d1]; rfl
        rw [d1]
        clear hk d1
        go_wp2_with fail
        go_roundw
        case rel => exact ⟨i + 1, by go_num, by omega, HG.out, HK.out⟩
        case measure => simp [intOf]; omega
    · have j1 : ¬ (i : Int) < (n : Int) := by omega
      go_wp2_with fail
      go_ret
      refine ⟨-1, rfl, .inl ⟨rfl, fun a ha => HI.out.2 a ?_⟩, HI.out.1⟩
      rw [List.take_of_length_le (by have := HN.out; omega)]
      exact ha

/-- How far the dropping has come. -/
structure Drp (w wr : World) (B g n cap : Nat) (q : List Pcl) (zs : List Int) (i j : Nat) (Z : List Value) : Prop where
  row : Row 59 wr B (.slice (some ⟨g, 0, none⟩) n cap) Z
  len : Z.length = n
  ij : i < j
  jn : j ≤ n
  hd : Z.take i = ((q.take j).filter (keepB zs)).map pv
  num : ((q.take j).filter (keepB zs)).length = i
  tl : Z.drop j = (q.drop j).map pv
  gr : w.grownBy wr (some g)
theorem take_next {q : List Pcl} {j : Nat} {a : Pcl} (ha : q[j]? = some a) : q.take (j + 1) = q.take j ++ [a] := by rw [List.take_add_one, ha]; rfl
theorem Drp.drop {w wr w2 : World} {B g n cap : Nat} {q : List Pcl} {zs : List Int} {i j : Nat} {Z : List Value} {a : Pcl} (h : Drp w wr B g n cap q zs i j Z) (hg : wr.grownBy w2 none) (ha : q[j]? = some a) (hq : q.length = n) (hk : keepB zs a = false) : Drp w w2 B g n cap q zs i (j + 1) Z := by
  have hj : j < q.length := (List.getElem?_eq_some_iff.1 ha).1
  refine ⟨h.row.grown hg, h.len, by have := h.ij; omega, by omega, ?_, ?_, ?_, grown_trans h.gr (grown_weak hg _)⟩
  · rw [take_next ha, List.filter_append, h.hd]; simp [hk]
  · rw [take_next ha, List.filter_append, List.length_append, h.num]; simp [hk]
  · have := congrArg (List.drop 1) h.tl
    rw [List.drop_drop, ← List.map_drop, List.drop_drop] at this
    exact this
theorem Drp.keep {w wr w2 : World} {B g n cap : Nat} {q : List Pcl} {zs : List Int} {i j : Nat} {Z : List Value} {a : Pcl} (h : Drp w wr B g n cap q zs i j Z) (hg : wr.grownBy w2 none) (ha : q[j]? = some a) (hq : q.length = n) (hk : keepB zs a = true) : Drp w (w2.setCell ⟨g, i, none⟩ (pv a)) B g n cap q zs (i + 1) (j + 1) (Z.set i (pv a)) := by
  have hj : j < q.length := (List.getElem?_eq_some_iff.1 ha).1
  have hij := h.ij
  have hl := h.len
  refine ⟨(h.row.grown hg).put i (by omega) _ rfl, by simpa using hl, by omega, by omega, ?_, ?_, ?_, grown_trans (grown_trans h.gr (grown_weak hg _)) (grown_setCell _ _ _ _)⟩
  · rw [take_next ha, List.filter_append, List.map_append, ← h.hd, List.take_add_one, List.take_set_of_le (Nat.le_refl _)]
    simp [hk, show i < Z.length by omega]
  · rw [take_next ha, List.filter_append, List.length_append, h.num]; simp [hk]
  · have := congrArg (List.drop 1) h.tl
    rw [List.drop_drop, ← List.map_drop, List.drop_drop] at this
    rw [List.drop_set_of_lt (by omega)]
    exact this
theorem Drp.cell {w wr : World} {B g n cap : Nat} {q : List Pcl} {zs : List Int} {i j : Nat} {Z : List Value} {a : Pcl} (h : Drp w wr B g n cap q zs i j Z) (ha : q[j]? = some a) (hq : q.length = n) : wr.cell? ⟨g, j, none⟩ = some (pv a) := by
  have hj : j < q.length := (List.getElem?_eq_some_iff.1 ha).1
  have hl := h.len
  rw [h.row.cell j (by omega)]
  have h1 : (Z.drop j)[0]? = ((q.drop j).map pv)[0]? := by rw [h.tl]
  rw [List.getElem?_drop, List.getElem?_map, List.getElem?_drop, Nat.add_zero, ha, List.getElem?_eq_getElem (by omega)] at h1
  simpa using h1

set_option maxRecDepth 100000 in
set_option maxHeartbeats 2000000 in
theorem delete_func (B g cap n : Nat) (q : List Pcl) (bx : Nat) (u : Value) (zs : List Int) (w : World) (h : Way w B (.slice (some ⟨g, 0, none⟩) n cap) q) (hn : q.length = n) (hl : n ≤ 65536) (hz : Nmb w bx u zs) (hu : ∀ k, u.ownBlock = some k → k < w.heap.size ∧ k ≠ g) : Calls Try.prog 44 #[.slice (some ⟨g, 0, none⟩) n cap, .func (.func 45) #[] #[.pointer (some ⟨bx, 0, none⟩)]] w fun e w' => ∃ m, e = .returned (.slice (some ⟨g, 0, none⟩) m cap) ∧ m = (q.filter (keepB zs)).length ∧ Way w' B (.slice (some ⟨g, 0, none⟩) m cap) (q.filter (keepB zs)) ∧ w.grownBy w' (some g) := by
  have hcap := h.row.cap
  simp at hcap
  have HN : Hid (Way w B (.slice (some ⟨g, 0, none⟩) n cap) q ∧ q.length = n ∧ Nmb w bx u zs ∧ (∀ k, u.ownBlock = some k → k < w.heap.size ∧ k ≠ g) ∧ n ≤ cap ∧ cap ≤ maxLen ∧ n ≤ 65536) := ⟨h, hn, hz, hu, hcap.2.1, hcap.2.2, hl⟩
  have hnc := hcap.2.1
  clear h hn hz hu hcap
  go_enter Try.func44, Try.ntmps44
  go_wp2_with fail
  refine (index_func B g cap n q bx u zs w HN.out.1 HN.out.2.1 HN.out.2.2.2.2.2.2 HN.out.2.2.1).mono ?_
  rintro e w1 ⟨r, rfl, hr, hg1⟩
  have H1 : Hid (w.grownBy w1 none) := hg1
  clear hg1
  rcases hr with ⟨rfl, hall⟩ | ⟨i0, rfl, hi0, hd0, hk0⟩
  · have HF : Hid (q.filter (keepB zs) = q) := List.filter_eq_self.2 hall
    clear hall
    go_wp2_with fail
    go_ret
    refine ⟨n, rfl, ?_, ?_, grown_weak H1.out _⟩
    · rw [HF.out]; exact HN.out.2.1.symm
    · rw [HF.out]; exact HN.out.1.grown H1.out
  · have r1 : ((i0 : Int) == -1) = false := by simp
    have r2 : ((i0 : Int) = -1) = False := eq_false (by omega)
    have w3 : IntKind.i64.wrap ((i0 : Int) + 1) = (i0 : Int) + 1 := by have := HN.out; rw [IntKind.wrap_i64]; omega
    have H0 : Hid (∃ Z, Drp w w1 B g n cap q zs i0 (i0 + 1) Z) := by
      have hq := HN.out.2.1
      obtain ⟨a, ha⟩ : ∃ a, q[i0]? = some a := ⟨_, List.getElem?_eq_getElem hi0⟩
      have hf : (q.take (i0 + 1)).filter (keepB zs) = q.take i0 := by
        rw [take_next ha, List.filter_append, List.filter_eq_self.2 hk0]
        simp [hd0 a ha]
      exact ⟨q.map pv, (HN.out.1.grown H1.out).row, by simpa using hq, by omega, by omega, by rw [hf, List.map_take], by rw [hf]; simp; omega, by rw [List.map_drop], grown_weak H1.out _⟩
    have hin : i0 < n := by have := HN.out; omega
    clear hi0 hd0 hk0
    go_wp2_with fail
    go_loopw [5, 6] (fun p c wr => ∃ i j : Nat, p = .int .i64 (i : Nat) ∧ c = .int .i64 (j : Nat) ∧ j ≤ n ∧ i < n ∧ Hid (∃ Z, Drp w wr B g n cap q zs i j Z)) (fun _ c _ => n - (intOf c).toNat)
    case atStart => exact ⟨i0, i0 + 1, rfl, by go_num, by omega, hin, H0⟩
    case round =>
      obtain ⟨i, j, rfl, rfl, hj, hi, HI⟩ := hrel
      by_cases hlt : j < n
      · have j1 : (j : Int) < (n : Int) := by omega
        have j2 : (0 : Int) ≤ (j : Int) := by omega
        obtain ⟨Z, hZ⟩ := HI.out
        have hjq : j < q.length := by have := HN.out; omega
        obtain ⟨a, ha⟩ : ∃ a, q[j] = a := ⟨_, rfl⟩
        have HA : Hid (q[j]? = some a ∧ a ∈ q) := ⟨by rw [List.getElem?_eq_getElem hjq, ha], by rw [← ha]; exact List.getElem_mem hjq⟩
        have hc := hZ.cell HA.out.1 HN.out.2.1
        simp only [pv] at hc
        have HZ : Hid (Drp w wr B g n cap q zs i j Z) := hZ
        have HB : Hid (Nmb wr bx u zs ∧ Blk wr a.p 61 #[.int .i64 a.k, Value.string a.t]) := by
          obtain ⟨C, hC⟩ := HN.out.1.row.blk g rfl
          have hp := HN.out.1.par a HA.out.2
          refine ⟨HN.out.2.2.1.but hZ.gr hC (by decide) (fun e => (HN.out.2.2.2.1 g e).2 rfl) (fun k hk => (HN.out.2.2.2.1 k hk).1), hp.grown hZ.gr fun e => ?_⟩
          simp at e
          subst e
          exact absurd (blk_type hC hp) (by decide)
        clear hZ hjq ha HI H0
        go_wp2_with fail
        refine (dropped bx a.p u zs a.k (Value.string a.t) wr HB.out.1 HB.out.2).mono ?_
        rintro e w2 ⟨rfl, hg⟩
        have HG : Hid (wr.grownBy w2 none) := hg
        clear hg hc
        by_cases hk : a.k ∈ zs
        · have d1 : decide (a.k ∈ zs) = true := by simp [hk]
          have HK : Hid (Drp w w2 B g n cap q zs i (j + 1) Z) := HZ.out.drop HG.out HA.out.1 HN.out.2.1 (by unfold keepB; rw [d1]; rfl)
          rw [d1]
          clear hk d1
          go_wp2_with fail
          go_roundw
          case rel => exact ⟨i, j + 1, rfl, by go_num, by omega, hi, Z, HK.out⟩
          case measure => simp [intOf]; omega
        · have d1 : decide (a.k ∈ zs) = false := by simp [hk]
          have HK : Hid (Drp w (w2.setCell ⟨g, i, none⟩ (.pointer (some ⟨a.p, 0, none⟩))) B g n cap q zs (i + 1) (j + 1) (Z.set i (pv a))) := HZ.out.keep HG.out HA.out.1 HN.out.2.1 (by unfold keepB; rw [d1]; rfl)
          have k1 : (i : Int) < (n : Int) := by omega
          have k2 : (0 : Int) ≤ (i : Int) := by omega
          have f1 : w2.frozen? ⟨g, i, none⟩ = false := (HZ.out.row.grown HG.out).free i
          have hcx : ∃ y, w2.cell? ⟨g, i, none⟩ = some y := by
            have := (HZ.out.row.grown HG.out).cell i (by have := HZ.out.len; omega)
            exact ⟨_, this⟩
          obtain ⟨y, hy⟩ := hcx
          have HL : Hid (i + 1 < n) := by have := HZ.out.ij; unfold Hid; omega
          rw [d1]
          clear hk d1
          go_wp2_with fail
          go_roundw
          case rel => exact ⟨i + 1, j + 1, by go_num, by go_num, by omega, HL.out, _, HK.out⟩
          case measure => simp [intOf]; omega
      · have j1 : ¬ (j : Int) < (n : Int) := by omega
        have hjn : j = n := by omega
        subst hjn
        obtain ⟨Z, hZ⟩ := HI.out
        have HZ : Hid (Drp w wr B g j cap q zs i j Z) := hZ
        have hf : (q.take j) = q := List.take_of_length_le (by have := HN.out; omega)
        have HE : Hid ((q.filter (keepB zs)).length = i ∧ Row 59 wr B (.slice (some ⟨g, 0, none⟩) i cap) ((q.filter (keepB zs)).map pv)) := by
          have h1 := hZ.num
          have h2 := hZ.row.take i (by have := hZ.len; omega)
          rw [hf] at h1
          rw [hZ.hd, hf] at h2
          exact ⟨h1, h2⟩
        have hcl : ∀ ty, (Builtin.clear_ #[56] ty #[.slice (some ⟨g, i, none⟩) (j - i) (cap - i)]).run Try.prog wr = .ok (.tuple #[]) (wr.setCells g i (List.replicate (j - i) (.pointer none))) := fun ty =>
          Lib.run_clear_slice wr 56 59 ty (.pointer none) utW zvP rfl rfl g i (j - i) _ (by omega) (fun t ht => hZ.row.there (i + t) (by omega)) (fun t ht => hZ.row.free (i + t))
        have HF : Hid (Row 59 (wr.setCells g i (List.replicate (j - i) (.pointer none))) B (.slice (some ⟨g, 0, none⟩) i cap) ((q.filter (keepB zs)).map pv) ∧ w.grownBy (wr.setCells g i (List.replicate (j - i) (.pointer none))) (some g)) := by
          have h1 := HE.out.2
          have h2 : ((q.filter (keepB zs)).map pv).length = i := by simpa using HE.out.1
          rw [← h2] at h1
          have h3 := h1.past (List.replicate (j - i) (.pointer none)) i (by omega)
          rw [h2] at h3
          exact ⟨h3, grown_trans hZ.gr (setCells_grown _ _ _ _)⟩
        have k1 : (i : Int) < (j : Int) := by omega
        have k2 : (i : Int) ≤ (j : Int) := by omega
        have k3 : i ≤ j := by omega
        have k4 : (cap = i) = False := eq_false (by omega)
        have k5 : (i : Int) ≤ (cap : Int) := by omega
        have k6 : i ≤ cap := by omega
        generalize wr.setCells g i (List.replicate (j - i) (.pointer none)) = wz at hcl HF
        clear hZ hf H0 HI
        go_wp2_with fail
        go_ret
        refine ⟨i, rfl, HE.out.1.symm, ⟨HF.out.1, fun a ha => ?_⟩, HF.out.2⟩
        have hb := HN.out.1.par a (List.mem_filter.1 ha).1
        refine hb.grown HF.out.2 fun e => ?_
        simp at e
        obtain ⟨C, hC⟩ := HN.out.1.row.blk g rfl
        rw [e] at hC
        exact absurd (blk_type hb hC) (by decide)
end Go.Proofs.Ythobfpegbnkpfaa.S
