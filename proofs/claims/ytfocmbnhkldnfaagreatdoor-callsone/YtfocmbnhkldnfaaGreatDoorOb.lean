/-
  Arguments opened: results (first form).
-/
import Derived.Test.YtfocmbnhkldnfaaGreatDoorOa
namespace Go.Proofs.YtfocmbnhkldnfaaGreatDoor
open Go.ChangeShapes Go.WideShapes Go.ChangeAt Go.RowKit Go.Joins Go.Deep Disk

section
variable {H : Type} {enc : TypeId × Value → H} {W : World}
/-- All that it holds fits into memory. -/
def Fits (t : TypeId) (d : DataW H) : Prop := ∀ n ∈ d.weights Tryz.prog t, n ≤ 140737488351232
theorem all_memF {e : TypeId} : ∀ {l : List (DataW H)} {d : DataW H}, d ∈ l → ∀ n ∈ d.weights Tryz.prog e, n ∈ DataW.weightsAll Tryz.prog e l
  | x :: r, d, hd, n, hn => by
    simp only [DataW.weightsAll, List.mem_append]
    rcases List.mem_cons.1 hd with rfl | h
    · exact .inl hn
    · exact .inr (all_memF h n hn)
theorem fits_of {ts : List TypeId} {ds : List (DataW H)} (h : (DataW.weightsEach Tryz.prog ts ds).all (· ≤ reachBytes) = true) {j : Nat} {t : TypeId} {d : DataW H} (ht : ts[j]? = some t) (hd : ds[j]? = some d) : Fits t d := fun n hn => by
  have h2 : n ≤ reachBytes := of_decide_eq_true (List.all_eq_true.1 h n (DataW.weights_mem_each ht hd n hn))
  simp only [reachBytes] at h2
  omega
theorem fits_field {t : TypeId} {fs : Array Field} {parts : List (DataW H)} (hu : Tryz.prog.underlying t = some (.struct fs)) (h : Fits t (.agg parts)) {j : Nat} {e : TypeId} {d : DataW H} (ht : (fs.toList.map (·.type))[j]? = some e) (hd : parts[j]? = some d) : Fits e d := fun n hn => by
  refine h n ?_
  simp only [DataW.weights, hu]
  exact DataW.weights_mem_each ht hd n hn
theorem fits_slice {t e : TypeId} {elems spare : List (DataW H)} (hu : Tryz.prog.underlying t = some (.slice e)) (h : Fits t (.slice elems spare)) : (elems.length + spare.length) * Tryz.prog.bytesOf e ≤ 140737488351232 ∧ ∀ d ∈ elems, Fits e d := by
  refine ⟨h _ ?_, fun d hd n hn => h n ?_⟩
  · simp only [DataW.weights, hu]
    exact List.mem_cons_self
  · simp only [DataW.weights, hu]
    exact List.mem_cons_of_mem _ (List.mem_append_left _ (all_memF hd n hn))
theorem bytesF56 : Tryz.prog.bytesOf 56 = 48 := by kernel_rfl
theorem bytesF54 : Tryz.prog.bytesOf 54 = 56 := by kernel_rfl

set_option maxRecDepth 100000 in
set_option maxHeartbeats 1000000 in
/-- A list of rows that came in. -/
theorem open_rowsF {fuel : Nat} {v : Value} {x : DataW H × List MemPlace} (h : DataW.trod enc Tryz.prog W 0 (fun _ => true) true fuel 52 [v] = some x) (hb : Fits 52 x.1) :
    ∃ A : List (Bs × Bs), Rws W v A := by
  rcases open_slice Tryz.underlying52 h with ⟨hcs, hx⟩ | ⟨a, len, cap, m, n, D, Pl, hcs, _, hl, hm, hmm, hx, hel⟩
  · simp at hcs
    subst hcs
    exact ⟨[], none, 0, rfl, by simp, fun j hj => absurd hj (by simp)⟩
  · simp at hcs hmm
    subst hcs
    subst hmm
    rw [hx] at hb
    have hlen : len ≤ 3000000000000 := by
      have := (fits_slice Tryz.underlying52 hb).1
      rw [bytesF56] at this
      simp at this
      omega
    have each : ∀ i, i < len → ∃ q : (Bs × Bs) × Value × Value, W.cell? (a.add (i * 2)) = some q.2.1 ∧ W.cell? (a.add (i * 2 + 1)) = some q.2.2 ∧ Seg W q.2.1 q.1.1 ∧ Seg W q.2.2 q.1.2 := by
      intro i hi
      obtain ⟨cs', h1, h2⟩ := hel i (by omega)
      rw [Tryz.cells56] at h1
      obtain ⟨_, hlen', hcell⟩ := World.cells?_some h1
      obtain ⟨xs, k, hk, hxy, _, hxl, hfd⟩ := DataW.trod_struct Tryz.underlying56 h2
      match xs, hxl, cs', hlen' with
      | [y0, y1], _, [v0, v1], _ =>
        have g0 := hfd 0 _ rfl
        have g1 := hfd 1 _ rfl
        simp [Tryz.cells29] at g0 g1
        have e0 := hcell 0 (by omega)
        have e1 := hcell 1 (by omega)
        rw [add_add] at e0 e1
        obtain ⟨M0, hM0, _⟩ := open_bytes g0
        obtain ⟨M1, hM1, _⟩ := open_bytes g1
        exact ⟨((M0, M1), v0, v1), by simpa using e0, by simpa using e1, hM0, hM1⟩
    obtain ⟨q, hq⟩ := choose_lt each
    refine ⟨(List.range len).map fun i => (q i).1, some a, m, by simp, by simp; omega, fun j hj => ?_⟩
    simp at hj
    obtain ⟨h0, h1, h2, h3⟩ := hq j hj
    obtain ⟨b, off, spot⟩ := a
    have hz := (hq 0 (by omega)).1
    have hspot : spot = none := by simpa [Addr.add] using World.cell?_spot hz
    subst hspot
    rw [addr_add] at h0 h1
    rw [← Nat.add_assoc] at h1
    refine ⟨b, off, (q j).2.1, (q j).2.2, rfl, ?_⟩
    simp only [List.getElem_map, List.getElem_range]
    exact ⟨h0, h1, h2, h3⟩

set_option maxRecDepth 100000 in
set_option maxHeartbeats 1000000 in
/-- A list of outs that came in. -/
theorem open_outsF {fuel : Nat} {v : Value} {x : DataW H × List MemPlace} (h : DataW.trod enc Tryz.prog W 0 (fun _ => true) true fuel 49 [v] = some x) (hb : Fits 49 x.1) :
    ∃ A : List POut, Outs W v A := by
  rcases open_slice Tryz.underlying49 h with ⟨hcs, hx⟩ | ⟨a, len, cap, m, n, D, Pl, hcs, _, hl, hm, hmm, hx, hel⟩
  · simp at hcs
    subst hcs
    exact ⟨[], none, 0, rfl, by simp, fun j hj => absurd hj (by simp)⟩
  · simp at hcs hmm
    subst hcs
    subst hmm
    rw [hx] at hb
    have hfs := fits_slice Tryz.underlying49 hb
    have hlen : len ≤ 3000000000000 := by
      have := hfs.1
      rw [bytesF54] at this
      simp at this
      omega
    have each : ∀ i, i < len → ∃ q : POut × Value × Value, W.cell? (a.add (i * 3)) = some (.bool q.1.has) ∧ W.cell? (a.add (i * 3 + 1)) = some q.2.1 ∧ W.cell? (a.add (i * 3 + 2)) = some q.2.2 ∧ OutSeg W q.2.1 q.2.2 q.1 := by
      intro i hi
      obtain ⟨cs', h1, h2⟩ := hel i (by omega)
      rw [Tryz.cells54] at h1
      obtain ⟨_, hlen', hcell⟩ := World.cells?_some h1
      obtain ⟨xs, k, hk, hxy, _, hxl, hfd⟩ := DataW.trod_struct Tryz.underlying54 h2
      have hbi : Fits 54 (D i) := hfs.2 _ (List.mem_map.2 ⟨i, List.mem_range.2 hi, rfl⟩)
      match xs, hxl, cs', hlen' with
      | [y0, y1, y2], _, [v0, v1, v2], _ =>
        have g0 := hfd 0 _ rfl
        have g1 := hfd 1 _ rfl
        have g2 := hfd 2 _ rfl
        simp [Tryz.cells4, Tryz.cells29, Tryz.cells52] at g0 g1 g2
        have e0 := hcell 0 (by omega)
        have e1 := hcell 1 (by omega)
        have e2 := hcell 2 (by omega)
        rw [add_add] at e0 e1 e2
        simp only [Prod.mk.injEq] at hxy
        rw [hxy.1] at hbi
        have hb2 : Fits 52 y2.1 := fits_field (j := 2) Tryz.underlying54 hbi rfl rfl
        obtain ⟨bo, r0, _⟩ := DataW.trod_bool Tryz.underlying4 g0
        simp at r0
        obtain ⟨M1, hM1, _⟩ := open_bytes g1
        obtain ⟨M2, hM2⟩ := open_rowsF g2 hb2
        subst r0
        exact ⟨(⟨bo, M1, M2⟩, v1, v2), by simpa using e0, by simpa using e1, by simpa using e2, hM1, hM2⟩
    obtain ⟨q, hq⟩ := choose_lt each
    refine ⟨(List.range len).map fun i => (q i).1, some a, m, by simp, by simp; omega, fun j hj => ?_⟩
    simp at hj
    obtain ⟨h0, h1, h2, h3⟩ := hq j hj
    obtain ⟨b, off, spot⟩ := a
    have hz := (hq 0 (by omega)).1
    have hspot : spot = none := by simpa [Addr.add] using World.cell?_spot hz
    subst hspot
    rw [addr_add] at h0 h1 h2
    rw [← Nat.add_assoc] at h1 h2
    refine ⟨b, off, (q j).2.1, (q j).2.2, rfl, ?_, ?_⟩
    · simp only [List.getElem_map, List.getElem_range]
      exact ⟨h0, h1, h2⟩
    · simp only [List.getElem_map, List.getElem_range]
      exact h3

set_option maxRecDepth 100000 in
/-- A result that came in. -/
theorem open_resF {r : Reach} {b0 : Nat} {v : Value} {d : DataW H} {p : List MemPlace} (hv : Value.okWide Tryz.prog W r b0 51 v) (h : DataW.Trod enc Tryz.prog W 0 (fun _ => true) true 51 v d p) (hb : Fits 51 d) :
    ∃ (c : Value) (R : PRes), v = .agg #[.int .i64 R.abort, .int .i64 R.place, c] ∧ Outs W c R.outs := by
  obtain ⟨cs, rfl, hsz⟩ := okWide_struct Tryz.underlying51 hv
  rw [Tryz.cells51] at hsz
  obtain ⟨l⟩ := cs
  match l, hsz with
  | [a, b, c], _ =>
    obtain ⟨fuel, hf⟩ := h
    obtain ⟨xs, k, hk, hxy, _, hxl, hfd⟩ := DataW.trod_struct Tryz.underlying51 hf
    match xs, hxl with
    | [z0, z1, z2], _ =>
      have f0 := hfd 0 _ rfl
      have f1 := hfd 1 _ rfl
      have f2 := hfd 2 _ rfl
      simp [Value.cells, Tryz.cells48, Tryz.cells3, Tryz.cells49] at f0 f1 f2
      simp only [Prod.mk.injEq] at hxy
      rw [hxy.1] at hb
      have hb2 : Fits 49 z2.1 := fits_field (j := 2) Tryz.underlying51 hb rfl rfl
      obtain ⟨i0, r0, _, _⟩ := DataW.trod_int Tryz.underlying48 f0
      obtain ⟨i1, r1, _, _⟩ := DataW.trod_int Tryz.underlying3 f1
      obtain ⟨O, hO⟩ := open_outsF f2 hb2
      simp at r0 r1
      subst r0 r1
      exact ⟨c, ⟨i0, i1, O⟩, rfl, hO⟩
end
end Go.Proofs.YtfocmbnhkldnfaaGreatDoor
