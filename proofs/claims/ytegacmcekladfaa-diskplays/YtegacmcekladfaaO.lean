/-
  Arguments opened: bytes, lists of bytes, lists of steps, with the form's own reach.
-/
import Derived.Test.YtegacmcekladfaaY
import Derived.ProofKit
import Derived.OpenShut
import Derived.Lib.SmallJoins
import Derived.SizedLaws
import Derived.Deep.Slices
import Derived.Deep.SlicePairs
namespace Go.Proofs.Ytegacmcekladfaa
open Go.ChangeShapes Go.WideShapes Go.ChangeAt Go.RowKit Go.Joins Go.Deep

theorem Try.own : ownKnob Try.prog.godebug = none := by kernel_rfl
theorem Try.laidOut : laidOutB Try.prog = true := by kernel_rfl
theorem Try.cells3 : Try.prog.cellsOf 3 = 1 := by kernel_rfl
theorem Try.cells5 : Try.prog.cellsOf 5 = 1 := by kernel_rfl
theorem Try.cells22 : Try.prog.cellsOf 22 = 1 := by kernel_rfl
theorem Try.cells23 : Try.prog.cellsOf 23 = 1 := by kernel_rfl
theorem Try.cells25 : Try.prog.cellsOf 25 = 3 := by kernel_rfl
theorem Try.cells39 : Try.prog.cellsOf 39 = 3 := by kernel_rfl
theorem Try.bytes5 : Try.prog.bytesOf 5 = 1 := by kernel_rfl
theorem Try.bytes22 : Try.prog.bytesOf 22 = 24 := by kernel_rfl
theorem Try.bytes39 : Try.prog.bytesOf 39 = 40 := by kernel_rfl

section
variable {H : Type} {enc : TypeId × Value → H} {W : World}

/-- Within the form's reach. -/
def Fits (t : TypeId) (d : DataW H) : Prop := ∀ n ∈ d.weights Try.prog t, n ≤ 140737488351232

theorem all_mem {e : TypeId} : ∀ {l : List (DataW H)} {d : DataW H}, d ∈ l → ∀ n ∈ d.weights Try.prog e, n ∈ DataW.weightsAll Try.prog e l
  | x :: r, d, hd, n, hn => by
    simp only [DataW.weightsAll, List.mem_append]
    rcases List.mem_cons.1 hd with rfl | h
    · exact .inl hn
    · exact .inr (all_mem h n hn)

theorem fits_of {ts : List TypeId} {ds : List (DataW H)} (h : (DataW.weightsEach Try.prog ts ds).all (· ≤ reachBytes) = true) {j : Nat} {t : TypeId} {d : DataW H} (ht : ts[j]? = some t) (hd : ds[j]? = some d) : Fits t d := fun n hn => by
  have h2 : n ≤ reachBytes := of_decide_eq_true (List.all_eq_true.1 h n (DataW.weights_mem_each ht hd n hn))
  simp only [reachBytes] at h2
  omega

theorem fits_field {t : TypeId} {fs : Array Field} {parts : List (DataW H)} (hu : Try.prog.underlying t = some (.struct fs)) (h : Fits t (.agg parts)) {j : Nat} {e : TypeId} {d : DataW H} (ht : (fs.toList.map (·.type))[j]? = some e) (hd : parts[j]? = some d) : Fits e d := fun n hn => by
  refine h n ?_
  simp only [DataW.weights, hu]
  exact DataW.weights_mem_each ht hd n hn

theorem fits_slice {t e : TypeId} {elems spare : List (DataW H)} (hu : Try.prog.underlying t = some (.slice e)) (h : Fits t (.slice elems spare)) : (elems.length + spare.length) * Try.prog.bytesOf e ≤ 140737488351232 ∧ ∀ d ∈ elems, Fits e d := by
  refine ⟨h _ ?_, fun d hd n hn => h n ?_⟩
  · simp only [DataW.weights, hu]
    exact List.mem_cons_self
  · simp only [DataW.weights, hu]
    exact List.mem_cons_of_mem _ (List.mem_append_left _ (all_mem hd n hn))

/-- Bytes that came in. -/
theorem open_bytes {fuel : Nat} {v : Value} {x : DataW H × List MemPlace} (h : DataW.trod enc Try.prog W 0 (fun _ => true) true fuel 22 [v] = some x) (hf : Fits 22 x.1) :
    ∃ L : List UInt8, Seg W v L ∧ L.length ≤ 140737488351232 := by
  rcases open_ints Try.underlying22 Try.underlying5 Try.cells5 h with ⟨hcs, hx⟩ | ⟨a, len, cap, zs, hcs, _, hl, hm, hz, hx, hcell, hwz⟩
  · simp at hcs
    subst hcs
    exact ⟨[], seg_nil W, by simp⟩
  · simp at hcs hz
    subst hcs
    have hlen : ((zs.take len).map fun n => UInt8.ofNat n.toNat).length = len := by simp; omega
    refine ⟨(zs.take len).map fun n => UInt8.ofNat n.toNat, ⟨some a, cap, by rw [hlen], by rw [hlen]; exact hl, hm, by simp, fun j hj => ?_⟩, ?_⟩
    · rw [hlen] at hj
      have hc := hcell j (by omega)
      have h0 := hcell 0 (by omega)
      obtain ⟨b, off, spot⟩ := a
      have hspot : spot = none := by simpa [Addr.add] using World.cell?_spot h0
      subst hspot
      refine ⟨b, off, rfl, ?_⟩
      have e : (⟨b, off, none⟩ : Addr).add j = ⟨b, off + j, none⟩ := by
        unfold Addr.add; by_cases hz : j = 0
        · subst hz; simp
        · simp [hz]
      rw [e] at hc
      rw [hc]
      have hjz : j < zs.length := by omega
      have hb := bounds_u8 (hwz (zs[j]) (List.getElem_mem hjz))
      simp [List.getD, hjz]
      omega
    · rw [hx] at hf
      have h2 := (fits_slice Try.underlying22 hf).1
      rw [Try.bytes5] at h2
      simp [lits] at h2 ⊢
      omega

/-- A list of bytes that came in. -/
theorem open_segs {fuel : Nat} {v : Value} {x : DataW H × List MemPlace} (h : DataW.trod enc Try.prog W 0 (fun _ => true) true fuel 23 [v] = some x) (hft : Fits 23 x.1) :
    ∃ Ls : List (List UInt8), Segs W v Ls ∧ (∀ M ∈ Ls, M.length ≤ 140737488351232) ∧ Ls.length * 24 ≤ 140737488351232 := by
  rcases open_slice1 Try.underlying23 Try.cells22 h with ⟨hcs, hx⟩ | ⟨a, len, cap, m, n, V, D, Pl, hcs, _, hl, hm, hmm, hx, hel⟩
  · simp at hcs
    subst hcs
    exact ⟨[], segs_nil W, by simp, by simp⟩
  · simp at hcs hmm
    subst hcs
    subst hmm
    rw [hx] at hft
    obtain ⟨hf1, hf2⟩ := fits_slice Try.underlying23 hft
    rw [Try.bytes22] at hf1
    simp at hf1
    have hf : ∀ i, i < len → ∃ L : List UInt8, Seg W (V i) L ∧ L.length ≤ 140737488351232 := fun i hi => open_bytes (hel i (by omega)).2 (hf2 _ (List.mem_map.2 ⟨i, List.mem_range.2 hi, rfl⟩))
    obtain ⟨f, hf⟩ := choose_lt hf
    refine ⟨(List.range len).map f, ⟨some a, m, by simp, by simp; unfold maxLen at hm; omega, fun j hj => ?_⟩, fun M hM => ?_, by simp; omega⟩
    · simp at hj
      have hc := (hel j (by omega)).1
      have h0 := (hel 0 (by omega)).1
      obtain ⟨b, off, spot⟩ := a
      have hspot : spot = none := by simpa [Addr.add] using World.cell?_spot h0
      subst hspot
      refine ⟨b, off, V j, rfl, ?_, ?_⟩
      · have e : (⟨b, off, none⟩ : Addr).add j = ⟨b, off + j, none⟩ := by
          unfold Addr.add; by_cases hz : j = 0
          · subst hz; simp
          · simp [hz]
        rw [← e]; exact hc
      · simp; exact (hf j hj).1
    · obtain ⟨i, hi, rfl⟩ := List.mem_map.1 hM
      exact (hf i (List.mem_range.1 hi)).2

/-- A list of steps that came in. -/
theorem open_steps {fuel : Nat} {v : Value} {x : DataW H × List MemPlace} (h : DataW.trod enc Try.prog W 0 (fun _ => true) true fuel 26 [v] = some x) (hft : Fits 26 x.1) :
    ∃ L : List (Int × Int × List UInt8), StepsV W v L := by
  rcases open_slice Try.underlying26 h with ⟨hcs, hx⟩ | ⟨a, len, cap, m, n, D, Pl, hcs, _, hl, hm, hmm, hx, hel⟩
  · simp at hcs
    subst hcs
    exact ⟨[], none, 0, rfl, by simp, fun j hj => absurd hj (by simp)⟩
  · simp at hcs hmm
    subst hcs
    subst hmm
    rw [hx] at hft
    obtain ⟨hf1, hf2⟩ := fits_slice Try.underlying26 hft
    rw [Try.bytes39] at hf1
    simp at hf1
    have each : ∀ i, i < len → ∃ q : (Int × Int × List UInt8) × Value, W.cell? (a.add (i * 3)) = some (.int .i64 q.1.1) ∧ W.cell? (a.add (i * 3 + 1)) = some (.int .i64 q.1.2.1) ∧ W.cell? (a.add (i * 3 + 2)) = some q.2 ∧ Seg W q.2 q.1.2.2 ∧ q.1.2.2.length ≤ 140737488351232 ∧ -9223372036854775808 ≤ q.1.2.1 ∧ q.1.2.1 ≤ 9223372036854775807 := by
      intro i hi
      obtain ⟨cs', h1, h2⟩ := hel i (by omega)
      rw [Try.cells39] at h1
      obtain ⟨_, hlen, hcell⟩ := World.cells?_some h1
      obtain ⟨xs, k, hk, hxy, _, hxl, hfd⟩ := DataW.trod_struct Try.underlying39 h2
      have hfi := hf2 (D i) (List.mem_map.2 ⟨i, List.mem_range.2 hi, rfl⟩)
      match xs, hxl, cs', hlen with
      | [y0, y1, y2], _, [v0, v1, v2], _ =>
        have g0 := hfd 0 _ rfl
        have g1 := hfd 1 _ rfl
        have g2 := hfd 2 _ rfl
        simp [Try.cells3, Try.cells22] at g0 g1 g2
        have e0 := hcell 0 (by omega)
        have e1 := hcell 1 (by omega)
        have e2 := hcell 2 (by omega)
        rw [add_add] at e0 e1 e2
        simp only [Prod.mk.injEq] at hxy
        rw [hxy.1] at hfi
        obtain ⟨z0, r0, _, w0⟩ := DataW.trod_int Try.underlying3 g0
        obtain ⟨z1, r1, _, w1⟩ := DataW.trod_int Try.underlying3 g1
        simp at r0 r1
        have b1 := bounds_i64 w1
        obtain ⟨M, hM, hMl⟩ := open_bytes g2 (fits_field Try.underlying39 hfi (j := 2) rfl rfl)
        subst r0 r1
        exact ⟨((z0, z1, M), v2), by simpa using e0, by simpa using e1, by simpa using e2, hM, hMl, b1.1, b1.2⟩
    obtain ⟨q, hq⟩ := choose_lt each
    refine ⟨(List.range len).map fun i => (q i).1, some a, m, by simp, by simp; omega, fun j hj => ?_⟩
    simp at hj
    obtain ⟨h0, h1, h2, h3, h4, h5, h6⟩ := hq j hj
    obtain ⟨b, off, spot⟩ := a
    have hz := (hq 0 (by omega)).1
    have hspot : spot = none := by simpa [Addr.add] using World.cell?_spot hz
    subst hspot
    rw [add_plain] at h0 h1 h2
    rw [← Nat.add_assoc] at h1 h2
    refine ⟨b, off, (q j).2, rfl, ?_⟩
    simp
    exact ⟨h0, h1, h2, h3, h4, h5, h6⟩

/-- A beginning that came in. -/
theorem open_start {r : Reach} {b0 : Nat} {v : Value} {d : DataW H} {p : List MemPlace} (hv : Value.okWide Try.prog W r b0 25 v) (h : DataW.Trod enc Try.prog W 0 (fun _ => true) true 25 v d p) (hft : Fits 25 d) :
    ∃ (c : Int) (u s : Value) (log : List UInt8) (Ls : List (List UInt8)), v = .agg #[.int .i64 c, u, s] ∧ Seg W u log ∧ log.length ≤ 140737488351232 ∧ Segs W s Ls ∧ (∀ M ∈ Ls, M.length ≤ 140737488351232) ∧ Ls.length * 24 ≤ 140737488351232 := by
  obtain ⟨cs, rfl, hsz⟩ := okWide_struct Try.underlying25 hv
  rw [Try.cells25] at hsz
  obtain ⟨l⟩ := cs
  match l, hsz with
  | [v0, v1, v2], _ =>
    obtain ⟨fuel, hf⟩ := h
    obtain ⟨xs, n, _, hx, _, hlen, hel⟩ := DataW.trod_struct Try.underlying25 hf
    match xs, hlen with
    | [y0, y1, y2], _ =>
      have g0 := hel 0 _ rfl
      have g1 := hel 1 _ rfl
      have g2 := hel 2 _ rfl
      simp [Value.cells, Try.cells3, Try.cells22, Try.cells23] at g0 g1 g2
      simp only [Prod.mk.injEq] at hx
      have hd : d = .agg [y0.1, y1.1, y2.1] := by simpa using hx.1
      rw [hd] at hft
      obtain ⟨z0, r0, _, _⟩ := DataW.trod_int Try.underlying3 g0
      simp at r0
      subst r0
      obtain ⟨log, h1, h2⟩ := open_bytes g1 (fits_field Try.underlying25 hft (j := 1) rfl rfl)
      obtain ⟨Ls, h3, h4, h5⟩ := open_segs g2 (fits_field Try.underlying25 hft (j := 2) rfl rfl)
      exact ⟨z0, v1, v2, log, Ls, rfl, h1, h2, h3, h4, h5⟩
end
end Go.Proofs.Ytegacmcekladfaa
