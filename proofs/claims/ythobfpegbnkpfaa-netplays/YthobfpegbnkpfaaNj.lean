/-
  Arguments opened: numbers, texts, steps.
-/
import Derived.Test.YthobfpegbnkpfaaNd
import Derived.Test.YthobfpegbnkpfaaRows
import Derived.ProofKit
import Derived.OpenShut
import Derived.Lib.SmallJoins
import Derived.SizedLaws
import Derived.Deep.Slices
import Derived.Deep.SlicePairs
import Derived.Deep.Strs
namespace Go.Proofs.Ythobfpegbnkpfaa
open Go.ChangeShapes Go.WideShapes Go.ChangeAt Go.RowKit Go.Joins Go.Deep Disk

theorem Try.own : ownKnob Try.prog.godebug = none := by kernel_rfl
theorem Try.laidOut : laidOutB Try.prog = true := by kernel_rfl
theorem Try.cells3 : Try.prog.cellsOf 3 = 1 := by kernel_rfl
theorem Try.cells9 : Try.prog.cellsOf 9 = 1 := by kernel_rfl
theorem Try.cells25 : Try.prog.cellsOf 25 = 1 := by kernel_rfl
theorem Try.cells27 : Try.prog.cellsOf 27 = 3 := by kernel_rfl
theorem Try.bytes9 : Try.prog.bytesOf 9 = 16 := by kernel_rfl

theorem add_add' (a : Addr) (i j : Nat) : (a.add i).add j = a.add (i + j) := by
  obtain ⟨b, off, spot⟩ := a
  unfold Addr.add
  by_cases h1 : i = 0
  · subst h1; simp
  · by_cases h2 : j = 0
    · subst h2; simp
    · simp [h1, h2, Nat.add_assoc]
theorem cell_lt {W : World} {b off : Nat} {v : Value} (h : W.cell? ⟨b, off, none⟩ = some v) : b < W.heap.size := by
  unfold World.cell? at h
  by_cases hb : b < W.heap.size
  · exact hb
  · have : W.heap[b]? = none := by simp; omega
    simp [this] at h

section
variable {H : Type} {enc : TypeId × Value → H} {W : World}

/-- Within the form's reach. -/
def Fits (t : TypeId) (d : DataW H) : Prop := ∀ n ∈ d.weights Try.prog t, n ≤ 140737488351232
theorem all_mem {e : TypeId} : ∀ {l : List (DataW H)} {d : DataW H}, d ∈ l → ∀ n ∈ d.weights Try.prog e, n ∈ DataW.weightsAll Try.prog e l
  | x :: r, d, hd, n, hn => by
    simp only [DataW.weightsAll, List.mem_append]
    rcases List.mem_cons.1 hd with rfl | h
    · exact .inl hn
    · exact .inr (all_mem h n hn)
theorem fits_of {ts : List TypeId} {ds : List (DataW H)} (h : (DataW.weightsEach Try.prog ts ds).all (· ≤ reachBytes) = true) {j : Nat} {t : TypeId} {d : DataW H} (ht : ts[j]? = some t) (hd : ds[j]? = some d) : Fits t d := fun n hn => by
  have h2 : n ≤ reachBytes := of_decide_eq_true (List.all_eq_true.1 h n (DataW.weights_mem_each ht hd n hn))
  simp only [reachBytes] at h2
  omega
theorem fits_field {t : TypeId} {fs : Array Field} {parts : List (DataW H)} (hu : Try.prog.underlying t = some (.struct fs)) (h : Fits t (.agg parts)) {j : Nat} {e : TypeId} {d : DataW H} (ht : (fs.toList.map (·.type))[j]? = some e) (hd : parts[j]? = some d) : Fits e d := fun n hn => by
  refine h n ?_
  simp only [DataW.weights, hu]
  exact DataW.weights_mem_each ht hd n hn
theorem fits_slice {t e : TypeId} {elems spare : List (DataW H)} (hu : Try.prog.underlying t = some (.slice e)) (h : Fits t (.slice elems spare)) : (elems.length + spare.length) * Try.prog.bytesOf e ≤ 140737488351232 ∧ ∀ d ∈ elems, Fits e d := by
  refine ⟨h _ ?_, fun d hd n hn => h n ?_⟩
  · simp only [DataW.weights, hu]
    exact List.mem_cons_self
  · simp only [DataW.weights, hu]
    exact List.mem_cons_of_mem _ (List.mem_append_left _ (all_mem hd n hn))

/-- Numbers that came in. -/
theorem open_nums {fuel : Nat} {v : Value} {x : DataW H × List MemPlace} (h : DataW.trod enc Try.prog W 0 (fun _ => true) true fuel 40 [v] = some x) : ∃ zs : List Int, Rd W v (zs.map (Value.int .i64)) ∧ (0 < zs.length → ∀ k, v.ownBlock = some k → k < W.heap.size) := by
  rcases open_ints Try.underlying40 Try.underlying3 Try.cells3 h with ⟨hcs, hx⟩ | ⟨a, len, cap, zs, hcs, _, hl, hm, hz, hx, hcell, hwz⟩
  · simp at hcs
    subst hcs
    exact ⟨[], rd_nil W, fun h => by simp at h⟩
  · simp at hcs hz
    subst hcs
    have hlen : (zs.take len).length = len := by simp; omega
    refine ⟨zs.take len, ⟨some a, cap, by rw [List.length_map, hlen], by rw [List.length_map, hlen]; exact hl, hm, by simp, fun j hj => ?_⟩, fun h0 k hk => ?_⟩
    · rw [List.length_map, hlen] at hj
      have hc := hcell j (by omega)
      have h0 := hcell 0 (by omega)
      obtain ⟨b, off, spot⟩ := a
      have hspot : spot = none := by simpa [Addr.add] using World.cell?_spot h0
      subst hspot
      refine ⟨b, off, rfl, ?_⟩
      rw [add_addr] at hc
      rw [hc]
      have hjz : j < zs.length := by omega
      simp [List.getD, hjz]
    · rw [hlen] at h0
      have h0 := hcell 0 (by omega)
      obtain ⟨b, off, spot⟩ := a
      have hspot : spot = none := by simpa [Addr.add] using World.cell?_spot h0
      subst hspot
      rw [add_addr] at h0
      simp [Value.ownBlock] at hk
      subst hk
      exact cell_lt h0
/-- Texts that came in. -/
theorem open_texts {fuel : Nat} {v : Value} {x : DataW H × List MemPlace} (h : DataW.trod enc Try.prog W 0 (fun _ => true) true fuel 25 [v] = some x) (hf : Fits 25 x.1) : ∃ ss : List ByteArray, Rd W v (ss.map Value.string) ∧ ss.length * 16 ≤ 140737488351232 := by
  rcases open_strs Try.underlying25 Try.underlying9 Try.cells9 h with ⟨hcs, hx⟩ | ⟨a, len, cap, m, Sx, hcs, _, hl, hm, hmm, hx, hcell⟩
  · simp at hcs
    subst hcs
    exact ⟨[], rd_nil W, by simp⟩
  · simp at hcs hmm
    subst hcs
    subst hmm
    rw [hx] at hf
    have hf1 := (fits_slice Try.underlying25 hf).1
    rw [Try.bytes9] at hf1
    simp at hf1
    refine ⟨(List.range len).map Sx, ⟨some a, m, by simp, by simp; exact hl, hm, by simp, fun j hj => ?_⟩, by simp; omega⟩
    simp at hj
    have hc := (hcell j (by omega)).1
    have h0 := (hcell 0 (by omega)).1
    obtain ⟨b, off, spot⟩ := a
    have hspot : spot = none := by simpa [Addr.add] using World.cell?_spot h0
    subst hspot
    refine ⟨b, off, rfl, ?_⟩
    rw [add_addr] at hc
    rw [hc]
    simp
end

/-- A step. -/
structure PSt where
  kind : Int
  n : Int
  l : List ByteArray
instance : Inhabited PSt := ⟨⟨0, 0, []⟩⟩
/-- The slice v reads as the steps ss. -/
def Stps (W : World) (v : Value) (ss : List PSt) : Prop :=
  ∃ ao cap, v = .slice ao ss.length cap ∧ ss.length ≤ 9223372036854775807 ∧ ∀ j (hj : j < ss.length), ∃ b off u, ao = some ⟨b, off, none⟩ ∧ W.cell? ⟨b, off + j * 3, none⟩ = some (.int .i64 ss[j].kind) ∧ W.cell? ⟨b, off + j * 3 + 1, none⟩ = some (.int .i64 ss[j].n) ∧ W.cell? ⟨b, off + j * 3 + 2, none⟩ = some u ∧ Rd W u (ss[j].l.map Value.string) ∧ ss[j].l.length * 16 ≤ 140737488351232 ∧ -9223372036854775808 ≤ ss[j].n ∧ ss[j].n ≤ 9223372036854775807
section
variable {H : Type} {enc : TypeId × Value → H} {W : World}
set_option maxRecDepth 100000 in
/-- A list of steps that came in. -/
theorem open_stps {fuel : Nat} {v : Value} {x : DataW H × List MemPlace} (h : DataW.trod enc Try.prog W 0 (fun _ => true) true fuel 22 [v] = some x) (hft : Fits 22 x.1) : ∃ ss : List PSt, Stps W v ss := by
  rcases open_slice Try.underlying22 h with ⟨hcs, hx⟩ | ⟨a, len, cap, m, n, D, Pl, hcs, _, hl, hm, hmm, hx, hel⟩
  · simp at hcs
    subst hcs
    exact ⟨[], none, 0, rfl, by simp, fun j hj => absurd hj (by simp)⟩
  · simp at hcs hmm
    subst hcs
    subst hmm
    rw [hx] at hft
    obtain ⟨hf1, hf2⟩ := fits_slice Try.underlying22 hft
    have each : ∀ i, i < len → ∃ q : PSt × Value, W.cell? (a.add (i * 3)) = some (.int .i64 q.1.kind) ∧ W.cell? (a.add (i * 3 + 1)) = some (.int .i64 q.1.n) ∧ W.cell? (a.add (i * 3 + 2)) = some q.2 ∧ Rd W q.2 (q.1.l.map Value.string) ∧ q.1.l.length * 16 ≤ 140737488351232 ∧ -9223372036854775808 ≤ q.1.n ∧ q.1.n ≤ 9223372036854775807 := by
      intro i hi
      obtain ⟨cs', h1, h2⟩ := hel i (by omega)
      rw [Try.cells27] at h1
      obtain ⟨_, hlen, hcell⟩ := World.cells?_some h1
      obtain ⟨xs, k, hk, hxy, _, hxl, hfd⟩ := DataW.trod_struct Try.underlying27 h2
      have hfi := hf2 (D i) (List.mem_map.2 ⟨i, List.mem_range.2 hi, rfl⟩)
      match xs, hxl, cs', hlen with
      | [y0, y1, y2], _, [v0, v1, v2], _ =>
        have g0 := hfd 0 _ rfl
        have g1 := hfd 1 _ rfl
        have g2 := hfd 2 _ rfl
        simp [Try.cells25, Try.cells3] at g0 g1 g2
        have e0 := hcell 0 (by omega)
        have e1 := hcell 1 (by omega)
        have e2 := hcell 2 (by omega)
        rw [add_add'] at e0 e1 e2
        obtain ⟨z0, r0, _, w0⟩ := DataW.trod_int Try.underlying3 g0
        obtain ⟨z1, r1, _, w1⟩ := DataW.trod_int Try.underlying3 g1
        simp at r0 r1
        have b1 := bounds_i64 w1
        rw [(Prod.mk.inj hxy).1] at hfi
        obtain ⟨ss, hs, hsl⟩ := open_texts g2 (fits_field Try.underlying27 hfi (j := 2) rfl rfl)
        subst r0 r1
        exact ⟨(⟨z0, z1, ss⟩, v2), by simpa using e0, by simpa using e1, by simpa using e2, hs, hsl, b1.1, b1.2⟩
    obtain ⟨q, hq⟩ := choose_lt each
    refine ⟨(List.range len).map fun i => (q i).1, some a, m, by simp, by simp; unfold maxLen at hm; omega, fun j hj => ?_⟩
    simp at hj
    obtain ⟨c0, c1, c2, c3, c4⟩ := hq j hj
    obtain ⟨b, off, spot⟩ := a
    have hz := (hq 0 (by omega)).1
    have hspot : spot = none := by simpa [Addr.add] using World.cell?_spot hz
    subst hspot
    rw [add_addr] at c0 c1 c2
    simp only [List.getElem_map, List.getElem_range]
    exact ⟨b, off, (q j).2, rfl, c0, by rw [Nat.add_assoc]; exact c1, by rw [Nat.add_assoc]; exact c2, c3, c4⟩
end
theorem stps_grown {W W' : World} {v : Value} {ss : List PSt} (h : Stps W v ss) (hg : W.grownBy W' none) : Stps W' v ss := by
  obtain ⟨ao, cap, e, hl, h⟩ := h
  refine ⟨ao, cap, e, hl, fun j hj => ?_⟩
  obtain ⟨b, off, u, h1, h2, h3, h4, h5, h6⟩ := h j hj
  exact ⟨b, off, u, h1, hg.cell h2 (by simp), hg.cell h3 (by simp), hg.cell h4 (by simp), h5.grown hg, h6⟩
theorem stps_at {W : World} {ao : Option Addr} {n cap : Nat} {ss : List PSt} (h : Stps W (.slice ao n cap) ss) (j : Nat) (hj : j < ss.length) : ∃ b off u, ao = some ⟨b, off, none⟩ ∧ W.cell? ⟨b, off + j * 3, none⟩ = some (.int .i64 ss[j].kind) ∧ W.cell? ⟨b, off + j * 3 + 1, none⟩ = some (.int .i64 ss[j].n) ∧ W.cell? ⟨b, off + j * 3 + 2, none⟩ = some u ∧ Rd W u (ss[j].l.map Value.string) ∧ ss[j].l.length * 16 ≤ 140737488351232 ∧ -9223372036854775808 ≤ ss[j].n ∧ ss[j].n ≤ 9223372036854775807 := by
  obtain ⟨ao', cap', e, _, h⟩ := h
  simp at e
  obtain ⟨rfl, _, rfl⟩ := e
  exact h j hj
end Go.Proofs.Ythobfpegbnkpfaa
