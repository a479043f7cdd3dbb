/-
  Arguments opened: bytes, lists of rows, lists of steps.
-/
import Derived.Test.YtlehikdlkdbacaaE
import Derived.Test.YtlehikdlkdbacaaRows
import Derived.ProofKit
import Derived.OpenShut
import Derived.Lib.SmallJoins
import Derived.SizedLaws
import Derived.Deep.Slices
import Derived.Deep.SlicePairs
namespace Go.Proofs.Ytlehikdlkdbacaa
open Go.ChangeShapes Go.WideShapes Go.ChangeAt Go.RowKit Go.Joins Go.Deep Disk

theorem Try.own : ownKnob Try.prog.godebug = none := by kernel_rfl
theorem Try.laidOut : laidOutB Try.prog = true := by kernel_rfl
theorem Try.cells3 : Try.prog.cellsOf 3 = 1 := by kernel_rfl
theorem Try.cells5 : Try.prog.cellsOf 5 = 1 := by kernel_rfl
theorem Try.cells30 : Try.prog.cellsOf 30 = 1 := by kernel_rfl
theorem Try.cells32 : Try.prog.cellsOf 32 = 4 := by kernel_rfl
theorem Try.cells45 : Try.prog.cellsOf 45 = 2 := by kernel_rfl

instance : Inhabited PStep := ⟨⟨0, [], [], 0⟩⟩

theorem rcells_get : ∀ (ks : List (Value × Value)) (j : Nat) (u : Value), (rcells ks)[j]? = some u → ∃ i, ∃ h : i < ks.length, (j = i * 2 ∧ u = ks[i].1) ∨ (j = i * 2 + 1 ∧ u = ks[i].2)
  | [], j, u, h => by simp [rcells] at h
  | p :: l, 0, u, h => ⟨0, by simp, .inl ⟨rfl, by simpa [rcells] using h.symm⟩⟩
  | p :: l, 1, u, h => ⟨0, by simp, .inr ⟨rfl, by simpa [rcells] using h.symm⟩⟩
  | p :: l, j + 2, u, h => by
    have h' : (rcells l)[j]? = some u := by simpa [rcells] using h
    obtain ⟨i, hi, hh⟩ := rcells_get l j u h'
    refine ⟨i + 1, by simpa using hi, ?_⟩
    rcases hh with ⟨rfl, rfl⟩ | ⟨rfl, rfl⟩
    · exact .inl ⟨by omega, rfl⟩
    · exact .inr ⟨by omega, rfl⟩
theorem scells_get : ∀ (ks : List (Value × Value)) (ss : List PStep) (j : Nat) (u : Value), ks.length = ss.length → (scells ks ss)[j]? = some u → ∃ i, ∃ h : i < ks.length, ∃ h' : i < ss.length, (j = i * 4 ∧ u = .int .i64 ss[i].kind) ∨ (j = i * 4 + 1 ∧ u = ks[i].1) ∨ (j = i * 4 + 2 ∧ u = ks[i].2) ∨ (j = i * 4 + 3 ∧ u = .int .i64 ss[i].n)
  | [], [], j, u, _, h => by simp [scells] at h
  | p :: l, s :: ss, 0, u, _, h => ⟨0, by simp, by simp, .inl ⟨rfl, by simpa [scells] using h.symm⟩⟩
  | p :: l, s :: ss, 1, u, _, h => ⟨0, by simp, by simp, .inr (.inl ⟨rfl, by simpa [scells] using h.symm⟩)⟩
  | p :: l, s :: ss, 2, u, _, h => ⟨0, by simp, by simp, .inr (.inr (.inl ⟨rfl, by simpa [scells] using h.symm⟩))⟩
  | p :: l, s :: ss, 3, u, _, h => ⟨0, by simp, by simp, .inr (.inr (.inr ⟨rfl, by simpa [scells] using h.symm⟩))⟩
  | p :: l, s :: ss, j + 4, u, hl, h => by
    have h' : (scells l ss)[j]? = some u := by simpa [scells] using h
    obtain ⟨i, hi, hi', hh⟩ := scells_get l ss j u (by simpa using hl) h'
    refine ⟨i + 1, by simpa using hi, by simpa using hi', ?_⟩
    rcases hh with ⟨rfl, rfl⟩ | ⟨rfl, rfl⟩ | ⟨rfl, rfl⟩ | ⟨rfl, rfl⟩
    · exact .inl ⟨by omega, rfl⟩
    · exact .inr (.inl ⟨by omega, rfl⟩)
    · exact .inr (.inr (.inl ⟨by omega, rfl⟩))
    · exact .inr (.inr (.inr ⟨by omega, rfl⟩))
theorem scells_len : ∀ (ks : List (Value × Value)) (ss : List PStep), ks.length = ss.length → (scells ks ss).length = ss.length * 4
  | [], [], _ => rfl
  | p :: l, s :: ss, h => by simp [scells, scells_len l ss (by simpa using h)]; omega
theorem add_add' (a : Addr) (i j : Nat) : (a.add i).add j = a.add (i + j) := by
  obtain ⟨b, off, spot⟩ := a
  unfold Addr.add
  by_cases h1 : i = 0
  · subst h1; simp
  · by_cases h2 : j = 0
    · subst h2; simp
    · simp [h1, h2, Nat.add_assoc]

section
variable {H : Type} {enc : TypeId × Value → H} {W : World}

/-- Bytes that came in. -/
theorem open_bytes {fuel : Nat} {v : Value} {x : DataW H × List MemPlace} (h : DataW.trod enc Try.prog W 0 (fun _ => true) true fuel 30 [v] = some x) : ∃ L : List UInt8, Seg W v L := by
  rcases open_ints Try.underlying30 Try.underlying5 Try.cells5 h with ⟨hcs, hx⟩ | ⟨a, len, cap, zs, hcs, _, hl, hm, hz, hx, hcell, hwz⟩
  · simp at hcs
    subst hcs
    exact ⟨[], seg_nil W⟩
  · simp at hcs hz
    subst hcs
    have hlen : ((zs.take len).map fun n => UInt8.ofNat n.toNat).length = len := by simp; omega
    refine ⟨(zs.take len).map fun n => UInt8.ofNat n.toNat, ⟨some a, cap, by rw [hlen], by rw [hlen]; exact hl, hm, by simp, fun j hj => ?_⟩⟩
    rw [hlen] at hj
    have hc := hcell j (by omega)
    have h0 := hcell 0 (by omega)
    obtain ⟨b, off, spot⟩ := a
    have hspot : spot = none := by simpa [Addr.add] using World.cell?_spot h0
    subst hspot
    refine ⟨b, off, rfl, ?_⟩
    rw [addr_add] at hc
    rw [hc]
    have hjz : j < zs.length := by omega
    have hb := bounds_u8 (hwz (zs[j]) (List.getElem_mem hjz))
    simp [List.getD, hjz]
    omega

set_option maxRecDepth 100000 in
/-- A list of rows that came in. -/
theorem open_rows {fuel : Nat} {v : Value} {x : DataW H × List MemPlace} (h : DataW.trod enc Try.prog W 0 (fun _ => true) true fuel 22 [v] = some x) : ∃ l : List PRow, Rws W v l := by
  rcases open_slice Try.underlying22 h with ⟨hcs, hx⟩ | ⟨a, len, cap, m, n, D, Pl, hcs, _, hl, hm, hmm, hx, hel⟩
  · simp at hcs
    subst hcs
    exact ⟨[], rws_nil W⟩
  · simp at hcs hmm
    subst hcs
    subst hmm
    have each : ∀ i, i < len → ∃ q : PRow × (Value × Value), W.cell? (a.add (i * 2)) = some q.2.1 ∧ W.cell? (a.add (i * 2 + 1)) = some q.2.2 ∧ Seg W q.2.1 q.1.1 ∧ Seg W q.2.2 q.1.2 := by
      intro i hi
      obtain ⟨cs', h1, h2⟩ := hel i (by omega)
      rw [Try.cells45] at h1
      obtain ⟨_, hlen, hcell⟩ := World.cells?_some h1
      obtain ⟨xs, k, hk, hxy, _, hxl, hfd⟩ := DataW.trod_struct Try.underlying45 h2
      match xs, hxl, cs', hlen with
      | [y0, y1], _, [v0, v1], _ =>
        have g0 := hfd 0 _ rfl
        have g1 := hfd 1 _ rfl
        simp [Try.cells30] at g0 g1
        have e0 := hcell 0 (by omega)
        have e1 := hcell 1 (by omega)
        rw [add_add'] at e0 e1
        obtain ⟨M, hM⟩ := open_bytes g0
        obtain ⟨N, hN⟩ := open_bytes g1
        exact ⟨((M, N), (v0, v1)), by simpa using e0, by simpa using e1, hM, hN⟩
    obtain ⟨q, hq⟩ := choose_lt each
    refine ⟨(List.range len).map fun i => (q i).1, (List.range len).map fun i => (q i).2, ⟨by simp, fun j h1 h2 => ?_⟩, some a, m, by simp, by simp; omega, hm, by simp, by rw [rcells_len]; simp, fun j u hu => ?_⟩
    · simp at h1
      simp
      exact ⟨(hq j h1).2.2.1, (hq j h1).2.2.2⟩
    · obtain ⟨i, hi, hh⟩ := rcells_get _ j u hu
      simp at hi
      obtain ⟨b, off, spot⟩ := a
      have hz := (hq 0 (by omega)).1
      have hspot : spot = none := by simpa [Addr.add] using World.cell?_spot hz
      subst hspot
      have c0 := (hq i hi).1
      have c1 := (hq i hi).2.1
      rw [addr_add] at c0 c1
      refine ⟨b, off, rfl, ?_⟩
      rcases hh with ⟨rfl, rfl⟩ | ⟨rfl, rfl⟩
      · simpa using c0
      · simpa using c1

set_option maxRecDepth 100000 in
/-- A list of steps that came in. -/
theorem open_steps {fuel : Nat} {v : Value} {x : DataW H × List MemPlace} (h : DataW.trod enc Try.prog W 0 (fun _ => true) true fuel 23 [v] = some x) : ∃ ss : List PStep, Stps W v ss ∧ ∀ s ∈ ss, -9223372036854775808 ≤ s.n ∧ s.n ≤ 9223372036854775807 := by
  rcases open_slice Try.underlying23 h with ⟨hcs, hx⟩ | ⟨a, len, cap, m, n, D, Pl, hcs, _, hl, hm, hmm, hx, hel⟩
  · simp at hcs
    subst hcs
    exact ⟨[], stps_nil W, by simp⟩
  · simp at hcs hmm
    subst hcs
    subst hmm
    have each : ∀ i, i < len → ∃ q : PStep × (Value × Value), W.cell? (a.add (i * 4)) = some (.int .i64 q.1.kind) ∧ W.cell? (a.add (i * 4 + 1)) = some q.2.1 ∧ W.cell? (a.add (i * 4 + 2)) = some q.2.2 ∧ W.cell? (a.add (i * 4 + 3)) = some (.int .i64 q.1.n) ∧ Seg W q.2.1 q.1.key ∧ Seg W q.2.2 q.1.value ∧ -9223372036854775808 ≤ q.1.n ∧ q.1.n ≤ 9223372036854775807 := by
      intro i hi
      obtain ⟨cs', h1, h2⟩ := hel i (by omega)
      rw [Try.cells32] at h1
      obtain ⟨_, hlen, hcell⟩ := World.cells?_some h1
      obtain ⟨xs, k, hk, hxy, _, hxl, hfd⟩ := DataW.trod_struct Try.underlying32 h2
      match xs, hxl, cs', hlen with
      | [y0, y1, y2, y3], _, [v0, v1, v2, v3], _ =>
        have g0 := hfd 0 _ rfl
        have g1 := hfd 1 _ rfl
        have g2 := hfd 2 _ rfl
        have g3 := hfd 3 _ rfl
        simp [Try.cells30, Try.cells3] at g0 g1 g2 g3
        have e0 := hcell 0 (by omega)
        have e1 := hcell 1 (by omega)
        have e2 := hcell 2 (by omega)
        have e3 := hcell 3 (by omega)
        rw [add_add'] at e0 e1 e2 e3
        obtain ⟨z0, r0, _, w0⟩ := DataW.trod_int Try.underlying3 g0
        obtain ⟨z3, r3, _, w3⟩ := DataW.trod_int Try.underlying3 g3
        simp at r0 r3
        have b3 := bounds_i64 w3
        obtain ⟨M, hM⟩ := open_bytes g1
        obtain ⟨N, hN⟩ := open_bytes g2
        subst r0 r3
        exact ⟨(⟨z0, M, N, z3⟩, (v1, v2)), by simpa using e0, by simpa using e1, by simpa using e2, by simpa using e3, hM, hN, b3.1, b3.2⟩
    obtain ⟨q, hq⟩ := choose_lt each
    refine ⟨(List.range len).map fun i => (q i).1, ⟨(List.range len).map fun i => (q i).2, by simp, ⟨some a, m, by simp, by simp; omega, hm, by simp, by rw [scells_len _ _ (by simp)], fun j u hu => ?_⟩, fun j h1 h2 => ?_⟩, fun s hs => ?_⟩
    · obtain ⟨i, hi, hi', hh⟩ := scells_get _ _ j u (by simp) hu
      simp at hi
      obtain ⟨b, off, spot⟩ := a
      have hz := (hq 0 (by omega)).1
      have hspot : spot = none := by simpa [Addr.add] using World.cell?_spot hz
      subst hspot
      obtain ⟨c0, c1, c2, c3, _⟩ := hq i hi
      rw [addr_add] at c0 c1 c2 c3
      refine ⟨b, off, rfl, ?_⟩
      rcases hh with ⟨rfl, rfl⟩ | ⟨rfl, rfl⟩ | ⟨rfl, rfl⟩ | ⟨rfl, rfl⟩
      · simpa using c0
      · simpa using c1
      · simpa using c2
      · simpa using c3
    · simp at h1
      simp
      exact ⟨(hq j h1).2.2.2.2.1, (hq j h1).2.2.2.2.2.1⟩
    · obtain ⟨i, hi, rfl⟩ := List.mem_map.1 hs
      exact (hq i (List.mem_range.1 hi)).2.2.2.2.2.2
end
end Go.Proofs.Ytlehikdlkdbacaa
