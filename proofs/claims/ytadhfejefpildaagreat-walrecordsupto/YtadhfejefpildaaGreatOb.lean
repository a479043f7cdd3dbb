/-
  Arguments opened: entries (second form).
-/
import Derived.Test.YtadhfejefpildaaGreatFa
import Derived.Test.YtadhfejefpildaaGreatRows
import Derived.ProofKit
import Derived.OpenShut
import Derived.Lib.SmallJoins
import Derived.SizedLaws
import Derived.Deep.Slices
import Derived.Deep.SlicePairs
import Derived.JoinedCond
namespace Go.Proofs.YtadhfejefpildaaGreat
open Go.ChangeShapes Go.WideShapes Go.ChangeAt Go.RowKit Go.Joins Go.Deep Disk
open _root_.Go.Proofs.YtadhfejefpildaaGreat.Names (Str)
open _root_.Go.Proofs.YtadhfejefpildaaGreat.Calls (POp opV OpSeg Ops OpAt)
open _root_.Go.Proofs.YtadhfejefpildaaGreat.Command

theorem Tryz.laidOut : laidOutB Tryz.prog = true := by kernel_rfl
theorem Tryz.cells2 : Tryz.prog.cellsOf 2 = 1 := by kernel_rfl
theorem Tryz.cells3 : Tryz.prog.cellsOf 3 = 1 := by kernel_rfl
theorem Tryz.cells4 : Tryz.prog.cellsOf 4 = 1 := by kernel_rfl
theorem Tryz.cells5 : Tryz.prog.cellsOf 5 = 1 := by kernel_rfl
theorem Tryz.cells9 : Tryz.prog.cellsOf 9 = 1 := by kernel_rfl
theorem Tryz.cells23 : Tryz.prog.cellsOf 23 = 1 := by kernel_rfl
theorem Tryz.cells27 : Tryz.prog.cellsOf 27 = 1 := by kernel_rfl
theorem Tryz.cells28 : Tryz.prog.cellsOf 28 = 1 := by kernel_rfl
theorem Tryz.cells30 : Tryz.prog.cellsOf 30 = 1 := by kernel_rfl
theorem Tryz.cells32 : Tryz.prog.cellsOf 32 = 6 := by kernel_rfl
theorem Tryz.cells145 : Tryz.prog.cellsOf 145 = 1 := by kernel_rfl
theorem Tryz.cells147 : Tryz.prog.cellsOf 147 = 8 := by kernel_rfl
theorem Tryz.cells34 : Tryz.prog.cellsOf 34 = 7 := by kernel_rfl
theorem bulk_one {H : Type} (d : DataW H) : 1 ≤ Rows.uptoBulk d := by
  cases d with
  | lit l => cases l <;> simp [Rows.uptoBulk]
  | nil => simp [Rows.uptoBulk]
  | ptr d => simp [Rows.uptoBulk]
  | slice elems spare => simp [Rows.uptoBulk]
  | agg parts => simp [Rows.uptoBulk]
  | iface t d => simp [Rows.uptoBulk]
  | map entries => simp [Rows.uptoBulk]
  | held h => simp [Rows.uptoBulk]
theorem bulk_len {H : Type} : ∀ l : List (DataW H), l.length ≤ Rows.uptoBulkAll l
  | [] => by simp [Rows.uptoBulkAll]
  | d :: r => by have := bulk_one d; have := bulk_len r; simp only [Rows.uptoBulkAll, List.length_cons]; omega
theorem bulk_slice {H : Type} (elems spare : List (DataW H)) : Rows.uptoBulk (.slice elems spare) = Rows.uptoBulkAll elems + Rows.uptoBulkAll spare + 1 := by simp only [Rows.uptoBulk]
theorem bulk_agg {H : Type} (l : List (DataW H)) : Rows.uptoBulkAll l ≤ Rows.uptoBulk (.agg l) := by simp only [Rows.uptoBulk]; omega
theorem bulk_mem {H : Type} : ∀ {l : List (DataW H)} {d : DataW H}, d ∈ l → Rows.uptoBulk d ≤ Rows.uptoBulkAll l
  | x :: r, d, hd => by
    simp only [Rows.uptoBulkAll]
    rcases List.mem_cons.1 hd with rfl | h
    · omega
    · have := bulk_mem h; omega
theorem bulk_small {H : Type} {l : List (DataW H)} (hk : Rows.uptoSmall H l = true) : Rows.uptoBulkAll l ≤ 1048576 := of_decide_eq_true hk
instance : Inhabited POp := ⟨⟨0, [], [], [], false, [], [], 0⟩⟩
instance : Inhabited PCmd := ⟨zeroC⟩
theorem addr_add (b off j : Nat) : (⟨b, off, none⟩ : Addr).add j = ⟨b, off + j, none⟩ := by
  unfold Addr.add; by_cases hz : j = 0
  · subst hz; simp
  · simp [hz]
theorem add_add' (a : Addr) (i j : Nat) : (a.add i).add j = a.add (i + j) := by
  obtain ⟨b, off, spot⟩ := a
  unfold Addr.add
  by_cases h1 : i = 0
  · subst h1; simp
  · by_cases h2 : j = 0
    · subst h2; simp
    · simp [h1, h2, Nat.add_assoc]

section
variable {H : Type} {enc : TypeId × Value → H} {W : World}

/-- Bytes that came in. -/
theorem open_bytes {fuel : Nat} {v : Value} {x : DataW H × List MemPlace} (h : DataW.trod enc Tryz.prog W 0 (fun _ => true) true fuel 23 [v] = some x) : ∃ L : List UInt8, Seg W v L := by
  rcases open_ints Tryz.underlying23 Tryz.underlying5 Tryz.cells5 h with ⟨hcs, hx⟩ | ⟨a, len, cap, zs, hcs, _, hl, hm, hz, hx, hcell, hwz⟩
  · simp at hcs
    subst hcs
    exact ⟨[], seg_nil W⟩
  · simp at hcs hz
    subst hcs
    have hlen : ((zs.take len).map fun n => UInt8.ofNat n.toNat).length = len := by simp; omega
    refine ⟨(zs.take len).map fun n => UInt8.ofNat n.toNat, ⟨some a, cap, by rw [hlen], by rw [hlen]; exact hl, hm, by simp, fun j hj => ?_⟩⟩
    rw [hlen] at hj
    have hc := hcell j (by omega)
    have h0 := hcell 0 (by omega)
    obtain ⟨b, off, spot⟩ := a
    have hspot : spot = none := by simpa [Addr.add] using World.cell?_spot h0
    subst hspot
    refine ⟨b, off, rfl, ?_⟩
    rw [addr_add] at hc
    rw [hc]
    have hjz : j < zs.length := by omega
    have hb := bounds_u8 (hwz (zs[j]) (List.getElem_mem hjz))
    simp [List.getD, hjz]
    omega

set_option maxRecDepth 100000 in
set_option maxHeartbeats 1000000 in
/-- A list of ops that came in (second form). -/
theorem open_opsU {fuel : Nat} {v : Value} {x : DataW H × List MemPlace} (h : DataW.trod enc Tryz.prog W 0 (fun _ => true) true fuel 28 [v] = some x) (hb : Rows.uptoBulk x.1 ≤ 1048576) :
    ∃ (A : List POp) (av : Option Addr) (n c : Nat), v = .slice av n c ∧ n ≤ c ∧ c ≤ 9223372036854775807 ∧ Ops W v A := by
  rcases open_slice Tryz.underlying28 h with ⟨hcs, hx⟩ | ⟨a, len, cap, m, n, D, Pl, hcs, _, hl, hm, hmm, hx, hel⟩
  · simp at hcs
    subst hcs
    exact ⟨[], none, 0, 0, rfl, by omega, by omega, none, 0, rfl, by simp, fun j hj => absurd hj (by simp)⟩
  · simp at hcs hmm
    subst hcs
    subst hmm
    rw [hx] at hb
    rw [bulk_slice] at hb
    have hlen : len ≤ 1099511627776 := by
      have := bulk_len ((List.range len).map D)
      simp at this
      omega
    have each : ∀ i, i < len → ∃ q : POp × Value × Value × Value × Value, W.cell? (a.add (i * 8)) = some (.int .i64 q.1.kind) ∧ W.cell? (a.add (i * 8 + 1)) = some (Str q.1.table) ∧ W.cell? (a.add (i * 8 + 2)) = some q.2.1 ∧ W.cell? (a.add (i * 8 + 3)) = some q.2.2.1 ∧ W.cell? (a.add (i * 8 + 4)) = some (.bool q.1.has) ∧ W.cell? (a.add (i * 8 + 5)) = some q.2.2.2.1 ∧ W.cell? (a.add (i * 8 + 6)) = some q.2.2.2.2 ∧ W.cell? (a.add (i * 8 + 7)) = some (.int .i64 q.1.most) ∧ OpSeg W q.2.1 q.2.2.1 q.2.2.2.1 q.2.2.2.2 q.1 := by
      intro i hi
      obtain ⟨cs', h1, h2⟩ := hel i (by omega)
      rw [Tryz.cells147] at h1
      obtain ⟨_, hlen', hcell⟩ := World.cells?_some h1
      obtain ⟨xs, k, hk, hxy, _, hxl, hfd⟩ := DataW.trod_struct Tryz.underlying147 h2
      match xs, hxl, cs', hlen' with
      | [y0, y1, y2, y3, y4, y5, y6, y7], _, [v0, v1, v2, v3, v4, v5, v6, v7], _ =>
        have g0 := hfd 0 _ rfl
        have g1 := hfd 1 _ rfl
        have g2 := hfd 2 _ rfl
        have g3 := hfd 3 _ rfl
        have g4 := hfd 4 _ rfl
        have g5 := hfd 5 _ rfl
        have g6 := hfd 6 _ rfl
        have g7 := hfd 7 _ rfl
        simp [Tryz.cells3, Tryz.cells4, Tryz.cells9, Tryz.cells23, Tryz.cells145] at g0 g1 g2 g3 g4 g5 g6 g7
        have e0 := hcell 0 (by omega)
        have e1 := hcell 1 (by omega)
        have e2 := hcell 2 (by omega)
        have e3 := hcell 3 (by omega)
        have e4 := hcell 4 (by omega)
        have e5 := hcell 5 (by omega)
        have e6 := hcell 6 (by omega)
        have e7 := hcell 7 (by omega)
        rw [add_add'] at e0 e1 e2 e3 e4 e5 e6 e7
        obtain ⟨z0, r0, _, w0⟩ := DataW.trod_int Tryz.underlying145 g0
        obtain ⟨z7, r7, _, w7⟩ := DataW.trod_int Tryz.underlying3 g7
        obtain ⟨⟨⟨tl⟩⟩, r1, _, w1⟩ := DataW.trod_string Tryz.underlying9 g1
        obtain ⟨bo, r4, _⟩ := DataW.trod_bool Tryz.underlying4 g4
        simp at r0 r7 r1 r4
        have b0 := bounds_i64 w0
        have b7 := bounds_i64 w7
        obtain ⟨M2, hM2⟩ := open_bytes g2
        obtain ⟨M3, hM3⟩ := open_bytes g3
        obtain ⟨M5, hM5⟩ := open_bytes g5
        obtain ⟨M6, hM6⟩ := open_bytes g6
        subst r0 r7 r1 r4
        refine ⟨(⟨z0, tl, M2, M3, bo, M5, M6, z7⟩, v2, v3, v5, v6), by simpa using e0, by simpa [Str] using e1, by simpa using e2, by simpa using e3, by simpa using e4, by simpa using e5, by simpa using e6, by simpa using e7, ⟨hM2, hM3, hM5, hM6, ⟨b0.1, b0.2, b7.1, b7.2, ?_⟩⟩⟩
        have : tl.length ≤ maxLen := w1
        unfold maxLen at this
        simp only
        omega
    obtain ⟨q, hq⟩ := choose_lt each
    refine ⟨(List.range len).map fun i => (q i).1, some a, len, m, rfl, by omega, by unfold maxLen at hm; omega, some a, m, by simp, by simp; omega, fun j hj => ?_⟩
    simp at hj
    obtain ⟨h0, h1, h2, h3, h4, h5, h6, h7, h8⟩ := hq j hj
    obtain ⟨b, off, spot⟩ := a
    have hz := (hq 0 (by omega)).1
    have hspot : spot = none := by simpa [Addr.add] using World.cell?_spot hz
    subst hspot
    rw [addr_add] at h0 h1 h2 h3 h4 h5 h6 h7
    rw [← Nat.add_assoc] at h1 h2 h3 h4 h5 h6 h7
    refine ⟨b, off, (q j).2.1, (q j).2.2.1, (q j).2.2.2.1, (q j).2.2.2.2, rfl, ?_, ?_⟩
    · simp only [List.getElem_map, List.getElem_range]
      exact ⟨h0, h1, h2, h3, h4, h5, h6, h7⟩
    · simp only [List.getElem_map, List.getElem_range]
      exact h8

set_option maxRecDepth 100000 in
set_option maxHeartbeats 1000000 in
/-- Entries that came in. -/
theorem open_ents {fuel : Nat} {v : Value} {x : DataW H × List MemPlace} (h : DataW.trod enc Tryz.prog W 0 (fun _ => true) true fuel 22 [v] = some x) (hb : Rows.uptoBulk x.1 ≤ 1048576) : ∃ E : List PEnt, EntsA W v E := by
  rcases open_slice Tryz.underlying22 h with ⟨hcs, hx⟩ | ⟨a, len, cap, m, n, D, Pl, hcs, _, hl, hm, hmm, hx, hel⟩
  · simp at hcs
    subst hcs
    exact ⟨[], ⟨none, 0, rfl, fun j hj => absurd hj (by simp)⟩, by simp, by simp⟩
  · simp at hcs hmm
    subst hcs
    subst hmm
    rw [hx] at hb
    rw [bulk_slice] at hb
    have hlen : len ≤ 1048576 := by
      have := bulk_len ((List.range len).map D)
      simp at this
      omega
    have each : ∀ i, i < len → ∃ q : PEnt × Option Addr × Nat × Nat, W.cell? (a.add (i * 7)) = some (.int .i64 q.1.1) ∧ W.cell? (a.add (i * 7 + 1)) = some (.int .i64 q.1.2.kind) ∧ W.cell? (a.add (i * 7 + 2)) = some (.int .i64 q.1.2.token) ∧ W.cell? (a.add (i * 7 + 3)) = some (.int .i64 q.1.2.session) ∧ W.cell? (a.add (i * 7 + 4)) = some (.int .i64 q.1.2.number) ∧ W.cell? (a.add (i * 7 + 5)) = some (.int .i64 q.1.2.mark) ∧ W.cell? (a.add (i * 7 + 6)) = some (.slice q.2.1 q.2.2.1 q.2.2.2) ∧ Ops W (.slice q.2.1 q.2.2.1 q.2.2.2) q.1.2.ops ∧ InC q.1.2 := by
      intro i hi
      obtain ⟨cs', h1, h2⟩ := hel i (by omega)
      have hbi : Rows.uptoBulk (D i) ≤ 1048576 := by
        have := bulk_mem (l := (List.range len).map D) (List.mem_map.2 ⟨i, List.mem_range.2 hi, rfl⟩)
        omega
      rw [Tryz.cells34] at h1
      obtain ⟨_, hlen', hcell⟩ := World.cells?_some h1
      obtain ⟨xs, k, hk, hxy, _, hxl, hfd⟩ := DataW.trod_struct Tryz.underlying34 h2
      match xs, hxl, cs', hlen' with
      | [x0, x1], _, [vn, v0, v1, v2, v3, v4, v5], _ =>
        have gn := hfd 0 _ rfl
        have gc := hfd 1 _ rfl
        simp [Tryz.cells2, Tryz.cells32] at gn gc
        simp only [Prod.mk.injEq] at hxy
        rw [hxy.1] at hbi
        have hb1 : Rows.uptoBulk x1.1 ≤ 1048576 := by
          have h8 := bulk_agg (List.map (·.1) [x0, x1])
          have h9 := bulk_mem (l := List.map (·.1) [x0, x1]) (d := x1.1) (by simp)
          omega
        obtain ⟨ys, k', hk', hxy', _, hyl, hfd'⟩ := DataW.trod_struct Tryz.underlying32 gc
        match ys, hyl with
        | [y0, y1, y2, y3, y4, y5], _ =>
          have g0 := hfd' 0 _ rfl
          have g1 := hfd' 1 _ rfl
          have g2 := hfd' 2 _ rfl
          have g3 := hfd' 3 _ rfl
          have g4 := hfd' 4 _ rfl
          have g5 := hfd' 5 _ rfl
          simp [Tryz.cells27, Tryz.cells2, Tryz.cells30] at g0 g1 g2 g3 g4 g5
          have ex1 : x1.1 = .agg (List.map (·.1) [y0, y1, y2, y3, y4, y5]) := by rw [hxy']
          rw [ex1] at hb1
          have hb5 : Rows.uptoBulk y5.1 ≤ 1048576 := by
            have h8 := bulk_agg (List.map (·.1) [y0, y1, y2, y3, y4, y5])
            have h9 := bulk_mem (l := List.map (·.1) [y0, y1, y2, y3, y4, y5]) (d := y5.1) (by simp)
            omega
          have e0 := hcell 0 (by omega)
          have e1 := hcell 1 (by omega)
          have e2 := hcell 2 (by omega)
          have e3 := hcell 3 (by omega)
          have e4 := hcell 4 (by omega)
          have e5 := hcell 5 (by omega)
          have e6 := hcell 6 (by omega)
          rw [add_add'] at e0 e1 e2 e3 e4 e5 e6
          obtain ⟨zn, rn, _, wn⟩ := DataW.trod_int Tryz.underlying2 gn
          obtain ⟨z0, r0, _, w0⟩ := DataW.trod_int Tryz.underlying27 g0
          obtain ⟨z1, r1, _, w1⟩ := DataW.trod_int Tryz.underlying2 g1
          obtain ⟨z2, r2, _, w2⟩ := DataW.trod_int Tryz.underlying2 g2
          obtain ⟨z3, r3, _, w3⟩ := DataW.trod_int Tryz.underlying2 g3
          obtain ⟨z4, r4, _, w4⟩ := DataW.trod_int Tryz.underlying2 g4
          simp at rn r0 r1 r2 r3 r4
          have b0 := bounds_i64 w0
          have b1 := bounds_i64 w1
          have b2 := bounds_i64 w2
          have b3 := bounds_i64 w3
          have b4 := bounds_i64 w4
          obtain ⟨xs', k'', hk'', hxy'', _, hxl'', hfd''⟩ := DataW.trod_struct Tryz.underlying30 g5
          match xs', hxl'' with
          | [u0], _ =>
            have q0 := hfd'' 0 _ rfl
            try simp [Tryz.cells28] at q0
            have e5' : y5.1 = .agg (List.map (·.1) [u0]) := by rw [hxy'']
            rw [e5'] at hb5
            have hb0 : Rows.uptoBulk u0.1 ≤ 1048576 := by
              have h8 := bulk_agg (List.map (·.1) [u0])
              have h9 := bulk_mem (l := List.map (·.1) [u0]) (d := u0.1) (by simp)
              omega
            obtain ⟨A, av, nn, c, rfl, h3, h4, h5⟩ := open_opsU q0 hb0
            subst rn r0 r1 r2 r3 r4
            exact ⟨((zn, ⟨z0, z1, z2, z3, z4, A⟩), av, nn, c), by simpa using e0, by simpa using e1, by simpa using e2, by simpa using e3, by simpa using e4, by simpa using e5, by simpa using e6, h5, ⟨b0.1, b0.2, b1.1, b1.2, b2.1, b2.2, b3.1, b3.2, b4.1, b4.2⟩⟩
    obtain ⟨q, hq⟩ := choose_lt each
    refine ⟨(List.range len).map fun i => (q i).1, ⟨some a, m, by simp, fun j hj => ?_⟩, fun e he => ?_, by simp; omega⟩
    · simp at hj
      obtain ⟨h0, h1, h2, h3, h4, h5, h6, h7, h8⟩ := hq j hj
      obtain ⟨b, off, spot⟩ := a
      have hz := (hq 0 (by omega)).1
      have hspot : spot = none := by simpa [Addr.add] using World.cell?_spot hz
      subst hspot
      rw [addr_add] at h0 h1 h2 h3 h4 h5 h6
      rw [← Nat.add_assoc] at h1 h2 h3 h4 h5 h6
      simp only [List.getElem_map, List.getElem_range]
      exact ⟨b, off, (q j).2.1, (q j).2.2.1, (q j).2.2.2, rfl, ⟨h0, h1, h2, h3, h4, h5, h6⟩, h7⟩
    · obtain ⟨i, hi, rfl⟩ := List.mem_map.1 he
      exact (hq i (List.mem_range.1 hi)).2.2.2.2.2.2.2.2
end
end Go.Proofs.YtadhfejefpildaaGreat
