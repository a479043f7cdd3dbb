/-
  Arguments opened: calls, two results (first form).
-/
import Derived.Test.YtfocmbnhkldnfaaGreatDoorOb
namespace Go.Proofs.YtfocmbnhkldnfaaGreatDoor
open Go.ChangeShapes Go.WideShapes Go.ChangeAt Go.RowKit Go.Joins Go.Deep Disk
open Names (Str)

theorem bytesF5 : Tryz.prog.bytesOf 5 = 1 := by kernel_rfl
theorem bytesF71 : Tryz.prog.bytesOf 71 = 136 := by kernel_rfl
section
variable {H : Type} {enc : TypeId × Value → H} {W : World}
theorem fits_array {t e : TypeId} {n : Nat} {parts : List (DataW H)} (hu : Tryz.prog.underlying t = some (.array n e)) (h : Fits t (.agg parts)) {d : DataW H} (hd : d ∈ parts) : Fits e d := fun m hm => by
  refine h m ?_
  simp only [DataW.weights, hu]
  exact all_memF hd m hm
/-- Bytes that came in. -/
theorem open_bytesF {fuel : Nat} {v : Value} {x : DataW H × List MemPlace} (h : DataW.trod enc Tryz.prog W 0 (fun _ => true) true fuel 29 [v] = some x) (hb : Fits 29 x.1) :
    ∃ L : List UInt8, Seg W v L ∧ L.length ≤ 140737488351232 := by
  rcases open_ints Tryz.underlying29 Tryz.underlying5 Tryz.cells5' h with ⟨hcs, hx⟩ | ⟨a, len, cap, zs, hcs, _, hl, hm, hz, hx, hcell, hwz⟩
  · simp at hcs
    subst hcs
    exact ⟨[], seg_nil W, by simp⟩
  · simp at hcs hz
    subst hcs
    have hlen : ((zs.take len).map fun n => UInt8.ofNat n.toNat).length = len := by simp; omega
    refine ⟨(zs.take len).map fun n => UInt8.ofNat n.toNat, ⟨some a, cap, by rw [hlen], by rw [hlen]; exact hl, hm, by simp, fun j hj => ?_⟩, ?_⟩
    · rw [hlen] at hj
      have hc := hcell j (by omega)
      have h0 := hcell 0 (by omega)
      obtain ⟨b, off, spot⟩ := a
      have hspot : spot = none := by simpa [Addr.add] using World.cell?_spot h0
      subst hspot
      refine ⟨b, off, rfl, ?_⟩
      rw [addr_add] at hc
      rw [hc]
      have hjz : j < zs.length := by omega
      have hb := bounds_u8 (hwz (zs[j]) (List.getElem_mem hjz))
      simp [List.getD, hjz]
      omega
    · rw [hx] at hb
      obtain ⟨hsz, _⟩ := fits_slice Tryz.underlying29 hb
      rw [bytesF5] at hsz
      rw [hlen]
      simp [lits] at hsz
      omega

set_option maxRecDepth 100000 in
set_option maxHeartbeats 1000000 in
/-- A list of ops that came in. -/
theorem open_opsF {fuel : Nat} {v : Value} {x : DataW H × List MemPlace} (h : DataW.trod enc Tryz.prog W 0 (fun _ => true) true fuel 22 [v] = some x) (hb : Fits 22 x.1) :
    ∃ A : List POp, Ops W v A ∧ Fit A := by
  rcases open_slice Tryz.underlying22 h with ⟨hcs, hx⟩ | ⟨a, len, cap, m, n, D, Pl, hcs, _, hl, hm, hmm, hx, hel⟩
  · simp at hcs
    subst hcs
    exact ⟨[], ⟨none, 0, rfl, by simp, fun j hj => absurd hj (by simp)⟩, by simp [Fit]⟩
  · simp at hcs hmm
    subst hcs
    subst hmm
    rw [hx] at hb
    obtain ⟨hsz, hfe⟩ := fits_slice Tryz.underlying22 hb
    have hlen : len ≤ 1034834473200 := by
      rw [bytesF71] at hsz
      simp at hsz
      omega
    have each : ∀ i, i < len → ∃ q : POp × Value × Value × Value × Value, W.cell? (a.add (i * 8)) = some (.int .i64 q.1.kind) ∧ W.cell? (a.add (i * 8 + 1)) = some (Str q.1.table) ∧ W.cell? (a.add (i * 8 + 2)) = some q.2.1 ∧ W.cell? (a.add (i * 8 + 3)) = some q.2.2.1 ∧ W.cell? (a.add (i * 8 + 4)) = some (.bool q.1.has) ∧ W.cell? (a.add (i * 8 + 5)) = some q.2.2.2.1 ∧ W.cell? (a.add (i * 8 + 6)) = some q.2.2.2.2 ∧ W.cell? (a.add (i * 8 + 7)) = some (.int .i64 q.1.most) ∧ OpSeg W q.2.1 q.2.2.1 q.2.2.2.1 q.2.2.2.2 q.1 ∧ (q.1.key.length ≤ 140737488351232 ∧ q.1.value.length ≤ 140737488351232 ∧ q.1.old.length ≤ 140737488351232 ∧ q.1.to.length ≤ 140737488351232) := by
      intro i hi
      obtain ⟨cs', h1, h2⟩ := hel i (by omega)
      rw [Tryz.cells71] at h1
      obtain ⟨_, hlen', hcell⟩ := World.cells?_some h1
      obtain ⟨xs, k, hk, hxy, _, hxl, hfd⟩ := DataW.trod_struct Tryz.underlying71 h2
      have hbi := hfe (D i) (List.mem_map.2 ⟨i, List.mem_range.2 hi, rfl⟩)
      match xs, hxl, cs', hlen' with
      | [y0, y1, y2, y3, y4, y5, y6, y7], _, [v0, v1, v2, v3, v4, v5, v6, v7], _ =>
        have g0 := hfd 0 _ rfl
        have g1 := hfd 1 _ rfl
        have g2 := hfd 2 _ rfl
        have g3 := hfd 3 _ rfl
        have g4 := hfd 4 _ rfl
        have g5 := hfd 5 _ rfl
        have g6 := hfd 6 _ rfl
        have g7 := hfd 7 _ rfl
        simp [Tryz.cells3, Tryz.cells4, Tryz.cells9, Tryz.cells29, Tryz.cells69] at g0 g1 g2 g3 g4 g5 g6 g7
        have e0 := hcell 0 (by omega)
        have e1 := hcell 1 (by omega)
        have e2 := hcell 2 (by omega)
        have e3 := hcell 3 (by omega)
        have e4 := hcell 4 (by omega)
        have e5 := hcell 5 (by omega)
        have e6 := hcell 6 (by omega)
        have e7 := hcell 7 (by omega)
        rw [add_add] at e0 e1 e2 e3 e4 e5 e6 e7
        simp only [Prod.mk.injEq] at hxy
        rw [hxy.1] at hbi
        obtain ⟨z0, r0, _, w0⟩ := DataW.trod_int Tryz.underlying69 g0
        obtain ⟨z7, r7, _, w7⟩ := DataW.trod_int Tryz.underlying3 g7
        obtain ⟨⟨⟨tl⟩⟩, r1, _, w1⟩ := DataW.trod_string Tryz.underlying9 g1
        obtain ⟨bo, r4, _⟩ := DataW.trod_bool Tryz.underlying4 g4
        simp at r0 r7 r1 r4
        have b0 := bounds_i64 w0
        have b7 := bounds_i64 w7
        obtain ⟨M2, hM2, l2⟩ := open_bytesF g2 (fits_field Tryz.underlying71 hbi (j := 2) rfl rfl)
        obtain ⟨M3, hM3, l3⟩ := open_bytesF g3 (fits_field Tryz.underlying71 hbi (j := 3) rfl rfl)
        obtain ⟨M5, hM5, l5⟩ := open_bytesF g5 (fits_field Tryz.underlying71 hbi (j := 5) rfl rfl)
        obtain ⟨M6, hM6, l6⟩ := open_bytesF g6 (fits_field Tryz.underlying71 hbi (j := 6) rfl rfl)
        subst r0 r7 r1 r4
        refine ⟨(⟨z0, tl, M2, M3, bo, M5, M6, z7⟩, v2, v3, v5, v6), by simpa using e0, by simpa [Str] using e1, by simpa using e2, by simpa using e3, by simpa using e4, by simpa using e5, by simpa using e6, by simpa using e7, ⟨hM2, hM3, hM5, hM6, ⟨b0.1, b0.2, b7.1, b7.2, ?_⟩⟩, by simp only; omega, by simp only; omega, by simp only; omega, by simp only; omega⟩
        have : tl.length ≤ maxLen := w1
        unfold maxLen at this
        simp only
        omega
    obtain ⟨q, hq⟩ := choose_lt each
    refine ⟨(List.range len).map fun i => (q i).1, ⟨some a, m, by simp, by simp; omega, fun j hj => ?_⟩, by simp; omega, fun o ho => ?_⟩
    · simp at hj
      obtain ⟨h0, h1, h2, h3, h4, h5, h6, h7, h8, _⟩ := hq j hj
      obtain ⟨b, off, spot⟩ := a
      have hz := (hq 0 (by omega)).1
      have hspot : spot = none := by simpa [Addr.add] using World.cell?_spot hz
      subst hspot
      rw [addr_add] at h0 h1 h2 h3 h4 h5 h6 h7
      rw [← Nat.add_assoc] at h1 h2 h3 h4 h5 h6 h7
      refine ⟨b, off, (q j).2.1, (q j).2.2.1, (q j).2.2.2.1, (q j).2.2.2.2, rfl, ?_, ?_⟩
      · simp only [List.getElem_map, List.getElem_range]
        exact ⟨h0, h1, h2, h3, h4, h5, h6, h7⟩
      · simp only [List.getElem_map, List.getElem_range]
        exact h8
    · obtain ⟨i, hi, rfl⟩ := List.mem_map.1 ho
      obtain ⟨_, _, _, _, _, _, _, _, _, h9⟩ := hq i (List.mem_range.1 hi)
      exact ⟨by omega, by omega, by omega, by omega⟩

set_option maxRecDepth 100000 in
/-- A call that came in. -/
theorem open_callF {r : Reach} {b0 : Nat} {v : Value} {d : DataW H} {p : List MemPlace} (hv : Value.okWide Tryz.prog W r b0 24 v) (h : DataW.Trod enc Tryz.prog W 0 (fun _ => true) true 24 v d p) (hb : Fits 24 d) :
    ∃ (a : Value) (A : List POp), v = .agg #[a] ∧ Ops W a A ∧ Fit A := by
  obtain ⟨cs, rfl, hsz⟩ := okWide_struct Tryz.underlying24 hv
  rw [Tryz.cells24] at hsz
  obtain ⟨l⟩ := cs
  match l, hsz with
  | [v0], _ =>
    obtain ⟨fuel, hf⟩ := h
    obtain ⟨xs, k, hk, hxy, _, hxl, hfd⟩ := DataW.trod_struct Tryz.underlying24 hf
    match xs, hxl with
    | [y0], _ =>
      have g0 := hfd 0 _ rfl
      simp [Value.cells, Tryz.cells22] at g0
      simp only [Prod.mk.injEq] at hxy
      rw [hxy.1] at hb
      obtain ⟨A, h1, h2⟩ := open_opsF g0 (fits_field Tryz.underlying24 hb (j := 0) rfl rfl)
      exact ⟨v0, A, rfl, h1, h2⟩

set_option maxRecDepth 100000 in
/-- Two results that came in. -/
theorem open_res2F {r : Reach} {b0 : Nat} {v : Value} {d : DataW H} {p : List MemPlace} (hv : Value.okWide Tryz.prog W r b0 66 v) (h : DataW.Trod enc Tryz.prog W 0 (fun _ => true) true 66 v d p) (hb : Fits 66 d) :
    ∃ (r1 r2 : Value) (R1 R2 : PRes), v = .agg #[.int .i64 R1.abort, .int .i64 R1.place, r1, .int .i64 R2.abort, .int .i64 R2.place, r2] ∧ Outs W r1 R1.outs ∧ Outs W r2 R2.outs := by
  have hv2 : ∃ cs, v = .agg cs ∧ cs.size = Tryz.prog.cellsOf 66 := by
    simp only [Value.okWide, Tryz.underlying66] at hv
    obtain ⟨cs, h1, h2, _⟩ := hv
    exact ⟨cs, h1, h2⟩
  obtain ⟨cs, rfl, hsz⟩ := hv2
  rw [Tryz.cells66] at hsz
  obtain ⟨l⟩ := cs
  match l, hsz with
  | [v0, v1, v2, v3, v4, v5], _ =>
    obtain ⟨fuel, hf⟩ := h
    obtain ⟨xs, n, _, hx, _, hlen, hel⟩ := DataW.trod_array Tryz.underlying66 hf
    match xs, hlen with
    | [y0, y1], _ =>
      have g0 := hel 0 (by omega)
      have g1 := hel 1 (by omega)
      simp [Value.cells, Tryz.cells51] at g0 g1
      simp only [Prod.mk.injEq] at hx
      have hd : d = .agg [y0.1, y1.1] := by simpa using hx.1
      rw [hd] at hb
      have hb0 : Fits 51 y0.1 := fits_array Tryz.underlying66 hb (d := y0.1) (by simp)
      have hb1 : Fits 51 y1.1 := fits_array Tryz.underlying66 hb (d := y1.1) (by simp)
      have one : ∀ {k : Nat} {a b c : Value} {y : DataW H × List MemPlace}, DataW.trod enc Tryz.prog W 0 (fun _ => true) true k 51 [a, b, c] = some y → Fits 51 y.1 → ∃ R : PRes, a = .int .i64 R.abort ∧ b = .int .i64 R.place ∧ Outs W c R.outs := by
        intro k a b c y hy hby
        obtain ⟨xs, k, hk, hxy, _, hxl, hfd⟩ := DataW.trod_struct Tryz.underlying51 hy
        match xs, hxl with
        | [z0, z1, z2], _ =>
          have f0 := hfd 0 _ rfl
          have f1 := hfd 1 _ rfl
          have f2 := hfd 2 _ rfl
          simp [Tryz.cells48, Tryz.cells3, Tryz.cells49] at f0 f1 f2
          have hxy1 : y.1 = .agg (List.map (·.1) [z0, z1, z2]) := by rw [hxy]
          rw [hxy1] at hby
          obtain ⟨i0, r0, _, _⟩ := DataW.trod_int Tryz.underlying48 f0
          obtain ⟨i1, r1, _, _⟩ := DataW.trod_int Tryz.underlying3 f1
          obtain ⟨O, hO⟩ := open_outsF f2 (fits_field Tryz.underlying51 hby (j := 2) rfl rfl)
          simp at r0 r1
          exact ⟨⟨i0, i1, O⟩, r0, r1, hO⟩
      obtain ⟨R1, rfl, rfl, h1⟩ := one g0 hb0
      obtain ⟨R2, rfl, rfl, h2⟩ := one g1 hb1
      exact ⟨v2, v5, R1, R2, rfl, h1, h2⟩
end
end Go.Proofs.YtfocmbnhkldnfaaGreatDoor
