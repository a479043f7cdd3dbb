/-
  Arguments opened: bytes, five slices of bytes, with the form's own reach.
-/
import Derived.Test.YtahpkgglkibikaaDiskA
import Derived.ProofKit
import Derived.OpenShut
import Derived.Lib.SmallJoins
import Derived.SizedLaws
import Derived.Deep.Slices
import Derived.Deep.SlicePairs
import Derived.JoinedCond
namespace Go.Proofs.Ytahpkgglkibikaa
open Go.ChangeShapes Go.WideShapes Go.ChangeAt Go.RowKit Go.Joins Go.Deep Disk

theorem Try.own : ownKnob Try.prog.godebug = none := by kernel_rfl
theorem Try.laidOut : laidOutB Try.prog = true := by kernel_rfl
theorem Try.cells5 : Try.prog.cellsOf 5 = 1 := by kernel_rfl
theorem Try.cells22 : Try.prog.cellsOf 22 = 1 := by kernel_rfl
theorem Try.cells37 : Try.prog.cellsOf 37 = 5 := by kernel_rfl
theorem Try.bytes5 : Try.prog.bytesOf 5 = 1 := by kernel_rfl

theorem bulk_one {H : Type} (d : DataW H) : 1 ≤ Rows.uptoBulk d := by
  cases d with
  | lit l => cases l <;> simp [Rows.uptoBulk]
  | nil => simp [Rows.uptoBulk]
  | ptr d => simp [Rows.uptoBulk]
  | slice elems spare => simp [Rows.uptoBulk]
  | agg parts => simp [Rows.uptoBulk]
  | iface t d => simp [Rows.uptoBulk]
  | map entries => simp [Rows.uptoBulk]
  | held h => simp [Rows.uptoBulk]
theorem bulk_len {H : Type} : ∀ l : List (DataW H), l.length ≤ Rows.uptoBulkAll l
  | [] => by simp [Rows.uptoBulkAll]
  | d :: r => by have := bulk_one d; have := bulk_len r; simp only [Rows.uptoBulkAll, List.length_cons]; omega
theorem bulk_slice {H : Type} (elems spare : List (DataW H)) : Rows.uptoBulk (.slice elems spare) = Rows.uptoBulkAll elems + Rows.uptoBulkAll spare + 1 := by simp only [Rows.uptoBulk]
theorem bulk_bytes {H : Type} {d : DataW H} {L : List UInt8} (h : (d = .nil ∧ L = []) ∨ ∃ elems spare, d = .slice elems spare ∧ elems.length = L.length) : L.length ≤ Rows.uptoBulk d := by
  rcases h with ⟨_, rfl⟩ | ⟨elems, spare, rfl, he⟩
  · simp
  · have := bulk_len elems
    rw [bulk_slice]; omega
theorem bulk_small {H : Type} {l : List (DataW H)} (hk : Rows.uptoSmall H l = true) : Rows.uptoBulkAll l ≤ 1048576 := of_decide_eq_true hk

section
variable {H : Type} {enc : TypeId × Value → H} {W : World}

/-- Within the form's reach. -/
def Fits (t : TypeId) (d : DataW H) : Prop := ∀ n ∈ d.weights Try.prog t, n ≤ 140737488351232

theorem all_mem {e : TypeId} : ∀ {l : List (DataW H)} {d : DataW H}, d ∈ l → ∀ n ∈ d.weights Try.prog e, n ∈ DataW.weightsAll Try.prog e l
  | x :: r, d, hd, n, hn => by
    simp only [DataW.weightsAll, List.mem_append]
    rcases List.mem_cons.1 hd with rfl | h
    · exact .inl hn
    · exact .inr (all_mem h n hn)

theorem fits_of {ts : List TypeId} {ds : List (DataW H)} (h : (DataW.weightsEach Try.prog ts ds).all (· ≤ reachBytes) = true) {j : Nat} {t : TypeId} {d : DataW H} (ht : ts[j]? = some t) (hd : ds[j]? = some d) : Fits t d := fun n hn => by
  have h2 : n ≤ reachBytes := of_decide_eq_true (List.all_eq_true.1 h n (DataW.weights_mem_each ht hd n hn))
  simp only [reachBytes] at h2
  omega

theorem fits_array {t e : TypeId} {n : Nat} {parts : List (DataW H)} (hu : Try.prog.underlying t = some (.array n e)) (h : Fits t (.agg parts)) {d : DataW H} (hd : d ∈ parts) : Fits e d := fun m hm => by
  refine h m ?_
  simp only [DataW.weights, hu]
  exact all_mem hd m hm

theorem fits_slice {t e : TypeId} {elems spare : List (DataW H)} (hu : Try.prog.underlying t = some (.slice e)) (h : Fits t (.slice elems spare)) : (elems.length + spare.length) * Try.prog.bytesOf e ≤ 140737488351232 ∧ ∀ d ∈ elems, Fits e d := by
  refine ⟨h _ ?_, fun d hd n hn => h n ?_⟩
  · simp only [DataW.weights, hu]
    exact List.mem_cons_self
  · simp only [DataW.weights, hu]
    exact List.mem_cons_of_mem _ (List.mem_append_left _ (all_mem hd n hn))

/-- Bytes that came in. -/
theorem open_bytes {fuel : Nat} {v : Value} {x : DataW H × List MemPlace} (h : DataW.trod enc Try.prog W 0 (fun _ => true) true fuel 22 [v] = some x) :
    ∃ L : List UInt8, Seg W v L ∧ (Fits 22 x.1 → L.length ≤ 140737488351232) ∧ L.length ≤ Rows.uptoBulk x.1 := by
  rcases open_ints Try.underlying22 Try.underlying5 Try.cells5 h with ⟨hcs, hx⟩ | ⟨a, len, cap, zs, hcs, _, hl, hm, hz, hx, hcell, hwz⟩
  · simp at hcs
    subst hcs
    exact ⟨[], seg_nil W, by simp, by simp⟩
  · simp at hcs hz
    subst hcs
    have hlen : ((zs.take len).map fun n => UInt8.ofNat n.toNat).length = len := by simp; omega
    refine ⟨(zs.take len).map fun n => UInt8.ofNat n.toNat, ⟨some a, cap, by rw [hlen], by rw [hlen]; exact hl, hm, by simp, fun j hj => ?_⟩, fun hf => ?_, ?_⟩
    · rw [hlen] at hj
      have hc := hcell j (by omega)
      have h0 := hcell 0 (by omega)
      obtain ⟨b, off, spot⟩ := a
      have hspot : spot = none := by simpa [Addr.add] using World.cell?_spot h0
      subst hspot
      refine ⟨b, off, rfl, ?_⟩
      have e : (⟨b, off, none⟩ : Addr).add j = ⟨b, off + j, none⟩ := by
        unfold Addr.add; by_cases hz : j = 0
        · subst hz; simp
        · simp [hz]
      rw [e] at hc
      rw [hc]
      have hjz : j < zs.length := by omega
      have hb := bounds_u8 (hwz (zs[j]) (List.getElem_mem hjz))
      simp [List.getD, hjz]
      omega
    · rw [hx] at hf
      have h2 := (fits_slice Try.underlying22 hf).1
      rw [Try.bytes5] at h2
      simp [lits] at h2 ⊢
      omega
    · refine bulk_bytes (.inr ⟨_, _, by rw [hx], ?_⟩)
      simp [lits]

/-- Five slices of bytes that came in. -/
theorem open_five {r : Reach} {b0 : Nat} {v : Value} {d : DataW H} {p : List MemPlace} (hv : Value.okWide Try.prog W r b0 37 v) (h : DataW.Trod enc Try.prog W 0 (fun _ => true) true 37 v d p) (hft : Fits 37 d) :
    ∃ (v0 v1 v2 v3 v4 : Value) (L0 L1 L2 L3 L4 : List UInt8), v = .agg #[v0, v1, v2, v3, v4] ∧ (Seg W v0 L0 ∧ Seg W v1 L1 ∧ Seg W v2 L2 ∧ Seg W v3 L3 ∧ Seg W v4 L4) ∧
      L0.length ≤ 140737488351232 ∧ L1.length ≤ 140737488351232 ∧ L2.length ≤ 140737488351232 ∧ L3.length ≤ 140737488351232 ∧ L4.length ≤ 140737488351232 := by
  have hv2 : ∃ cs, v = .agg cs ∧ cs.size = Try.prog.cellsOf 37 := by
    simp only [Value.okWide, Try.underlying37] at hv
    obtain ⟨cs, h1, h2, _⟩ := hv
    exact ⟨cs, h1, h2⟩
  obtain ⟨cs, rfl, hsz⟩ := hv2
  rw [Try.cells37] at hsz
  obtain ⟨l⟩ := cs
  match l, hsz with
  | [v0, v1, v2, v3, v4], _ =>
    obtain ⟨fuel, hf⟩ := h
    obtain ⟨xs, n, _, hx, _, hlen, hel⟩ := DataW.trod_array Try.underlying37 hf
    match xs, hlen with
    | [y0, y1, y2, y3, y4], _ =>
      have g0 := hel 0 (by omega)
      have g1 := hel 1 (by omega)
      have g2 := hel 2 (by omega)
      have g3 := hel 3 (by omega)
      have g4 := hel 4 (by omega)
      simp [Value.cells, Try.cells22] at g0 g1 g2 g3 g4
      simp only [Prod.mk.injEq] at hx
      have hd : d = .agg [y0.1, y1.1, y2.1, y3.1, y4.1] := by simpa using hx.1
      rw [hd] at hft
      obtain ⟨L0, a0, b0, _⟩ := open_bytes g0
      obtain ⟨L1, a1, b1, _⟩ := open_bytes g1
      obtain ⟨L2, a2, b2, _⟩ := open_bytes g2
      obtain ⟨L3, a3, b3, _⟩ := open_bytes g3
      obtain ⟨L4, a4, b4, _⟩ := open_bytes g4
      exact ⟨v0, v1, v2, v3, v4, L0, L1, L2, L3, L4, rfl, ⟨a0, a1, a2, a3, a4⟩, b0 (fits_array Try.underlying37 hft (by simp)), b1 (fits_array Try.underlying37 hft (by simp)), b2 (fits_array Try.underlying37 hft (by simp)), b3 (fits_array Try.underlying37 hft (by simp)), b4 (fits_array Try.underlying37 hft (by simp))⟩
end
end Go.Proofs.Ytahpkgglkibikaa
