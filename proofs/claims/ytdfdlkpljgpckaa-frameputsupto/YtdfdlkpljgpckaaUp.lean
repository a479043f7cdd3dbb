/-
  What the bound of the second form gives; a list of frames opened.
-/
import Derived.Test.YtdfdlkpljgpckaaF
import Derived.ProofKit
import Derived.OpenShut
import Derived.Lib.SmallJoins
import Derived.SizedLaws
import Derived.Deep.Slices
import Derived.Deep.SlicePairs
import Derived.JoinedCond
namespace Go.Proofs.Ytdfdlkpljgpckaa
open Go.ChangeShapes Go.WideShapes Go.ChangeAt Go.RowKit Go.Joins Go.Deep Disk

theorem Try.own : ownKnob Try.prog.godebug = none := by kernel_rfl
theorem Try.laidOut : laidOutB Try.prog = true := by kernel_rfl
theorem Try.cells3 : Try.prog.cellsOf 3 = 1 := by kernel_rfl
theorem Try.cells5 : Try.prog.cellsOf 5 = 1 := by kernel_rfl
theorem Try.cells22 : Try.prog.cellsOf 22 = 1 := by kernel_rfl
theorem Try.cells25 : Try.prog.cellsOf 25 = 2 := by kernel_rfl

theorem bulk_one {H : Type} (d : DataW H) : 1 ≤ Rows.uptoBulk d := by
  cases d with
  | lit l => cases l <;> simp [Rows.uptoBulk]
  | nil => simp [Rows.uptoBulk]
  | ptr d => simp [Rows.uptoBulk]
  | slice elems spare => simp [Rows.uptoBulk]
  | agg parts => simp [Rows.uptoBulk]
  | iface t d => simp [Rows.uptoBulk]
  | map entries => simp [Rows.uptoBulk]
  | held h => simp [Rows.uptoBulk]
theorem bulk_len {H : Type} : ∀ l : List (DataW H), l.length ≤ Rows.uptoBulkAll l
  | [] => by simp [Rows.uptoBulkAll]
  | d :: r => by have := bulk_one d; have := bulk_len r; simp only [Rows.uptoBulkAll, List.length_cons]; omega
theorem bulk_slice {H : Type} (elems spare : List (DataW H)) : Rows.uptoBulk (.slice elems spare) = Rows.uptoBulkAll elems + Rows.uptoBulkAll spare + 1 := by simp only [Rows.uptoBulk]
theorem bulk_bytes {H : Type} {d : DataW H} {L : List UInt8} (h : (d = .nil ∧ L = []) ∨ ∃ elems spare, d = .slice elems spare ∧ elems.length = L.length) : L.length ≤ Rows.uptoBulk d := by
  rcases h with ⟨_, rfl⟩ | ⟨elems, spare, rfl, he⟩
  · simp
  · have := bulk_len elems
    rw [bulk_slice]; omega
theorem bulk_app {H : Type} (l r : List (DataW H)) : Rows.uptoBulkAll (l ++ r) = Rows.uptoBulkAll l + Rows.uptoBulkAll r := by
  induction l with
  | nil => simp [Rows.uptoBulkAll]
  | cons x l ih => simp only [List.cons_append, Rows.uptoBulkAll, ih]; omega
theorem bulk_sum {H : Type} (D : Nat → DataW H) (f : Nat → Nat) : ∀ n, (∀ i, i < n → f i ≤ Rows.uptoBulk (D i)) → ((List.range n).map f).sum ≤ Rows.uptoBulkAll ((List.range n).map D)
  | 0, _ => by simp
  | n + 1, h => by
    have ih := bulk_sum D f n (fun i hi => h i (by omega))
    have hn := h n (by omega)
    rw [List.range_succ, List.map_append, List.map_append, bulk_app, List.sum_append]
    simp only [List.map_cons, List.map_nil, List.sum_cons, List.sum_nil, Rows.uptoBulkAll]
    omega
theorem bulk_small {H : Type} {l : List (DataW H)} (hk : Rows.uptoSmall H l = true) : Rows.uptoBulkAll l ≤ 1048576 := of_decide_eq_true hk

section
variable {H : Type} {enc : TypeId × Value → H} {W : World}

/-- Bytes that came in. -/
theorem open_bytes {fuel : Nat} {v : Value} {x : DataW H × List MemPlace} (h : DataW.trod enc Try.prog W 0 (fun _ => true) true fuel 22 [v] = some x) :
    ∃ L : List UInt8, Seg W v L ∧ ((x.1 = .nil ∧ L = []) ∨ ∃ elems spare, x.1 = .slice elems spare ∧ elems.length = L.length) := by
  rcases open_ints Try.underlying22 Try.underlying5 Try.cells5 h with ⟨hcs, hx⟩ | ⟨a, len, cap, zs, hcs, _, hl, hm, hz, hx, hcell, hwz⟩
  · simp at hcs
    subst hcs
    exact ⟨[], seg_nil W, .inl ⟨by rw [hx], rfl⟩⟩
  · simp at hcs hz
    subst hcs
    have hlen : ((zs.take len).map fun n => UInt8.ofNat n.toNat).length = len := by simp; omega
    refine ⟨(zs.take len).map fun n => UInt8.ofNat n.toNat, ⟨some a, cap, by rw [hlen], by rw [hlen]; exact hl, hm, by simp, fun j hj => ?_⟩, .inr ⟨_, _, by rw [hx], by simp [lits]⟩⟩
    rw [hlen] at hj
    have hc := hcell j (by omega)
    have h0 := hcell 0 (by omega)
    obtain ⟨b, off, spot⟩ := a
    have hspot : spot = none := by simpa [Addr.add] using World.cell?_spot h0
    subst hspot
    refine ⟨b, off, rfl, ?_⟩
    have e : (⟨b, off, none⟩ : Addr).add j = ⟨b, off + j, none⟩ := by
      unfold Addr.add; by_cases hz : j = 0
      · subst hz; simp
      · simp [hz]
    rw [e] at hc
    rw [hc]
    have hjz : j < zs.length := by omega
    have hb := bounds_u8 (hwz (zs[j]) (List.getElem_mem hjz))
    simp [List.getD, hjz]
    omega

/-- A list of frames that came in. -/
theorem open_frames {fuel : Nat} {v : Value} {x : DataW H × List MemPlace} (h : DataW.trod enc Try.prog W 0 (fun _ => true) true fuel 23 [v] = some x) (hs : Rows.uptoBulk x.1 ≤ 1048576) :
    ∃ l : Frs, FSeg W v l ∧ l.length + (l.map fun f => f.2.length).sum ≤ 1048576 := by
  rcases open_slice Try.underlying23 h with ⟨hcs, hx⟩ | ⟨a, len, cap, m, n, D, Pl, hcs, _, hl, hm, hmm, hx, hel⟩
  · simp at hcs
    subst hcs
    exact ⟨[], ⟨none, 0, rfl, by simp, fun j hj => absurd hj (by simp)⟩, by simp⟩
  · simp at hcs hmm
    subst hcs
    subst hmm
    have each : ∀ i, i < len → ∃ q : (Int × List UInt8) × Value, W.cell? (a.add (i * 2)) = some (.int .i64 q.1.1) ∧ W.cell? (a.add (i * 2 + 1)) = some q.2 ∧ Seg W q.2 q.1.2 ∧ 1 + q.1.2.length ≤ Rows.uptoBulk (D i) := by
      intro i hi
      obtain ⟨cs', h1, h2⟩ := hel i (by omega)
      rw [Try.cells25] at h1
      obtain ⟨_, hlen, hcell⟩ := World.cells?_some h1
      obtain ⟨xs, k, hk, hxy, _, hxl, hfd⟩ := DataW.trod_struct Try.underlying25 h2
      match xs, hxl, cs', hlen with
      | [y0, y1], _, [v0, v1], _ =>
        have g0 := hfd 0 _ rfl
        have g1 := hfd 1 _ rfl
        simp [Try.cells3, Try.cells22] at g0 g1
        have e0 := hcell 0 (by omega)
        have e1 := hcell 1 (by omega)
        rw [add_add] at e0 e1
        simp only [Prod.mk.injEq] at hxy
        obtain ⟨z0, r0, _, w0⟩ := DataW.trod_int Try.underlying3 g0
        simp at r0
        obtain ⟨M, hM, hMl⟩ := open_bytes g1
        have hb := bulk_bytes hMl
        subst r0
        refine ⟨((z0, M), v1), by simpa using e0, by simpa using e1, hM, ?_⟩
        rw [hxy.1]
        simp only [Rows.uptoBulk, Rows.uptoBulkAll, List.map_cons, List.map_nil]
        omega
    obtain ⟨q, hq⟩ := choose_lt each
    have hsum := bulk_sum D (fun i => 1 + (q i).1.2.length) len (fun i hi => (hq i hi).2.2.2)
    rw [hx] at hs
    simp only [bulk_slice] at hs
    have hgen : ∀ n, ((List.range n).map fun i => 1 + (q i).1.2.length).sum = n + (((List.range n).map fun i => (q i).1).map fun f => f.2.length).sum := by
      intro n
      induction n with
      | zero => simp
      | succ n ih =>
        rw [List.range_succ, List.map_append, List.map_append, List.map_append, List.sum_append, List.sum_append, ih]
        simp
        omega
    have hg := hgen len
    refine ⟨(List.range len).map fun i => (q i).1, ⟨some a, m, by simp, ?_, fun j hj => ?_⟩, ?_⟩
    · simp
      omega
    · simp at hj
      obtain ⟨h0, h1, h2, h3⟩ := hq j hj
      obtain ⟨b, off, spot⟩ := a
      have hz := (hq 0 (by omega)).1
      have hspot : spot = none := by simpa [Addr.add] using World.cell?_spot hz
      subst hspot
      rw [add_plain] at h0 h1
      rw [← Nat.add_assoc] at h1
      refine ⟨b, off, (q j).2, rfl, ?_⟩
      simp
      exact ⟨h0, h1, h2⟩
    · rw [List.length_map, List.length_range]
      omega
end
end Go.Proofs.Ytdfdlkpljgpckaa
