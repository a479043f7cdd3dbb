/-
  Arguments opened: bytes that came in, and the struct of what is written, as the walks want them.
-/
import Derived.Test.YtneppkbbnajpnaaW
import Derived.ProofKit
import Derived.OpenShut
import Derived.Lib.SmallJoins
namespace Go.Proofs.Ytneppkbbnajpnaa
open Go.ChangeShapes Go.WideShapes Go.ChangeAt Go.RowKit Go.Joins

theorem Try.own : ownKnob Try.prog.godebug = none := by kernel_rfl
theorem Try.laidOut : laidOutB Try.prog = true := by kernel_rfl
theorem Try.cells25 : Try.prog.cellsOf 25 = 4 := by kernel_rfl
theorem Try.cells5 : Try.prog.cellsOf 5 = 1 := by kernel_rfl
theorem Try.bytes5 : Try.prog.bytesOf 5 = 1 := by kernel_rfl

section
variable {H : Type} {enc : TypeId × Value → H} {W : World}

/-- Bytes that came in. -/
theorem open_bytes {fuel : Nat} {v : Value} {x : DataW H × List MemPlace} (h : DataW.trod enc Try.prog W 0 (fun _ => true) true fuel 23 [v] = some x) :
    ∃ L : List UInt8, Seg W v L ∧ ((x.1 = .nil ∧ L = []) ∨ ∃ elems spare, x.1 = .slice elems spare ∧ elems.length = L.length) := by
  rcases open_ints Try.underlying23 Try.underlying5 Try.cells5 h with ⟨hcs, hx⟩ | ⟨a, len, cap, zs, hcs, _, hl, hm, hz, hx, hcell, hwz⟩
  · simp at hcs
    subst hcs
    exact ⟨[], seg_nil W, .inl ⟨by rw [hx], rfl⟩⟩
  · simp at hcs hz
    subst hcs
    have hlen : ((zs.take len).map fun n => UInt8.ofNat n.toNat).length = len := by simp; omega
    refine ⟨(zs.take len).map fun n => UInt8.ofNat n.toNat, ⟨some a, cap, by rw [hlen], by rw [hlen]; exact hl, hm, by simp, fun j hj => ?_⟩, .inr ⟨_, _, by rw [hx], by simp [lits]⟩⟩
    rw [hlen] at hj
    have hc := hcell j (by omega)
    have h0 := hcell 0 (by omega)
    obtain ⟨b, off, spot⟩ := a
    have hspot : spot = none := by simpa [Addr.add] using World.cell?_spot h0
    subst hspot
    refine ⟨b, off, rfl, ?_⟩
    have e : (⟨b, off, none⟩ : Addr).add j = ⟨b, off + j, none⟩ := by
      unfold Addr.add; by_cases hz : j = 0
      · subst hz; simp
      · simp [hz]
    rw [e] at hc
    rw [hc]
    have hjz : j < zs.length := by omega
    have hb := bounds_u8 (hwz (zs[j]) (List.getElem_mem hjz))
    simp [List.getD, hjz]
    omega

set_option maxRecDepth 100000 in
/-- The struct of what is written. -/
theorem open_things {r : Reach} {b0 : Nat} {v : Value} {d : DataW H} {p : List MemPlace} (hv : Value.okWide Try.prog W r b0 25 v) (h : DataW.Trod enc Try.prog W 0 (fun _ => true) true 25 v d p) :
    ∃ (N : Nat) (S : Int) (F : Bool) (tb : Value) (T : List UInt8) (dT : DataW H), v = .agg #[.int .u64 N, .int .i64 S, .bool F, tb] ∧ N < 2 ^ 64 ∧ -9223372036854775808 ≤ S ∧ S ≤ 9223372036854775807 ∧ Seg W tb T ∧
      d = .agg [.lit (.int .u64 N), .lit (.int .i64 S), .lit (.bool F), dT] ∧ ((dT = .nil ∧ T = []) ∨ ∃ elems spare, dT = .slice elems spare ∧ elems.length = T.length) := by
  obtain ⟨v0, v1, v2, v3, y0, y1, y2, y3, n, rfl, rfl, rfl, h0, h1, h2, h3⟩ := open_agg4 Try.underlying25 (by kernel_rfl) Try.cells25 hv h
  obtain ⟨x0, e0, rfl, w0⟩ := DataW.trod_int Try.underlying22 h0
  obtain ⟨x1, e1, rfl, w1⟩ := DataW.trod_int Try.underlying2 h1
  obtain ⟨x2, e2, rfl⟩ := DataW.trod_bool Try.underlying4 h2
  simp at e0 e1 e2
  subst e0 e1 e2
  obtain ⟨T, hT, hd⟩ := open_bytes h3
  have b0 := bounds_u64 w0
  have b1 := bounds_i64 w1
  refine ⟨x0.toNat, x1, x2, v3, T, y3.1, ?_, by omega, b1.1, b1.2, hT, ?_, hd⟩
  · rw [Int.toNat_of_nonneg b0.1]
  · rw [Int.toNat_of_nonneg b0.1]

/-- The form's own reach, at bytes and at the struct. -/
theorem sized_bytes {ts : List TypeId} {ds : List (DataW H)} {j : Nat} {d : DataW H} {L : List UInt8} (h : (DataW.weightsEach Try.prog ts ds).all (· ≤ reachBytes) = true) (ht : ts[j]? = some 23) (hd : ds[j]? = some d)
    (hx : (d = .nil ∧ L = []) ∨ ∃ elems spare, d = .slice elems spare ∧ elems.length = L.length) : L.length ≤ 140737488351232 := by
  rcases hx with ⟨_, rfl⟩ | ⟨elems, spare, rfl, he⟩
  · simp
  · have := sized_slice h ht hd Try.underlying23
    rw [Try.bytes5] at this
    simp only [reachBytes] at this
    omega

theorem sized_things {ts : List TypeId} {ds : List (DataW H)} {j : Nat} {x0 x1 x2 d : DataW H} {L : List UInt8} (h : (DataW.weightsEach Try.prog ts ds).all (· ≤ reachBytes) = true) (ht : ts[j]? = some 25) (hd : ds[j]? = some (.agg [x0, x1, x2, d]))
    (hx : (d = .nil ∧ L = []) ∨ ∃ elems spare, d = .slice elems spare ∧ elems.length = L.length) : L.length ≤ 140737488351232 := by
  rcases hx with ⟨_, rfl⟩ | ⟨elems, spare, rfl, he⟩
  · simp
  · have := List.all_eq_true.1 h _ (DataW.weights_mem_each ht hd ((elems.length + spare.length) * Try.prog.bytesOf 5) (by simp [DataW.weights, Try.underlying25, DataW.weightsEach, Try.underlying23]))
    rw [Try.bytes5] at this
    have h2 : (elems.length + spare.length) * 1 ≤ reachBytes := of_decide_eq_true this
    simp only [reachBytes] at h2
    omega
end
end Go.Proofs.Ytneppkbbnajpnaa
