/-
  What the bound of the second form gives: lengths of bytes and of lists of bytes that came in; a list of bytes opened.
-/
import Derived.Test.YtneppkbbnajpnaaO
import Derived.Test.YtneppkbbnajpnaaU
import Derived.Deep.Slices
import Derived.JoinedCond
namespace Go.Proofs.Ytneppkbbnajpnaa
open Go.ChangeShapes Go.WideShapes Go.ChangeAt Go.RowKit Go.Deep

theorem Try.cells23 : Try.prog.cellsOf 23 = 1 := by kernel_rfl

theorem bulk_one {H : Type} (d : DataW H) : 1 ≤ Rows.uptoBulk d := by
  cases d with
  | lit l => cases l <;> simp [Rows.uptoBulk]
  | nil => simp [Rows.uptoBulk]
  | ptr d => simp [Rows.uptoBulk]
  | slice elems spare => simp [Rows.uptoBulk]
  | agg parts => simp [Rows.uptoBulk]
  | iface t d => simp [Rows.uptoBulk]
  | map entries => simp [Rows.uptoBulk]
  | held h => simp [Rows.uptoBulk]

theorem bulk_len {H : Type} : ∀ l : List (DataW H), l.length ≤ Rows.uptoBulkAll l
  | [] => by simp [Rows.uptoBulkAll]
  | d :: r => by have := bulk_one d; have := bulk_len r; simp only [Rows.uptoBulkAll, List.length_cons]; omega

theorem bulk_slice {H : Type} (elems spare : List (DataW H)) : Rows.uptoBulk (.slice elems spare) = Rows.uptoBulkAll elems + Rows.uptoBulkAll spare + 1 := by simp only [Rows.uptoBulk]

theorem bulk_bytes {H : Type} {d : DataW H} {L : List UInt8} (h : (d = .nil ∧ L = []) ∨ ∃ elems spare, d = .slice elems spare ∧ elems.length = L.length) : L.length ≤ Rows.uptoBulk d := by
  rcases h with ⟨_, rfl⟩ | ⟨elems, spare, rfl, he⟩
  · simp
  · have := bulk_len elems
    rw [bulk_slice]; omega

theorem bulk_sum {H : Type} (D : Nat → DataW H) (f : Nat → List UInt8) : ∀ n, (∀ i, i < n → (f i).length ≤ Rows.uptoBulk (D i)) → ((List.range n).map f).flatten.length ≤ Rows.uptoBulkAll ((List.range n).map D)
  | 0, _ => by simp
  | n + 1, h => by
    have ih := bulk_sum D f n (fun i hi => h i (by omega))
    have hn := h n (by omega)
    have e : ∀ l r : List (DataW H), Rows.uptoBulkAll (l ++ r) = Rows.uptoBulkAll l + Rows.uptoBulkAll r := by
      intro l r
      induction l with
      | nil => simp [Rows.uptoBulkAll]
      | cons x l ih => simp only [List.cons_append, Rows.uptoBulkAll, ih]; omega
    rw [List.range_succ, List.map_append, List.map_append, e, List.flatten_append, List.length_append]
    simp only [List.map_cons, List.map_nil, List.flatten_cons, List.flatten_nil, List.append_nil, Rows.uptoBulkAll]
    omega

theorem bulk_small {H : Type} {l : List (DataW H)} (hk : Rows.uptoSmall H l = true) : Rows.uptoBulkAll l ≤ 1048576 := of_decide_eq_true hk

section
variable {H : Type} {enc : TypeId × Value → H} {W : World}

/-- A list of bytes that came in. -/
theorem open_segs {fuel : Nat} {v : Value} {x : DataW H × List MemPlace} (h : DataW.trod enc Try.prog W 0 (fun _ => true) true fuel 26 [v] = some x) :
    ∃ Ls : List (List UInt8), Segs W v Ls ∧ Ls.flatten.length ≤ Rows.uptoBulk x.1 := by
  rcases open_slice1 Try.underlying26 Try.cells23 h with ⟨hcs, hx⟩ | ⟨a, len, cap, m, n, V, D, Pl, hcs, _, hl, hm, hmm, hx, hel⟩
  · simp at hcs
    subst hcs
    exact ⟨[], ⟨none, 0, rfl, by simp, fun j hj => absurd hj (by simp)⟩, by simp⟩
  · simp at hcs hmm
    subst hcs
    subst hmm
    have hf : ∀ i, i < len → ∃ L : List UInt8, Seg W (V i) L ∧ L.length ≤ Rows.uptoBulk (D i) := fun i hi => by
      obtain ⟨L, h1, h2⟩ := open_bytes (hel i (by omega)).2
      exact ⟨L, h1, bulk_bytes h2⟩
    obtain ⟨f, hf⟩ := choose_lt hf
    refine ⟨(List.range len).map f, ⟨some a, m, by simp, by simp; unfold maxLen at hm; omega, fun j hj => ?_⟩, ?_⟩
    · simp at hj
      have hc := (hel j (by omega)).1
      have h0 := (hel 0 (by omega)).1
      obtain ⟨b, off, spot⟩ := a
      have hspot : spot = none := by simpa [Addr.add] using World.cell?_spot h0
      subst hspot
      refine ⟨b, off, V j, rfl, ?_, ?_⟩
      · have e : (⟨b, off, none⟩ : Addr).add j = ⟨b, off + j, none⟩ := by
          unfold Addr.add; by_cases hz : j = 0
          · subst hz; simp
          · simp [hz]
        rw [← e]; exact hc
      · simp; exact (hf j hj).1
    · rw [hx]
      have := bulk_sum D f len (fun i hi => (hf i hi).2)
      simp only [bulk_slice]
      omega
end
end Go.Proofs.Ytneppkbbnajpnaa
