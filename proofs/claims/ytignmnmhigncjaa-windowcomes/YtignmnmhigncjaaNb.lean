/-
  Cells of a block stored one behind the other; a row's rest; slices compared with nil.
-/
import Derived.Test.YtignmnmhigncjaaNa
import Derived.Deep.Slices
import Derived.Lib.SliceRun
import Derived.Lib.SmallJoins
import Derived.Shelf.RegionOpen
namespace Go.Proofs.Ytignmnmhigncjaa
open Go.RowKit Disk

theorem row_made (e : Nat) (w : World) : Row e (w.alloc (.cells #[] e)) w.heap.size (.slice (some ⟨w.heap.size, 0, none⟩) 0 0) [] :=
  row_of (cap := 0) (C := #[]) (xs := []) (Nat.le_refl _) (heap_alloc_new w _) (Nat.le_refl _) (Nat.zero_le _) rfl rfl (by simp)
theorem setCells_blk (g t : Nat) : ∀ (vs : List Value) (o : Nat) (w : World) (C : Array Value), Blk w g t C → ∃ D, Blk (w.setCells g o vs) g t D ∧ D.size = C.size ∧ ∀ j, j < o → D[j]? = C[j]?
  | [], o, w, C, h => ⟨C, h, rfl, fun _ _ => rfl⟩
  | x :: vs, o, w, C, h => by
    obtain ⟨D, h1, h2, h3⟩ := setCells_blk g t vs (o + 1) _ _ (h.store o x)
    refine ⟨D, h1, by rw [h2]; simp, fun j hj => ?_⟩
    rw [h3 j (by omega), Array.getElem?_setIfInBounds_ne (by omega)]
theorem setCells_grown (g : Nat) : ∀ (vs : List Value) (o : Nat) (w : World), w.grownBy (w.setCells g o vs) (some g)
  | [], _, w => grown_refl w _
  | x :: vs, o, w => grown_trans (grown_setCell w g o x) (setCells_grown g vs (o + 1) _)
theorem take_eq_of {C D : Array Value} {n : Nat} (_hn : n ≤ C.size) (_hs : D.size = C.size) (h : ∀ j, j < n → D[j]? = C[j]?) : D.toList.take n = C.toList.take n := by
  apply List.ext_getElem?
  intro j
  rw [List.getElem?_take, List.getElem?_take]
  by_cases hj : j < n
  · rw [if_pos hj, if_pos hj]
    simpa using h j hj
  · rw [if_neg hj, if_neg hj]
/-- What is written behind a row leaves it. -/
theorem Row.past {e : Nat} {w : World} {B g cap : Nat} {xs : List Value} (h : Row e w B (.slice (some ⟨g, 0, none⟩) xs.length cap) xs) (vs : List Value) (o : Nat) (ho : xs.length ≤ o) : Row e (w.setCells g o vs) B (.slice (some ⟨g, 0, none⟩) xs.length cap) xs := by
  rcases h.shape with ⟨e, _⟩ | ⟨g', cap', C, e, hB, hb, h1, h2, h3, h4⟩
  · simp at e
  · simp at e
    obtain ⟨rfl, rfl⟩ := e
    obtain ⟨D, d1, d2, d3⟩ := setCells_blk g _ vs o w C hb
    exact row_of hB d1 h1 h2 (by omega) (by rw [take_eq_of (by omega) d2 fun j hj => d3 j (by omega)]; exact h4) h.one
/-- A row's beginning. -/
theorem Row.take {e : Nat} {w : World} {B g n cap : Nat} {xs : List Value} (h : Row e w B (.slice (some ⟨g, 0, none⟩) n cap) xs) (m : Nat) (hm : m ≤ xs.length) : Row e w B (.slice (some ⟨g, 0, none⟩) m cap) (xs.take m) := by
  rcases h.shape with ⟨e, _⟩ | ⟨g', cap', C, e, hB, hb, h1, h2, h3, h4⟩
  · simp at e
  · simp at e
    obtain ⟨rfl, rfl, rfl⟩ := e
    have hl : (xs.take m).length = m := by simp [hm]
    have := row_of (e := e) hB hb (xs := xs.take m) (by omega) h2 h3 (by rw [hl, ← h4, List.take_take, Nat.min_eq_left hm]) (fun x hx => h.one x (List.mem_of_mem_take hx))
    rw [hl] at this
    exact this
theorem Row.cap {e : Nat} {w : World} {B g n cap : Nat} {xs : List Value} (h : Row e w B (.slice (some ⟨g, 0, none⟩) n cap) xs) : n = xs.length ∧ n ≤ cap ∧ cap ≤ maxLen := by
  rcases h.shape with ⟨e, _⟩ | ⟨g', cap', C, e, hB, hb, h1, h2, h3, h4⟩
  · simp at e
  · simp at e
    obtain ⟨rfl, rfl, rfl⟩ := e
    exact ⟨rfl, h1, h2⟩
theorem Row.cell {e : Nat} {w : World} {B g n cap : Nat} {xs : List Value} (h : Row e w B (.slice (some ⟨g, 0, none⟩) n cap) xs) (j : Nat) (hj : j < xs.length) : w.cell? ⟨g, j, none⟩ = some xs[j] := by
  obtain ⟨b, off, e1, hc⟩ := h.rd.at j hj
  simp at e1
  obtain ⟨rfl, rfl⟩ := e1
  simpa using hc
theorem Row.free {e : Nat} {w : World} {B g n cap : Nat} {xs : List Value} (h : Row e w B (.slice (some ⟨g, 0, none⟩) n cap) xs) (j : Nat) : w.frozen? ⟨g, j, none⟩ = false := by
  obtain ⟨C, hC⟩ := h.blk g rfl
  exact hC.free j
/-- A cell of a row's room is there. -/
theorem Row.there {e : Nat} {w : World} {B g n cap : Nat} {xs : List Value} (h : Row e w B (.slice (some ⟨g, 0, none⟩) n cap) xs) (j : Nat) (hj : j < cap) : (w.cell? ⟨g, j, none⟩).isSome = true := by
  rcases h.shape with ⟨e, _⟩ | ⟨g', cap', C, e, hB, hb, h1, h2, h3, h4⟩
  · simp at e
  · simp at e
    obtain ⟨rfl, rfl, rfl⟩ := e
    rw [hb.cell]
    rw [Array.getElem?_eq_getElem (by omega)]
    rfl
/-- One of a row put anew. -/
theorem Row.put {e : Nat} {w : World} {B g n cap : Nat} {xs : List Value} (h : Row e w B (.slice (some ⟨g, 0, none⟩) n cap) xs) (j : Nat) (_hj : j < xs.length) (x : Value) (hx : x.oneCell' = true) : Row e (w.setCell ⟨g, j, none⟩ x) B (.slice (some ⟨g, 0, none⟩) n cap) (xs.set j x) := by
  rcases h.shape with ⟨e, _⟩ | ⟨g', cap', C, e, hB, hb, h1, h2, h3, h4⟩
  · simp at e
  · simp at e
    obtain ⟨rfl, rfl, rfl⟩ := e
    have := row_of (e := e) (xs := xs.set j x) hB (hb.store j x) (by simpa using h1) h2 (by simpa using h3) ?_ ?_
    · simpa using this
    · rw [List.length_set, Array.toList_setIfInBounds, List.take_set, h4]
    · intro y hy
      rcases List.mem_or_eq_of_mem_set hy with hy | rfl
      · exact h.one y hy
      · exact hx
theorem run_sl (t e : Nat) (ht : Try.prog.underlying t = some (.slice e)) (hz : ∀ w, (sizeOf e).run Try.prog w = .ok 1 w) (ao : Option Addr) (n cap lo : Nat) (h1 : lo ≤ n) (_h2 : n ≤ 9223372036854775807) (w : World) :
    (Instr.slice t (.slice ao n cap) (some (.int .i64 (lo : Int))) none none).run Try.prog w = .ok (sliced ao lo n cap 1) w := by
  have he : Try.prog.elem t = e := by simp [Program.elem, ht]
  rw [run_slice_l _ t ao n cap (by rw [he]; exact ht) .i64 lo (by omega) (by omega), he, hz]
  simp [Result.andThen]
theorem rd_rest {w : World} {ao : Option Addr} {n cap : Nat} {xs : List Value} (m : Nat) (hm : m ≤ xs.length) (h : Rd w (.slice ao n cap) xs) : Rd w (sliced ao m n cap 1) (xs.drop m) := by
  obtain ⟨ao', cap', e, h1, h2, h3, h4⟩ := h
  simp at e
  obtain ⟨rfl, rfl, rfl⟩ := e
  refine ⟨if cap = m then ao else Option.map (fun x => x.add m) ao, cap - m, by simp [sliced], by simp; omega, by omega, fun h => ?_, fun j hj => ?_⟩
  · by_cases hc : cap = m
    · omega
    · simp [hc] at h
      have := h3 h
      omega
  · simp at hj
    obtain ⟨b, off, e, hcell⟩ := h4 (m + j) (by omega)
    refine ⟨b, off + m, ?_, by rw [Nat.add_assoc]; simpa using hcell⟩
    have hc : ¬ cap = m := by omega
    simp [hc, e, add_addr]
end Go.Proofs.Ytignmnmhigncjaa
