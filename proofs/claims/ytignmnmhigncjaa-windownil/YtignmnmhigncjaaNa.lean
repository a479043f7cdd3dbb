/-
  Words of the net's texts: rows whose elements have one cell.
-/
import Derived.Test.YtignmnmhigncjaaDiskA
import Derived.Test.YtignmnmhigncjaaDiskJh
import Derived.Deep.DeepCutAuto
import Derived.Deep.CutBlock
namespace Go.Proofs.Ytignmnmhigncjaa
open Go.RowKit Disk

theorem blk_type {w : World} {b t t' : Nat} {c c' : Array Value} (h : Blk w b t c) (h' : Blk w b t' c') : t = t' := by
  unfold Blk at h h'
  rw [h] at h'
  simp at h'
  exact h'.2
theorem blk_cells {w : World} {b t t' : Nat} {c c' : Array Value} (h : Blk w b t c) (h' : Blk w b t' c') : c = c' := by
  unfold Blk at h h'
  rw [h] at h'
  simp at h'
  exact h'.1
theorem add_addr (b off j : Nat) : (⟨b, off, none⟩ : Addr).add j = ⟨b, off + j, none⟩ := by
  unfold Addr.add
  by_cases hz : j = 0
  · subst hz; simp
  · simp [hz]
theorem info_parts1 {e : Nat} {z : Value} {by' : Nat} (h : (Try.prog.info? e).map (fun i => (i.zero, i.size, i.bytes)) = some (some z, 1, by')) : ∃ i, Try.prog.info? e = some i ∧ i.zero = some z ∧ i.size = 1 ∧ i.bytes = by' := by
  cases hi : Try.prog.info? e with
  | none => rw [hi] at h; cases h
  | some i =>
    rw [hi] at h
    simp at h
    exact ⟨i, rfl, h.1, h.2.1, h.2.2⟩

/-- A row of the call's own. -/
structure Row (e : Nat) (w : World) (B : Nat) (v : Value) (xs : List Value) : Prop where
  own : w.ownsRow B e 1 v xs.length xs
  one : ∀ x ∈ xs, x.oneCell' = true
/-- The slice u reads as xs. -/
def Rd (w : World) (u : Value) (xs : List Value) : Prop :=
  ∃ ao cap, u = .slice ao xs.length cap ∧ xs.length ≤ cap ∧ cap ≤ maxLen ∧ (ao = none → cap = 0) ∧ ∀ j (hj : j < xs.length), ∃ b off, ao = some ⟨b, off, none⟩ ∧ w.cell? ⟨b, off + j, none⟩ = some xs[j]

theorem Rd.shape {w : World} {u : Value} {xs : List Value} (h : Rd w u xs) : ∃ ao cap, u = .slice ao xs.length cap := by obtain ⟨ao, cap, h, _⟩ := h; exact ⟨ao, cap, h⟩
theorem Rd.len {w : World} {u : Value} {xs : List Value} (h : Rd w u xs) : xs.length ≤ 9223372036854775807 := by
  obtain ⟨ao, cap, _, h1, h2, _⟩ := h
  unfold maxLen at h2; omega
theorem Rd.at {w : World} {ao : Option Addr} {n cap : Nat} {xs : List Value} (h : Rd w (.slice ao n cap) xs) (j : Nat) (hj : j < xs.length) : ∃ b off, ao = some ⟨b, off, none⟩ ∧ w.cell? ⟨b, off + j, none⟩ = some xs[j] := by
  obtain ⟨ao', cap', e, _, _, _, h⟩ := h
  simp at e
  obtain ⟨rfl, _, rfl⟩ := e
  exact h j hj
theorem rd_nil (w : World) : Rd w (.slice none 0 0) [] := ⟨none, 0, rfl, Nat.le_refl _, Nat.zero_le _, fun _ => rfl, fun j hj => absurd hj (by simp)⟩
theorem Rd.kept {w w' : World} {u : Value} {xs : List Value} (h : Rd w u xs) (hs : ∀ k, u.ownBlock = some k → w'.heap[k]? = w.heap[k]?) : Rd w' u xs := by
  obtain ⟨ao, cap, rfl, h1, h2, h3, h4⟩ := h
  refine ⟨ao, cap, rfl, h1, h2, h3, fun j hj => ?_⟩
  obtain ⟨b, off, rfl, hc⟩ := h4 j hj
  refine ⟨b, off, rfl, ?_⟩
  have := hs b rfl
  unfold World.cell? at hc ⊢
  rw [this]
  exact hc
theorem Rd.grown {w w' : World} {u : Value} {xs : List Value} (h : Rd w u xs) (hg : w.grownBy w' none) : Rd w' u xs := by
  obtain ⟨ao, cap, rfl, h1, h2, h3, h4⟩ := h
  refine ⟨ao, cap, rfl, h1, h2, h3, fun j hj => ?_⟩
  obtain ⟨b, off, rfl, hc⟩ := h4 j hj
  exact ⟨b, off, rfl, hg.cell hc (by simp)⟩

theorem Row.nil (e : Nat) (w : World) (B : Nat) : Row e w B (.slice none 0 0) [] := ⟨World.ownsRow_nil _ _ _ _, by simp⟩
theorem Row.shape {e : Nat} {w : World} {B : Nat} {v : Value} {xs : List Value} (h : Row e w B v xs) : (v = .slice none 0 0 ∧ xs = []) ∨ ∃ g cap C, v = .slice (some ⟨g, 0, none⟩) xs.length cap ∧ B ≤ g ∧ Blk w g e C ∧ xs.length ≤ cap ∧ cap ≤ maxLen ∧ C.size = cap ∧ C.toList.take xs.length = xs := by
  rcases h.own.2 with ⟨rfl, hn⟩ | ⟨g, cap, cur, rfl, hb, hg, h1, h2, h3, h4⟩
  · exact .inl ⟨rfl, List.eq_nil_of_length_eq_zero hn⟩
  · exact .inr ⟨g, cap, cur, rfl, hb, hg, h1, h2, by simpa using h3, by simpa using h4⟩
theorem row_of {e : Nat} {w : World} {B g cap : Nat} {C : Array Value} {xs : List Value} (hB : B ≤ g) (hb : Blk w g e C) (h1 : xs.length ≤ cap) (h2 : cap ≤ maxLen) (h3 : C.size = cap) (h4 : C.toList.take xs.length = xs) (ho : ∀ x ∈ xs, x.oneCell' = true) : Row e w B (.slice (some ⟨g, 0, none⟩) xs.length cap) xs :=
  ⟨⟨by simp, .inr ⟨g, cap, C, rfl, hB, hb, h1, h2, by simpa using h3, by simpa using h4⟩⟩, ho⟩
theorem Row.sl {e : Nat} {w : World} {B : Nat} {v : Value} {xs : List Value} (h : Row e w B v xs) : ∃ ao cap, v = .slice ao xs.length cap := by
  rcases h.shape with ⟨rfl, rfl⟩ | ⟨g, cap, C, rfl, _⟩
  · exact ⟨none, 0, rfl⟩
  · exact ⟨_, _, rfl⟩
theorem Row.rd {e : Nat} {w : World} {B : Nat} {v : Value} {xs : List Value} (h : Row e w B v xs) : Rd w v xs := by
  rcases h.shape with ⟨rfl, rfl⟩ | ⟨g, cap, C, rfl, hB, hb, h1, h2, h3, h4⟩
  · exact rd_nil w
  · refine ⟨_, cap, rfl, h1, h2, by simp, fun j hj => ⟨g, 0, rfl, ?_⟩⟩
    rw [hb.cell, Nat.zero_add, ← Array.getElem?_toList]
    have h5 : C.toList[j]? = (C.toList.take xs.length)[j]? := by rw [List.getElem?_take, if_pos hj]
    rw [h5, h4, List.getElem?_eq_getElem hj]
theorem Row.same {e : Nat} {w w' : World} {B : Nat} {v : Value} {xs : List Value} (h : Row e w B v xs) (hs : ∀ k, v.ownBlock = some k → w'.heap[k]? = w.heap[k]?) : Row e w' B v xs := by
  rcases h.shape with ⟨rfl, rfl⟩ | ⟨g, cap, C, rfl, hB, hb, h1, h2, h3, h4⟩
  · exact Row.nil _ _ _
  · exact row_of hB ((hs g rfl).trans hb) h1 h2 h3 h4 h.one
theorem Row.lt {e : Nat} {w : World} {B : Nat} {v : Value} {xs : List Value} (h : Row e w B v xs) : ∀ k, v.ownBlock = some k → B ≤ k ∧ k < w.heap.size := fun k hk => World.ownsRow.lt h.own k hk
theorem Row.grown {e : Nat} {w w' : World} {B : Nat} {v : Value} {xs : List Value} (h : Row e w B v xs) (hg : w.grownBy w' none) : Row e w' B v xs := h.same fun k hk => hg.block k (h.lt k hk).2 (by simp)
theorem Row.mono {e : Nat} {w : World} {B B' : Nat} {v : Value} {xs : List Value} (h : Row e w B v xs) (hB : B' ≤ B) : Row e w B' v xs := by
  rcases h.shape with ⟨rfl, rfl⟩ | ⟨g, cap, C, rfl, hb, hk, h1, h2, h3, h4⟩
  · exact Row.nil _ _ _
  · exact row_of (Nat.le_trans hB hb) hk h1 h2 h3 h4 h.one
theorem Row.blk {e : Nat} {w : World} {B : Nat} {v : Value} {xs : List Value} (h : Row e w B v xs) : ∀ k, v.ownBlock = some k → ∃ C, Blk w k e C := by
  rcases h.shape with ⟨rfl, rfl⟩ | ⟨g, cap, C, rfl, hb, hk, h1, h2, h3, h4⟩
  · intro k hk; simp [Value.ownBlock] at hk
  · intro k hk'; simp [Value.ownBlock] at hk'; subst hk'; exact ⟨C, hk⟩

/-- Things appended to a row of the call's own: the operation itself. -/
theorem appR_wp (t e bt : Nat) (z : Value) (ht : Try.prog.underlying t = some (.slice e)) (hinf : (Try.prog.info? e).map (fun i => (i.zero, i.size, i.bytes)) = some (some z, 1, bt)) (hzc : z.cells.size = 1) {o : Oper} {a : Act} {K : Act → World → Prop} {Q : Exit → Act → World → Prop} (w : World) (s x : Operand)
    (ho : o.op = .call { callee := .builtin .append, args := #[s, x], argTypes := #[t, t] })
    (B : Nat) (v : Value) (L : List Value) (u : Value) (M : List Value) (hs : a.eval s = v) (hx : a.eval x = u) (hown : Row e w B v L) (hseg : Rd w u M) (h1M : ∀ y ∈ M, y.oneCell' = true) (hb : (L.length + M.length) * bt ≤ 140737488355328) (hl : L.length + M.length ≤ maxLen) (hB : B ≤ w.heap.size)
    (h : ∀ v' w', Row e w' B v' (L ++ M) → w.grownBy w' v.ownBlock → (∀ k, v'.ownBlock = some k → v.ownBlock = some k ∨ w.heap.size ≤ k) → K (a.put o.dst v') w') : o.wp Try.prog a w K Q := by
  obtain ⟨i0, hi, hz0, hz1, hz2⟩ := info_parts1 hinf
  have hsg := hseg
  obtain ⟨ao, cap, rfl, h1, h2, h3, h4⟩ := hsg
  have hone : ∀ y ∈ L ++ M, y.oneCell' = true := by
    intro y hy
    rcases List.mem_append.1 hy with hy | hy
    · exact hown.one y hy
    · exact h1M y hy
  cases ao with
  | none =>
    have hM0 : M = [] := List.eq_nil_of_length_eq_zero (by have := h3 rfl; omega)
    have hc0 : cap = 0 := h3 rfl
    subst hM0; subst hc0
    have hrun := run_append_owned_none (P := Try.prog) (w := w) B t o.type e i0 1 ht hi v _ _ hown.own
    have hx' : a.eval x = .slice none 0 0 := hx
    unfold Oper.wp
    simp only [execOp, ho, resolve, invoke, builtin, Sem.run_bind, Sem.run_pure, Result.andThen_ok, List.map_toArray, List.map_cons, List.map_nil, hs, hx', hrun]
    exact h v w (by simpa using hown) (grown_refl _ _) (fun k hk => .inl hk)
  | some ad =>
    have hnews : ∀ j y, M[j]? = some y → w.cell? (ad.add j) = some y := by
      intro j y hj
      obtain ⟨hjl, rfl⟩ := List.getElem?_eq_some_iff.1 hj
      obtain ⟨b, off, e1, hc⟩ := h4 j hjl
      simp at e1
      subst e1
      rw [add_addr]
      exact hc
    by_cases hm : 0 < M.length
    · refine wp_append_lies w s x t ho B e i0 z 1 bt ht hi hz0 hz1 hz2 hzc (by decide) v L.length L hs hown.own ad M.length cap M hx (by simp) hnews h1M hm hl hb hB w.heap.size rfl ?_
      intro g cap' w' h1 h2 h3 _
      refine h _ w' ⟨by rw [List.length_append]; exact h1, hone⟩ h2 fun k hk => ?_
      simp [Value.ownBlock] at hk
      subst hk
      rcases h3 with h3 | h3
      · exact .inl h3
      · exact .inr (by omega)
    · have hM0 : M = [] := List.eq_nil_of_length_eq_zero (by omega)
      subst hM0
      rcases hown.shape with ⟨rfl, rfl⟩ | ⟨g, c, C, rfl, hBg, hbk, hlc, _⟩
      · refine wp_append_own w s x t ho w.heap.size e i0 z 1 bt ht hi hz0 hz1 hz2 hzc (by decide) _ 0 [] hs (World.ownsRow_nil _ _ _ _) ad 0 cap [] hx rfl (by simp) (by simp) (by unfold maxLen; omega) (by omega) (Nat.le_refl _) ?_
        intro v' w' h1 h2 _
        exact h v' w' ((show Row e w' w.heap.size v' [] from ⟨h1, by simp⟩).mono hB) h2 fun k hk => .inr (World.ownsRow.lt h1 k hk).1
      · refine wp_append_own_spare w s x t ho B e i0 1 ht hi hz1 g L.length c L hs hown.own ad 0 cap [] hx rfl (by simp) (by simp) (by omega) ?_
        intro w' h1 h2
        refine h _ w' ⟨by simpa using h1, hone⟩ h2 fun k hk => .inl hk
theorem appR (t e bt : Nat) (z : Value) (ht : Try.prog.underlying t = some (.slice e)) (hinf : (Try.prog.info? e).map (fun i => (i.zero, i.size, i.bytes)) = some (some z, 1, bt)) (hzc : z.cells.size = 1) {ops : Array Oper} {rest : List Oper} {o : Oper} {a : Act} {Q : Exit → Act → World → Prop} (w : World) (hw : Region.wanted o (yielded ops a.tmps) = true) (s x : Operand)
    (ho : o.op = .call { callee := .builtin .append, args := #[s, x], argTypes := #[t, t] })
    (B : Nat) (v : Value) (L : List Value) (u : Value) (M : List Value) (hs : a.eval s = v) (hx : a.eval x = u) (hown : Row e w B v L) (hseg : Rd w u M) (h1M : ∀ y ∈ M, y.oneCell' = true) (hb : (L.length + M.length) * bt ≤ 140737488355328) (hl : L.length + M.length ≤ maxLen) (hB : B ≤ w.heap.size)
    (h : ∀ v' w', Row e w' B v' (L ++ M) → w.grownBy w' v.ownBlock → (∀ k, v'.ownBlock = some k → v.ownBlock = some k ∨ w.heap.size ≤ k) → wpList Try.prog ops Q rest (a.put o.dst v') w') : wpList Try.prog ops Q (o :: rest) a w :=
  BigFrame.wpList_want hw fun _ hK => appR_wp t e bt z ht hinf hzc w s x ho B v L u M hs hx hown hseg h1M hb hl hB fun v' w' h1 h2 h3 => hK _ _ (h v' w' h1 h2 h3)
end Go.Proofs.Ytignmnmhigncjaa
