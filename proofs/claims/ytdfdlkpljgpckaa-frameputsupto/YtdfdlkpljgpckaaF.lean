/-
  Lists of frames in memory: as they came in (FSeg), in rows of the call's own (FRow); a frame appended to such a row; pieces appended to a row of slices.
-/
import Derived.Test.YtdfdlkpljgpckaaDiskA
import Derived.Test.YtdfdlkpljgpckaaPb
namespace Go.Proofs.Ytdfdlkpljgpckaa
open Go.RowKit Disk

theorem cell_lt {w : World} {b off : Nat} {v : Value} (h : w.cell? ⟨b, off, none⟩ = some v) : b < w.heap.size := by
  refine Nat.lt_of_not_le fun hle => ?_
  unfold World.cell? at h
  simp only at h
  rw [Array.getElem?_eq_none hle] at h
  simp at h

/-- Whoever holds its block holds its bytes. -/
theorem seg_same {w w' : World} {v : Value} {L : List UInt8} (h : Seg w v L) (hs : L ≠ [] → ∀ b off n c, v = .slice (some ⟨b, off, none⟩) n c → b < w.heap.size → w'.heap[b]? = w.heap[b]?) : Seg w' v L := by
  obtain ⟨ao, cap, hv, h1, h2, h3, h4⟩ := h
  refine ⟨ao, cap, hv, h1, h2, h3, fun j hj => ?_⟩
  obtain ⟨b, off, e, hc⟩ := h4 j hj
  refine ⟨b, off, e, ?_⟩
  have hb : b < w.heap.size := cell_lt hc
  have := hs (fun h0 => by rw [h0] at hj; simp at hj) b off _ _ (by rw [hv, e]) hb
  unfold World.cell? at hc ⊢
  simp only at hc ⊢
  rw [this]
  exact hc

theorem seg_low {w w' : World} {v : Value} {L : List UInt8} (h : Seg w v L) (hs : ∀ k, k < w.heap.size → w'.heap[k]? = w.heap[k]?) : Seg w' v L := seg_same h fun _ b _ _ _ _ hb => hs b hb
theorem seg_blk {w : World} {v : Value} {L : List UInt8} (h : Seg w v L) (hL : L ≠ []) {b off n c : Nat} (e : v = .slice (some ⟨b, off, none⟩) n c) : b < w.heap.size := by
  obtain ⟨ao, cap, hv, h1, h2, h3, h4⟩ := h
  obtain ⟨b', off', e', hc⟩ := h4 0 (List.length_pos_iff.2 hL)
  rw [hv, e'] at e
  simp at e
  rw [← e.1.1]
  exact cell_lt hc

/-- A list of frames reads as l. -/
def FSeg (w : World) (v : Value) (l : Frs) : Prop :=
  ∃ ao cap, v = .slice ao l.length cap ∧ l.length ≤ 4398046511104 ∧ ∀ j (hj : j < l.length), ∃ b off u, ao = some ⟨b, off, none⟩ ∧ w.cell? ⟨b, off + j * 2, none⟩ = some (.int .i64 l[j].1) ∧ w.cell? ⟨b, off + j * 2 + 1, none⟩ = some u ∧ Seg w u l[j].2

theorem FSeg.shape {w : World} {v : Value} {l : Frs} (h : FSeg w v l) : ∃ ao cap, v = .slice ao l.length cap := by obtain ⟨ao, cap, h, _⟩ := h; exact ⟨ao, cap, h⟩
theorem FSeg.grown {w w' : World} {v : Value} {l : Frs} (h : FSeg w v l) (hg : w.grownBy w' none) : FSeg w' v l := by
  obtain ⟨ao, cap, hv, hl, h4⟩ := h
  refine ⟨ao, cap, hv, hl, fun j hj => ?_⟩
  obtain ⟨b, off, u, e, h1, h2, h3⟩ := h4 j hj
  exact ⟨b, off, u, e, hg.cell h1 (by simp), hg.cell h2 (by simp), h3.grown hg⟩
theorem fseg_one {w : World} {k : Int} {v : Value} {L : List UInt8} (h : Seg w v L) : FSeg (w.alloc (.cells #[.int .i64 k, v] 25)) (.slice (some ⟨w.heap.size, 0, none⟩) 1 1) [(k, L)] := by
  refine ⟨_, 1, rfl, by simp, fun j hj => ?_⟩
  have e : j = 0 := by simp at hj; omega
  subst e
  refine ⟨w.heap.size, 0, v, rfl, ?_, ?_, h.grown (World.grownBy_alloc _ _ _)⟩
  · rw [cell_of_row _ _ _ _ _ _ (heap_alloc_new w _)]; rfl
  · rw [cell_of_row _ _ _ _ _ _ (heap_alloc_new w _)]; rfl

/-- The cells of a row of frames. -/
def fc : List Value → Frs → List Value
  | v :: vs, f :: l => .int .i64 f.1 :: v :: fc vs l
  | _, _ => []
theorem fc_len : ∀ (vs : List Value) (l : Frs), vs.length = l.length → (fc vs l).length = l.length * 2
  | [], [], _ => rfl
  | v :: vs, f :: l, h => by simp [fc, fc_len vs l (by simpa using h)]; omega
theorem fc_get : ∀ (vs : List Value) (l : Frs) (j : Nat) (h : j < vs.length) (h' : j < l.length), (fc vs l)[j * 2]? = some (.int .i64 l[j].1) ∧ (fc vs l)[j * 2 + 1]? = some vs[j]
  | [], _, j, h, _ => absurd h (by simp)
  | v :: vs, [], j, _, h => absurd h (by simp)
  | v :: vs, f :: l, 0, _, _ => ⟨rfl, rfl⟩
  | v :: vs, f :: l, j + 1, h, h' => by
    have := fc_get vs l j (by simpa using h) (by simpa using h')
    rw [show (j + 1) * 2 = j * 2 + 1 + 1 from by omega]
    simpa [fc] using this
theorem fc_snoc : ∀ (vs : List Value) (l : Frs) (v : Value) (f : Int × List UInt8), vs.length = l.length → fc (vs ++ [v]) (l ++ [f]) = fc vs l ++ [.int .i64 f.1, v]
  | [], [], v, f, _ => rfl
  | x :: vs, y :: l, v, f, h => by simp [fc, fc_snoc vs l v f (by simpa using h)]

/-- A row of frames of the call's own, each body in a block of its own. -/
structure FRow (w : World) (B : Nat) (v : Value) (vs : List Value) (l : Frs) : Prop where
  row : w.ownsRow B 25 2 v l.length (fc vs l)
  len : vs.length = l.length
  each : ∀ j (h : j < vs.length) (h' : j < l.length), Own w B vs[j] l[j].2
  far : ∀ i j (hi : i < vs.length) (hj : j < vs.length), i ≠ j → ∀ a, vs[i].ownBlock = some a → vs[j].ownBlock ≠ some a

theorem frow_nil (w : World) (B : Nat) : FRow w B (.slice none 0 0) [] [] := ⟨World.ownsRow_nil _ _ _ _, rfl, fun j h => absurd h (by simp), fun i j hi => absurd hi (by simp)⟩

/-- The blocks that it lies in. -/
def InF (v : Value) (vs : List Value) (k : Nat) : Prop := v.ownBlock = some k ∨ ∃ j, ∃ h : j < vs.length, vs[j].ownBlock = some k

theorem FRow.lt {w : World} {B : Nat} {v : Value} {vs : List Value} {l : Frs} (h : FRow w B v vs l) {k : Nat} (hk : InF v vs k) : B ≤ k ∧ k < w.heap.size := by
  rcases hk with hk | ⟨j, hj, hk⟩
  · exact World.ownsRow.lt h.row k hk
  · exact (h.each j hj (by rw [← h.len]; exact hj)).lt k hk
theorem FRow.same {w w' : World} {B : Nat} {v : Value} {vs : List Value} {l : Frs} (h : FRow w B v vs l) (hs : ∀ k, InF v vs k → w'.heap[k]? = w.heap[k]?) : FRow w' B v vs l := by
  refine ⟨⟨h.row.1, ?_⟩, h.len, fun j hj hj' => (h.each j hj hj').same fun k hk => hs k (.inr ⟨j, hj, hk⟩), h.far⟩
  rcases h.row.2 with h2 | ⟨g, cap, cur, e, hb, hg, h3⟩
  · exact .inl h2
  · exact .inr ⟨g, cap, cur, e, hb, (hs g (.inl (by rw [e]; rfl))).trans hg, h3⟩
theorem FRow.grown {w w' : World} {B : Nat} {v : Value} {vs : List Value} {l : Frs} (h : FRow w B v vs l) (hg : w.grownBy w' none) : FRow w' B v vs l := h.same fun k hk => hg.block k (h.lt hk).2 (by simp)
theorem FRow.mono {w : World} {B B' : Nat} {v : Value} {vs : List Value} {l : Frs} (h : FRow w B v vs l) (hB : B' ≤ B) : FRow w B' v vs l := by
  refine ⟨⟨h.row.1, ?_⟩, h.len, fun j hj hj' => (h.each j hj hj').mono hB, h.far⟩
  rcases h.row.2 with h2 | ⟨g, cap, cur, e, hb, hg⟩
  · exact .inl h2
  · exact .inr ⟨g, cap, cur, e, by omega, hg⟩

/-- A block of another type than the row's. -/
theorem frow_other {w : World} {B : Nat} {v : Value} {n : Nat} {xs : List Value} {b t : Nat} {c : Array Value} (h : w.ownsRow B 25 2 v n xs) (hb : Blk w b t c) (ht : t ≠ 25) : v.ownBlock ≠ some b := by
  rcases h.2 with ⟨rfl, _⟩ | ⟨g, cap, cur, rfl, _, hg, _⟩
  · simp [Value.ownBlock]
  · intro e
    simp [Value.ownBlock] at e
    subst e
    unfold Blk at hb
    rw [hg] at hb
    simp at hb
    exact ht hb.2.symm
theorem own_blk {w : World} {B : Nat} {v : Value} {L : List UInt8} (h : Own w B v L) {k : Nat} (hk : v.ownBlock = some k) : ∃ cur, Blk w k 5 cur := by
  rcases h.2 with ⟨rfl, _⟩ | ⟨g, c, cur, e, hb, hg, _⟩
  · simp [Value.ownBlock] at hk
  · subst e
    simp [Value.ownBlock] at hk
    subst hk
    exact ⟨cur, hg⟩
/-- A row of frames and a row of bytes lie apart. -/
theorem frow_own {w : World} {B B' : Nat} {v u : Value} {n : Nat} {xs : List Value} {L : List UInt8} (h : w.ownsRow B 25 2 v n xs) (hu : Own w B' u L) {k : Nat} (hk : u.ownBlock = some k) : v.ownBlock ≠ some k := by
  obtain ⟨cur, hb⟩ := own_blk hu hk
  exact frow_other h hb (by decide)

/-- One more. -/
theorem FRow.snoc {w w' : World} {B : Nat} {v v' u : Value} {vs : List Value} {l : Frs} {f : Int × List UInt8} (h : FRow w B v vs l) (hu : Own w B u f.2) (hn : ∀ j (hj : j < vs.length) a, vs[j].ownBlock = some a → u.ownBlock ≠ some a) (hg : w.grownBy w' v.ownBlock) (hr : w'.ownsRow B 25 2 v' (l.length + 1) (fc vs l ++ [.int .i64 f.1, u])) : FRow w' B v' (vs ++ [u]) (l ++ [f]) := by
  have keep : ∀ {x M}, Own w B x M → Own w' B x M := fun {x M} hx => hx.same fun k hk => hg.block k (hx.lt k hk).2 (fun e => frow_own h.row hx hk e.symm)
  have hl := h.len
  refine ⟨by rw [fc_snoc _ _ _ _ h.len, List.length_append]; exact hr, by simp [h.len], fun j hj hj' => ?_, fun i j hi hj hij a ha e => ?_⟩
  · by_cases hlt : j < vs.length
    · rw [List.getElem_append_left hlt, List.getElem_append_left (by omega)]
      exact keep (h.each j hlt (by omega))
    · have e1 : j = vs.length := by simp at hj; omega
      subst e1
      have e2 : (vs ++ [u])[vs.length] = u := by simp
      have e3 : (l ++ [f])[vs.length]'hj' = f := by simp [hl]
      rw [e2, e3]
      exact keep hu
  · simp at hi hj
    by_cases hi2 : i < vs.length
    · rw [List.getElem_append_left hi2] at ha
      by_cases hj2 : j < vs.length
      · rw [List.getElem_append_left hj2] at e
        exact h.far i j hi2 hj2 hij a ha e
      · have e1 : j = vs.length := by omega
        subst e1
        have e2 : (vs ++ [u])[vs.length] = u := by simp
        rw [e2] at e
        exact hn i hi2 a ha e
    · have e1 : i = vs.length := by omega
      subst e1
      have e2 : (vs ++ [u])[vs.length] = u := by simp
      rw [e2] at ha
      have hj2 : j < vs.length := by omega
      rw [List.getElem_append_left hj2] at e
      exact hn j hj2 a e ha
theorem InF.snoc {_v v' u : Value} {vs : List Value} {k : Nat} (h : InF v' (vs ++ [u]) k) : v'.ownBlock = some k ∨ u.ownBlock = some k ∨ ∃ j, ∃ h : j < vs.length, vs[j].ownBlock = some k := by
  rcases h with h | ⟨j, hj, h⟩
  · exact .inl h
  · by_cases hlt : j < vs.length
    · rw [List.getElem_append_left hlt] at h
      exact .inr (.inr ⟨j, hlt, h⟩)
    · have e1 : j = vs.length := by simp at hj; omega
      subst e1
      exact .inr (.inl (by simpa using h))

theorem FRow.cell {w : World} {B : Nat} {v : Value} {vs : List Value} {l : Frs} (h : FRow w B v vs l) (j : Nat) (hj : j < l.length) (hj' : j < vs.length) : ∃ g cap, v = .slice (some ⟨g, 0, none⟩) l.length cap ∧ w.cell? ⟨g, j * 2, none⟩ = some (.int .i64 l[j].1) ∧ w.cell? ⟨g, j * 2 + 1, none⟩ = some vs[j] ∧ B ≤ g := by
  rcases h.row.2 with ⟨_, h0⟩ | ⟨g, cap, cur, e, hb, hg, h1, h2, h3, h4⟩
  · omega
  · have hr : w.ownsRow B 25 2 (.slice (some ⟨g, 0, none⟩) l.length cap) l.length (fc vs l) := by rw [← e]; exact h.row
    have hf := fc_get vs l j hj' hj
    refine ⟨g, cap, e, ?_, ?_, hb⟩
    · rw [hr.cellAt (j * 2) (by omega)]; exact hf.1
    · rw [hr.cellAt (j * 2 + 1) (by omega)]; exact hf.2
theorem FRow.shape {w : World} {B : Nat} {v : Value} {vs : List Value} {l : Frs} (h : FRow w B v vs l) : ∃ ao cap, v = .slice ao l.length cap := by
  rcases h.row.2 with ⟨rfl, h0⟩ | ⟨g, cap, cur, rfl, _⟩
  · exact ⟨none, 0, by rw [h0]⟩
  · exact ⟨_, _, rfl⟩

theorem Try.info25 : (Try.prog.info? 25).map (fun i => (i.zero, i.size, i.bytes)) = some (some (.agg #[.int .i64 0, .slice none 0 0]), 2, 32) := by kernel_rfl
theorem Try.info22 : (Try.prog.info? 22).map (fun i => (i.zero, i.size, i.bytes)) = some (some (.slice none 0 0), 1, 24) := by kernel_rfl

theorem add_zero (g : Nat) : (⟨g, 0, none⟩ : Addr).add 0 = ⟨g, 0, none⟩ := by unfold Addr.add; simp
theorem add_one (g : Nat) : (⟨g, 0, none⟩ : Addr).add 1 = ⟨g, 1, none⟩ := by unfold Addr.add; simp

/-- A frame appended to a row of frames: the operation itself. -/
theorem appF_wp {o : Oper} {a : Act} {K : Act → World → Prop} {Q : Exit → Act → World → Prop} (w : World) (s x : Operand)
    (ho : o.op = .call { callee := .builtin .append, args := #[s, x], argTypes := #[23, 23] })
    (B : Nat) (v : Value) (vs : List Value) (l : Frs) (k : Int) (u : Value) (g : Nat) (hs : a.eval s = v) (hx : a.eval x = .slice (some ⟨g, 0, none⟩) 1 1) (hrow : w.ownsRow B 25 2 v l.length (fc vs l)) (hc0 : w.cell? ⟨g, 0, none⟩ = some (.int .i64 k)) (hc1 : w.cell? ⟨g, 1, none⟩ = some u) (h1 : u.oneCell' = true) (hb : (l.length + 1) * 32 ≤ 140737488355328) (hB : B ≤ w.heap.size)
    (h : ∀ g' cap' w', w'.ownsRow B 25 2 (.slice (some ⟨g', 0, none⟩) (l.length + 1) cap') (l.length + 1) (fc vs l ++ [.int .i64 k, u]) → w.grownBy w' v.ownBlock → (v.ownBlock = some g' ∨ g' = w.heap.size) → K (a.put o.dst (.slice (some ⟨g', 0, none⟩) (l.length + 1) cap')) w') : o.wp Try.prog a w K Q := by
  obtain ⟨i0, hi, hz0, hz1, hz2⟩ := info_parts Try.info25
  refine wp_append_lies w s x 23 ho B 25 i0 (.agg #[.int .i64 0, .slice none 0 0]) 2 32 Try.underlying23 hi hz0 hz1 hz2 rfl (by decide) v l.length (fc vs l) hs hrow ⟨g, 0, none⟩ 1 1 [.int .i64 k, u] hx rfl ?_ ?_ (by decide) (by unfold maxLen; omega) hb hB w.heap.size rfl ?_
  · intro j y hj
    match j, hj with
    | 0, hj => simp at hj; subst hj; rw [add_zero]; exact hc0
    | 1, hj => simp at hj; subst hj; rw [add_one]; exact hc1
    | j + 2, hj => simp at hj
  · intro y hy
    simp at hy
    rcases hy with rfl | rfl
    · rfl
    · exact h1
  · intro g' cap' w' h2 h3 h4 _
    exact h g' cap' w' h2 h3 h4

/-- Two pieces appended to a row of slices: the operation itself. -/
theorem app2_wp {o : Oper} {a : Act} {K : Act → World → Prop} {Q : Exit → Act → World → Prop} (w : World) (s x : Operand)
    (ho : o.op = .call { callee := .builtin .append, args := #[s, x], argTypes := #[53, 53] })
    (B : Nat) (v : Value) (vs : List Value) (n : Nat) (hn : vs.length = n) (u1 u2 : Value) (g : Nat) (hs : a.eval s = v) (hx : a.eval x = .slice (some ⟨g, 0, none⟩) 2 2) (hrow : w.ownsRow B 22 1 v n vs) (hc0 : w.cell? ⟨g, 0, none⟩ = some u1) (hc1 : w.cell? ⟨g, 1, none⟩ = some u2) (h1 : u1.oneCell' = true) (h2 : u2.oneCell' = true) (hb : (n + 2) * 24 ≤ 140737488355328) (hB : B ≤ w.heap.size)
    (h : ∀ g' cap' w', w'.ownsRow B 22 1 (.slice (some ⟨g', 0, none⟩) (n + 2) cap') (n + 2) (vs ++ [u1, u2]) → w.grownBy w' v.ownBlock → (v.ownBlock = some g' ∨ g' = w.heap.size) → K (a.put o.dst (.slice (some ⟨g', 0, none⟩) (n + 2) cap')) w') : o.wp Try.prog a w K Q := by
  obtain ⟨i0, hi, hz0, hz1, hz2⟩ := info_parts Try.info22
  subst hn
  refine wp_append_lies w s x 53 ho B 22 i0 (.slice none 0 0) 1 24 Try.underlying53 hi hz0 hz1 hz2 rfl (by decide) v vs.length vs hs hrow ⟨g, 0, none⟩ 2 2 [u1, u2] hx rfl ?_ ?_ (by decide) (by unfold maxLen; omega) hb hB w.heap.size rfl ?_
  · intro j y hj
    match j, hj with
    | 0, hj => simp at hj; subst hj; rw [add_zero]; exact hc0
    | 1, hj => simp at hj; subst hj; rw [add_one]; exact hc1
    | j + 2, hj => simp at hj
  · intro y hy
    simp at hy
    rcases hy with rfl | rfl
    · exact h1
    · exact h2
  · intro g' cap' w' h2 h3 h4 _
    exact h g' cap' w' h2 h3 h4
end Go.Proofs.Ytdfdlkpljgpckaa
