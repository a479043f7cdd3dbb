/-
  Lists of rows as they are handed in and told; Scan.
-/
import Derived.Test.YtlehikdlkdbacaaZ
namespace Go.Proofs.Ytlehikdlkdbacaa
open Go.RowKit Disk
open Names (cmpL keyB valueB)

/-- The cells of rows. -/
def rcells : List (Value × Value) → List Value
  | [] => []
  | p :: l => p.1 :: p.2 :: rcells l
theorem rcells_len : ∀ ks, (rcells ks).length = ks.length * 2
  | [] => rfl
  | p :: l => by simp [rcells, rcells_len l]; omega
theorem rcells_append : ∀ ks ls, rcells (ks ++ ls) = rcells ks ++ rcells ls
  | [], _ => rfl
  | p :: l, ls => by simp [rcells, rcells_append l ls]
theorem rcells_at : ∀ (ks : List (Value × Value)) (j : Nat) (h : j < ks.length), (rcells ks)[j * 2]? = some ks[j].1 ∧ (rcells ks)[j * 2 + 1]? = some ks[j].2
  | p :: l, 0, _ => ⟨rfl, rfl⟩
  | p :: l, j + 1, h => by
    have := rcells_at l j (by simpa using h)
    rw [show (j + 1) * 2 = j * 2 + 1 + 1 by omega]
    simpa [rcells] using this
theorem rcells_take : ∀ (ks : List (Value × Value)) (k : Nat), rcells (ks.take k) = (rcells ks).take (k * 2)
  | [], k => by simp [rcells]
  | p :: l, 0 => by simp [rcells]
  | p :: l, k + 1 => by rw [show (k + 1) * 2 = k * 2 + 1 + 1 by omega]; simp [rcells, rcells_take l k]
theorem rcells_drop : ∀ (ks : List (Value × Value)) (k : Nat), rcells (ks.drop k) = (rcells ks).drop (k * 2)
  | [], k => by simp [rcells]
  | p :: l, 0 => by simp
  | p :: l, k + 1 => by rw [show (k + 1) * 2 = k * 2 + 1 + 1 by omega]; simp [rcells, rcells_drop l k]
theorem rcells_one {ks : List (Value × Value)} (h : ∀ p ∈ ks, p.1.oneCell' = true ∧ p.2.oneCell' = true) : ∀ u ∈ rcells ks, u.oneCell' = true := by
  induction ks with
  | nil => simp [rcells]
  | cons p l ih =>
    intro u hu
    simp [rcells] at hu
    rcases hu with rfl | rfl | hu
    · exact (h p (by simp)).1
    · exact (h p (by simp)).2
    · exact ih (fun q hq => h q (by simp [hq])) u hu

/-- What the values read as. -/
def RSeg (w : World) (ks : List (Value × Value)) (l : List PRow) : Prop := ks.length = l.length ∧ ∀ j (h : j < ks.length) (h' : j < l.length), Seg w ks[j].1 l[j].1 ∧ Seg w ks[j].2 l[j].2
theorem RSeg.grown {w w' : World} {ks : List (Value × Value)} {l : List PRow} (h : RSeg w ks l) (hg : w.grownBy w' none) : RSeg w' ks l := ⟨h.1, fun j a b => ⟨(h.2 j a b).1.grown hg, (h.2 j a b).2.grown hg⟩⟩
theorem RSeg.snoc {w : World} {ks : List (Value × Value)} {l : List PRow} (h : RSeg w ks l) {x y : Value} {r : PRow} (hx : Seg w x r.1) (hy : Seg w y r.2) : RSeg w (ks ++ [(x, y)]) (l ++ [r]) := by
  refine ⟨by simp [h.1], fun j a b => ?_⟩
  have := h.1
  rw [List.getElem_append, List.getElem_append]
  split <;> split
  · exact h.2 _ _ _
  · omega
  · omega
  · simp
    exact ⟨hx, hy⟩
/-- A list of rows. -/
def Rws (w : World) (v : Value) (l : List PRow) : Prop := ∃ ks, RSeg w ks l ∧ Vec w 2 v l.length (rcells ks)
theorem Rws.grown {w w' : World} {v : Value} {l : List PRow} (h : Rws w v l) (hg : w.grownBy w' none) : Rws w' v l := by
  obtain ⟨ks, h1, h2⟩ := h
  exact ⟨ks, h1.grown hg, h2.grown hg⟩
theorem rws_open {w : World} {v : Value} {l : List PRow} (h : Rws w v l) : ∃ ao n cap, v = .slice ao n cap ∧ l.length = n ∧ n ≤ cap ∧ cap ≤ 9223372036854775807 ∧ Hid (Rws w (.slice ao n cap) l) := by
  have h' := h
  obtain ⟨ks, _, ao, cap, rfl, h2, h3, _⟩ := h'
  unfold maxLen at h3
  exact ⟨ao, _, cap, rfl, rfl, h2, by omega, h⟩
theorem rws_at {w : World} {ao : Option Addr} {n cap : Nat} {l : List PRow} (h : Rws w (.slice ao n cap) l) (j : Nat) (hj : j < l.length) : ∃ b off x y, ao = some ⟨b, off, none⟩ ∧ w.cell? ⟨b, off + j * 2, none⟩ = some x ∧ w.cell? ⟨b, off + j * 2 + 1, none⟩ = some y ∧ Seg w x l[j].1 ∧ Seg w y l[j].2 := by
  obtain ⟨ks, h1, h2⟩ := h
  have e1 := h1.1
  obtain ⟨ao', cap', e, _, _, _, _, h6⟩ := h2
  simp at e
  obtain ⟨rfl, rfl, rfl⟩ := e
  have hk : j < ks.length := by omega
  have hc := rcells_at ks j hk
  obtain ⟨b, off, e, c0⟩ := h6 _ _ hc.1
  obtain ⟨b', off', e', c1⟩ := h6 _ _ hc.2
  rw [e] at e'
  simp at e'
  obtain ⟨rfl, rfl⟩ := e'
  exact ⟨b, off, _, _, e, c0, by rw [Nat.add_assoc]; exact c1, (h1.2 j hk hj).1, (h1.2 j hk hj).2⟩
theorem rws_nil (w : World) : Rws w (.slice none 0 0) [] := ⟨[], ⟨rfl, fun j h => absurd h (by simp)⟩, vec_nil _ _⟩

/-- What the values own. -/
def ROwn (w : World) (B : Nat) (ks : List (Value × Value)) (l : List PRow) : Prop := ks.length = l.length ∧ ∀ j (h : j < ks.length) (h' : j < l.length), Disk.Own w B ks[j].1 l[j].1 ∧ Disk.Own w B ks[j].2 l[j].2
theorem ROwn.same {w w' : World} {B : Nat} {ks : List (Value × Value)} {l : List PRow} (h : ROwn w B ks l) (hs : ∀ k, (∃ c, Blk w k 5 c) → w'.heap[k]? = w.heap[k]?) : ROwn w' B ks l := by
  refine ⟨h.1, fun j a b => ?_⟩
  have := h.2 j a b
  constructor
  · refine this.1.same fun k hk => hs k ?_
    rcases this.1.2 with ⟨e, _⟩ | ⟨g, cap, cur, e, _, hg, _⟩
    · rw [e] at hk; simp [Value.ownBlock] at hk
    · rw [e] at hk; simp [Value.ownBlock] at hk; subst hk; exact ⟨cur, hg⟩
  · refine this.2.same fun k hk => hs k ?_
    rcases this.2.2 with ⟨e, _⟩ | ⟨g, cap, cur, e, _, hg, _⟩
    · rw [e] at hk; simp [Value.ownBlock] at hk
    · rw [e] at hk; simp [Value.ownBlock] at hk; subst hk; exact ⟨cur, hg⟩
theorem ROwn.grown {w w' : World} {B : Nat} {ks : List (Value × Value)} {l : List PRow} (h : ROwn w B ks l) (hg : w.grownBy w' none) : ROwn w' B ks l := ⟨h.1, fun j a b => ⟨(h.2 j a b).1.grown hg, (h.2 j a b).2.grown hg⟩⟩
theorem ROwn.mono {w : World} {B B' : Nat} {ks : List (Value × Value)} {l : List PRow} (h : ROwn w B ks l) (hB : B' ≤ B) : ROwn w B' ks l := ⟨h.1, fun j a b => ⟨(h.2 j a b).1.mono hB, (h.2 j a b).2.mono hB⟩⟩
theorem ROwn.seg {w : World} {B : Nat} {ks : List (Value × Value)} {l : List PRow} (h : ROwn w B ks l) : RSeg w ks l := ⟨h.1, fun j a b => ⟨(h.2 j a b).1.seg, (h.2 j a b).2.seg⟩⟩
theorem ROwn.snoc {w : World} {B : Nat} {ks : List (Value × Value)} {l : List PRow} (h : ROwn w B ks l) {x y : Value} {r : PRow} (hx : Disk.Own w B x r.1) (hy : Disk.Own w B y r.2) : ROwn w B (ks ++ [(x, y)]) (l ++ [r]) := by
  refine ⟨by simp [h.1], fun j a b => ?_⟩
  have := h.1
  rw [List.getElem_append, List.getElem_append]
  split <;> split
  · exact h.2 _ _ _
  · omega
  · omega
  · simp
    exact ⟨hx, hy⟩
theorem ROwn.one {w : World} {B : Nat} {ks : List (Value × Value)} {l : List PRow} (h : ROwn w B ks l) : ∀ u ∈ rcells ks, u.oneCell' = true := by
  refine rcells_one fun p hp => ?_
  obtain ⟨j, hj, rfl⟩ := List.mem_iff_getElem.1 hp
  have := h.2 j hj (by rw [← h.1]; exact hj)
  obtain ⟨a, c, e⟩ := this.1.seg.shape
  obtain ⟨a', c', e'⟩ := this.2.seg.shape
  rw [e, e']
  exact ⟨rfl, rfl⟩
/-- A list of rows of the call's own. -/
def TRws (w : World) (B : Nat) (v : Value) (l : List PRow) : Prop := ∃ ks, w.ownsRow B 45 2 v l.length (rcells ks) ∧ ROwn w B ks l
theorem TRws.grown {w w' : World} {B : Nat} {v : Value} {l : List PRow} (h : TRws w B v l) (hg : w.grownBy w' none) : TRws w' B v l := by
  obtain ⟨ks, h1, h2⟩ := h
  exact ⟨ks, World.ownsRow.kept h1 hg (by cases v.ownBlock <;> simp), h2.grown hg⟩
theorem TRws.rws {w : World} {B : Nat} {v : Value} {l : List PRow} (h : TRws w B v l) : Rws w v l := by
  obtain ⟨ks, h1, h2⟩ := h
  exact ⟨ks, h2.seg, vec_of_owns h1⟩
theorem owns_mono {w : World} {B B' e size n : Nat} {v : Value} {xs : List Value} (h : w.ownsRow B e size v n xs) (hB : B' ≤ B) : w.ownsRow B' e size v n xs := by
  refine ⟨h.1, ?_⟩
  rcases h.2 with h2 | ⟨g, cap, cur, h1, hb, h3⟩
  · exact .inl h2
  · exact .inr ⟨g, cap, cur, h1, by omega, h3⟩
theorem TRws.mono {w : World} {B B' : Nat} {v : Value} {l : List PRow} (h : TRws w B v l) (hB : B' ≤ B) : TRws w B' v l := by
  obtain ⟨ks, h1, h2⟩ := h
  exact ⟨ks, owns_mono h1 hB, h2.mono hB⟩
theorem TRws.nil (w : World) (B : Nat) : TRws w B (.slice none 0 0) [] := ⟨[], World.ownsRow_nil _ _ _ _, rfl, fun j h => absurd h (by simp)⟩

theorem Try.info45 : (Try.prog.info? 45).map (fun i => (i.zero, i.size, i.bytes)) = some (some (.agg #[.slice none 0 0, .slice none 0 0]), 2, 48) := by kernel_rfl
theorem ut22 : Try.prog.underlying 22 = some (.slice (Try.prog.elem 22)) := by kernel_rfl
theorem ut22' : Try.prog.underlying 22 = some (.slice 45) := by kernel_rfl
theorem size22 (w : World) : (sizeOf (Try.prog.elem 22)).run Try.prog w = .ok 2 w := by kernel_rfl
theorem vec_two (w : World) (x y : Value) (w1 : World) (hb : Blk w1 w.heap.size 45 #[x, y]) : Vec w1 2 (.slice (some ⟨w.heap.size, 0, none⟩) 1 1) 1 [x, y] := by
  refine ⟨_, 1, rfl, Nat.le_refl _, by unfold maxLen; omega, by simp, rfl, fun j u hj => ⟨_, 0, rfl, ?_⟩⟩
  rw [hb.cell, Nat.zero_add]
  simpa using hj

/-- A row appended to a list of the call's own: the operation itself. -/
theorem appR_wp {o : Oper} {a : Act} {K : Act → World → Prop} {Q : Exit → Act → World → Prop} (w : World) (s x : Operand) (ho : o.op = .call { callee := .builtin .append, args := #[s, x], argTypes := #[22, 22] })
    (B : Nat) (v : Value) (l : List PRow) (u : Value) (kx ky : Value) (r : PRow) (hs : a.eval s = v) (hx : a.eval x = u) (hv : TRws w B v l) (hu : Vec w 2 u 1 [kx, ky]) (h1 : Disk.Own w B kx r.1) (h2 : Disk.Own w B ky r.2) (hb : l.length ≤ 1000000) (hB : B ≤ w.heap.size)
    (h : ∀ ao cap w', TRws w' B (.slice ao (l.length + 1) cap) (l ++ [r]) → (∃ q, w.grownBy w' q ∧ ∀ g, q = some g → B ≤ g) → K (a.put o.dst (.slice ao (l.length + 1) cap)) w') : o.wp Try.prog a w K Q := by
  obtain ⟨ks, h3, h4⟩ := hv
  have h5 := h4.snoc h1 h2
  obtain ⟨i0, hi, hz0, hz1, hz2⟩ := info_parts Try.info45
  obtain ⟨ad, c, eu⟩ : ∃ ad c, u = .slice (some ad) 1 c := by
    obtain ⟨ao, c, e, k1, _, k3, _⟩ := hu
    cases ao with
    | none => have := k3 rfl; omega
    | some ad => exact ⟨ad, c, e⟩
  subst eu
  refine wp_append_lies w s x 22 ho B 45 i0 _ 2 48 ut22' hi hz0 hz1 hz2 rfl (by decide) v l.length (rcells ks) hs h3 ad 1 c [kx, ky] hx rfl hu.news ?_ (by decide) (by unfold maxLen; omega) (by omega) hB w.heap.size rfl ?_
  · intro y hy
    have := h5.one y (by rw [rcells_append]; simp [rcells] at hy ⊢; exact .inr hy)
    exact this
  · intro g cap w' r1 r2 r3 _
    refine h _ cap w' ⟨ks ++ [(kx, ky)], ?_, ?_⟩ ⟨_, r2, fun q hq => (World.ownsRow.lt h3 q hq).1⟩
    · rw [rcells_append, List.length_append]
      exact r1
    · refine h5.same fun k ⟨c, hk⟩ => r2.block k hk.lt ?_
      intro e
      rcases h3.2 with ⟨e2, _⟩ | ⟨g2, cap2, cur2, e2, _, hg2, _⟩
      · rw [e2] at e; simp [Value.ownBlock] at e
      · rw [e2] at e
        simp [Value.ownBlock] at e
        subst e
        unfold Blk at hk
        rw [hg2] at hk
        simp at hk
end Go.Proofs.Ytlehikdlkdbacaa
