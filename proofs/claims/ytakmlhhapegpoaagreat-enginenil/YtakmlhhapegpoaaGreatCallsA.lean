/-
  Lists of ops: held against each other, by the program and by the document.
-/
import Derived.Test.YtakmlhhapegpoaaGreatCallsW
namespace Go.Proofs.YtakmlhhapegpoaaGreat.Calls
open Go.RowKit Disk
open Names (Str)

/-- The eight cells of an op. -/
structure OpAt (w : World) (b p : Nat) (o : POp) (k v ol t : Value) : Prop where
  c0 : w.cell? ⟨b, p, none⟩ = some (.int .i64 o.kind)
  c1 : w.cell? ⟨b, p + 1, none⟩ = some (Str o.table)
  c2 : w.cell? ⟨b, p + 2, none⟩ = some k
  c3 : w.cell? ⟨b, p + 3, none⟩ = some v
  c4 : w.cell? ⟨b, p + 4, none⟩ = some (.bool o.has)
  c5 : w.cell? ⟨b, p + 5, none⟩ = some ol
  c6 : w.cell? ⟨b, p + 6, none⟩ = some t
  c7 : w.cell? ⟨b, p + 7, none⟩ = some (.int .i64 o.most)

theorem OpAt.grown {w w' : World} {b p : Nat} {o : POp} {k v ol t : Value} (h : OpAt w b p o k v ol t) (hg : w.grownBy w' none) : OpAt w' b p o k v ol t :=
  ⟨hg.cell h.c0 (by simp), hg.cell h.c1 (by simp), hg.cell h.c2 (by simp), hg.cell h.c3 (by simp), hg.cell h.c4 (by simp), hg.cell h.c5 (by simp), hg.cell h.c6 (by simp), hg.cell h.c7 (by simp)⟩

/-- A list of ops reads as l. -/
def Ops (w : World) (v : Value) (l : List POp) : Prop :=
  ∃ ao cap, v = .slice ao l.length cap ∧ l.length ≤ 1099511627776 ∧ ∀ j (hj : j < l.length), ∃ b off k x ol t, ao = some ⟨b, off, none⟩ ∧ OpAt w b (off + j * 8) l[j] k x ol t ∧ OpSeg w k x ol t l[j]

theorem Ops.shape {w : World} {v : Value} {l : List POp} (h : Ops w v l) : ∃ ao cap, v = .slice ao l.length cap := by obtain ⟨ao, cap, h, _⟩ := h; exact ⟨ao, cap, h⟩
theorem Ops.len {w : World} {v : Value} {l : List POp} (h : Ops w v l) : l.length ≤ 1099511627776 := by obtain ⟨ao, cap, _, h, _⟩ := h; exact h
theorem Ops.grown {w w' : World} {v : Value} {l : List POp} (h : Ops w v l) (hg : w.grownBy w' none) : Ops w' v l := by
  obtain ⟨ao, cap, hv, hl, h4⟩ := h
  refine ⟨ao, cap, hv, hl, fun j hj => ?_⟩
  obtain ⟨b, off, k, x, ol, t, e, h1, h2⟩ := h4 j hj
  exact ⟨b, off, k, x, ol, t, e, h1.grown hg, h2.grown hg⟩
theorem ops_open {w : World} {v : Value} {l : List POp} (h : Ops w v l) : ∃ ao n cap, v = .slice ao n cap ∧ l.length = n ∧ n ≤ 1099511627776 ∧ Hid (Ops w (.slice ao n cap) l) := by
  obtain ⟨ao, cap, rfl⟩ := h.shape
  exact ⟨ao, _, cap, rfl, rfl, h.len, h⟩
theorem ops_at {w : World} {ao : Option Addr} {n cap : Nat} {l : List POp} (h : Ops w (.slice ao n cap) l) (j : Nat) (hj : j < l.length) : ∃ b off k x ol t, ao = some ⟨b, off, none⟩ ∧ OpAt w b (off + j * 8) l[j] k x ol t ∧ OpSeg w k x ol t l[j] := by
  obtain ⟨ao', cap', hv, _, h4⟩ := h
  simp at hv
  obtain ⟨rfl, _, _⟩ := hv
  exact h4 j hj

theorem OpSeg.shapes {w : World} {k v ol t : Value} {o : POp} (h : OpSeg w k v ol t o) : ∃ a b c d a' b' c' d', k = .slice a o.key.length a' ∧ v = .slice b o.value.length b' ∧ ol = .slice c o.old.length c' ∧ t = .slice d o.to.length d' := by
  obtain ⟨a, a', h1⟩ := h.key.shape
  obtain ⟨b, b', h2⟩ := h.value.shape
  obtain ⟨c, c', h3⟩ := h.old.shape
  obtain ⟨d, d', h4⟩ := h.to.shape
  exact ⟨a, b, c, d, a', b', c', d', h1, h2, h3, h4⟩

/-- What begins alike is alike if the rest is. -/
theorem drop_eq {α : Type} {A B : List α} {k : Nat} (ha : k < A.length) (hb : k < B.length) : (A.drop k = B.drop k) ↔ (A[k] = B[k] ∧ A.drop (k + 1) = B.drop (k + 1)) := by
  conv => lhs; rw [List.drop_eq_getElem_cons ha, List.drop_eq_getElem_cons hb]
  exact List.cons_eq_cons

set_option maxRecDepth 100000 in
set_option maxHeartbeats 4000000 in
theorem sameop43 (k v ol t k' v' ol' t' : Value) (a b : POp) (w : World) (ha : OpSeg w k v ol t a) (hb : OpSeg w k' v' ol' t' b) :
    Calls Tryz.prog 67 #[opV k v ol t a, opV k' v' ol' t' b] w fun e w' => e = .returned (.bool (decide (a = b))) ∧ w.grownBy w' none := by
  unfold opV Str
  obtain ⟨h1, h2, h3, h4, _⟩ := ha
  obtain ⟨i1, i2, i3, i4, _⟩ := hb
  have h1' := fun o1 o2 => seg_str (seg_alloc (seg_alloc h1 o1) o2)
  have h2' := fun o1 o2 => seg_str (seg_alloc (seg_alloc h2 o1) o2)
  have h3' := fun o1 o2 => seg_str (seg_alloc (seg_alloc h3 o1) o2)
  have h4' := fun o1 o2 => seg_str (seg_alloc (seg_alloc h4 o1) o2)
  have i1' := fun o1 o2 => seg_str (seg_alloc (seg_alloc i1 o1) o2)
  have i2' := fun o1 o2 => seg_str (seg_alloc (seg_alloc i2 o1) o2)
  have i3' := fun o1 o2 => seg_str (seg_alloc (seg_alloc i3 o1) o2)
  have i4' := fun o1 o2 => seg_str (seg_alloc (seg_alloc i4 o1) o2)
  go_enter Tryz.func67, Tryz.ntmps67
  go_wp2
  all_goals go_ret
  all_goals refine ⟨?_, grown_trans (World.grownBy_alloc _ _ none) (World.grownBy_alloc _ _ none)⟩
  all_goals (refine congrArg (fun x => Ending.returned (Value.bool x)) ?_; first | (simp [POp.ext', *]; done) | (by_cases hm : a.most = b.most <;> simp [POp.ext', *]))
end Go.Proofs.YtakmlhhapegpoaaGreat.Calls
