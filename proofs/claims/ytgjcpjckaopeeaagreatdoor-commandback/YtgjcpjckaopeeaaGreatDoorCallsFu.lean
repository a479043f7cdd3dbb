/-
  The law's full calls.
-/
import Derived.Test.YtgjcpjckaopeeaaGreatDoorCallsPa
import Derived.Laws.OwnMore
namespace Go.Proofs.YtgjcpjckaopeeaaGreatDoor.Calls
open Go.RowKit Disk
open Names (Str)

theorem flatten_set {c : Nat} : ∀ (vs : List (List Value)) (j i : Nat) (u : Value) (_h3 : ∀ x ∈ vs, x.length = c) (hj : j < vs.length) (_hi : i < c), (vs.set j (vs[j].set i u)).flatten = vs.flatten.set (j * c + i) u
  | [], j, i, _, _, hj, _ => absurd hj (by simp)
  | x :: vs, 0, i, u, h3, _, hi => by
    have hx := h3 x (by simp)
    simp only [List.set_cons_zero, List.getElem_cons_zero, List.flatten_cons, Nat.zero_mul, Nat.zero_add]
    rw [List.set_append_left _ _ (by omega)]
  | x :: vs, j + 1, i, u, h3, hj, hi => by
    have hx := h3 x (by simp)
    simp only [List.set_cons_succ, List.getElem_cons_succ, List.flatten_cons]
    rw [List.set_append_right _ _ (by rw [hx, Nat.add_mul]; omega), flatten_set vs j i u (fun y hy => h3 y (by simp [hy])) (by simpa using hj) hi]
    congr 2
    rw [hx, Nat.add_mul]; omega

/-- The value of an op is put in its place. -/
theorem opsOwn_setValue {w : World} {B g n cap : Nat} {l : List POp} (h : OpsOwn w B (.slice (some ⟨g, 0, none⟩) n cap) l) (j : Nat) (hj : j < l.length) (u : Value) (M : Bs) (hu : Names.Cut w B u M) :
    OpsOwn (w.setCell ⟨g, j * 8 + 3, none⟩ u) B (.slice (some ⟨g, 0, none⟩) n cap) (l.set j { l[j] with value := M }) := by
  obtain ⟨⟨vs, h1, h2, h3, h4⟩, hl⟩ := h
  have hn : n = l.length := by
    rcases h1.2 with ⟨e, _⟩ | ⟨g', cap', cur, e, _⟩
    · simp at e
    · simp at e; exact e.2.1
  subst hn
  obtain ⟨cur, hb⟩ := owns_blk h1 (k := g) rfl
  have hg : w.grownBy (w.setCell ⟨g, j * 8 + 3, none⟩ u) (some g) := grown_setCell _ _ _ _
  have hst := opR_stab B
  refine ⟨⟨vs.set j (vs[j].set 3 u), ?_, by simp [h2], ?_, ?_⟩, by simpa using hl⟩
  · rw [flatten_set vs j 3 u h3 (by omega) (by decide), List.length_set]
    exact (World.ownsRow.stored h1 (j * 8 + 3) u).1
  · intro x hx
    rcases List.mem_or_eq_of_mem_set hx with hx | rfl
    · exact h3 x hx
    · rw [List.length_set]; exact h3 _ (List.getElem_mem _)
  · intro i hi hi'
    rw [List.getElem_set, List.getElem_set]
    by_cases e : j = i
    · subst e
      rw [if_pos rfl, if_pos rfl]
      obtain ⟨k, v, ol, t, e, ho⟩ := h4 j (by omega) hj
      rw [e]
      exact ⟨k, u, ol, t, rfl, ⟨cut_set ho.key hb (by decide) hg, cut_set hu hb (by decide) hg, cut_set ho.old hb (by decide) hg, cut_set ho.tos hb (by decide) hg, ⟨ho.fits.k0, ho.fits.k1, ho.fits.m0, ho.fits.m1, ho.fits.tl⟩⟩⟩
    · rw [if_neg e, if_neg e]
      exact hst.2 _ _ _ _ _ _ _ (h4 i (by simpa using hi) (by simpa using hi')) hb (by decide) hg

theorem cut_own {w : World} {B : Nat} {v : Value} {L : Bs} (h : Own w B v L) : Names.Cut w B v L := .inl h
theorem own_nil (w : World) (B : Nat) : Own w B (.slice none 0 0) [] := World.ownsRow_nil _ _ _ _
end Go.Proofs.YtgjcpjckaopeeaaGreatDoor.Calls
