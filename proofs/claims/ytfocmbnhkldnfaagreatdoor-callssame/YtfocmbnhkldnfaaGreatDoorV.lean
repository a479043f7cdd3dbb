/-
  The words of an op's text, read one by one.
-/
import Derived.Test.YtfocmbnhkldnfaaGreatDoorT
import Derived.Test.YtfocmbnhkldnfaaGreatDoorNamesAll
namespace Go.Proofs.YtfocmbnhkldnfaaGreatDoor
open Go.RowKit Disk
open Names (Str)

/-- The words that are left. -/
def WD (w : World) (b : Nat) (L : List Bs) : Prop := ∃ ao cap, Blk w b 136 #[.slice ao L.length cap] ∧ L.length ≤ cap ∧ cap ≤ 1099511627776 ∧ (∀ x ∈ L, x.length ≤ 20000) ∧ ∀ j (hj : j < L.length), ∃ g off cur, ao = some ⟨g, off, none⟩ ∧ w.cell? ⟨g, off + j, none⟩ = some (.string ⟨L[j].toArray⟩) ∧ Blk w g 9 cur

theorem WD.blk {w : World} {b : Nat} {L : List Bs} (h : WD w b L) : ∃ v, Blk w b 136 #[v] := by obtain ⟨ao, cap, h, _⟩ := h; exact ⟨_, h⟩
theorem WD.grown {w w' : World} {b : Nat} {L : List Bs} (h : WD w b L) (hg : w.grownBy w' none) : WD w' b L := by
  obtain ⟨ao, cap, h1, h2, h3, h4, h5⟩ := h
  refine ⟨ao, cap, h1.grown hg (by simp), h2, h3, h4, fun j hj => ?_⟩
  obtain ⟨g, off, cur, e, hc, hb⟩ := h5 j hj
  exact ⟨g, off, cur, e, grown_fun hg hc, hb.grown hg (by simp)⟩
theorem WD.set {w w' : World} {b x t : Nat} {c : Array Value} {L : List Bs} (h : WD w b L) (hx : Blk w x t c) (h136 : t ≠ 136) (h9 : t ≠ 9) (hg : w.grownBy w' (some x)) : WD w' b L := by
  obtain ⟨ao, cap, h1, h2, h3, h4, h5⟩ := h
  refine ⟨ao, cap, h1.grown hg (fun e => by simp at e; subst e; exact h136 (blk_type hx h1)), h2, h3, h4, fun j hj => ?_⟩
  obtain ⟨g, off, cur, e, hc, hb⟩ := h5 j hj
  have hne : some x ≠ some g := fun e => by simp at e; subst e; exact h9 (blk_type hx hb)
  exact ⟨g, off, cur, e, hg.cell hc (fun e => hne e.symm), hb.grown hg hne⟩
theorem WD.tail {w : World} {b : Nat} {x : Bs} {r : List Bs} {ao : Option Addr} {cap : Nat} (h1 : Blk w b 136 #[.slice ao (r.length + 1) cap]) (h2 : r.length + 1 ≤ cap) (h3 : cap ≤ 1099511627776) (h4 : ∀ y ∈ x :: r, y.length ≤ 20000)
    (h5 : ∀ j (hj : j < (x :: r).length), ∃ g off cur, ao = some ⟨g, off, none⟩ ∧ w.cell? ⟨g, off + j, none⟩ = some (.string ⟨(x :: r)[j].toArray⟩) ∧ Blk w g 9 cur) (v : Value)
    (hv : (r = [] ∧ ∃ a c, v = .slice a 0 c ∧ c ≤ cap) ∨ (∃ g off, ao = some ⟨g, off, none⟩ ∧ v = .slice (some ⟨g, off + 1, none⟩) r.length (cap - 1))) : WD (w.setCell ⟨b, 0, none⟩ v) b r := by
  have hg := grown_setCell w b 0 v
  have hb := h1.store 0 v
  rcases hv with ⟨rfl, a, c, rfl, hc⟩ | ⟨g, off, rfl, rfl⟩
  · exact ⟨a, c, hb, by simp, by omega, by simp, fun j hj => absurd hj (by simp)⟩
  · refine ⟨_, _, hb, by omega, by omega, fun y hy => h4 y (by simp [hy]), fun j hj => ?_⟩
    obtain ⟨g', off', cur, e, hc, hb'⟩ := h5 (j + 1) (by simpa using hj)
    simp at e
    obtain ⟨rfl, rfl⟩ := e
    have hne : some b ≠ some g := fun e => by simp at e; subst e; have := blk_type h1 hb'; omega
    refine ⟨g, off + 1, cur, rfl, ?_, hb'.grown hg hne⟩
    rw [show off + 1 + j = off + (j + 1) by omega]
    refine hg.cell ?_ (fun e => hne e.symm)
    simpa using hc

/-- What a reading of words leaves: the thing, or it is given up. -/
def WPost {α : Type} (b : Nat) (w : World) (r : Option (α × List Bs)) (is : α → Value → World → Prop) (e : Ending) (w' : World) : Prop :=
  (∃ x M v, r = some (x, M) ∧ e = .returned v ∧ is x v w' ∧ WD w' b M ∧ w.grownBy w' (some b)) ∨ (r = none ∧ e = Pan 4 ∧ w.grownBy w' (some b))

def wNext : List Bs → Option (Bs × List Bs)
  | [] => none
  | x :: r => some (x, r)

set_option maxRecDepth 100000 in
set_option maxHeartbeats 2000000 in
theorem next95 (b : Nat) (L : List Bs) (w : World) (h : WD w b L) :
    Calls Tryz.prog 95 #[.pointer (some ⟨b, 0, none⟩)] w (WPost b w (wNext L) (fun x v _ => v = Str x ∧ x.length ≤ 20000)) := by
  obtain ⟨ao, cap, h1, h2, h3, h4, h5⟩ := h
  have c0 := h1.cell 0
  have z0 := h1.free 0
  cases L with
  | nil =>
    simp only [List.length_nil] at c0
    go_enter Tryz.func95, Tryz.ntmps95
    go_wp2_with (go_at_call 55; refine (sure_no _ _).mono ?_; rintro e w2 ⟨rfl, hw2⟩; rw [hw2]; clear hw2; unfold Pan)
    exact ⟨rfl, .inr ⟨rfl, rfl, grown_refl _ _⟩⟩
  | cons x r =>
    obtain ⟨g, off, cur, rfl, hc, hb⟩ := h5 0 (by simp)
    have hc0 : w.cell? ⟨g, off, none⟩ = some (.string ⟨x.toArray⟩) := by simpa using hc
    obtain ⟨n, hn⟩ : ∃ n, n = r.length := ⟨_, rfl⟩
    have HT : Hid _ := fun v hv => WD.tail (x := x) (r := r) (ao := some ⟨g, off, none⟩) h1 h2 h3 h4 h5 v hv
    have HX : Hid (x.length ≤ 20000 ∧ n = r.length) := ⟨h4 x (by simp), hn⟩
    simp only [List.length_cons] at c0 h2
    rw [← hn] at c0 h2
    have i0 : (0 : Int) < ((n : Int) + 1) := by omega
    have i1 : (0 : Int) < (((n + 1 : Nat)) : Int) := by omega
    have i2 : ¬ ((cap : Int) < 1) := by omega
    have i3 : ¬ (((n + 1 : Nat) : Int) < 1) := by omega
    clear hc h1 h4 h5 hb hn
    by_cases hcap : cap = 1
    · have hn0 : n = 0 := by omega
      subst hcap hn0
      have hr : r = [] := List.length_eq_zero_iff.1 HX.out.2.symm
      go_enter Tryz.func95, Tryz.ntmps95
      go_wp2_with (go_at_call 55; refine (sure_yes _ _).mono ?_; rintro e w2 ⟨rfl, hw2⟩; rw [hw2]; clear hw2)
      all_goals go_ret
      all_goals exact .inl ⟨x, r, _, rfl, rfl, ⟨rfl, HX.out.1⟩, HT.out _ (.inl ⟨hr, _, _, rfl, by omega⟩), grown_setCell _ _ _ _⟩
    · go_enter Tryz.func95, Tryz.ntmps95
      go_wp2_with (go_at_call 55; refine (sure_yes _ _).mono ?_; rintro e w2 ⟨rfl, hw2⟩; rw [hw2]; clear hw2)
      all_goals go_ret
      all_goals (first | (exfalso; omega) | (refine .inl ⟨x, r, _, rfl, rfl, ⟨rfl, HX.out.1⟩, HT.out _ (.inr ⟨g, off, rfl, ?_⟩), grown_setCell _ _ _ _⟩; first | (rw [← HX.out.2]; done) | (rw [← HX.out.2]; simp [Addr.add])))

def wBytes (L : List Bs) : Option (Bs × List Bs) := (wNext L).bind fun x => if Names.readE x.1 = 0 then some (Names.readL x.1, x.2) else none
theorem readE_cases (s : Bs) : Names.readE s = 0 ∨ Names.readE s = 4 := by unfold Names.readE; split <;> simp
end Go.Proofs.YtfocmbnhkldnfaaGreatDoor
