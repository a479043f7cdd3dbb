/-
  Rows of lent slices; lists of steps; Of of both.
-/
import Derived.Test.YtegacmcekladfaaX
namespace Go.Proofs.Ytegacmcekladfaa
open Go.RowKit

theorem Try.info22 : (Try.prog.info? 22).map (fun i => (i.zero, i.size, i.bytes)) = some (some (.slice none 0 0), 1, 24) := by kernel_rfl

/-- A row of lent slices, each in a block of its own. -/
structure LRow (w : World) (B : Nat) (v : Value) (vs : List Value) (Ls : List (List UInt8)) : Prop where
  row : w.ownsRow B 22 1 v vs.length vs
  len : vs.length = Ls.length
  each : ∀ j (h : j < vs.length) (h' : j < Ls.length), Lent w B vs[j] Ls[j]
  far : ∀ i j (hi : i < vs.length) (hj : j < vs.length), i ≠ j → ∀ a, vs[i].ownBlock = some a → vs[j].ownBlock ≠ some a

theorem lrow_nil (w : World) (B : Nat) : LRow w B (.slice none 0 0) [] [] := ⟨World.ownsRow_nil _ _ _ _, rfl, fun j h => absurd h (by simp), fun i j hi => absurd hi (by simp)⟩

theorem LRow.same {w w' : World} {B : Nat} {v : Value} {vs : List Value} {Ls : List (List UInt8)} (h : LRow w B v vs Ls) (hs : ∀ k, B ≤ k → k < w.heap.size → w'.heap[k]? = w.heap[k]?) : LRow w' B v vs Ls := by
  refine ⟨⟨h.row.1, ?_⟩, h.len, fun j hj hj' => (h.each j hj hj').same fun k hk => ?_, h.far⟩
  · rcases h.row.2 with h2 | ⟨g, cap, cur, e, hb, hg, h3⟩
    · exact .inl h2
    · exact .inr ⟨g, cap, cur, e, hb, (hs g hb (Array.getElem?_eq_some_iff.1 hg).1).trans hg, h3⟩
  · have := (h.each j hj hj').lt k hk
    exact hs k this.1 this.2
theorem LRow.grown {w w' : World} {B : Nat} {v : Value} {vs : List Value} {Ls : List (List UInt8)} (h : LRow w B v vs Ls) (hg : w.grownBy w' none) : LRow w' B v vs Ls := h.same fun k _ hk => hg.block k hk (by simp)

/-- A block of another type than the row's. -/
theorem row_other {w : World} {B : Nat} {v : Value} {n : Nat} {xs : List Value} {b t : Nat} {c : Array Value} (h : w.ownsRow B 22 1 v n xs) (hb : Blk w b t c) (ht : t ≠ 22) : v.ownBlock ≠ some b := by
  rcases h.2 with ⟨rfl, _⟩ | ⟨g, cap, cur, rfl, _, hg, _⟩
  · simp [Value.ownBlock]
  · intro e
    simp [Value.ownBlock] at e
    subst e
    unfold Blk at hb
    rw [hg] at hb
    simp at hb
    exact ht hb.2.symm

theorem Lent.blk {w : World} {B : Nat} {v : Value} {L : List UInt8} (h : Lent w B v L) : ∃ g cap cur, v = .slice (some ⟨g, 0, none⟩) L.length cap ∧ Blk w g 5 cur ∧ B ≤ g := by
  obtain ⟨g, cap, rfl, ho⟩ := h
  rcases ho.2 with ⟨e, _⟩ | ⟨g', c, cur, e, hb, hg, _⟩
  · simp at e
  · simp at e
    obtain ⟨rfl, _, rfl⟩ := e
    exact ⟨g, cap, cur, rfl, hg, hb⟩

/-- One more. -/
theorem LRow.snoc {w w' : World} {B : Nat} {v v' u : Value} {vs : List Value} {Ls : List (List UInt8)} {L : List UInt8} (h : LRow w B v vs Ls) (hu : Lent w B u L) (hn : ∀ j (hj : j < vs.length) a, vs[j].ownBlock = some a → u.ownBlock ≠ some a) (hg : w.grownBy w' v.ownBlock) (hr : w'.ownsRow B 22 1 v' (vs.length + 1) (vs ++ [u])) : LRow w' B v' (vs ++ [u]) (Ls ++ [L]) := by
  have keep : ∀ {x M}, Lent w B x M → Lent w' B x M := fun {x M} hx => by
    obtain ⟨g, cap, cur, rfl, hb, _⟩ := hx.blk
    exact hx.same fun k hk => by
      simp [Value.ownBlock] at hk
      subst hk
      exact hg.block g hb.lt (fun e => row_other h.row hb (by decide) e.symm)
  have hl := h.len
  refine ⟨by rw [List.length_append]; exact hr, by simp [h.len], fun j hj hj' => ?_, fun i j hi hj hij a ha e => ?_⟩
  · by_cases hlt : j < vs.length
    · rw [List.getElem_append_left hlt, List.getElem_append_left (by omega)]
      exact keep (h.each j hlt (by omega))
    · have e1 : j = vs.length := by simp at hj; omega
      subst e1
      have e2 : (vs ++ [u])[vs.length] = u := by simp
      have e3 : (Ls ++ [L])[vs.length]'hj' = L := by simp [hl]
      rw [e2, e3]
      exact keep hu
  · simp at hi hj
    by_cases hi2 : i < vs.length
    · rw [List.getElem_append_left hi2] at ha
      by_cases hj2 : j < vs.length
      · rw [List.getElem_append_left hj2] at e
        exact h.far i j hi2 hj2 hij a ha e
      · have e1 : j = vs.length := by omega
        subst e1
        have e2 : (vs ++ [u])[vs.length] = u := by simp
        rw [e2] at e
        exact hn i hi2 a ha e
    · have e1 : i = vs.length := by omega
      subst e1
      have e2 : (vs ++ [u])[vs.length] = u := by simp
      rw [e2] at ha
      have hj2 : j < vs.length := by omega
      rw [List.getElem_append_left hj2] at e
      exact hn j hj2 a e ha

theorem LRow.cell {w : World} {B : Nat} {v : Value} {vs : List Value} {Ls : List (List UInt8)} (h : LRow w B v vs Ls) (j : Nat) (hj : j < vs.length) : ∃ g cap, v = .slice (some ⟨g, 0, none⟩) vs.length cap ∧ w.cell? ⟨g, j, none⟩ = some vs[j] ∧ B ≤ g := by
  rcases h.row.2 with ⟨_, h0⟩ | ⟨g, cap, cur, e, hb, hg, h1, h2, h3, h4⟩
  · omega
  · refine ⟨g, cap, e, ?_, hb⟩
    have hr : w.ownsRow B 22 1 (.slice (some ⟨g, 0, none⟩) vs.length cap) vs.length vs := by rw [← e]; exact h.row
    rw [hr.cellAt j (by omega)]
    simp [hj]
theorem LRow.shape {w : World} {B : Nat} {v : Value} {vs : List Value} {Ls : List (List UInt8)} (h : LRow w B v vs Ls) : ∃ ao cap, v = .slice ao vs.length cap := by
  rcases h.row.2 with ⟨rfl, h0⟩ | ⟨g, cap, cur, rfl, _⟩
  · exact ⟨none, 0, by rw [h0]⟩
  · exact ⟨_, _, rfl⟩
theorem LRow.segs {w : World} {B : Nat} {v : Value} {vs : List Value} {Ls : List (List UInt8)} (h : LRow w B v vs Ls) (hl : Ls.length ≤ 9223372036854775807) : Segs w v Ls := by
  obtain ⟨ao, cap, e⟩ := h.shape
  refine ⟨ao, cap, by rw [e, h.len], hl, fun j hj => ?_⟩
  have hj2 : j < vs.length := by rw [h.len]; exact hj
  obtain ⟨g, c, e2, hc, _⟩ := h.cell j hj2
  rw [e] at e2
  simp at e2
  refine ⟨g, 0, vs[j], e2.1, by rw [Nat.zero_add]; exact hc, (h.each j hj2 hj).seg⟩

/-- What is left of such a row: those from number k on are as they were lent. -/
def Rem (w : World) (B : Nat) (v : Value) (vs : List Value) (Ls : List (List UInt8)) (k : Nat) : Prop := w.ownsRow B 22 1 v vs.length vs ∧ ∀ j, k ≤ j → ∀ (h : j < vs.length) (h' : j < Ls.length), Lent w B vs[j] Ls[j]

theorem LRow.rem {w : World} {B : Nat} {v : Value} {vs : List Value} {Ls : List (List UInt8)} (h : LRow w B v vs Ls) : Rem w B v vs Ls 0 := ⟨h.row, fun j _ h1 h2 => h.each j h1 h2⟩
theorem Rem.step {w w' : World} {B : Nat} {v : Value} {vs : List Value} {Ls : List (List UInt8)} {k : Nat} (h : Rem w B v vs Ls k) (hf : ∀ i j (hi : i < vs.length) (hj : j < vs.length), i ≠ j → ∀ a, vs[i].ownBlock = some a → vs[j].ownBlock ≠ some a) (hk : k < vs.length) (hk' : k < Ls.length) (hg : w.grownBy w' vs[k].ownBlock) : Rem w' B v vs Ls (k + 1) := by
  obtain ⟨g, cap, cur, e, hb, _⟩ := (h.2 k (Nat.le_refl _) hk hk').blk
  refine ⟨World.ownsRow.kept h.1 hg (.inr ?_), fun j hj h1 h2 => (h.2 j (by omega) h1 h2).same fun a ha => hg.block a ((h.2 j (by omega) h1 h2).lt a ha).2 (fun e2 => ?_)⟩
  · rw [e]
    exact row_other h.1 hb (by decide)
  · exact hf j k h1 hk (by omega) a ha e2.symm
theorem Rem.cell {w : World} {B : Nat} {vs : List Value} {Ls : List (List UInt8)} {k g n cap : Nat} (h : Rem w B (.slice (some ⟨g, 0, none⟩) n cap) vs Ls k) (hn : vs.length = n) (j : Nat) (hj : j < vs.length) : w.cell? ⟨g, j, none⟩ = some vs[j] := by
  subst hn
  rw [World.ownsRow.cellAt h.1 j (by omega)]
  simp [hj]

/-- A slice appended to a row of slices. -/
theorem app23 {ops : Array Oper} {rest : List Oper} {o : Oper} {a : Act} {Q : Exit → Act → World → Prop} (w : World) (hgd : o.guard = none) (s x : Operand)
    (ho : o.op = .call { callee := .builtin .append, args := #[s, x], argTypes := #[23, 23] })
    (B : Nat) (v : Value) (vs : List Value) (u : Value) (g : Nat) (hs : a.eval s = v) (hx : a.eval x = .slice (some ⟨g, 0, none⟩) 1 1) (hown : w.ownsRow B 22 1 v vs.length vs) (hc : w.cell? ⟨g, 0, none⟩ = some u) (h1 : u.oneCell' = true) (hb : (vs.length + 1) * 24 ≤ 140737488355328) (hB : B ≤ w.heap.size)
    (h : ∀ v' w', w'.ownsRow B 22 1 v' (vs.length + 1) (vs ++ [u]) → w.grownBy w' v.ownBlock → wpList Try.prog ops Q rest (a.put o.dst v') w') : wpList Try.prog ops Q (o :: rest) a w := by
  obtain ⟨i0, hi, hz0, hz1, hz2⟩ := info_parts Try.info22
  refine wpList_append_own w hgd s x 23 ho B 22 i0 (.slice none 0 0) 1 24 Try.underlying23 hi hz0 hz1 hz2 rfl (by decide) v vs.length vs hs hown ⟨g, 0, none⟩ 1 1 [u] hx rfl ?_ ?_ (by unfold maxLen; omega) hb hB ?_
  · intro j y hj
    match j, hj with
    | 0, hj =>
      simp at hj
      subst hj
      have e2 : (⟨g, 0, none⟩ : Addr).add 0 = ⟨g, 0, none⟩ := by unfold Addr.add; simp
      rw [e2]
      exact hc
    | j + 1, hj => simp at hj
  · intro y hy
    simp at hy
    subst hy
    exact h1
  · intro v' w' h2 h3 _
    exact h v' w' h2 h3

/-- A list of steps. -/
def StepsV (w : World) (v : Value) (L : List (Int × Int × List UInt8)) : Prop :=
  ∃ ao cap, v = .slice ao L.length cap ∧ L.length ≤ 140737488355328 ∧ ∀ j (hj : j < L.length), ∃ b off u, ao = some ⟨b, off, none⟩ ∧ w.cell? ⟨b, off + j * 3, none⟩ = some (.int .i64 L[j].1) ∧ w.cell? ⟨b, off + j * 3 + 1, none⟩ = some (.int .i64 L[j].2.1) ∧ w.cell? ⟨b, off + j * 3 + 2, none⟩ = some u ∧ Seg w u L[j].2.2 ∧ L[j].2.2.length ≤ 140737488351232 ∧ -9223372036854775808 ≤ L[j].2.1 ∧ L[j].2.1 ≤ 9223372036854775807

theorem StepsV.shape {w : World} {v : Value} {L : List (Int × Int × List UInt8)} (h : StepsV w v L) : ∃ ao cap, v = .slice ao L.length cap := by
  obtain ⟨ao, cap, h, _⟩ := h
  exact ⟨ao, cap, h⟩

/-- What Of makes. -/
def ofX (c : Int) (log : List UInt8) (Ls : List (List UInt8)) : Option St := if c < 1 ∨ 1048576 < c ∨ 2 < Ls.length then none else some (St.of c.toNat log Ls)
def ofCode (X : Option St) : Int := match X with
  | none => 2
  | some _ => 0

theorem ofX_few (c : Int) (log : List UInt8) (Ls : List (List UInt8)) (m : Nat) : Few m (ofX c log Ls) := by
  intro S hS
  unfold ofX at hS
  by_cases h : c < 1 ∨ 1048576 < c ∨ 2 < Ls.length
  · rw [if_pos h] at hS; cases hS
  · rw [if_neg h] at hS
    cases hS
    exact Nat.zero_le _

theorem ofD (c : Int) (u v : Value) (log : List UInt8) (Ls : List (List UInt8)) (w : World) (hu : Seg w u log) (hv : Segs w v Ls) (hl : log.length ≤ 140737488351232) (hL : ∀ L ∈ Ls, L.length ≤ 140737488351232) :
    Calls Try.prog 7 #[.int .i64 c, u, v] w fun e w' => ∃ p, e = .returned (.tuple #[p, .int .i64 (ofCode (ofX c log Ls))]) ∧ DNQ w w' p (ofX c log Ls) := by
  by_cases h : c < 1 ∨ 1048576 < c ∨ 2 < Ls.length
  · have e : ofX c log Ls = none := by unfold ofX; rw [if_pos h]
    rw [e]
    refine (of7_bad c u v log Ls w hu hv h).mono ?_
    rintro e w' ⟨rfl, g⟩
    exact ⟨_, rfl, g, fun _ => False, rfl, fun _ h => h.elim, fun _ h => h.elim⟩
  · have e : ofX c log Ls = some (St.of c.toNat log Ls) := by unfold ofX; rw [if_neg h]
    rw [e]
    obtain ⟨n, rfl⟩ : ∃ n : Nat, c = n := ⟨c.toNat, by omega⟩
    refine (of7 n u v log Ls w hu hv (by omega) (by omega) (by omega) hl hL).mono ?_
    rintro e w' ⟨p, rfl, g⟩
    exact ⟨p, rfl, g.q⟩

theorem ofR (c : Int) (u v : Value) (log : List UInt8) (Ls : List (List UInt8)) (w : World) (hu : Seg w u log) (hv : Segs w v Ls) (hl : log.length ≤ 140737488351232) (hL : ∀ L ∈ Ls, L.length ≤ 140737488351232) :
    Calls Try.prog 8 #[.int .i64 c, u, v] w fun e w' => ∃ p, e = .returned p ∧ RNQ w w' p (ofX c log Ls) := by
  by_cases h : c < 1 ∨ 1048576 < c ∨ 2 < Ls.length
  · have e : ofX c log Ls = none := by unfold ofX; rw [if_pos h]
    rw [e]
    refine (ref8_bad c u v log Ls w hu hv h).mono ?_
    rintro e w' ⟨rfl, rfl⟩
    exact ⟨_, rfl, grown_refl _ _, fun _ => False, rfl, fun _ h => h.elim, fun _ h => h.elim⟩
  · have e : ofX c log Ls = some (St.of c.toNat log Ls) := by unfold ofX; rw [if_neg h]
    rw [e]
    obtain ⟨n, rfl⟩ : ∃ n : Nat, c = n := ⟨c.toNat, by omega⟩
    refine (ref8 n u v log Ls w hu hv (by omega) (by omega) (by omega) hl hL).mono ?_
    rintro e w' ⟨p, rfl, g⟩
    exact ⟨p, rfl, g.q⟩
end Go.Proofs.Ytegacmcekladfaa
