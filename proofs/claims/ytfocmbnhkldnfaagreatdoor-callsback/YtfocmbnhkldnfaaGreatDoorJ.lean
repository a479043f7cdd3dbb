/-
  Rows of things of the call's own; ops whose lists are the call's own.
-/
import Derived.Test.YtfocmbnhkldnfaaGreatDoorI
import Derived.Test.YtfocmbnhkldnfaaGreatDoorNamesAll
namespace Go.Proofs.YtfocmbnhkldnfaaGreatDoor
open Go.RowKit Disk
open Names (Str)
open Wire (RdB RdG)

theorem own_set {w w' : World} {B x t : Nat} {c : Array Value} {v : Value} {L : Bs} (h : Own w B v L) (hx : Blk w x t c) (ht : t ≠ 5) (hg : w.grownBy w' (some x)) : Own w' B v L :=
  h.same fun k hk => hg.block k (h.lt k hk).2 (fun e => h.other hx ht (by rw [hk, e]))

section
variable {α : Type}
/-- A row of things of the call's own: each in c cells of a block of type t. -/
def LRow (t c : Nat) (R : World → List Value → α → Prop) (w : World) (B : Nat) (v : Value) (l : List α) : Prop :=
  ∃ vs : List (List Value), w.ownsRow B t c v l.length vs.flatten ∧ vs.length = l.length ∧ (∀ x ∈ vs, x.length = c) ∧ ∀ j (h : j < vs.length) (h' : j < l.length), R w vs[j] l[j]

/-- What is said of a thing stays said while blocks of other types than those of T are written. -/
def Stab (T : Nat → Prop) (R : World → List Value → α → Prop) : Prop := (∀ w w' vs x, R w vs x → w.grownBy w' none → R w' vs x) ∧ (∀ w w' vs x g t cur, R w vs x → Blk w g t cur → ¬ T t → w.grownBy w' (some g) → R w' vs x)

variable {t c : Nat} {R : World → List Value → α → Prop} {T : Nat → Prop}
theorem lrow_nil (w : World) (B : Nat) : LRow t c R w B (.slice none 0 0) [] := ⟨[], World.ownsRow_nil _ _ _ _, rfl, by simp, fun j h => absurd h (by simp)⟩
theorem owns_grown {w w' : World} {B n : Nat} {v : Value} {xs : List Value} (h : w.ownsRow B t c v n xs) (hg : w.grownBy w' none) : w'.ownsRow B t c v n xs := h.kept hg (by cases v.ownBlock <;> simp)
theorem owns_blk {w : World} {B n : Nat} {v : Value} {xs : List Value} (h : w.ownsRow B t c v n xs) {k : Nat} (hk : v.ownBlock = some k) : ∃ cur, Blk w k t cur := by
  rcases h.2 with ⟨rfl, _⟩ | ⟨g, cp, cur, e, hb, hg, _⟩
  · simp [Value.ownBlock] at hk
  · subst e
    simp [Value.ownBlock] at hk
    subst hk
    exact ⟨cur, hg⟩
theorem owns_set {w w' : World} {B n x t' : Nat} {v : Value} {xs : List Value} {cc : Array Value} (h : w.ownsRow B t c v n xs) (hx : Blk w x t' cc) (ht : t' ≠ t) (hg : w.grownBy w' (some x)) : w'.ownsRow B t c v n xs := by
  refine h.kept hg ?_
  cases hv : v.ownBlock with
  | none => simp
  | some k =>
    obtain ⟨cur, hb⟩ := owns_blk h hv
    refine .inr fun e => ?_
    simp at e
    subst e
    exact ht (blk_type hx hb)
theorem LRow.grown {w w' : World} {B : Nat} {v : Value} {l : List α} (h : LRow t c R w B v l) (hs : Stab T R) (hg : w.grownBy w' none) : LRow t c R w' B v l := by
  obtain ⟨vs, h1, h2, h3, h4⟩ := h
  exact ⟨vs, owns_grown h1 hg, h2, h3, fun j hj hj' => hs.1 _ _ _ _ (h4 j hj hj') hg⟩
theorem LRow.set {w w' : World} {B x t' : Nat} {v : Value} {l : List α} {cc : Array Value} (h : LRow t c R w B v l) (hs : Stab T R) (hx : Blk w x t' cc) (ht : t' ≠ t) (hT : ¬ T t') (hg : w.grownBy w' (some x)) : LRow t c R w' B v l := by
  obtain ⟨vs, h1, h2, h3, h4⟩ := h
  exact ⟨vs, owns_set h1 hx ht hg, h2, h3, fun j hj hj' => hs.2 _ _ _ _ _ _ _ (h4 j hj hj') hx hT hg⟩
theorem LRow.shape {w : World} {B : Nat} {v : Value} {l : List α} (h : LRow t c R w B v l) : ∃ x y, v = .slice x l.length y := by
  obtain ⟨vs, h1, _⟩ := h
  rcases h1.2 with ⟨rfl, h0⟩ | ⟨g, cap, cur, rfl, _⟩
  · exact ⟨none, 0, by rw [h0]⟩
  · exact ⟨_, _, rfl⟩
theorem LRow.lt {w : World} {B : Nat} {v : Value} {l : List α} (h : LRow t c R w B v l) : ∀ k, v.ownBlock = some k → B ≤ k ∧ k < w.heap.size := by
  obtain ⟨vs, h1, _⟩ := h
  exact fun k hk => World.ownsRow.lt h1 k hk
theorem LRow.mono {w : World} {B B' : Nat} {v : Value} {l : List α} (h : LRow t c R w B v l) (hB : B' ≤ B) : LRow t c R w B' v l := by
  obtain ⟨vs, h1, h2⟩ := h
  refine ⟨vs, ⟨h1.1, ?_⟩, h2⟩
  rcases h1.2 with h0 | ⟨g, cap, cur, e, hb, hg⟩
  · exact .inl h0
  · exact .inr ⟨g, cap, cur, e, by omega, hg⟩
/-- One more. -/
theorem LRow.snoc {w w' : World} {B : Nat} {v v' : Value} {vs : List (List Value)} {l : List α} {x : List Value} {a : α} (hs : Stab T R) (hT : ¬ T t) (h1 : w.ownsRow B t c v l.length vs.flatten) (h2 : vs.length = l.length) (h3 : ∀ x ∈ vs, x.length = c) (h4 : ∀ j (h : j < vs.length) (h' : j < l.length), R w vs[j] l[j])
    (hx : x.length = c) (ha : R w x a) (hg : w.grownBy w' v.ownBlock) (hr : w'.ownsRow B t c v' (l.length + 1) (vs.flatten ++ x)) : LRow t c R w' B v' (l ++ [a]) := by
  have keep : ∀ {y b}, R w y b → R w' y b := by
    intro y b hy
    cases hv : v.ownBlock with
    | none => rw [hv] at hg; exact hs.1 _ _ _ _ hy hg
    | some k =>
      rw [hv] at hg
      obtain ⟨cur, hb⟩ := owns_blk h1 hv
      exact hs.2 _ _ _ _ _ _ _ hy hb hT hg
  refine ⟨vs ++ [x], by simpa using hr, by simp [h2], ?_, fun j hj hj' => ?_⟩
  · intro y hy
    simp at hy
    rcases hy with hy | rfl
    · exact h3 y hy
    · exact hx
  · by_cases hlt : j < vs.length
    · rw [List.getElem_append_left hlt, List.getElem_append_left (by omega)]
      exact keep (h4 j hlt (by omega))
    · have e1 : j = vs.length := by simp at hj; omega
      subst e1
      have e2 : (vs ++ [x])[vs.length] = x := by simp
      have e3 : (l ++ [a])[vs.length]'hj' = a := by simp [h2]
      rw [e2, e3]
      exact keep ha

theorem flatten_get {c : Nat} : ∀ (vs : List (List Value)) (j i : Nat) (_h3 : ∀ x ∈ vs, x.length = c) (hj : j < vs.length) (_hi : i < c), vs.flatten[j * c + i]? = vs[j][i]?
  | [], j, i, _, hj, _ => absurd hj (by simp)
  | x :: vs, 0, i, h3, _, hi => by
    have hx := h3 x (by simp)
    simp only [List.flatten_cons, Nat.zero_mul, Nat.zero_add, List.getElem_cons_zero]
    rw [List.getElem?_append_left (by omega)]
  | x :: vs, j + 1, i, h3, hj, hi => by
    have hx := h3 x (by simp)
    simp only [List.flatten_cons, List.getElem_cons_succ]
    rw [List.getElem?_append_right (by rw [hx, Nat.add_mul]; omega)]
    have := flatten_get vs j i (fun y hy => h3 y (by simp [hy])) (by simpa using hj) hi
    rw [← this]
    congr 1
    rw [hx, Nat.add_mul]; omega
/-- The cells of a thing. -/
theorem LRow.cell {w : World} {B : Nat} {v : Value} {l : List α} (h : LRow t c R w B v l) (j : Nat) (hj : j < l.length) : ∃ g cap x, v = .slice (some ⟨g, 0, none⟩) l.length cap ∧ x.length = c ∧ R w x l[j] ∧ B ≤ g ∧ Blk w g t (w.heap[g]?.map (fun o => match o with | .cells cs _ _ => cs | _ => #[])|>.getD #[]) ∧ ∀ i (_hi : i < c), w.cell? ⟨g, j * c + i, none⟩ = x[i]? := by
  obtain ⟨vs, h1, h2, h3, h4⟩ := h
  rcases h1.2 with ⟨_, h0⟩ | ⟨g, cap, cur, e, hb, hg, q1, q2, q3, q4⟩
  · omega
  · have hr : w.ownsRow B t c (.slice (some ⟨g, 0, none⟩) l.length cap) l.length vs.flatten := by rw [← e]; exact h1
    refine ⟨g, cap, vs[j]'(by omega), e, h3 _ (List.getElem_mem _), h4 j (by omega) hj, hb, by rw [hg]; exact hg, fun i hi => ?_⟩
    have hlt : j * c + i < l.length * c := by
      have : (j + 1) * c ≤ l.length * c := Nat.mul_le_mul_right c (by omega)
      rw [Nat.add_mul] at this; omega
    rw [hr.cellAt (j * c + i) hlt]
    exact flatten_get vs j i h3 (by omega) hi
end

theorem cut_slice {w : World} {B : Nat} {v : Value} {L : Bs} (h : Names.Cut w B v L) : ∃ x n y, v = .slice x n y := by obtain ⟨x, y, e⟩ := h.seg.shape; exact ⟨x, _, y, e⟩
theorem cut_set {w w' : World} {B x t : Nat} {c : Array Value} {v : Value} {L : Bs} (h : Names.Cut w B v L) (hx : Blk w x t c) (ht : t ≠ 5) (hg : w.grownBy w' (some x)) : Names.Cut w' B v L := by
  rcases h with h | ⟨g, cap, rfl, h⟩
  · exact .inl (own_set h hx ht hg)
  · exact .inr ⟨g, cap, rfl, own_set h hx ht hg⟩

/-- The lists of an op are the call's own. -/
structure OpOwn (w : World) (B : Nat) (k v ol t : Value) (o : POp) : Prop where
  key : Names.Cut w B k o.key
  value : Names.Cut w B v o.value
  old : Names.Cut w B ol o.old
  tos : Names.Cut w B t o.to
  fits : OpIn o
theorem OpOwn.seg {w : World} {B : Nat} {k v ol t : Value} {o : POp} (h : OpOwn w B k v ol t o) : OpSeg w k v ol t o := ⟨h.key.seg, h.value.seg, h.old.seg, h.tos.seg, h.fits⟩
theorem OpOwn.grown {w w' : World} {B : Nat} {k v ol t : Value} {o : POp} (h : OpOwn w B k v ol t o) (hg : w.grownBy w' none) : OpOwn w' B k v ol t o := ⟨h.key.grown hg, h.value.grown hg, h.old.grown hg, h.tos.grown hg, h.fits⟩
theorem OpOwn.mono {w : World} {B B' : Nat} {k v ol t : Value} {o : POp} (h : OpOwn w B k v ol t o) (hB : B' ≤ B) : OpOwn w B' k v ol t o := ⟨h.key.mono hB, h.value.mono hB, h.old.mono hB, h.tos.mono hB, h.fits⟩
theorem OpOwn.set {w w' : World} {B x t' : Nat} {c : Array Value} {k v ol t : Value} {o : POp} (h : OpOwn w B k v ol t o) (hx : Blk w x t' c) (ht : t' ≠ 5) (hg : w.grownBy w' (some x)) : OpOwn w' B k v ol t o :=
  ⟨cut_set h.key hx ht hg, cut_set h.value hx ht hg, cut_set h.old hx ht hg, cut_set h.tos hx ht hg, h.fits⟩

/-- The cells of an op of one's own. -/
def OpR (B : Nat) (w : World) (x : List Value) (o : POp) : Prop := ∃ k v ol t, x = [.int .i64 o.kind, Str o.table, k, v, .bool o.has, ol, t, .int .i64 o.most] ∧ OpOwn w B k v ol t o
theorem opR_stab (B : Nat) : Stab (fun t => t = 5) (OpR B) := by
  refine ⟨fun w w' vs x h hg => ?_, fun w w' vs x g t cur h hb ht hg => ?_⟩
  · obtain ⟨k, v, ol, t, e, h⟩ := h
    exact ⟨k, v, ol, t, e, h.grown hg⟩
  · obtain ⟨k, v, ol, t', e, h⟩ := h
    exact ⟨k, v, ol, t', e, h.set hb ht hg⟩
/-- Ops of the call's own. -/
def OpsOwn (w : World) (B : Nat) (v : Value) (l : List POp) : Prop := LRow 71 8 (OpR B) w B v l ∧ l.length ≤ 1099511627776
theorem OpsOwn.ops {w : World} {B : Nat} {v : Value} {l : List POp} (h : OpsOwn w B v l) : Ops w v l := by
  obtain ⟨h, hl⟩ := h
  obtain ⟨x, y, e⟩ := h.shape
  refine ⟨x, y, e, hl, fun j hj => ?_⟩
  obtain ⟨g, cap, cs, e2, hlen, ⟨k, v', ol, t, rfl, ho⟩, _, _, hc⟩ := h.cell j hj
  rw [e] at e2
  simp at e2
  refine ⟨g, 0, k, v', ol, t, e2.1, ?_, ho.seg⟩
  rw [Nat.zero_add]
  exact ⟨hc 0 (by omega), hc 1 (by omega), hc 2 (by omega), hc 3 (by omega), hc 4 (by omega), hc 5 (by omega), hc 6 (by omega), hc 7 (by omega)⟩
theorem OpsOwn.grown {w w' : World} {B : Nat} {v : Value} {l : List POp} (h : OpsOwn w B v l) (hg : w.grownBy w' none) : OpsOwn w' B v l := ⟨h.1.grown (opR_stab B) hg, h.2⟩
theorem OpsOwn.set {w w' : World} {B x t' : Nat} {v : Value} {l : List POp} {cc : Array Value} (h : OpsOwn w B v l) (hx : Blk w x t' cc) (h1 : t' ≠ 71) (h2 : t' ≠ 5) (hg : w.grownBy w' (some x)) : OpsOwn w' B v l := ⟨h.1.set (opR_stab B) hx h1 h2 hg, h.2⟩
theorem OpsOwn.mono {w : World} {B B' : Nat} {v : Value} {l : List POp} (h : OpsOwn w B v l) (hB : B' ≤ B) : OpsOwn w B' v l := by
  obtain ⟨⟨vs, h1, h2, h3, h4⟩, hl⟩ := h
  refine ⟨LRow.mono ⟨vs, h1, h2, h3, fun j hj hj' => ?_⟩ hB, hl⟩
  obtain ⟨k, v, ol, t, e, ho⟩ := h4 j hj hj'
  exact ⟨k, v, ol, t, e, ho.mono hB⟩
end Go.Proofs.YtfocmbnhkldnfaaGreatDoor
