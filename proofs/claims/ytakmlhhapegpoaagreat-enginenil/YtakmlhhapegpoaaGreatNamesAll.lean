/-
  Texts of Names, put together.
-/
import Derived.Test.YtakmlhhapegpoaaGreatProg
import Derived.KernelRfl
import Derived.Test.YtakmlhhapegpoaaGreatDiskAll
import Derived.Lib.Bytealg
import Derived.ArgAppend
/-
  Keys on plain lists: how they are held against each other, ranges, the next one, what is behind a beginning, what two ranges share.
-/
namespace Go.Proofs.YtakmlhhapegpoaaGreat.Names

/-- -1, 0, 1: below, the same, above. -/
def cmpL : List UInt8 → List UInt8 → Int
  | [], [] => 0
  | [], _ :: _ => -1
  | _ :: _, [] => 1
  | a :: az, b :: bs => if a.toNat < b.toNat then -1 else if b.toNat < a.toNat then 1 else cmpL az bs

def cmpN (a b : Nat) : Int := if a < b then -1 else if b < a then 1 else 0

theorem cmp_nil_left (B : List UInt8) : cmpL [] B = cmpN 0 B.length := by
  cases B <;> simp [cmpL, cmpN]
theorem cmp_nil_right (A : List UInt8) : cmpL A [] = cmpN A.length 0 := by
  cases A <;> simp [cmpL, cmpN]

theorem cmp_end {A B : List UInt8} {k : Nat} (h : k = min A.length B.length) : cmpL (A.drop k) (B.drop k) = cmpN A.length B.length := by
  by_cases h1 : A.length ≤ B.length
  · have e : k = A.length := by omega
    subst e
    rw [List.drop_length, cmp_nil_left, List.length_drop]
    unfold cmpN
    by_cases h2 : A.length < B.length
    · rw [if_pos (by omega), if_pos h2]
    · rw [if_neg (by omega), if_neg (by omega), if_neg h2, if_neg (by omega)]
  · have e : k = B.length := by omega
    subst e
    rw [List.drop_length, cmp_nil_right, List.length_drop]
    unfold cmpN
    rw [if_neg (by omega), if_pos (by omega), if_neg (by omega), if_pos (by omega)]

theorem cmp_step {A B : List UInt8} {k : Nat} (ha : k < A.length) (hb : k < B.length) :
    cmpL (A.drop k) (B.drop k) = if A[k].toNat < B[k].toNat then -1 else if B[k].toNat < A[k].toNat then 1 else cmpL (A.drop (k + 1)) (B.drop (k + 1)) := by
  rw [List.drop_eq_getElem_cons ha, List.drop_eq_getElem_cons hb]
  rfl

theorem cmp_range : ∀ (A B : List UInt8), cmpL A B = -1 ∨ cmpL A B = 0 ∨ cmpL A B = 1
  | [], [] => .inr (.inl rfl)
  | [], _ :: _ => .inl rfl
  | _ :: _, [] => .inr (.inr rfl)
  | a :: az, b :: bs => by
    unfold cmpL
    split
    · exact .inl rfl
    · split
      · exact .inr (.inr rfl)
      · exact cmp_range az bs

theorem cmp_flip : ∀ (A B : List UInt8), cmpL A B = -cmpL B A
  | [], [] => rfl
  | [], _ :: _ => rfl
  | _ :: _, [] => rfl
  | a :: az, b :: bs => by
    unfold cmpL
    by_cases h1 : a.toNat < b.toNat
    · rw [if_pos h1, if_neg (by omega), if_pos h1]
    · by_cases h2 : b.toNat < a.toNat
      · rw [if_neg h1, if_pos h2, if_pos h2]
        rfl
      · rw [if_neg h1, if_neg h2, if_neg h2, if_neg h1]
        exact cmp_flip az bs

theorem cmp_self : ∀ (A : List UInt8), cmpL A A = 0
  | [] => rfl
  | a :: az => by
    unfold cmpL
    rw [if_neg (by omega), if_neg (by omega)]
    exact cmp_self az

theorem cmp_zero : ∀ {A B : List UInt8}, cmpL A B = 0 → A = B
  | [], [], _ => rfl
  | [], _ :: _, h => by simp [cmpL] at h
  | _ :: _, [], h => by simp [cmpL] at h
  | a :: az, b :: bs, h => by
    unfold cmpL at h
    split at h
    · simp at h
    · split at h
      · simp at h
      · rename_i h1 h2
        have e : a = b := UInt8.toNat_inj.1 (by omega)
        rw [e, cmp_zero h]

theorem cmp_iff {A B : List UInt8} : cmpL A B = 0 ↔ A = B := ⟨cmp_zero, fun h => by rw [h]; exact cmp_self B⟩

/-- Not above, twice. -/
theorem cmp_trans : ∀ {A B C : List UInt8}, cmpL A B ≤ 0 → cmpL B C ≤ 0 → cmpL A C ≤ 0
  | [], _, [], _, _ => by simp [cmpL]
  | [], _, _ :: _, _, _ => by simp [cmpL]
  | a :: az, [], _, h, _ => by simp [cmpL] at h
  | a :: az, b :: bs, [], _, h => by simp [cmpL] at h
  | a :: az, b :: bs, c :: cs, h, k => by
    unfold cmpL at h k ⊢
    by_cases h1 : a.toNat < c.toNat
    · rw [if_pos h1]
      omega
    · by_cases h2 : a.toNat < b.toNat
      · rw [if_neg (by omega), if_pos (by omega)] at k
        omega
      · rw [if_neg h2] at h
        by_cases h3 : b.toNat < a.toNat
        · rw [if_pos h3] at h
          omega
        · rw [if_neg h3] at h
          by_cases h4 : b.toNat < c.toNat
          · omega
          · rw [if_neg h4] at k
            by_cases h5 : c.toNat < b.toNat
            · rw [if_pos h5] at k
              omega
            · rw [if_neg h5] at k
              rw [if_neg h1, if_neg (by omega)]
              exact cmp_trans h k

theorem cmp_lt_trans {A B C : List UInt8} (h : cmpL A B ≤ 0) (k : cmpL B C < 0) : cmpL A C < 0 := by
  have h1 := cmp_trans h (Int.le_of_lt k)
  rcases Int.lt_or_eq_of_le h1 with h2 | h2
  · exact h2
  · have e := cmp_zero h2
    subst e
    have := cmp_flip B A
    omega

/-- In the range from F up to T. -/
def inB (K F T : List UInt8) : Bool := decide (0 ≤ cmpL K F) && (decide (T.length = 0) || decide (cmpL K T < 0))

/-- Above K is at or above the next one. -/
theorem next_least {K A : List UInt8} (h : cmpL K A < 0) : ¬ cmpL A (K ++ [0]) < 0 := by
  induction K generalizing A with
  | nil =>
    cases A with
    | nil => simp [cmpL] at h
    | cons a az =>
      simp only [List.nil_append]
      unfold cmpL
      rw [if_neg (by simp)]
      split
      · omega
      · cases az <;> simp [cmpL]
  | cons x xs ih =>
    cases A with
    | nil => simp [cmpL] at h
    | cons a az =>
      simp only [List.cons_append]
      unfold cmpL at h ⊢
      by_cases h1 : x.toNat < a.toNat
      · rw [if_neg (by omega), if_pos h1]
        omega
      · rw [if_neg h1] at h
        by_cases h2 : a.toNat < x.toNat
        · rw [if_pos h2] at h
          omega
        · rw [if_neg h2] at h
          rw [if_neg h2, if_neg h1]
          exact ih h

theorem next_above : ∀ (K : List UInt8), cmpL K (K ++ [0]) = -1
  | [] => rfl
  | x :: xs => by
    simp only [List.cons_append]
    unfold cmpL
    rw [if_neg (by omega), if_neg (by omega)]
    exact next_above xs

/-- Without the bytes 255 at its end. -/
def trim : List UInt8 → List UInt8
  | [] => []
  | x :: xs => match trim xs with
    | [] => if x = 255 then [] else [x]
    | y :: ys => x :: y :: ys

/-- The last byte greater by one. -/
def bump : List UInt8 → List UInt8
  | [] => []
  | [x] => [x + 1]
  | x :: y :: ys => x :: bump (y :: ys)

def behindL (A : List UInt8) : List UInt8 := bump (trim A)
def behindB (A : List UInt8) : Bool := decide (trim A ≠ [])

/-- What begins with A. -/
def begins (A K : List UInt8) : Prop := K.take A.length = A

theorem trim_cons_nil {x : UInt8} {xs : List UInt8} (h : trim xs = []) : trim (x :: xs) = if x = 255 then [] else [x] := by
  simp [trim, h]
theorem trim_cons_some {x : UInt8} {xs : List UInt8} (h : trim xs ≠ []) : trim (x :: xs) = x :: trim xs := by
  cases e : trim xs with
  | nil => exact absurd e h
  | cons y ys => simp [trim, e]

theorem begins_cons {a k : UInt8} {A K : List UInt8} : begins (a :: A) (k :: K) ↔ a = k ∧ begins A K := by
  unfold begins
  simp only [List.length_cons, List.take_succ_cons, List.cons.injEq]
  exact ⟨fun h => ⟨h.1.symm, h.2⟩, fun h => ⟨h.1.symm, h.2⟩⟩
theorem begins_nil (K : List UInt8) : begins [] K := by simp [begins]
theorem not_begins_nil {a : UInt8} {A : List UInt8} : ¬ begins (a :: A) [] := by simp [begins]

/-- Bytes 255 alone: not below is to begin with. -/
theorem full_begins : ∀ (A K : List UInt8), trim A = [] → (0 ≤ cmpL K A ↔ begins A K)
  | [], K, _ => by
    refine ⟨fun _ => begins_nil K, fun _ => ?_⟩
    rw [cmp_nil_right]
    unfold cmpN
    rw [if_neg (by omega)]
    split <;> omega
  | a :: az, [], _ => by
    refine ⟨fun h => by simp [cmpL] at h, fun h => absurd h not_begins_nil⟩
  | a :: az, k :: ks, h => by
    have h1 : trim az = [] := by
      by_cases e : trim az = []
      · exact e
      · rw [trim_cons_some e] at h
        simp at h
    rw [trim_cons_nil h1] at h
    have ha : a = 255 := by
      by_cases e : a = 255
      · exact e
      · rw [if_neg e] at h
        simp at h
    subst ha
    rw [begins_cons]
    have hk : k.toNat < 256 := UInt8.toNat_lt k
    have e255 : (255 : UInt8).toNat = 255 := rfl
    unfold cmpL
    rw [e255]
    by_cases h2 : k.toNat < 255
    · rw [if_pos h2]
      refine ⟨fun h => by omega, fun h => ?_⟩
      have := h.1
      subst this
      omega
    · have e : k = 255 := UInt8.toNat_inj.1 (by rw [e255]; omega)
      subst e
      rw [if_neg (by omega), if_neg (by omega), full_begins az ks h1]
      exact ⟨fun h => ⟨rfl, h⟩, fun h => h.2⟩

theorem bump_ne {A : List UInt8} (h : A ≠ []) : bump A ≠ [] := by
  cases A with
  | nil => exact absurd rfl h
  | cons a az => cases az <;> simp [bump]

/-- From A up to what is behind it are just those that begin with A. -/
theorem behind_begins : ∀ (A K : List UInt8), trim A ≠ [] → ((0 ≤ cmpL K A ∧ cmpL K (behindL A) < 0) ↔ begins A K)
  | [], K, h => absurd rfl h
  | a :: az, [], h => by
    refine ⟨fun h => ?_, fun h => absurd h not_begins_nil⟩
    have := h.1
    simp [cmpL] at this
  | a :: az, k :: ks, h => by
    rw [begins_cons]
    by_cases h1 : trim az = []
    · rw [trim_cons_nil h1] at h
      have ha : a ≠ 255 := by
        intro e
        rw [if_pos e] at h
        exact h rfl
      have eb : behindL (a :: az) = [a + 1] := by
        unfold behindL
        rw [trim_cons_nil h1, if_neg ha]
        rfl
      rw [eb]
      have hlt : a.toNat < 255 := by
        have := UInt8.toNat_lt a
        have e255 : (255 : UInt8).toNat = 255 := rfl
        have : a.toNat ≠ 255 := fun e => ha (UInt8.toNat_inj.1 (by rw [e255]; exact e))
        omega
      have e1 : (a + 1).toNat = a.toNat + 1 := by
        rw [UInt8.toNat_add]
        have : (1 : UInt8).toNat = 1 := rfl
        rw [this]
        omega
      have hf := full_begins az ks h1
      unfold cmpL
      rw [e1]
      by_cases c1 : k.toNat < a.toNat
      · rw [if_pos c1]
        refine ⟨fun h => by omega, fun h => ?_⟩
        rw [h.1] at c1
        omega
      · by_cases c2 : a.toNat < k.toNat
        · rw [if_neg c1, if_pos c2, if_neg (by omega)]
          refine ⟨fun h => ?_, fun h => ?_⟩
          · have := h.2
            split at this
            · omega
            · cases ks <;> simp [cmpL] at this
          · rw [h.1] at c2
            omega
        · have e : a = k := UInt8.toNat_inj.1 (by omega)
          subst e
          rw [if_neg c1, if_neg c1, if_pos (by omega), hf]
          exact ⟨fun h => ⟨rfl, h.1⟩, fun h => ⟨h.2, by omega⟩⟩
    · have ih := behind_begins az ks h1
      have eb : behindL (a :: az) = a :: behindL az := by
        unfold behindL
        rw [trim_cons_some h1]
        cases e : trim az with
        | nil => exact absurd e h1
        | cons y ys => rfl
      rw [eb]
      unfold cmpL
      by_cases c1 : k.toNat < a.toNat
      · rw [if_pos c1]
        refine ⟨fun h => by omega, fun h => ?_⟩
        rw [h.1] at c1
        omega
      · by_cases c2 : a.toNat < k.toNat
        · rw [if_neg c1, if_pos c2, if_neg c1, if_pos c2]
          refine ⟨fun h => by omega, fun h => ?_⟩
          rw [h.1] at c2
          omega
        · have e : a = k := UInt8.toNat_inj.1 (by omega)
          subst e
          rw [if_neg c1, if_neg c1, if_neg c1, if_neg c1, ih]
          exact ⟨fun h => ⟨rfl, h⟩, fun h => h.2⟩

def laterL (F G : List UInt8) : List UInt8 := if cmpL F G < 0 then G else F
/-- No end is above all. -/
def endB (T K : List UInt8) : Bool := decide (T.length = 0) || decide (cmpL K T < 0)
def earlyL (T U : List UInt8) : List UInt8 := if 0 < T.length ∧ endB U T = true then T else U
def meetB (F T G U : List UInt8) : Bool := inB (laterL F G) (laterL F G) (earlyL T U)
def meetA (F T G U : List UInt8) : List UInt8 := if meetB F T G U = true then laterL F G else []
def meetZ (F T G U : List UInt8) : List UInt8 := if meetB F T G U = true then earlyL T U else []

theorem in_end (K F T : List UInt8) : inB K F T = (decide (0 ≤ cmpL K F) && endB T K) := rfl

theorem later_in (K F G : List UInt8) : 0 ≤ cmpL K (laterL F G) ↔ 0 ≤ cmpL K F ∧ 0 ≤ cmpL K G := by
  unfold laterL
  have f1 := cmp_flip K F
  have f2 := cmp_flip K G
  by_cases h : cmpL F G < 0
  · rw [if_pos h]
    refine ⟨fun h1 => ⟨?_, h1⟩, fun h1 => h1.2⟩
    have := cmp_trans (Int.le_of_lt h) (C := K) (by omega)
    omega
  · rw [if_neg h]
    refine ⟨fun h1 => ⟨h1, ?_⟩, fun h1 => h1.1⟩
    have f3 := cmp_flip F G
    have := cmp_trans (A := G) (B := F) (C := K) (by omega) (by omega)
    omega

theorem early_in (K T U : List UInt8) : endB (earlyL T U) K = true ↔ endB T K = true ∧ endB U K = true := by
  unfold earlyL
  by_cases h : 0 < T.length ∧ endB U T = true
  · rw [if_pos h]
    refine ⟨fun h1 => ⟨h1, ?_⟩, fun h1 => h1.1⟩
    have h2 := h.2
    have h0 := h.1
    simp only [endB, Bool.or_eq_true, decide_eq_true_eq] at h1 h2 ⊢
    rcases h2 with h2 | h2
    · exact .inl h2
    · rcases h1 with h1 | h1
      · omega
      · exact .inr (cmp_lt_trans (Int.le_of_lt h1) h2)
  · rw [if_neg h]
    refine ⟨fun h1 => ⟨?_, h1⟩, fun h1 => h1.2⟩
    simp only [endB, Bool.or_eq_true, decide_eq_true_eq] at h h1 ⊢
    by_cases h0 : T.length = 0
    · exact .inl h0
    · refine .inr ?_
      have h3 : ¬ (U.length = 0 ∨ cmpL T U < 0) := fun e => h ⟨by omega, e⟩
      have f := cmp_flip T U
      rcases h1 with h1 | h1
      · exact absurd (.inl h1) h3
      · have hn : ¬ cmpL T U < 0 := fun e => h3 (.inr e)
        have f2 := cmp_flip K U
        have h5 := cmp_lt_trans (A := K) (B := U) (C := T)
        by_cases h6 : cmpL U T < 0
        · exact h5 (by omega) h6
        · have e : U = T := cmp_zero (by omega)
          rw [← e]
          exact h1

/-- What two ranges share is what is in both. -/
theorem meet_in (K F T G U : List UInt8) : inB K (laterL F G) (earlyL T U) = (inB K F T && inB K G U) := by
  rw [Bool.eq_iff_iff]
  simp only [in_end, Bool.and_eq_true, decide_eq_true_eq, later_in, early_in]
  exact ⟨fun ⟨⟨a, b⟩, c, d⟩ => ⟨⟨a, c⟩, b, d⟩, fun ⟨⟨a, c⟩, b, d⟩ => ⟨⟨a, b⟩, c, d⟩⟩

/-- A range that does not even have its beginning has nothing. -/
theorem in_self {K F T : List UInt8} (h : inB K F T = true) : inB F F T = true := by
  rw [in_end] at h ⊢
  simp only [endB, Bool.and_eq_true, Bool.or_eq_true, decide_eq_true_eq] at h ⊢
  refine ⟨by rw [cmp_self]; exact Int.le_refl _, ?_⟩
  rcases h.2 with h1 | h1
  · exact .inl h1
  · have f := cmp_flip K F
    exact .inr (cmp_lt_trans (by omega) h1)

theorem trim_snoc_full : ∀ (X : List UInt8), trim (X ++ [255]) = trim X
  | [] => rfl
  | x :: xs => by
    have ih := trim_snoc_full xs
    simp only [List.cons_append]
    by_cases h : trim xs = []
    · rw [trim_cons_nil h, trim_cons_nil (by rw [ih]; exact h)]
    · rw [trim_cons_some h, trim_cons_some (by rw [ih]; exact h), ih]
theorem trim_snoc_other {c : UInt8} (hc : c ≠ 255) : ∀ (X : List UInt8), trim (X ++ [c]) = X ++ [c]
  | [] => by simp [trim, hc]
  | x :: xs => by
    have ih := trim_snoc_other hc xs
    simp only [List.cons_append]
    rw [trim_cons_some (by rw [ih]; simp), ih]
theorem bump_snoc (c : UInt8) : ∀ (X : List UInt8), bump (X ++ [c]) = X ++ [c + 1]
  | [] => rfl
  | [x] => rfl
  | x :: y :: ys => by
    have ih := bump_snoc c (y :: ys)
    simp only [List.cons_append] at ih ⊢
    simp only [bump]
    rw [ih]

theorem trim_take_full {A : List UInt8} {k : Nat} (hk : k < A.length) (h : A[k] = 255) : trim (A.take (k + 1)) = trim (A.take k) := by
  rw [List.take_succ_eq_append_getElem hk, h, trim_snoc_full]
theorem trim_take_other {A : List UInt8} {k : Nat} (hk : k < A.length) (h : A[k] ≠ 255) : trim (A.take (k + 1)) = A.take (k + 1) := by
  rw [List.take_succ_eq_append_getElem hk, trim_snoc_other h]
/-- The last byte that is below 255 stands at k. -/
theorem behind_at {A : List UInt8} {k : Nat} (hk : k < A.length) (h : A[k] ≠ 255) (ht : trim (A.take (k + 1)) = trim A) : behindL A = A.take k ++ [A[k] + 1] ∧ behindB A = true := by
  rw [trim_take_other hk h] at ht
  unfold behindL behindB
  rw [← ht, List.take_succ_eq_append_getElem hk]
  refine ⟨bump_snoc _ _, decide_eq_true (by intro e; have := congrArg List.length e; simp only [List.length_append, List.length_cons, List.length_nil] at this; omega)⟩
theorem behind_none {A : List UInt8} (ht : trim (A.take 0) = trim A) : behindL A = [] ∧ behindB A = false := by
  unfold behindL behindB
  rw [← ht]
  simp [trim, bump]

theorem later_doc (F G : List UInt8) : laterL F G = if 0 < cmpL G F then G else F := by
  have := cmp_flip F G
  unfold laterL
  by_cases h : cmpL F G < 0
  · rw [if_pos h, if_pos (by omega)]
  · rw [if_neg h, if_neg (by omega)]
theorem early_doc (T U : List UInt8) : earlyL T U = if T.length = 0 ∨ (0 < U.length ∧ cmpL U T < 0) then U else T := by
  have f := cmp_flip T U
  unfold earlyL
  simp only [endB, Bool.or_eq_true, decide_eq_true_eq]
  by_cases h0 : T.length = 0
  · rw [if_neg (by omega), if_pos (.inl h0)]
  · by_cases h1 : U.length = 0
    · rw [if_pos ⟨by omega, .inl h1⟩, if_neg (by omega)]
    · by_cases h2 : cmpL T U < 0
      · rw [if_pos ⟨by omega, .inr h2⟩, if_neg (by omega)]
      · by_cases h3 : cmpL U T < 0
        · rw [if_neg (by omega), if_pos (.inr ⟨by omega, h3⟩)]
        · have e : U = T := cmp_zero (by omega)
          subst e
          simp
theorem meet_doc (F T G U : List UInt8) : meetB F T G U = endB (earlyL T U) (laterL F G) := by
  unfold meetB
  rw [in_end, cmp_self]
  simp
end Go.Proofs.YtakmlhhapegpoaaGreat.Names
/-
  Names and texts on plain lists: tables' names, bytes as texts, what a text says.
-/
namespace Go.Proofs.YtakmlhhapegpoaaGreat.Names

/-- A letter from a to z, or a digit. -/
def alnum (c : UInt8) : Bool := (decide (97 ≤ c.toNat) && decide (c.toNat ≤ 122)) || (decide (48 ≤ c.toNat) && decide (c.toNat ≤ 57))
def tabB (L : List UInt8) : Bool := (decide (1 ≤ L.length) && decide (L.length ≤ 16)) && L.all alnum
def keyB (L : List UInt8) : Bool := decide (1 ≤ L.length) && decide (L.length ≤ 64)
def valueB (L : List UInt8) : Bool := decide (L.length ≤ 256)

theorem tab_bad {L : List UInt8} {k : Nat} (hk : k < L.length) (h : alnum L[k] = false) : tabB L = false := by
  unfold tabB
  have : L.all alnum = false := by
    rw [List.all_eq_false]
    exact ⟨L[k], List.getElem_mem hk, by rw [h]; simp⟩
  rw [this, Bool.and_false]
theorem tab_end {L : List UInt8} (h : ∀ j (hj : j < L.length), alnum L[j] = true) : tabB L = (decide (1 ≤ L.length) && decide (L.length ≤ 16)) := by
  unfold tabB
  have : L.all alnum = true := by
    rw [List.all_eq_true]
    intro x hx
    obtain ⟨j, hj, rfl⟩ := List.mem_iff_getElem.1 hx
    exact h j hj
  rw [this, Bool.and_true]

/-- A byte that goes as it is. -/
def plainB (c : UInt8) : Bool := decide (33 ≤ c.toNat) && decide (c.toNat ≤ 126) && decide (c.toNat ≠ 37) && decide (c.toNat ≠ 44) && decide (c.toNat ≠ 59)
/-- A digit to the base 16. -/
def dig (n : Nat) : UInt8 := if n < 10 then UInt8.ofNat (48 + n) else UInt8.ofNat (55 + n)
/-- A byte's text. -/
def esc (c : UInt8) : List UInt8 := if plainB c = true then [c] else [37, dig (c.toNat / 16), dig (c.toNat % 16)]
def body (b : List UInt8) : List UInt8 := b.flatMap esc
def txt (b : List UInt8) : List UInt8 := if b = [] then [37] else body b

theorem body_nil : body [] = [] := rfl
theorem body_cons (c : UInt8) (b : List UInt8) : body (c :: b) = esc c ++ body b := rfl
theorem body_append (a b : List UInt8) : body (a ++ b) = body a ++ body b := by simp [body]
theorem body_snoc (a : List UInt8) (c : UInt8) : body (a ++ [c]) = body a ++ esc c := by simp [body]
theorem esc_len (c : UInt8) : 1 ≤ (esc c).length ∧ (esc c).length ≤ 3 := by
  unfold esc
  split <;> simp
theorem body_len : ∀ (b : List UInt8), b.length ≤ (body b).length ∧ (body b).length ≤ 3 * b.length
  | [] => by simp [body]
  | c :: b => by
    have := body_len b
    have := esc_len c
    rw [body_cons, List.length_append, List.length_cons]
    omega
theorem txt_len (b : List UInt8) : (txt b).length ≤ 3 * b.length + 1 := by
  unfold txt
  split
  · simp
  · have := body_len b; omega

theorem dig_nat {n : Nat} (h : n < 16) : (dig n).toNat = if n < 10 then 48 + n else 55 + n := by
  unfold dig
  split
  · rw [UInt8.toNat_ofNat_of_lt' (by have : UInt8.size = 256 := rfl; omega)]
  · rw [UInt8.toNat_ofNat_of_lt' (by have : UInt8.size = 256 := rfl; omega)]

/-- What a digit stands for, if it is one. -/
def hexV (c : UInt8) : Option Nat := if 48 ≤ c.toNat ∧ c.toNat ≤ 57 then some (c.toNat - 48) else if 65 ≤ c.toNat ∧ c.toNat ≤ 70 then some (c.toNat - 55) else none

theorem hex_lt {c : UInt8} {n : Nat} (h : hexV c = some n) : n < 16 := by
  unfold hexV at h
  split at h
  · simp at h; omega
  · split at h
    · simp at h; omega
    · simp at h
theorem hex_dig {n : Nat} (h : n < 16) : hexV (dig n) = some n := by
  unfold hexV
  rw [dig_nat h]
  by_cases h1 : n < 10
  · rw [if_pos h1, if_pos (by omega)]
    congr 1
    omega
  · rw [if_neg h1, if_neg (by omega), if_pos (by omega)]
    congr 1
    omega
theorem dig_hex {c : UInt8} {n : Nat} (h : hexV c = some n) : dig n = c := by
  have hlt := hex_lt h
  apply UInt8.toNat_inj.1
  rw [dig_nat hlt]
  unfold hexV at h
  split at h
  · simp at h
    subst h
    rw [if_pos (by omega)]
    omega
  · split at h
    · simp at h
      subst h
      rw [if_neg (by omega)]
      omega
    · simp at h

/-- The byte of two digits. -/
def two (a b : Nat) : UInt8 := UInt8.ofNat (16 * a + b)
theorem two_nat {a b : Nat} (ha : a < 16) (hb : b < 16) : (two a b).toNat = 16 * a + b := by
  unfold two
  rw [UInt8.toNat_ofNat_of_lt' (by have : UInt8.size = 256 := rfl; omega)]

/-- The byte that a text begins with, and how many bytes say it; 0: none. -/
def first : List UInt8 → UInt8 × Nat
  | [] => (0, 0)
  | x :: r => if plainB x = true then (x, 1) else if x.toNat ≠ 37 then (0, 0) else match r with
    | h :: l :: _ => match hexV h, hexV l with
      | some a, some b => if plainB (two a b) = true then (0, 0) else (two a b, 3)
      | _, _ => (0, 0)
    | _ => (0, 0)

theorem first_esc (c : UInt8) (r : List UInt8) : first (esc c ++ r) = (c, (esc c).length) := by
  unfold esc
  by_cases h : plainB c = true
  · rw [if_pos h]
    simp [first, h]
  · rw [if_neg h]
    have h1 : c.toNat / 16 < 16 := by have := UInt8.toNat_lt c; omega
    have h2 : c.toNat % 16 < 16 := by omega
    have e : two (c.toNat / 16) (c.toNat % 16) = c := UInt8.toNat_inj.1 (by rw [two_nat h1 h2]; omega)
    have h37 : plainB 37 = false := by decide
    simp only [List.cons_append, List.nil_append, first, hex_dig h1, hex_dig h2, e, h37]
    simp [h]

/-- What a text begins with is its text. -/
theorem first_some {s : List UInt8} {c : UInt8} {k : Nat} (h : first s = (c, k)) (hk : k ≠ 0) : s = esc c ++ s.drop k ∧ k ≤ s.length ∧ k ≤ 3 := by
  cases s with
  | nil => simp [first] at h; omega
  | cons x r =>
    simp only [first] at h
    by_cases h1 : plainB x = true
    · rw [if_pos h1] at h
      simp at h
      obtain ⟨rfl, rfl⟩ := h
      unfold esc
      rw [if_pos h1]
      simp
    · rw [if_neg h1] at h
      by_cases h2 : x.toNat ≠ 37
      · rw [if_pos h2] at h
        simp at h; omega
      · rw [if_neg h2] at h
        have hx : x = 37 := UInt8.toNat_inj.1 (by have : (37 : UInt8).toNat = 37 := rfl; omega)
        subst hx
        match r, h with
        | [], h => simp at h; omega
        | [_], h => simp at h; omega
        | a :: b :: t, h =>
          simp only at h
          cases ha : hexV a with
          | none => rw [ha] at h; simp at h; omega
          | some na =>
            cases hb : hexV b with
            | none => rw [ha, hb] at h; simp at h; omega
            | some nb =>
              rw [ha, hb] at h
              simp only at h
              by_cases hp : plainB (two na nb) = true
              · rw [if_pos hp] at h; simp at h; omega
              · rw [if_neg hp] at h
                simp at h
                obtain ⟨rfl, rfl⟩ := h
                unfold esc
                rw [if_neg hp, two_nat (hex_lt ha) (hex_lt hb)]
                have l1 := hex_lt ha
                have l2 := hex_lt hb
                have e1 : (16 * na + nb) / 16 = na := by omega
                have e2 : (16 * na + nb) % 16 = nb := by omega
                rw [e1, e2, dig_hex ha, dig_hex hb]
                simp

/-- What begins as a text of bytes goes on as one. -/
theorem body_prefix : ∀ {b c rest : List UInt8}, body b ++ rest = body c → ∃ d, rest = body d
  | [], c, rest, h => ⟨c, by simpa [body] using h⟩
  | x :: b, [], rest, h => by
    rw [body_cons] at h
    have := esc_len x
    have hl := congrArg List.length h
    rw [body_nil, List.length_append, List.length_append, List.length_nil] at hl
    omega
  | x :: b, y :: c, rest, h => by
    rw [body_cons, body_cons, List.append_assoc] at h
    have h1 := first_esc x (body b ++ rest)
    rw [h, first_esc] at h1
    simp at h1
    obtain ⟨rfl, _⟩ := h1
    exact body_prefix (List.append_cancel_left h)

/-- What begins with no byte's text is no text. -/
theorem first_none {s d : List UInt8} (h : (first s).2 = 0) (hs : s ≠ []) : s ≠ body d := by
  rintro rfl
  cases d with
  | nil => exact hs rfl
  | cons c d =>
    rw [body_cons, first_esc] at h
    have h1 := (esc_len c).1
    rw [show (c, (esc c).length).2 = (esc c).length from rfl] at h
    omega

/-- What a digit is worth in the document, whatever byte it is. -/
def val (c : UInt8) : Nat := if 65 ≤ c.toNat ∧ c.toNat ≤ 70 then c.toNat - 55 else (c.toNat + 208) % 256
theorem val_dig {n : Nat} (h : n < 16) : val (dig n) = n := by
  unfold val
  rw [dig_nat h]
  by_cases h1 : n < 10
  · rw [if_pos h1, if_neg (by omega)]; omega
  · rw [if_neg h1, if_pos (by omega)]; omega
def loose2 (h l : UInt8) : UInt8 := UInt8.ofNat ((16 * val h % 256 + val l) % 256)

/-- The document's reading: whatever stands behind a '%' as digits. -/
def ld : List UInt8 → List UInt8
  | [] => []
  | [x] => [x]
  | [x, y] => x :: ld [y]
  | x :: h :: l :: t => if x.toNat = 37 then loose2 h l :: ld t else x :: ld (h :: l :: t)

theorem ld_two {s : List UInt8} {i : Nat} (hi : i + 2 < s.length) (h : s[i].toNat = 37) : ld (s.drop i) = loose2 s[i + 1] s[i + 2] :: ld (s.drop (i + 3)) := by
  have e : s.drop i = s[i] :: s[i + 1] :: s[i + 2] :: s.drop (i + 3) := by
    rw [List.drop_eq_getElem_cons (by omega), List.drop_eq_getElem_cons (by omega : i + 1 < s.length), List.drop_eq_getElem_cons (by omega : i + 2 < s.length)]
  rw [e, ld, if_pos h]
theorem ld_one {s : List UInt8} {i : Nat} (hi : i < s.length) (h : ¬ (s[i].toNat = 37 ∧ i + 2 < s.length)) : ld (s.drop i) = s[i] :: ld (s.drop (i + 1)) := by
  rw [List.drop_eq_getElem_cons hi]
  have hl : (s.drop (i + 1)).length = s.length - (i + 1) := List.length_drop
  match e : s.drop (i + 1), hl with
  | [], _ => rw [ld, ld]
  | [y], _ => simp [ld]
  | a :: b :: t, hl =>
    have : i + 2 < s.length := by simp at hl; omega
    rw [ld, if_neg (fun e => h ⟨e, this⟩)]

theorem ld_body : ∀ (b : List UInt8), ld (body b) = b
  | [] => by rw [body_nil, ld]
  | c :: b => by
    have ih := ld_body b
    rw [body_cons]
    unfold esc
    by_cases h : plainB c = true
    · rw [if_pos h]
      have h37 : ¬ c.toNat = 37 := by
        intro e
        simp [plainB, e] at h
      have := ld_one (s := [c] ++ body b) (i := 0) (by simp) (fun e => h37 (by simpa using e.1))
      simp only [List.drop_zero] at this
      rw [this]
      simp [ih]
    · rw [if_neg h]
      simp only [List.cons_append, List.nil_append]
      rw [ld, if_pos (by rfl), ih]
      have h1 : c.toNat / 16 < 16 := by have := UInt8.toNat_lt c; omega
      have h2 : c.toNat % 16 < 16 := by omega
      congr 1
      unfold loose2
      rw [val_dig h1, val_dig h2]
      apply UInt8.toNat_inj.1
      have := UInt8.toNat_lt c
      rw [UInt8.toNat_ofNat_of_lt' (by have : UInt8.size = 256 := rfl; omega)]
      omega

/-- What a text is read as, and the error's number. -/
def readL (s : List UInt8) : List UInt8 := if s ≠ [37] ∧ s ≠ [] ∧ body (ld s) = s then ld s else []
def readE (s : List UInt8) : Int := if s ≠ [37] ∧ ¬ (s ≠ [] ∧ body (ld s) = s) then 4 else 0

theorem read_mark : readL [37] = [] ∧ readE [37] = 0 := by
  unfold readL readE
  rw [if_neg (fun h => h.1 rfl), if_neg (fun h => h.1 rfl)]
  exact ⟨rfl, rfl⟩
theorem read_ok {s b : List UInt8} (h : s ≠ [37]) (hb : b ≠ []) (e : s = body b) : readL s = b ∧ readE s = 0 := by
  have hs : s ≠ [] := by
    rintro rfl
    have := (body_len b).1
    rw [← e] at this
    exact hb (List.eq_nil_of_length_eq_zero (by simpa using this))
  have el : ld s = b := by rw [e, ld_body]
  unfold readL readE
  rw [el, ← e, if_pos ⟨h, hs, rfl⟩, if_neg (fun x => x.2 ⟨hs, rfl⟩)]
  exact ⟨rfl, rfl⟩
theorem read_bad {s : List UInt8} (h : s ≠ [37]) (hb : s ≠ [] → ∀ d, s ≠ body d) : readL s = [] ∧ readE s = 4 := by
  unfold readL readE
  rw [if_neg (fun x => hb x.2.1 _ x.2.2.symm), if_pos ⟨h, fun x => hb x.1 _ x.2.symm⟩]
  exact ⟨rfl, rfl⟩
theorem read_txt (b : List UInt8) : readL (txt b) = b ∧ readE (txt b) = 0 := by
  unfold txt
  by_cases hb : b = []
  · rw [if_pos hb, hb]
    exact read_mark
  · rw [if_neg hb]
    refine read_ok (fun e => ?_) hb rfl
    cases b with
    | nil => exact hb rfl
    | cons c b =>
      rw [body_cons] at e
      have h1 := first_esc c (body b)
      rw [e] at h1
      have := esc_len c
      have h37 : plainB 37 = false := by decide
      simp [first, h37] at h1
      omega
end Go.Proofs.YtakmlhhapegpoaaGreat.Names
/-
  Cmp, In and what they call: the program's, the document's.
-/
namespace Go.Proofs.YtakmlhhapegpoaaGreat.Names
open Go.RowKit Disk

theorem seg_drewN {w : World} {v : Value} {L : List UInt8} (h : Seg w v L) (q : Nat) : Seg (w.drewN q) v L := h.grown (grown_drewN _ _ _)

theorem run_minn (ts : Array TypeId) (t : TypeId) (m n : Nat) (w : World) : (Builtin.min_ ts t #[.int .i64 m, .int .i64 n]).run Tryz.prog w = .ok (.int .i64 ((min m n : Nat) : Int)) w := by
  by_cases h : m ≤ n
  · rw [Nat.min_eq_left h]
    simp [Builtin.min_, Builtin.min2]
    try omega
  · rw [Nat.min_eq_right (by omega)]
    simp [Builtin.min_, Builtin.min2]
    try omega
attribute [local go_sem ↓] run_minn

set_option maxHeartbeats 400000 in
theorem compare38 (m n : Nat) (w : World) : Calls Tryz.prog 98 #[.int .i64 m, .int .i64 n] w fun e w' => e = .returned (.int .i64 (cmpN m n)) ∧ w' = w := by
  go_enter Tryz.func98, Tryz.ntmps98
  by_cases h1 : (m : Int) < n
  · have e : cmpN m n = -1 := by unfold cmpN; rw [if_pos (by omega)]
    rw [e]
    go_wp2
    go_ret
    exact ⟨rfl, rfl⟩
  · by_cases h2 : (n : Int) < m
    · have e : cmpN m n = 1 := by unfold cmpN; rw [if_neg (by omega), if_pos (by omega)]
      rw [e]
      go_wp2
      go_ret
      exact ⟨rfl, rfl⟩
    · have e : cmpN m n = 0 := by unfold cmpN; rw [if_neg (by omega), if_neg (by omega)]
      rw [e]
      go_wp2
      go_ret
      exact ⟨rfl, rfl⟩

set_option maxHeartbeats 400000 in
theorem compare39 (m n : Nat) (w : World) : Calls Tryz.prog 99 #[.int .u8 m, .int .u8 n] w fun e w' => e = .returned (.int .i64 (cmpN m n)) ∧ w' = w := by
  go_enter Tryz.func99, Tryz.ntmps99
  by_cases h1 : (m : Int) < n
  · have e : cmpN m n = -1 := by unfold cmpN; rw [if_pos (by omega)]
    rw [e]
    go_wp2
    go_ret
    exact ⟨rfl, rfl⟩
  · by_cases h2 : (n : Int) < m
    · have e : cmpN m n = 1 := by unfold cmpN; rw [if_neg (by omega), if_pos (by omega)]
      rw [e]
      go_wp2
      go_ret
      exact ⟨rfl, rfl⟩
    · have e : cmpN m n = 0 := by unfold cmpN; rw [if_neg (by omega), if_neg (by omega)]
      rw [e]
      go_wp2
      go_ret
      exact ⟨rfl, rfl⟩

/-- A byte of a slice. -/
theorem seg_at {w : World} {ao : Option Addr} {n cap : Nat} {L : List UInt8} (h : Seg w (.slice ao n cap) L) (j : Nat) (hj : j < L.length) : ∃ b off, ao = some ⟨b, off, none⟩ ∧ w.cell? ⟨b, off + j, none⟩ = some (.int .u8 (L[j].toNat : Int)) := by
  obtain ⟨ao', cap', hv, _, _, _, h4⟩ := h
  simp at hv
  rw [hv.1]
  exact h4 j hj

theorem seg_open {w : World} {v : Value} {L : List UInt8} (h : Seg w v L) : ∃ ao n cap, v = .slice ao n cap ∧ L.length = n ∧ n ≤ 9223372036854775807 ∧ Hid (Seg w (.slice ao n cap) L) := by
  obtain ⟨ao, cap, e⟩ := h.shape
  exact ⟨ao, L.length, cap, e, rfl, h.len, by rw [← e]; exact h⟩

set_option maxRecDepth 100000 in
set_option maxHeartbeats 1000000 in
theorem cmp26 (a b : Value) (A B : List UInt8) (w : World) (ha : Seg w a A) (hb : Seg w b B) :
    Calls Tryz.prog 73 #[a, b] w fun e w' => e = .returned (.int .i64 (cmpL A B)) ∧ ∃ m, w' = w.drewN m := by
  obtain ⟨ao, na, ca, rfl, hna, la, HA⟩ := seg_open ha
  obtain ⟨bo, nb, cb, rfl, hnb, lb, HB⟩ := seg_open hb
  have HN : Hid (A.length = na ∧ B.length = nb) := And.intro hna hnb
  clear ha hb hna hnb
  obtain ⟨mn, hmn⟩ : ∃ n, min na nb = n := ⟨_, rfl⟩
  have HM : Hid (min na nb = mn) := hmn
  have hm1 : mn ≤ na := by omega
  have hm2 : mn ≤ nb := by omega
  obtain ⟨c0, hc0⟩ : ∃ c, cmpN na nb = c := ⟨_, rfl⟩
  have HC : Hid (cmpN na nb = c0) := hc0
  obtain ⟨R, hR⟩ : ∃ c, cmpL A B = c := ⟨_, rfl⟩
  have HR : Hid (cmpL A B = R) := hR
  rw [hR]
  clear hmn hc0 hR
  go_enter Tryz.func73, Tryz.ntmps73
  go_wp2_with fail
  refine wp_scope_straight ?_
  go_wp2_with (first | (go_at_call 98; refine (compare38 _ _ _).mono ?_; rintro e w1 ⟨rfl, h1⟩; rw [h1]; clear h1))
  refine wp_label ?_
  refine (‹∀ (a : Act) (w : World), Code.wp Tryz.prog _ _ a w → _› _ _ ?_)
  go_wp2_with fail
  rw [HM.out, HC.out]
  go_loopw [5, 18] (fun o i wr => ∃ k q : Nat, k ≤ mn ∧ o = .int .i64 c0 ∧ i = .int .i64 k ∧ wr = w.drewN q ∧ cmpL (A.drop k) (B.drop k) = R) (fun _ i _ => mn - (intOf i).toNat)
  case atStart => exact ⟨0, 0, by omega, rfl, rfl, rfl, HR.out⟩
  case round =>
    obtain ⟨k, q, hk, rfl, rfl, hwr, hinv⟩ := hrel
    have HW : Hid (wr = w.drewN q) := hwr
    by_cases hlt : k < mn
    · have hka : k < A.length := by rw [HN.out.1]; omega
      have hkb : k < B.length := by rw [HN.out.2]; omega
      have ha := seg_drewN HA.out q
      have hb := seg_drewN HB.out q
      rw [← hwr] at ha hb
      obtain ⟨b1, o1, rfl, x1⟩ := seg_at ha k hka
      obtain ⟨b2, o2, rfl, x2⟩ := seg_at hb k hkb
      rw [cmp_step hka hkb] at hinv
      obtain ⟨x, hx⟩ : ∃ x, A[k].toNat = x := ⟨_, rfl⟩
      obtain ⟨y, hy⟩ : ∃ x, B[k].toNat = x := ⟨_, rfl⟩
      rw [hx] at x1 hinv
      rw [hy] at x2 hinv
      have HI : Hid _ := hinv
      have i1 : (0 : Int) ≤ (k : Int) := by omega
      have i2 : (k : Int) < (na : Int) := by omega
      have i3 : (k : Int) < (nb : Int) := by omega
      clear hinv hx hy hka hkb ha hb hwr
      go_wp2_with fail
      go_quiet ((go_at_call 99; exact Calls.quiet_of_same (compare39 _ _ _)))
      by_cases c1 : x < y
      · have e : cmpN x y = -1 := by unfold cmpN; rw [if_pos c1]
        have eR : R = -1 := by have := HI.out; rw [if_pos c1] at this; exact this.symm
        subst eR
        rw [e]
        go_wp2_with fail
        first | rw [Exit.noGoto_ret] | skip
        go_ret
        exact ⟨rfl, _, by rw [HW.out, World.drewN_drewN]⟩
      · by_cases c2 : y < x
        · have e : cmpN x y = 1 := by unfold cmpN; rw [if_neg c1, if_pos c2]
          have eR : R = 1 := by have := HI.out; rw [if_neg c1, if_pos c2] at this; exact this.symm
          subst eR
          rw [e]
          go_wp2_with fail
          first | rw [Exit.noGoto_ret] | skip
          go_ret
          exact ⟨rfl, _, by rw [HW.out, World.drewN_drewN]⟩
        · have e : cmpN x y = 0 := by unfold cmpN; rw [if_neg c1, if_neg c2]
          have eR := HI.out
          rw [if_neg c1, if_neg c2] at eR
          rw [e]
          have HE : Hid _ := eR
          clear eR
          go_wp2_with fail
          go_roundw
          case rel => exact ⟨k + 1, _, by omega, rfl, by go_num, by rw [HW.out, World.drewN_drewN], HE.out⟩
          case measure => simp [intOf]; omega
    · have e : R = c0 := by
        rw [← hinv, ← HC.out, ← HN.out.1, ← HN.out.2]
        exact cmp_end (by rw [HN.out.1, HN.out.2, HM.out]; omega)
      subst e
      clear hinv hwr
      go_wp2_with fail
      first | rw [Exit.noGoto_ret] | skip
      go_ret
      exact ⟨rfl, _, HW.out⟩

set_option maxRecDepth 100000 in
set_option maxHeartbeats 1000000 in
theorem cmp27 (a b : Value) (A B : List UInt8) (w : World) (ha : Seg w a A) (hb : Seg w b B) :
    Calls Tryz.prog 91 #[a, b] w fun e w' => e = .returned (.int .i64 (cmpL A B)) ∧ ∃ m, w' = w.drewN m := by
  obtain ⟨ao, na, ca, rfl, hna, la, HA⟩ := seg_open ha
  obtain ⟨bo, nb, cb, rfl, hnb, lb, HB⟩ := seg_open hb
  have HN : Hid (A.length = na ∧ B.length = nb) := And.intro hna hnb
  clear ha hb hna hnb
  obtain ⟨R, hR⟩ : ∃ c, cmpL A B = c := ⟨_, rfl⟩
  have HR : Hid (cmpL A B = R) := hR
  rw [hR]
  clear hR
  go_enter Tryz.func91, Tryz.ntmps91
  go_wp2_with fail
  go_loopw [5] (fun i wr => ∃ k q : Nat, k ≤ na ∧ k ≤ nb ∧ i = .int .i64 k ∧ wr = w.drewN q ∧ cmpL (A.drop k) (B.drop k) = R) (fun i _ => na - (intOf i).toNat)
  case atStart => exact ⟨0, 0, by omega, by omega, rfl, rfl, HR.out⟩
  case round =>
    obtain ⟨k, q, hk, hk2, rfl, hwr, hinv⟩ := hrel
    have HW : Hid (wr = w.drewN q) := hwr
    by_cases hlt : k < na ∧ k < nb
    · have hka : k < A.length := by rw [HN.out.1]; omega
      have hkb : k < B.length := by rw [HN.out.2]; omega
      have ha := seg_drewN HA.out q
      have hb := seg_drewN HB.out q
      rw [← hwr] at ha hb
      obtain ⟨b1, o1, rfl, x1⟩ := seg_at ha k hka
      obtain ⟨b2, o2, rfl, x2⟩ := seg_at hb k hkb
      rw [cmp_step hka hkb] at hinv
      obtain ⟨x, hx⟩ : ∃ x, A[k].toNat = x := ⟨_, rfl⟩
      obtain ⟨y, hy⟩ : ∃ x, B[k].toNat = x := ⟨_, rfl⟩
      rw [hx] at x1 hinv
      rw [hy] at x2 hinv
      have HI : Hid _ := hinv
      have i1 : (0 : Int) ≤ (k : Int) := by omega
      have i2 : (k : Int) < (na : Int) := by omega
      have i3 : (k : Int) < (nb : Int) := by omega
      clear hinv hx hy hka hkb ha hb hwr
      go_wp2_with fail
      go_quiet (fail)
      by_cases c1 : (x : Int) < y
      · have eR : R = -1 := by have := HI.out; rw [if_pos (by omega)] at this; exact this.symm
        subst eR
        go_wp2_with fail
        go_ret
        exact ⟨rfl, _, by rw [HW.out, World.drewN_drewN]⟩
      · go_wp2_with fail
        go_quiet (fail)
        by_cases c2 : (y : Int) < x
        · have eR : R = 1 := by have := HI.out; rw [if_neg (by omega), if_pos (by omega)] at this; exact this.symm
          subst eR
          go_wp2_with fail
          go_ret
          exact ⟨rfl, _, by rw [HW.out]; repeat rw [World.drewN_drewN]⟩
        · have eR := HI.out
          rw [if_neg (by omega), if_neg (by omega)] at eR
          have HE : Hid _ := eR
          clear eR
          go_wp2_with fail
          go_roundw
          case rel => exact ⟨k + 1, _, by omega, by omega, by go_num, by rw [HW.out]; repeat rw [World.drewN_drewN], HE.out⟩
          case measure => simp [intOf]; omega
    · have e : R = cmpN na nb := by
        rw [← hinv, ← HN.out.1, ← HN.out.2]
        exact cmp_end (by rw [HN.out.1, HN.out.2]; omega)
      clear hinv hwr
      have hor : (¬ (k : Int) < na) ∨ ((k : Int) < na ∧ ¬ (k : Int) < nb) := by omega
      by_cases c1 : (na : Int) < nb
      · have e : R = -1 := by rw [e]; unfold cmpN; rw [if_pos (by omega)]
        subst e
        rcases hor with hor | ⟨hor, hor2⟩ <;> (
          go_wp2_with fail
          go_ret
          exact ⟨rfl, _, HW.out⟩)
      · by_cases c2 : (nb : Int) < na
        · have e : R = 1 := by rw [e]; unfold cmpN; rw [if_neg (by omega), if_pos (by omega)]
          subst e
          rcases hor with hor | ⟨hor, hor2⟩ <;> (
            go_wp2_with fail
            go_ret
            exact ⟨rfl, _, HW.out⟩)
        · have e : R = 0 := by rw [e]; unfold cmpN; rw [if_neg (by omega), if_neg (by omega)]
          subst e
          rcases hor with hor | ⟨hor, hor2⟩ <;> (
            go_wp2_with fail
            go_ret
            exact ⟨rfl, _, HW.out⟩)

set_option maxHeartbeats 400000 in
theorem in29 (a b c : Value) (K F T : List UInt8) (w : World) (ha : Seg w a K) (hb : Seg w b F) (hc : Seg w c T) :
    Calls Tryz.prog 95 #[a, b, c] w fun e w' => e = .returned (.bool (inB K F T)) ∧ ∃ m, w' = w.drewN m := by
  obtain ⟨co, nc, cc, rfl, hnc, lc, HC⟩ := seg_open hc
  have HA : Hid (Seg w a K ∧ Seg w b F) := ⟨ha, hb⟩
  have HN : Hid (T.length = nc) := hnc
  clear ha hb hc hnc
  rw [in_end]
  obtain ⟨r, hr⟩ : ∃ r, cmpL K F = r := ⟨_, rfl⟩
  have HR : Hid (cmpL K F = r) := hr
  rw [hr]
  clear hr
  go_enter Tryz.func95, Tryz.ntmps95
  by_cases h : 0 ≤ r
  · rw [decide_eq_true h, Bool.true_and]
    by_cases h0 : nc = 0
    · have e : endB T K = true := by simp [endB, HN.out, h0]
      rw [e]
      subst h0
      go_wp2_with (first | (go_at_call 91; refine (cmp27 _ _ _ _ _ HA.out.1 HA.out.2).mono ?_; rintro e w1 ⟨rfl, hm⟩; rw [HR.out]; obtain ⟨m, hm⟩ := hm; have HM : Hid _ := hm; clear hm))
      go_ret
      exact ⟨rfl, m, HM.out⟩
    · have e : endB T K = decide (cmpL K T < 0) := by simp [endB, HN.out, h0]
      rw [e]
      have i0 : ¬ (nc : Int) = 0 := by omega
      go_wp2_with fail
      refine (cmp27 _ _ _ _ _ HA.out.1 HA.out.2).mono ?_
      rintro e w1 ⟨rfl, hm⟩
      rw [HR.out]
      obtain ⟨m, hm⟩ := hm
      have HM : Hid _ := hm
      clear hm
      go_wp2_with fail
      refine (cmp27 _ _ K T _ (by rw [HM.out]; exact seg_drewN HA.out.1 m) (by rw [HM.out]; exact seg_drewN HC.out m)).mono ?_
      rintro e w2 ⟨rfl, hm2⟩
      go_wp2_with fail
      go_ret
      obtain ⟨m2, hm2⟩ := hm2
      exact ⟨by simp [h0], m + m2, by rw [hm2, HM.out, World.drewN_drewN]⟩
  · rw [decide_eq_false h, Bool.false_and]
    go_wp2_with (first | (go_at_call 91; refine (cmp27 _ _ _ _ _ HA.out.1 HA.out.2).mono ?_; rintro e w1 ⟨rfl, hm⟩; rw [HR.out]; obtain ⟨m, hm⟩ := hm; have HM : Hid _ := hm; clear hm))
    go_ret
    exact ⟨rfl, m, HM.out⟩
end Go.Proofs.YtakmlhhapegpoaaGreat.Names
/-
  Bytes that go as they are, digits; tables' names, keys, values: the program's, the document's.
-/
namespace Go.Proofs.YtakmlhhapegpoaaGreat.Names
open Go.RowKit Disk

/-- A text. -/
def Str (L : List UInt8) : Value := .string ⟨L.toArray⟩

theorem run_index9 (L : List UInt8) (k : Nat) (hk : k < L.length) (w : World) : (Instr.index 9 (.string ⟨L.toArray⟩) (.int .i64 k)).run Tryz.prog w = .ok (.int .u8 (L[k].toNat : Int)) w := by
  rw [run_index_string w 9 _ _ _ Tryz.underlying9]
  have hs : (⟨L.toArray⟩ : ByteArray).size = L.length := by simp [ByteArray.size]
  rw [dif_pos ⟨by omega, by rw [hs]; omega⟩]
  congr 3
theorem str_size (L : List UInt8) : (⟨L.toArray⟩ : ByteArray).size = L.length := by simp [ByteArray.size]

/-- What a byte is, as a number below 256. -/
theorem byte_lt (c : UInt8) : c.toNat < 256 := UInt8.toNat_lt c

end Go.Proofs.YtakmlhhapegpoaaGreat.Names
/-
  Copies that are cut at their capacity; Next, Behind, Meet: the program's, the document's.
-/
namespace Go.Proofs.YtakmlhhapegpoaaGreat.Names
open Go.RowKit Disk

/-- A row of the call's own from its beginning on, cut at its length or not. -/
def Cut (w : World) (B : Nat) (v : Value) (L : List UInt8) : Prop :=
  Disk.Own w B v L ∨ ∃ g cap, v = .slice (some ⟨g, 0, none⟩) L.length L.length ∧ Disk.Own w B (.slice (some ⟨g, 0, none⟩) L.length cap) L

theorem Cut.seg {w : World} {B : Nat} {v : Value} {L : List UInt8} (h : Cut w B v L) : Seg w v L := by
  rcases h with h | ⟨g, cap, rfl, h⟩
  · exact h.seg
  · obtain ⟨ao, c, hv, h1, h2, h3, h4⟩ := h.seg
    simp at hv
    obtain ⟨rfl, rfl⟩ := hv
    exact ⟨_, _, rfl, Nat.le_refl _, by omega, by simp, h4⟩
theorem Cut.lt {w : World} {B : Nat} {v : Value} {L : List UInt8} (h : Cut w B v L) : ∀ k, v.ownBlock = some k → B ≤ k ∧ k < w.heap.size := by
  rcases h with h | ⟨g, cap, rfl, h⟩
  · exact h.lt
  · exact fun k hk => h.lt k hk
theorem Cut.same {w w' : World} {B : Nat} {v : Value} {L : List UInt8} (h : Cut w B v L) (hs : ∀ k, v.ownBlock = some k → w'.heap[k]? = w.heap[k]?) : Cut w' B v L := by
  rcases h with h | ⟨g, cap, rfl, h⟩
  · exact .inl (h.same hs)
  · exact .inr ⟨g, cap, rfl, h.same fun k hk => hs k hk⟩
theorem Cut.grown {w w' : World} {B : Nat} {v : Value} {L : List UInt8} (h : Cut w B v L) (hg : w.grownBy w' none) : Cut w' B v L :=
  h.same fun k hk => hg.block k (h.lt k hk).2 (by simp)
theorem Cut.mono {w : World} {B B' : Nat} {v : Value} {L : List UInt8} (h : Cut w B v L) (hB : B' ≤ B) : Cut w B' v L := by
  rcases h with h | ⟨g, cap, rfl, h⟩
  · exact .inl (h.mono hB)
  · exact .inr ⟨g, cap, rfl, h.mono hB⟩
theorem cut_of {w : World} {B : Nat} {ao : Option Addr} {n cap : Nat} {L : List UInt8} (h : Disk.Own w B (.slice ao n cap) L) : Cut w B (.slice ao n n) L := by
  rcases h.shape with ⟨e, rfl⟩ | ⟨g, c, e, _⟩
  · simp at e
    obtain ⟨rfl, rfl, rfl⟩ := e
    exact .inl h
  · simp at e
    obtain ⟨rfl, rfl, rfl⟩ := e
    exact .inr ⟨g, cap, rfl, h⟩

theorem own_cap {w : World} {B : Nat} {ao : Option Addr} {n cap : Nat} {L : List UInt8} (h : Disk.Own w B (.slice ao n cap) L) : n = L.length ∧ n ≤ cap ∧ cap ≤ 9223372036854775807 := by
  rcases h.2 with ⟨e, h0⟩ | ⟨g, c, cur, e, _, _, h1, h2, _⟩
  · simp at e
    obtain ⟨rfl, rfl, rfl⟩ := e
    exact ⟨h0.symm, by omega, by omega⟩
  · simp at e
    obtain ⟨rfl, rfl, rfl⟩ := e
    unfold maxLen at h2
    exact ⟨rfl, h1, by omega⟩

set_option maxRecDepth 100000 in
set_option maxHeartbeats 400000 in
theorem copied31 (v u : Value) (L M : List UInt8) (w : World) (hs : Seg w v L) (hu : Seg w u M) (hL : L.length + M.length ≤ 140737488355328) :
    Calls Tryz.prog 166 #[v, u] w fun e w' => ∃ x, e = .returned x ∧ Cut w' w.heap.size x (L ++ M) ∧ w.grownBy w' none := by
  obtain ⟨ao, n, cap, rfl, hn, hlen, HS⟩ := seg_open hs
  obtain ⟨bo, m, cb, rfl, hm, hlem, HU⟩ := seg_open hu
  have HL : Hid _ := hL
  clear hs hu hL hn hm
  go_enter Tryz.func166, Tryz.ntmps166
  go_wp2_with (at_builtin; refine app22 _ rfl _ _ rfl w.heap.size _ [] _ L rfl rfl (Own.nil _ _) HS.out ?c0 ?c1 ?_)
  case c0 => have := HL.out; simp; omega
  case c1 => omega
  intro v1 w1 hown hg hl
  have F : Hid (Disk.Own w1 w.heap.size v1 L ∧ w.grownBy w1 none) := And.intro hown hg
  clear hown hg hl
  go_wp2_with (at_builtin; refine app22 _ rfl _ _ rfl w.heap.size _ L _ M rfl rfl F.out.1 (HU.out.grown F.out.2) ?c0 ?c1 ?_)
  case c0 => exact HL.out
  case c1 => exact F.out.2.size
  intro v2 w2 hown hg hl
  have g2 := grown_new F.out.2 hg (fun x hx => (F.out.1.lt x hx).1)
  obtain ⟨ao2, c2, e2⟩ := hown.seg.shape
  subst e2
  obtain ⟨h1, h2, h3⟩ := own_cap hown
  obtain ⟨n2, hn2⟩ : ∃ n, (L ++ M).length = n := ⟨_, rfl⟩
  rw [hn2] at hown h2 ⊢
  have F2 : Hid (Disk.Own w2 w.heap.size (.slice ao2 n2 c2) (L ++ M) ∧ w.grownBy w2 none) := And.intro hown g2
  have i1 : (n2 : Int) ≤ (c2 : Int) := by omega
  have i2 : (n2 : Int) ≤ 9223372036854775807 := by omega
  clear hown hg hl g2 h1 hn2
  go_wp2_with fail
  go_simp
  go_wp2_with fail
  go_ret
  exact ⟨_, rfl, cut_of F2.out.1, F2.out.2⟩
end Go.Proofs.YtakmlhhapegpoaaGreat.Names
/-
  Next, Behind, Meet of the program.
-/
namespace Go.Proofs.YtakmlhhapegpoaaGreat.Names
open Go.RowKit Disk

set_option maxRecDepth 100000 in
set_option maxHeartbeats 400000 in
theorem next21 (v : Value) (L : List UInt8) (w : World) (hs : Seg w v L) (hL : L.length ≤ 140737488355327) :
    Calls Tryz.prog 164 #[v] w fun e w' => ∃ x, e = .returned x ∧ Cut w' w.heap.size x (L ++ [0]) ∧ w.grownBy w' none := by
  have HS : Hid (Seg w v L) := hs
  have HL : Hid (L.length ≤ 140737488355327) := hL
  clear hs hL
  go_enter Tryz.func164, Tryz.ntmps164
  go_wp2_with (first | (go_at_call 166; refine (copied31 _ _ L [0] _ (seg_alloc HS.out _) (seg_lit _ _ _ [0] rfl (by simp)) (by have := HL.out; simp; omega)).mono ?_; rintro e w1 ⟨x, rfl, hc⟩))
  go_ret
  exact ⟨x, rfl, hc.1.mono (by simp), grown_trans (World.grownBy_alloc _ _ _) hc.2⟩

end Go.Proofs.YtakmlhhapegpoaaGreat.Names
/-
  Where a digit stands among the digits; the byte that a text begins with.
-/
namespace Go.Proofs.YtakmlhhapegpoaaGreat.Names
open Go.RowKit Disk

/-- A digit's place, or -1. -/
def hexI (c : UInt8) : Int := match hexV c with
  | some n => (n : Int)
  | none => -1

def digits16 : List UInt8 := [48, 49, 50, 51, 52, 53, 54, 55, 56, 57, 65, 66, 67, 68, 69, 70]

theorem hex_all : ((List.range 256).all fun n => Lib.indexByte digits16 (UInt8.ofNat n) == hexI (UInt8.ofNat n)) = true := by kernel_rfl
theorem hex_index (c : UInt8) : Lib.indexByte digits16 c = hexI c := by
  have h := List.all_eq_true.1 hex_all c.toNat (List.mem_range.2 (byte_lt c))
  rw [UInt8.ofNat_toNat] at h
  exact eq_of_beq h

theorem toUInt8_nat (c : UInt8) : ((c.toNat : Int).toNat).toUInt8 = c := by
  rw [Int.toNat_natCast]
  exact UInt8.ofNat_toNat

set_option maxHeartbeats 400000 in
theorem key11 (v : Value) (L : List UInt8) (w : World) (hs : Seg w v L) : Calls Tryz.prog 100 #[v] w fun e w' => e = .returned (.bool (keyB L)) ∧ w' = w := by
  obtain ⟨ao, n, cap, rfl, hn, hlen, HS⟩ := seg_open hs
  unfold keyB
  rw [hn]
  clear hs hn HS
  go_enter Tryz.func100, Tryz.ntmps100
  by_cases h : (1 : Int) ≤ n
  · rw [decide_eq_true (by omega : 1 ≤ n), Bool.true_and]
    go_wp2
    go_ret
    exact ⟨by simp; try omega, rfl⟩
  · rw [decide_eq_false (by omega : ¬ 1 ≤ n), Bool.false_and]
    go_wp2
    go_ret
    exact ⟨rfl, rfl⟩
set_option maxHeartbeats 400000 in
theorem key12 (v : Value) (L : List UInt8) (w : World) (hs : Seg w v L) : Calls Tryz.prog 62 #[v] w fun e w' => e = .returned (.bool (keyB L)) ∧ w' = w := by
  obtain ⟨ao, n, cap, rfl, hn, hlen, HS⟩ := seg_open hs
  unfold keyB
  rw [hn]
  clear hs hn HS
  go_enter Tryz.func62, Tryz.ntmps62
  by_cases h : (1 : Int) ≤ n
  · rw [decide_eq_true (by omega : 1 ≤ n), Bool.true_and]
    go_wp2
    go_ret
    exact ⟨by simp; try omega, rfl⟩
  · rw [decide_eq_false (by omega : ¬ 1 ≤ n), Bool.false_and]
    go_wp2
    go_ret
    exact ⟨rfl, rfl⟩
theorem value13 (v : Value) (L : List UInt8) (w : World) (hs : Seg w v L) : Calls Tryz.prog 101 #[v] w fun e w' => e = .returned (.bool (valueB L)) ∧ w' = w := by
  obtain ⟨ao, n, cap, rfl, hn, hlen, HS⟩ := seg_open hs
  unfold valueB
  rw [hn]
  clear hs hn HS
  go_enter Tryz.func101, Tryz.ntmps101
  go_wp2
  go_ret
  exact ⟨by simp; try omega, rfl⟩
theorem value14 (v : Value) (L : List UInt8) (w : World) (hs : Seg w v L) : Calls Tryz.prog 63 #[v] w fun e w' => e = .returned (.bool (valueB L)) ∧ w' = w := by
  obtain ⟨ao, n, cap, rfl, hn, hlen, HS⟩ := seg_open hs
  unfold valueB
  rw [hn]
  clear hs hn HS
  go_enter Tryz.func63, Tryz.ntmps63
  go_wp2
  go_ret
  exact ⟨by simp; try omega, rfl⟩
theorem num17 (k : Int) (w : World) : Calls Tryz.prog 16 #[.int .i64 k] w fun e w' => e = .returned (.int .i64 k) ∧ w' = w := by
  go_enter Tryz.func16, Tryz.ntmps16
  go_wp2
  go_ret
  exact ⟨rfl, rfl⟩

set_option maxRecDepth 100000 in
set_option maxHeartbeats 1000000 in
theorem table9 (L : List UInt8) (w : World) (hl : L.length ≤ 9223372036854775807) : Calls Tryz.prog 47 #[Str L] w fun e w' => e = .returned (.bool (tabB L)) ∧ w' = w := by
  unfold Str
  obtain ⟨X, hX⟩ : ∃ X, (⟨L.toArray⟩ : ByteArray) = X := ⟨_, rfl⟩
  obtain ⟨n, hn⟩ : ∃ n, L.length = n := ⟨_, rfl⟩
  have hsz : X.size = n := by rw [← hX, str_size, hn]
  have HX : Hid ((⟨L.toArray⟩ : ByteArray) = X ∧ L.length = n) := ⟨hX, hn⟩
  rw [hX]
  rw [hn] at hl
  obtain ⟨R, hR⟩ : ∃ R, tabB L = R := ⟨_, rfl⟩
  have HR : Hid (tabB L = R) := hR
  rw [hR]
  clear hX hn hR
  go_enter Tryz.func47, Tryz.ntmps47
  by_cases h1 : n < 1
  · have e : R = false := by rw [← HR.out]; unfold tabB; rw [HX.out.2, decide_eq_false (by omega : ¬ 1 ≤ n)]; simp
    subst e
    have i1 : (n : Int) < 1 := by omega
    go_wp2_with fail
    refine wp_scope_straight ?_
    go_wp2_with fail
    first | rw [Exit.noGoto_ret] | skip
    go_ret
    exact ⟨rfl, rfl⟩
  · by_cases h2 : 16 < n
    · have e : R = false := by rw [← HR.out]; unfold tabB; rw [HX.out.2, decide_eq_false (by omega : ¬ n ≤ 16)]; simp
      subst e
      have i1 : ¬ (n : Int) < 1 := by omega
      have i2 : (16 : Int) < n := by omega
      go_wp2_with fail
      refine wp_scope_straight ?_
      go_wp2_with fail
      first | rw [Exit.noGoto_ret] | skip
      go_ret
      exact ⟨rfl, rfl⟩
    · have i1 : ¬ (n : Int) < 1 := by omega
      have i2 : ¬ (16 : Int) < n := by omega
      go_wp2_with fail
      refine wp_scope_straight ?_
      go_wp2_with fail
      refine wp_label ?_
      refine (‹∀ (a : Act) (w : World), Code.wp Tryz.prog _ _ a w → _› _ _ ?_)
      go_wp2_with fail
      go_loopw [15] (fun i wr => ∃ k : Nat, k ≤ n ∧ i = .int .i64 k ∧ wr = w ∧ ∀ j (hj : j < L.length), j < k → alnum L[j] = true) (fun i _ => n - (intOf i).toNat)
      case atStart => exact ⟨0, by omega, rfl, rfl, fun j _ h => by omega⟩
      case round =>
        obtain ⟨k, hk, rfl, hwr, hinv⟩ := hrel
        have HW : Hid (wr = w ∧ ∀ j (hj : j < L.length), j < k → alnum L[j] = true) := ⟨hwr, hinv⟩
        clear hwr hinv
        by_cases hlt : k < n
        · have hkl : k < L.length := by rw [HX.out.2]; exact hlt
          have hidx := run_index9 L k hkl
          rw [HX.out.1] at hidx
          obtain ⟨q, hq⟩ : ∃ q, alnum L[k] = q := ⟨_, rfl⟩
          have HQ : Hid (alnum L[k] = q) := hq
          have hd := hq
          unfold alnum at hd
          obtain ⟨x, hx⟩ : ∃ x, L[k].toNat = x := ⟨_, rfl⟩
          rw [hx] at hidx hd
          clear hq hx
          have i3 : (0 : Int) ≤ (k : Int) := by omega
          have i4 : (k : Int) < (n : Int) := by omega
          by_cases a1 : (97 : Int) ≤ x ∧ (x : Int) ≤ 122
          · obtain ⟨a1, a2⟩ := a1
            have e : q = true := by rw [← hd]; simp; omega
            subst e
            clear hd
            go_wp2_with fail
            go_roundw
            case rel => exact ⟨k + 1, by omega, by go_num, HW.out.1, fun j hj hjk => by
              by_cases e : j = k
              · subst e; exact HQ.out
              · exact HW.out.2 j hj (by omega)⟩
            case measure => simp [intOf]; omega
          · have a1' : (¬ (97 : Int) ≤ x) ∨ ((97 : Int) ≤ x ∧ ¬ (x : Int) ≤ 122) := by omega
            by_cases a3 : (48 : Int) ≤ x ∧ (x : Int) ≤ 57
            · obtain ⟨a3, a4⟩ := a3
              have e : q = true := by rw [← hd]; simp; omega
              subst e
              clear hd
              rcases a1' with a5 | ⟨a5, a6⟩
              · go_wp2_with fail
                go_roundw
                case rel => exact ⟨k + 1, by omega, by go_num, HW.out.1, fun j hj hjk => by
                  by_cases e : j = k
                  · subst e; exact HQ.out
                  · exact HW.out.2 j hj (by omega)⟩
                case measure => simp [intOf]; omega
              · omega
            · have a3' : (¬ (48 : Int) ≤ x) ∨ ((48 : Int) ≤ x ∧ ¬ (x : Int) ≤ 57) := by omega
              have e : q = false := by rw [← hd]; simp; omega
              subst e
              have e : R = false := by rw [← HR.out]; exact tab_bad hkl HQ.out
              subst e
              clear hd a1 a3
              rcases a1' with a5 | ⟨a5, a6⟩ <;> rcases a3' with a7 | ⟨a7, a8⟩
              all_goals (
                go_wp2_with fail
                first | rw [Exit.noGoto_ret] | skip
                go_ret
                exact ⟨rfl, HW.out.1⟩)
        · have e : R = true := by
            rw [← HR.out, tab_end (fun j hj => HW.out.2 j hj (by have := HX.out.2; omega)), HX.out.2]
            simp; omega
          subst e
          go_wp2_with fail
          first | rw [Exit.noGoto_ret] | skip
          go_ret
          exact ⟨rfl, HW.out.1⟩
end Go.Proofs.YtakmlhhapegpoaaGreat.Names
