/-
  Texts of Names, put together.
-/
import Derived.Test.YtfocmbnhkldnfaaGreatDoorProg
import Derived.KernelRfl
import Derived.Test.YtfocmbnhkldnfaaGreatDoorDiskAll
import Derived.Lib.Bytealg
import Derived.ArgAppend
import Derived.Laws.MakeOwn
/-
  Keys on plain lists: how they are held against each other, ranges, the next one, what is behind a beginning, what two ranges share.
-/
namespace Go.Proofs.YtfocmbnhkldnfaaGreatDoor.Names

/-- -1, 0, 1: below, the same, above. -/
def cmpL : List UInt8 → List UInt8 → Int
  | [], [] => 0
  | [], _ :: _ => -1
  | _ :: _, [] => 1
  | a :: az, b :: bs => if a.toNat < b.toNat then -1 else if b.toNat < a.toNat then 1 else cmpL az bs

def cmpN (a b : Nat) : Int := if a < b then -1 else if b < a then 1 else 0

theorem cmp_nil_left (B : List UInt8) : cmpL [] B = cmpN 0 B.length := by
  cases B <;> simp [cmpL, cmpN]
theorem cmp_nil_right (A : List UInt8) : cmpL A [] = cmpN A.length 0 := by
  cases A <;> simp [cmpL, cmpN]

theorem cmp_end {A B : List UInt8} {k : Nat} (h : k = min A.length B.length) : cmpL (A.drop k) (B.drop k) = cmpN A.length B.length := by
  by_cases h1 : A.length ≤ B.length
  · have e : k = A.length := by omega
    subst e
    rw [List.drop_length, cmp_nil_left, List.length_drop]
    unfold cmpN
    by_cases h2 : A.length < B.length
    · rw [if_pos (by omega), if_pos h2]
    · rw [if_neg (by omega), if_neg (by omega), if_neg h2, if_neg (by omega)]
  · have e : k = B.length := by omega
    subst e
    rw [List.drop_length, cmp_nil_right, List.length_drop]
    unfold cmpN
    rw [if_neg (by omega), if_pos (by omega), if_neg (by omega), if_pos (by omega)]

theorem cmp_step {A B : List UInt8} {k : Nat} (ha : k < A.length) (hb : k < B.length) :
    cmpL (A.drop k) (B.drop k) = if A[k].toNat < B[k].toNat then -1 else if B[k].toNat < A[k].toNat then 1 else cmpL (A.drop (k + 1)) (B.drop (k + 1)) := by
  rw [List.drop_eq_getElem_cons ha, List.drop_eq_getElem_cons hb]
  rfl

theorem cmp_range : ∀ (A B : List UInt8), cmpL A B = -1 ∨ cmpL A B = 0 ∨ cmpL A B = 1
  | [], [] => .inr (.inl rfl)
  | [], _ :: _ => .inl rfl
  | _ :: _, [] => .inr (.inr rfl)
  | a :: az, b :: bs => by
    unfold cmpL
    split
    · exact .inl rfl
    · split
      · exact .inr (.inr rfl)
      · exact cmp_range az bs

theorem cmp_flip : ∀ (A B : List UInt8), cmpL A B = -cmpL B A
  | [], [] => rfl
  | [], _ :: _ => rfl
  | _ :: _, [] => rfl
  | a :: az, b :: bs => by
    unfold cmpL
    by_cases h1 : a.toNat < b.toNat
    · rw [if_pos h1, if_neg (by omega), if_pos h1]
    · by_cases h2 : b.toNat < a.toNat
      · rw [if_neg h1, if_pos h2, if_pos h2]
        rfl
      · rw [if_neg h1, if_neg h2, if_neg h2, if_neg h1]
        exact cmp_flip az bs

theorem cmp_self : ∀ (A : List UInt8), cmpL A A = 0
  | [] => rfl
  | a :: az => by
    unfold cmpL
    rw [if_neg (by omega), if_neg (by omega)]
    exact cmp_self az

theorem cmp_zero : ∀ {A B : List UInt8}, cmpL A B = 0 → A = B
  | [], [], _ => rfl
  | [], _ :: _, h => by simp [cmpL] at h
  | _ :: _, [], h => by simp [cmpL] at h
  | a :: az, b :: bs, h => by
    unfold cmpL at h
    split at h
    · simp at h
    · split at h
      · simp at h
      · rename_i h1 h2
        have e : a = b := UInt8.toNat_inj.1 (by omega)
        rw [e, cmp_zero h]

theorem cmp_iff {A B : List UInt8} : cmpL A B = 0 ↔ A = B := ⟨cmp_zero, fun h => by rw [h]; exact cmp_self B⟩

/-- Not above, twice. -/
theorem cmp_trans : ∀ {A B C : List UInt8}, cmpL A B ≤ 0 → cmpL B C ≤ 0 → cmpL A C ≤ 0
  | [], _, [], _, _ => by simp [cmpL]
  | [], _, _ :: _, _, _ => by simp [cmpL]
  | a :: az, [], _, h, _ => by simp [cmpL] at h
  | a :: az, b :: bs, [], _, h => by simp [cmpL] at h
  | a :: az, b :: bs, c :: cs, h, k => by
    unfold cmpL at h k ⊢
    by_cases h1 : a.toNat < c.toNat
    · rw [if_pos h1]
      omega
    · by_cases h2 : a.toNat < b.toNat
      · rw [if_neg (by omega), if_pos (by omega)] at k
        omega
      · rw [if_neg h2] at h
        by_cases h3 : b.toNat < a.toNat
        · rw [if_pos h3] at h
          omega
        · rw [if_neg h3] at h
          by_cases h4 : b.toNat < c.toNat
          · omega
          · rw [if_neg h4] at k
            by_cases h5 : c.toNat < b.toNat
            · rw [if_pos h5] at k
              omega
            · rw [if_neg h5] at k
              rw [if_neg h1, if_neg (by omega)]
              exact cmp_trans h k

theorem cmp_lt_trans {A B C : List UInt8} (h : cmpL A B ≤ 0) (k : cmpL B C < 0) : cmpL A C < 0 := by
  have h1 := cmp_trans h (Int.le_of_lt k)
  rcases Int.lt_or_eq_of_le h1 with h2 | h2
  · exact h2
  · have e := cmp_zero h2
    subst e
    have := cmp_flip B A
    omega

/-- In the range from F up to T. -/
def inB (K F T : List UInt8) : Bool := decide (0 ≤ cmpL K F) && (decide (T.length = 0) || decide (cmpL K T < 0))

/-- Above K is at or above the next one. -/
theorem next_least {K A : List UInt8} (h : cmpL K A < 0) : ¬ cmpL A (K ++ [0]) < 0 := by
  induction K generalizing A with
  | nil =>
    cases A with
    | nil => simp [cmpL] at h
    | cons a az =>
      simp only [List.nil_append]
      unfold cmpL
      rw [if_neg (by simp)]
      split
      · omega
      · cases az <;> simp [cmpL]
  | cons x xs ih =>
    cases A with
    | nil => simp [cmpL] at h
    | cons a az =>
      simp only [List.cons_append]
      unfold cmpL at h ⊢
      by_cases h1 : x.toNat < a.toNat
      · rw [if_neg (by omega), if_pos h1]
        omega
      · rw [if_neg h1] at h
        by_cases h2 : a.toNat < x.toNat
        · rw [if_pos h2] at h
          omega
        · rw [if_neg h2] at h
          rw [if_neg h2, if_neg h1]
          exact ih h

theorem next_above : ∀ (K : List UInt8), cmpL K (K ++ [0]) = -1
  | [] => rfl
  | x :: xs => by
    simp only [List.cons_append]
    unfold cmpL
    rw [if_neg (by omega), if_neg (by omega)]
    exact next_above xs

/-- Without the bytes 255 at its end. -/
def trim : List UInt8 → List UInt8
  | [] => []
  | x :: xs => match trim xs with
    | [] => if x = 255 then [] else [x]
    | y :: ys => x :: y :: ys

/-- The last byte greater by one. -/
def bump : List UInt8 → List UInt8
  | [] => []
  | [x] => [x + 1]
  | x :: y :: ys => x :: bump (y :: ys)

def behindL (A : List UInt8) : List UInt8 := bump (trim A)
def behindB (A : List UInt8) : Bool := decide (trim A ≠ [])

/-- What begins with A. -/
def begins (A K : List UInt8) : Prop := K.take A.length = A

theorem trim_cons_nil {x : UInt8} {xs : List UInt8} (h : trim xs = []) : trim (x :: xs) = if x = 255 then [] else [x] := by
  simp [trim, h]
theorem trim_cons_some {x : UInt8} {xs : List UInt8} (h : trim xs ≠ []) : trim (x :: xs) = x :: trim xs := by
  cases e : trim xs with
  | nil => exact absurd e h
  | cons y ys => simp [trim, e]

theorem begins_cons {a k : UInt8} {A K : List UInt8} : begins (a :: A) (k :: K) ↔ a = k ∧ begins A K := by
  unfold begins
  simp only [List.length_cons, List.take_succ_cons, List.cons.injEq]
  exact ⟨fun h => ⟨h.1.symm, h.2⟩, fun h => ⟨h.1.symm, h.2⟩⟩
theorem begins_nil (K : List UInt8) : begins [] K := by simp [begins]
theorem not_begins_nil {a : UInt8} {A : List UInt8} : ¬ begins (a :: A) [] := by simp [begins]

/-- Bytes 255 alone: not below is to begin with. -/
theorem full_begins : ∀ (A K : List UInt8), trim A = [] → (0 ≤ cmpL K A ↔ begins A K)
  | [], K, _ => by
    refine ⟨fun _ => begins_nil K, fun _ => ?_⟩
    rw [cmp_nil_right]
    unfold cmpN
    rw [if_neg (by omega)]
    split <;> omega
  | a :: az, [], _ => by
    refine ⟨fun h => by simp [cmpL] at h, fun h => absurd h not_begins_nil⟩
  | a :: az, k :: ks, h => by
    have h1 : trim az = [] := by
      by_cases e : trim az = []
      · exact e
      · rw [trim_cons_some e] at h
        simp at h
    rw [trim_cons_nil h1] at h
    have ha : a = 255 := by
      by_cases e : a = 255
      · exact e
      · rw [if_neg e] at h
        simp at h
    subst ha
    rw [begins_cons]
    have hk : k.toNat < 256 := UInt8.toNat_lt k
    have e255 : (255 : UInt8).toNat = 255 := rfl
    unfold cmpL
    rw [e255]
    by_cases h2 : k.toNat < 255
    · rw [if_pos h2]
      refine ⟨fun h => by omega, fun h => ?_⟩
      have := h.1
      subst this
      omega
    · have e : k = 255 := UInt8.toNat_inj.1 (by rw [e255]; omega)
      subst e
      rw [if_neg (by omega), if_neg (by omega), full_begins az ks h1]
      exact ⟨fun h => ⟨rfl, h⟩, fun h => h.2⟩

theorem bump_ne {A : List UInt8} (h : A ≠ []) : bump A ≠ [] := by
  cases A with
  | nil => exact absurd rfl h
  | cons a az => cases az <;> simp [bump]

/-- From A up to what is behind it are just those that begin with A. -/
theorem behind_begins : ∀ (A K : List UInt8), trim A ≠ [] → ((0 ≤ cmpL K A ∧ cmpL K (behindL A) < 0) ↔ begins A K)
  | [], K, h => absurd rfl h
  | a :: az, [], h => by
    refine ⟨fun h => ?_, fun h => absurd h not_begins_nil⟩
    have := h.1
    simp [cmpL] at this
  | a :: az, k :: ks, h => by
    rw [begins_cons]
    by_cases h1 : trim az = []
    · rw [trim_cons_nil h1] at h
      have ha : a ≠ 255 := by
        intro e
        rw [if_pos e] at h
        exact h rfl
      have eb : behindL (a :: az) = [a + 1] := by
        unfold behindL
        rw [trim_cons_nil h1, if_neg ha]
        rfl
      rw [eb]
      have hlt : a.toNat < 255 := by
        have := UInt8.toNat_lt a
        have e255 : (255 : UInt8).toNat = 255 := rfl
        have : a.toNat ≠ 255 := fun e => ha (UInt8.toNat_inj.1 (by rw [e255]; exact e))
        omega
      have e1 : (a + 1).toNat = a.toNat + 1 := by
        rw [UInt8.toNat_add]
        have : (1 : UInt8).toNat = 1 := rfl
        rw [this]
        omega
      have hf := full_begins az ks h1
      unfold cmpL
      rw [e1]
      by_cases c1 : k.toNat < a.toNat
      · rw [if_pos c1]
        refine ⟨fun h => by omega, fun h => ?_⟩
        rw [h.1] at c1
        omega
      · by_cases c2 : a.toNat < k.toNat
        · rw [if_neg c1, if_pos c2, if_neg (by omega)]
          refine ⟨fun h => ?_, fun h => ?_⟩
          · have := h.2
            split at this
            · omega
            · cases ks <;> simp [cmpL] at this
          · rw [h.1] at c2
            omega
        · have e : a = k := UInt8.toNat_inj.1 (by omega)
          subst e
          rw [if_neg c1, if_neg c1, if_pos (by omega), hf]
          exact ⟨fun h => ⟨rfl, h.1⟩, fun h => ⟨h.2, by omega⟩⟩
    · have ih := behind_begins az ks h1
      have eb : behindL (a :: az) = a :: behindL az := by
        unfold behindL
        rw [trim_cons_some h1]
        cases e : trim az with
        | nil => exact absurd e h1
        | cons y ys => rfl
      rw [eb]
      unfold cmpL
      by_cases c1 : k.toNat < a.toNat
      · rw [if_pos c1]
        refine ⟨fun h => by omega, fun h => ?_⟩
        rw [h.1] at c1
        omega
      · by_cases c2 : a.toNat < k.toNat
        · rw [if_neg c1, if_pos c2, if_neg c1, if_pos c2]
          refine ⟨fun h => by omega, fun h => ?_⟩
          rw [h.1] at c2
          omega
        · have e : a = k := UInt8.toNat_inj.1 (by omega)
          subst e
          rw [if_neg c1, if_neg c1, if_neg c1, if_neg c1, ih]
          exact ⟨fun h => ⟨rfl, h⟩, fun h => h.2⟩

def laterL (F G : List UInt8) : List UInt8 := if cmpL F G < 0 then G else F
/-- No end is above all. -/
def endB (T K : List UInt8) : Bool := decide (T.length = 0) || decide (cmpL K T < 0)
def earlyL (T U : List UInt8) : List UInt8 := if 0 < T.length ∧ endB U T = true then T else U
def meetB (F T G U : List UInt8) : Bool := inB (laterL F G) (laterL F G) (earlyL T U)
def meetA (F T G U : List UInt8) : List UInt8 := if meetB F T G U = true then laterL F G else []
def meetZ (F T G U : List UInt8) : List UInt8 := if meetB F T G U = true then earlyL T U else []

theorem in_end (K F T : List UInt8) : inB K F T = (decide (0 ≤ cmpL K F) && endB T K) := rfl

theorem later_in (K F G : List UInt8) : 0 ≤ cmpL K (laterL F G) ↔ 0 ≤ cmpL K F ∧ 0 ≤ cmpL K G := by
  unfold laterL
  have f1 := cmp_flip K F
  have f2 := cmp_flip K G
  by_cases h : cmpL F G < 0
  · rw [if_pos h]
    refine ⟨fun h1 => ⟨?_, h1⟩, fun h1 => h1.2⟩
    have := cmp_trans (Int.le_of_lt h) (C := K) (by omega)
    omega
  · rw [if_neg h]
    refine ⟨fun h1 => ⟨h1, ?_⟩, fun h1 => h1.1⟩
    have f3 := cmp_flip F G
    have := cmp_trans (A := G) (B := F) (C := K) (by omega) (by omega)
    omega

theorem early_in (K T U : List UInt8) : endB (earlyL T U) K = true ↔ endB T K = true ∧ endB U K = true := by
  unfold earlyL
  by_cases h : 0 < T.length ∧ endB U T = true
  · rw [if_pos h]
    refine ⟨fun h1 => ⟨h1, ?_⟩, fun h1 => h1.1⟩
    have h2 := h.2
    have h0 := h.1
    simp only [endB, Bool.or_eq_true, decide_eq_true_eq] at h1 h2 ⊢
    rcases h2 with h2 | h2
    · exact .inl h2
    · rcases h1 with h1 | h1
      · omega
      · exact .inr (cmp_lt_trans (Int.le_of_lt h1) h2)
  · rw [if_neg h]
    refine ⟨fun h1 => ⟨?_, h1⟩, fun h1 => h1.2⟩
    simp only [endB, Bool.or_eq_true, decide_eq_true_eq] at h h1 ⊢
    by_cases h0 : T.length = 0
    · exact .inl h0
    · refine .inr ?_
      have h3 : ¬ (U.length = 0 ∨ cmpL T U < 0) := fun e => h ⟨by omega, e⟩
      have f := cmp_flip T U
      rcases h1 with h1 | h1
      · exact absurd (.inl h1) h3
      · have hn : ¬ cmpL T U < 0 := fun e => h3 (.inr e)
        have f2 := cmp_flip K U
        have h5 := cmp_lt_trans (A := K) (B := U) (C := T)
        by_cases h6 : cmpL U T < 0
        · exact h5 (by omega) h6
        · have e : U = T := cmp_zero (by omega)
          rw [← e]
          exact h1

/-- What two ranges share is what is in both. -/
theorem meet_in (K F T G U : List UInt8) : inB K (laterL F G) (earlyL T U) = (inB K F T && inB K G U) := by
  rw [Bool.eq_iff_iff]
  simp only [in_end, Bool.and_eq_true, decide_eq_true_eq, later_in, early_in]
  exact ⟨fun ⟨⟨a, b⟩, c, d⟩ => ⟨⟨a, c⟩, b, d⟩, fun ⟨⟨a, c⟩, b, d⟩ => ⟨⟨a, b⟩, c, d⟩⟩

/-- A range that does not even have its beginning has nothing. -/
theorem in_self {K F T : List UInt8} (h : inB K F T = true) : inB F F T = true := by
  rw [in_end] at h ⊢
  simp only [endB, Bool.and_eq_true, Bool.or_eq_true, decide_eq_true_eq] at h ⊢
  refine ⟨by rw [cmp_self]; exact Int.le_refl _, ?_⟩
  rcases h.2 with h1 | h1
  · exact .inl h1
  · have f := cmp_flip K F
    exact .inr (cmp_lt_trans (by omega) h1)

theorem trim_snoc_full : ∀ (X : List UInt8), trim (X ++ [255]) = trim X
  | [] => rfl
  | x :: xs => by
    have ih := trim_snoc_full xs
    simp only [List.cons_append]
    by_cases h : trim xs = []
    · rw [trim_cons_nil h, trim_cons_nil (by rw [ih]; exact h)]
    · rw [trim_cons_some h, trim_cons_some (by rw [ih]; exact h), ih]
theorem trim_snoc_other {c : UInt8} (hc : c ≠ 255) : ∀ (X : List UInt8), trim (X ++ [c]) = X ++ [c]
  | [] => by simp [trim, hc]
  | x :: xs => by
    have ih := trim_snoc_other hc xs
    simp only [List.cons_append]
    rw [trim_cons_some (by rw [ih]; simp), ih]
theorem bump_snoc (c : UInt8) : ∀ (X : List UInt8), bump (X ++ [c]) = X ++ [c + 1]
  | [] => rfl
  | [x] => rfl
  | x :: y :: ys => by
    have ih := bump_snoc c (y :: ys)
    simp only [List.cons_append] at ih ⊢
    simp only [bump]
    rw [ih]

theorem trim_take_full {A : List UInt8} {k : Nat} (hk : k < A.length) (h : A[k] = 255) : trim (A.take (k + 1)) = trim (A.take k) := by
  rw [List.take_succ_eq_append_getElem hk, h, trim_snoc_full]
theorem trim_take_other {A : List UInt8} {k : Nat} (hk : k < A.length) (h : A[k] ≠ 255) : trim (A.take (k + 1)) = A.take (k + 1) := by
  rw [List.take_succ_eq_append_getElem hk, trim_snoc_other h]
/-- The last byte that is below 255 stands at k. -/
theorem behind_at {A : List UInt8} {k : Nat} (hk : k < A.length) (h : A[k] ≠ 255) (ht : trim (A.take (k + 1)) = trim A) : behindL A = A.take k ++ [A[k] + 1] ∧ behindB A = true := by
  rw [trim_take_other hk h] at ht
  unfold behindL behindB
  rw [← ht, List.take_succ_eq_append_getElem hk]
  refine ⟨bump_snoc _ _, decide_eq_true (by intro e; have := congrArg List.length e; simp only [List.length_append, List.length_cons, List.length_nil] at this; omega)⟩
theorem behind_none {A : List UInt8} (ht : trim (A.take 0) = trim A) : behindL A = [] ∧ behindB A = false := by
  unfold behindL behindB
  rw [← ht]
  simp [trim, bump]

theorem later_doc (F G : List UInt8) : laterL F G = if 0 < cmpL G F then G else F := by
  have := cmp_flip F G
  unfold laterL
  by_cases h : cmpL F G < 0
  · rw [if_pos h, if_pos (by omega)]
  · rw [if_neg h, if_neg (by omega)]
theorem early_doc (T U : List UInt8) : earlyL T U = if T.length = 0 ∨ (0 < U.length ∧ cmpL U T < 0) then U else T := by
  have f := cmp_flip T U
  unfold earlyL
  simp only [endB, Bool.or_eq_true, decide_eq_true_eq]
  by_cases h0 : T.length = 0
  · rw [if_neg (by omega), if_pos (.inl h0)]
  · by_cases h1 : U.length = 0
    · rw [if_pos ⟨by omega, .inl h1⟩, if_neg (by omega)]
    · by_cases h2 : cmpL T U < 0
      · rw [if_pos ⟨by omega, .inr h2⟩, if_neg (by omega)]
      · by_cases h3 : cmpL U T < 0
        · rw [if_neg (by omega), if_pos (.inr ⟨by omega, h3⟩)]
        · have e : U = T := cmp_zero (by omega)
          subst e
          simp
theorem meet_doc (F T G U : List UInt8) : meetB F T G U = endB (earlyL T U) (laterL F G) := by
  unfold meetB
  rw [in_end, cmp_self]
  simp
end Go.Proofs.YtfocmbnhkldnfaaGreatDoor.Names
/-
  Names and texts on plain lists: tables' names, bytes as texts, what a text says.
-/
namespace Go.Proofs.YtfocmbnhkldnfaaGreatDoor.Names

/-- A letter from a to z, or a digit. -/
def alnum (c : UInt8) : Bool := (decide (97 ≤ c.toNat) && decide (c.toNat ≤ 122)) || (decide (48 ≤ c.toNat) && decide (c.toNat ≤ 57))
def tabB (L : List UInt8) : Bool := (decide (1 ≤ L.length) && decide (L.length ≤ 16)) && L.all alnum
def keyB (L : List UInt8) : Bool := decide (1 ≤ L.length) && decide (L.length ≤ 64)
def valueB (L : List UInt8) : Bool := decide (L.length ≤ 256)

theorem tab_bad {L : List UInt8} {k : Nat} (hk : k < L.length) (h : alnum L[k] = false) : tabB L = false := by
  unfold tabB
  have : L.all alnum = false := by
    rw [List.all_eq_false]
    exact ⟨L[k], List.getElem_mem hk, by rw [h]; simp⟩
  rw [this, Bool.and_false]
theorem tab_end {L : List UInt8} (h : ∀ j (hj : j < L.length), alnum L[j] = true) : tabB L = (decide (1 ≤ L.length) && decide (L.length ≤ 16)) := by
  unfold tabB
  have : L.all alnum = true := by
    rw [List.all_eq_true]
    intro x hx
    obtain ⟨j, hj, rfl⟩ := List.mem_iff_getElem.1 hx
    exact h j hj
  rw [this, Bool.and_true]

/-- A byte that goes as it is. -/
def plainB (c : UInt8) : Bool := decide (33 ≤ c.toNat) && decide (c.toNat ≤ 126) && decide (c.toNat ≠ 37) && decide (c.toNat ≠ 44) && decide (c.toNat ≠ 59)
/-- A digit to the base 16. -/
def dig (n : Nat) : UInt8 := if n < 10 then UInt8.ofNat (48 + n) else UInt8.ofNat (55 + n)
/-- A byte's text. -/
def esc (c : UInt8) : List UInt8 := if plainB c = true then [c] else [37, dig (c.toNat / 16), dig (c.toNat % 16)]
def body (b : List UInt8) : List UInt8 := b.flatMap esc
def txt (b : List UInt8) : List UInt8 := if b = [] then [37] else body b

theorem body_nil : body [] = [] := rfl
theorem body_cons (c : UInt8) (b : List UInt8) : body (c :: b) = esc c ++ body b := rfl
theorem body_append (a b : List UInt8) : body (a ++ b) = body a ++ body b := by simp [body]
theorem body_snoc (a : List UInt8) (c : UInt8) : body (a ++ [c]) = body a ++ esc c := by simp [body]
theorem esc_len (c : UInt8) : 1 ≤ (esc c).length ∧ (esc c).length ≤ 3 := by
  unfold esc
  split <;> simp
theorem body_len : ∀ (b : List UInt8), b.length ≤ (body b).length ∧ (body b).length ≤ 3 * b.length
  | [] => by simp [body]
  | c :: b => by
    have := body_len b
    have := esc_len c
    rw [body_cons, List.length_append, List.length_cons]
    omega
theorem txt_len (b : List UInt8) : (txt b).length ≤ 3 * b.length + 1 := by
  unfold txt
  split
  · simp
  · have := body_len b; omega

theorem dig_nat {n : Nat} (h : n < 16) : (dig n).toNat = if n < 10 then 48 + n else 55 + n := by
  unfold dig
  split
  · rw [UInt8.toNat_ofNat_of_lt' (by have : UInt8.size = 256 := rfl; omega)]
  · rw [UInt8.toNat_ofNat_of_lt' (by have : UInt8.size = 256 := rfl; omega)]

/-- What a digit stands for, if it is one. -/
def hexV (c : UInt8) : Option Nat := if 48 ≤ c.toNat ∧ c.toNat ≤ 57 then some (c.toNat - 48) else if 65 ≤ c.toNat ∧ c.toNat ≤ 70 then some (c.toNat - 55) else none

theorem hex_lt {c : UInt8} {n : Nat} (h : hexV c = some n) : n < 16 := by
  unfold hexV at h
  split at h
  · simp at h; omega
  · split at h
    · simp at h; omega
    · simp at h
theorem hex_dig {n : Nat} (h : n < 16) : hexV (dig n) = some n := by
  unfold hexV
  rw [dig_nat h]
  by_cases h1 : n < 10
  · rw [if_pos h1, if_pos (by omega)]
    congr 1
    omega
  · rw [if_neg h1, if_neg (by omega), if_pos (by omega)]
    congr 1
    omega
theorem dig_hex {c : UInt8} {n : Nat} (h : hexV c = some n) : dig n = c := by
  have hlt := hex_lt h
  apply UInt8.toNat_inj.1
  rw [dig_nat hlt]
  unfold hexV at h
  split at h
  · simp at h
    subst h
    rw [if_pos (by omega)]
    omega
  · split at h
    · simp at h
      subst h
      rw [if_neg (by omega)]
      omega
    · simp at h

/-- The byte of two digits. -/
def two (a b : Nat) : UInt8 := UInt8.ofNat (16 * a + b)
theorem two_nat {a b : Nat} (ha : a < 16) (hb : b < 16) : (two a b).toNat = 16 * a + b := by
  unfold two
  rw [UInt8.toNat_ofNat_of_lt' (by have : UInt8.size = 256 := rfl; omega)]

/-- The byte that a text begins with, and how many bytes say it; 0: none. -/
def first : List UInt8 → UInt8 × Nat
  | [] => (0, 0)
  | x :: r => if plainB x = true then (x, 1) else if x.toNat ≠ 37 then (0, 0) else match r with
    | h :: l :: _ => match hexV h, hexV l with
      | some a, some b => if plainB (two a b) = true then (0, 0) else (two a b, 3)
      | _, _ => (0, 0)
    | _ => (0, 0)

theorem first_esc (c : UInt8) (r : List UInt8) : first (esc c ++ r) = (c, (esc c).length) := by
  unfold esc
  by_cases h : plainB c = true
  · rw [if_pos h]
    simp [first, h]
  · rw [if_neg h]
    have h1 : c.toNat / 16 < 16 := by have := UInt8.toNat_lt c; omega
    have h2 : c.toNat % 16 < 16 := by omega
    have e : two (c.toNat / 16) (c.toNat % 16) = c := UInt8.toNat_inj.1 (by rw [two_nat h1 h2]; omega)
    have h37 : plainB 37 = false := by decide
    simp only [List.cons_append, List.nil_append, first, hex_dig h1, hex_dig h2, e, h37]
    simp [h]

/-- What a text begins with is its text. -/
theorem first_some {s : List UInt8} {c : UInt8} {k : Nat} (h : first s = (c, k)) (hk : k ≠ 0) : s = esc c ++ s.drop k ∧ k ≤ s.length ∧ k ≤ 3 := by
  cases s with
  | nil => simp [first] at h; omega
  | cons x r =>
    simp only [first] at h
    by_cases h1 : plainB x = true
    · rw [if_pos h1] at h
      simp at h
      obtain ⟨rfl, rfl⟩ := h
      unfold esc
      rw [if_pos h1]
      simp
    · rw [if_neg h1] at h
      by_cases h2 : x.toNat ≠ 37
      · rw [if_pos h2] at h
        simp at h; omega
      · rw [if_neg h2] at h
        have hx : x = 37 := UInt8.toNat_inj.1 (by have : (37 : UInt8).toNat = 37 := rfl; omega)
        subst hx
        match r, h with
        | [], h => simp at h; omega
        | [_], h => simp at h; omega
        | a :: b :: t, h =>
          simp only at h
          cases ha : hexV a with
          | none => rw [ha] at h; simp at h; omega
          | some na =>
            cases hb : hexV b with
            | none => rw [ha, hb] at h; simp at h; omega
            | some nb =>
              rw [ha, hb] at h
              simp only at h
              by_cases hp : plainB (two na nb) = true
              · rw [if_pos hp] at h; simp at h; omega
              · rw [if_neg hp] at h
                simp at h
                obtain ⟨rfl, rfl⟩ := h
                unfold esc
                rw [if_neg hp, two_nat (hex_lt ha) (hex_lt hb)]
                have l1 := hex_lt ha
                have l2 := hex_lt hb
                have e1 : (16 * na + nb) / 16 = na := by omega
                have e2 : (16 * na + nb) % 16 = nb := by omega
                rw [e1, e2, dig_hex ha, dig_hex hb]
                simp

/-- What begins as a text of bytes goes on as one. -/
theorem body_prefix : ∀ {b c rest : List UInt8}, body b ++ rest = body c → ∃ d, rest = body d
  | [], c, rest, h => ⟨c, by simpa [body] using h⟩
  | x :: b, [], rest, h => by
    rw [body_cons] at h
    have := esc_len x
    have hl := congrArg List.length h
    rw [body_nil, List.length_append, List.length_append, List.length_nil] at hl
    omega
  | x :: b, y :: c, rest, h => by
    rw [body_cons, body_cons, List.append_assoc] at h
    have h1 := first_esc x (body b ++ rest)
    rw [h, first_esc] at h1
    simp at h1
    obtain ⟨rfl, _⟩ := h1
    exact body_prefix (List.append_cancel_left h)

/-- What begins with no byte's text is no text. -/
theorem first_none {s d : List UInt8} (h : (first s).2 = 0) (hs : s ≠ []) : s ≠ body d := by
  rintro rfl
  cases d with
  | nil => exact hs rfl
  | cons c d =>
    rw [body_cons, first_esc] at h
    have h1 := (esc_len c).1
    rw [show (c, (esc c).length).2 = (esc c).length from rfl] at h
    omega

/-- What a digit is worth in the document, whatever byte it is. -/
def val (c : UInt8) : Nat := if 65 ≤ c.toNat ∧ c.toNat ≤ 70 then c.toNat - 55 else (c.toNat + 208) % 256
theorem val_dig {n : Nat} (h : n < 16) : val (dig n) = n := by
  unfold val
  rw [dig_nat h]
  by_cases h1 : n < 10
  · rw [if_pos h1, if_neg (by omega)]; omega
  · rw [if_neg h1, if_pos (by omega)]; omega
def loose2 (h l : UInt8) : UInt8 := UInt8.ofNat ((16 * val h % 256 + val l) % 256)

/-- The document's reading: whatever stands behind a '%' as digits. -/
def ld : List UInt8 → List UInt8
  | [] => []
  | [x] => [x]
  | [x, y] => x :: ld [y]
  | x :: h :: l :: t => if x.toNat = 37 then loose2 h l :: ld t else x :: ld (h :: l :: t)

theorem ld_two {s : List UInt8} {i : Nat} (hi : i + 2 < s.length) (h : s[i].toNat = 37) : ld (s.drop i) = loose2 s[i + 1] s[i + 2] :: ld (s.drop (i + 3)) := by
  have e : s.drop i = s[i] :: s[i + 1] :: s[i + 2] :: s.drop (i + 3) := by
    rw [List.drop_eq_getElem_cons (by omega), List.drop_eq_getElem_cons (by omega : i + 1 < s.length), List.drop_eq_getElem_cons (by omega : i + 2 < s.length)]
  rw [e, ld, if_pos h]
theorem ld_one {s : List UInt8} {i : Nat} (hi : i < s.length) (h : ¬ (s[i].toNat = 37 ∧ i + 2 < s.length)) : ld (s.drop i) = s[i] :: ld (s.drop (i + 1)) := by
  rw [List.drop_eq_getElem_cons hi]
  have hl : (s.drop (i + 1)).length = s.length - (i + 1) := List.length_drop
  match e : s.drop (i + 1), hl with
  | [], _ => rw [ld, ld]
  | [y], _ => simp [ld]
  | a :: b :: t, hl =>
    have : i + 2 < s.length := by simp at hl; omega
    rw [ld, if_neg (fun e => h ⟨e, this⟩)]

theorem ld_body : ∀ (b : List UInt8), ld (body b) = b
  | [] => by rw [body_nil, ld]
  | c :: b => by
    have ih := ld_body b
    rw [body_cons]
    unfold esc
    by_cases h : plainB c = true
    · rw [if_pos h]
      have h37 : ¬ c.toNat = 37 := by
        intro e
        simp [plainB, e] at h
      have := ld_one (s := [c] ++ body b) (i := 0) (by simp) (fun e => h37 (by simpa using e.1))
      simp only [List.drop_zero] at this
      rw [this]
      simp [ih]
    · rw [if_neg h]
      simp only [List.cons_append, List.nil_append]
      rw [ld, if_pos (by rfl), ih]
      have h1 : c.toNat / 16 < 16 := by have := UInt8.toNat_lt c; omega
      have h2 : c.toNat % 16 < 16 := by omega
      congr 1
      unfold loose2
      rw [val_dig h1, val_dig h2]
      apply UInt8.toNat_inj.1
      have := UInt8.toNat_lt c
      rw [UInt8.toNat_ofNat_of_lt' (by have : UInt8.size = 256 := rfl; omega)]
      omega

/-- What a text is read as, and the error's number. -/
def readL (s : List UInt8) : List UInt8 := if s ≠ [37] ∧ s ≠ [] ∧ body (ld s) = s then ld s else []
def readE (s : List UInt8) : Int := if s ≠ [37] ∧ ¬ (s ≠ [] ∧ body (ld s) = s) then 4 else 0

theorem read_mark : readL [37] = [] ∧ readE [37] = 0 := by
  unfold readL readE
  rw [if_neg (fun h => h.1 rfl), if_neg (fun h => h.1 rfl)]
  exact ⟨rfl, rfl⟩
theorem read_ok {s b : List UInt8} (h : s ≠ [37]) (hb : b ≠ []) (e : s = body b) : readL s = b ∧ readE s = 0 := by
  have hs : s ≠ [] := by
    rintro rfl
    have := (body_len b).1
    rw [← e] at this
    exact hb (List.eq_nil_of_length_eq_zero (by simpa using this))
  have el : ld s = b := by rw [e, ld_body]
  unfold readL readE
  rw [el, ← e, if_pos ⟨h, hs, rfl⟩, if_neg (fun x => x.2 ⟨hs, rfl⟩)]
  exact ⟨rfl, rfl⟩
theorem read_bad {s : List UInt8} (h : s ≠ [37]) (hb : s ≠ [] → ∀ d, s ≠ body d) : readL s = [] ∧ readE s = 4 := by
  unfold readL readE
  rw [if_neg (fun x => hb x.2.1 _ x.2.2.symm), if_pos ⟨h, fun x => hb x.1 _ x.2.symm⟩]
  exact ⟨rfl, rfl⟩
theorem read_txt (b : List UInt8) : readL (txt b) = b ∧ readE (txt b) = 0 := by
  unfold txt
  by_cases hb : b = []
  · rw [if_pos hb, hb]
    exact read_mark
  · rw [if_neg hb]
    refine read_ok (fun e => ?_) hb rfl
    cases b with
    | nil => exact hb rfl
    | cons c b =>
      rw [body_cons] at e
      have h1 := first_esc c (body b)
      rw [e] at h1
      have := esc_len c
      have h37 : plainB 37 = false := by decide
      simp [first, h37] at h1
      omega
end Go.Proofs.YtfocmbnhkldnfaaGreatDoor.Names
/-
  Cmp, In and what they call: the program's, the document's.
-/
namespace Go.Proofs.YtfocmbnhkldnfaaGreatDoor.Names
open Go.RowKit Disk

theorem seg_drewN {w : World} {v : Value} {L : List UInt8} (h : Seg w v L) (q : Nat) : Seg (w.drewN q) v L := h.grown (grown_drewN _ _ _)

theorem run_minn (ts : Array TypeId) (t : TypeId) (m n : Nat) (w : World) : (Builtin.min_ ts t #[.int .i64 m, .int .i64 n]).run Tryz.prog w = .ok (.int .i64 ((min m n : Nat) : Int)) w := by
  by_cases h : m ≤ n
  · rw [Nat.min_eq_left h]
    simp [Builtin.min_, Builtin.min2]
    try omega
  · rw [Nat.min_eq_right (by omega)]
    simp [Builtin.min_, Builtin.min2]
    try omega
attribute [local go_sem ↓] run_minn

set_option maxHeartbeats 400000 in
theorem compare38 (m n : Nat) (w : World) : Calls Tryz.prog 218 #[.int .i64 m, .int .i64 n] w fun e w' => e = .returned (.int .i64 (cmpN m n)) ∧ w' = w := by
  go_enter Tryz.func218, Tryz.ntmps218
  by_cases h1 : (m : Int) < n
  · have e : cmpN m n = -1 := by unfold cmpN; rw [if_pos (by omega)]
    rw [e]
    go_wp2
    go_ret
    exact ⟨rfl, rfl⟩
  · by_cases h2 : (n : Int) < m
    · have e : cmpN m n = 1 := by unfold cmpN; rw [if_neg (by omega), if_pos (by omega)]
      rw [e]
      go_wp2
      go_ret
      exact ⟨rfl, rfl⟩
    · have e : cmpN m n = 0 := by unfold cmpN; rw [if_neg (by omega), if_neg (by omega)]
      rw [e]
      go_wp2
      go_ret
      exact ⟨rfl, rfl⟩

set_option maxHeartbeats 400000 in
theorem compare39 (m n : Nat) (w : World) : Calls Tryz.prog 219 #[.int .u8 m, .int .u8 n] w fun e w' => e = .returned (.int .i64 (cmpN m n)) ∧ w' = w := by
  go_enter Tryz.func219, Tryz.ntmps219
  by_cases h1 : (m : Int) < n
  · have e : cmpN m n = -1 := by unfold cmpN; rw [if_pos (by omega)]
    rw [e]
    go_wp2
    go_ret
    exact ⟨rfl, rfl⟩
  · by_cases h2 : (n : Int) < m
    · have e : cmpN m n = 1 := by unfold cmpN; rw [if_neg (by omega), if_pos (by omega)]
      rw [e]
      go_wp2
      go_ret
      exact ⟨rfl, rfl⟩
    · have e : cmpN m n = 0 := by unfold cmpN; rw [if_neg (by omega), if_neg (by omega)]
      rw [e]
      go_wp2
      go_ret
      exact ⟨rfl, rfl⟩

/-- A byte of a slice. -/
theorem seg_at {w : World} {ao : Option Addr} {n cap : Nat} {L : List UInt8} (h : Seg w (.slice ao n cap) L) (j : Nat) (hj : j < L.length) : ∃ b off, ao = some ⟨b, off, none⟩ ∧ w.cell? ⟨b, off + j, none⟩ = some (.int .u8 (L[j].toNat : Int)) := by
  obtain ⟨ao', cap', hv, _, _, _, h4⟩ := h
  simp at hv
  rw [hv.1]
  exact h4 j hj

theorem seg_open {w : World} {v : Value} {L : List UInt8} (h : Seg w v L) : ∃ ao n cap, v = .slice ao n cap ∧ L.length = n ∧ n ≤ 9223372036854775807 ∧ Hid (Seg w (.slice ao n cap) L) := by
  obtain ⟨ao, cap, e⟩ := h.shape
  exact ⟨ao, L.length, cap, e, rfl, h.len, by rw [← e]; exact h⟩

set_option maxRecDepth 100000 in
set_option maxHeartbeats 1000000 in
theorem cmp26 (a b : Value) (A B : List UInt8) (w : World) (ha : Seg w a A) (hb : Seg w b B) :
    Calls Tryz.prog 188 #[a, b] w fun e w' => e = .returned (.int .i64 (cmpL A B)) ∧ ∃ m, w' = w.drewN m := by
  obtain ⟨ao, na, ca, rfl, hna, la, HA⟩ := seg_open ha
  obtain ⟨bo, nb, cb, rfl, hnb, lb, HB⟩ := seg_open hb
  have HN : Hid (A.length = na ∧ B.length = nb) := And.intro hna hnb
  clear ha hb hna hnb
  obtain ⟨mn, hmn⟩ : ∃ n, min na nb = n := ⟨_, rfl⟩
  have HM : Hid (min na nb = mn) := hmn
  have hm1 : mn ≤ na := by omega
  have hm2 : mn ≤ nb := by omega
  obtain ⟨c0, hc0⟩ : ∃ c, cmpN na nb = c := ⟨_, rfl⟩
  have HC : Hid (cmpN na nb = c0) := hc0
  obtain ⟨R, hR⟩ : ∃ c, cmpL A B = c := ⟨_, rfl⟩
  have HR : Hid (cmpL A B = R) := hR
  rw [hR]
  clear hmn hc0 hR
  go_enter Tryz.func188, Tryz.ntmps188
  go_wp2_with fail
  refine wp_scope_straight ?_
  go_wp2_with (first | (go_at_call 218; refine (compare38 _ _ _).mono ?_; rintro e w1 ⟨rfl, h1⟩; rw [h1]; clear h1))
  refine wp_label ?_
  refine (‹∀ (a : Act) (w : World), Code.wp Tryz.prog _ _ a w → _› _ _ ?_)
  go_wp2_with fail
  rw [HM.out, HC.out]
  go_loopw [5, 18] (fun o i wr => ∃ k q : Nat, k ≤ mn ∧ o = .int .i64 c0 ∧ i = .int .i64 k ∧ wr = w.drewN q ∧ cmpL (A.drop k) (B.drop k) = R) (fun _ i _ => mn - (intOf i).toNat)
  case atStart => exact ⟨0, 0, by omega, rfl, rfl, rfl, HR.out⟩
  case round =>
    obtain ⟨k, q, hk, rfl, rfl, hwr, hinv⟩ := hrel
    have HW : Hid (wr = w.drewN q) := hwr
    by_cases hlt : k < mn
    · have hka : k < A.length := by rw [HN.out.1]; omega
      have hkb : k < B.length := by rw [HN.out.2]; omega
      have ha := seg_drewN HA.out q
      have hb := seg_drewN HB.out q
      rw [← hwr] at ha hb
      obtain ⟨b1, o1, rfl, x1⟩ := seg_at ha k hka
      obtain ⟨b2, o2, rfl, x2⟩ := seg_at hb k hkb
      rw [cmp_step hka hkb] at hinv
      obtain ⟨x, hx⟩ : ∃ x, A[k].toNat = x := ⟨_, rfl⟩
      obtain ⟨y, hy⟩ : ∃ x, B[k].toNat = x := ⟨_, rfl⟩
      rw [hx] at x1 hinv
      rw [hy] at x2 hinv
      have HI : Hid _ := hinv
      have i1 : (0 : Int) ≤ (k : Int) := by omega
      have i2 : (k : Int) < (na : Int) := by omega
      have i3 : (k : Int) < (nb : Int) := by omega
      clear hinv hx hy hka hkb ha hb hwr
      go_wp2_with fail
      go_quiet ((go_at_call 219; exact Calls.quiet_of_same (compare39 _ _ _)))
      by_cases c1 : x < y
      · have e : cmpN x y = -1 := by unfold cmpN; rw [if_pos c1]
        have eR : R = -1 := by have := HI.out; rw [if_pos c1] at this; exact this.symm
        subst eR
        rw [e]
        go_wp2_with fail
        first | rw [Exit.noGoto_ret] | skip
        go_ret
        exact ⟨rfl, _, by rw [HW.out, World.drewN_drewN]⟩
      · by_cases c2 : y < x
        · have e : cmpN x y = 1 := by unfold cmpN; rw [if_neg c1, if_pos c2]
          have eR : R = 1 := by have := HI.out; rw [if_neg c1, if_pos c2] at this; exact this.symm
          subst eR
          rw [e]
          go_wp2_with fail
          first | rw [Exit.noGoto_ret] | skip
          go_ret
          exact ⟨rfl, _, by rw [HW.out, World.drewN_drewN]⟩
        · have e : cmpN x y = 0 := by unfold cmpN; rw [if_neg c1, if_neg c2]
          have eR := HI.out
          rw [if_neg c1, if_neg c2] at eR
          rw [e]
          have HE : Hid _ := eR
          clear eR
          go_wp2_with fail
          go_roundw
          case rel => exact ⟨k + 1, _, by omega, rfl, by go_num, by rw [HW.out, World.drewN_drewN], HE.out⟩
          case measure => simp [intOf]; omega
    · have e : R = c0 := by
        rw [← hinv, ← HC.out, ← HN.out.1, ← HN.out.2]
        exact cmp_end (by rw [HN.out.1, HN.out.2, HM.out]; omega)
      subst e
      clear hinv hwr
      go_wp2_with fail
      first | rw [Exit.noGoto_ret] | skip
      go_ret
      exact ⟨rfl, _, HW.out⟩

set_option maxRecDepth 100000 in
set_option maxHeartbeats 1000000 in
theorem cmp27 (a b : Value) (A B : List UInt8) (w : World) (ha : Seg w a A) (hb : Seg w b B) :
    Calls Tryz.prog 66 #[a, b] w fun e w' => e = .returned (.int .i64 (cmpL A B)) ∧ ∃ m, w' = w.drewN m := by
  obtain ⟨ao, na, ca, rfl, hna, la, HA⟩ := seg_open ha
  obtain ⟨bo, nb, cb, rfl, hnb, lb, HB⟩ := seg_open hb
  have HN : Hid (A.length = na ∧ B.length = nb) := And.intro hna hnb
  clear ha hb hna hnb
  obtain ⟨R, hR⟩ : ∃ c, cmpL A B = c := ⟨_, rfl⟩
  have HR : Hid (cmpL A B = R) := hR
  rw [hR]
  clear hR
  go_enter Tryz.func66, Tryz.ntmps66
  go_wp2_with fail
  go_loopw [5] (fun i wr => ∃ k q : Nat, k ≤ na ∧ k ≤ nb ∧ i = .int .i64 k ∧ wr = w.drewN q ∧ cmpL (A.drop k) (B.drop k) = R) (fun i _ => na - (intOf i).toNat)
  case atStart => exact ⟨0, 0, by omega, by omega, rfl, rfl, HR.out⟩
  case round =>
    obtain ⟨k, q, hk, hk2, rfl, hwr, hinv⟩ := hrel
    have HW : Hid (wr = w.drewN q) := hwr
    by_cases hlt : k < na ∧ k < nb
    · have hka : k < A.length := by rw [HN.out.1]; omega
      have hkb : k < B.length := by rw [HN.out.2]; omega
      have ha := seg_drewN HA.out q
      have hb := seg_drewN HB.out q
      rw [← hwr] at ha hb
      obtain ⟨b1, o1, rfl, x1⟩ := seg_at ha k hka
      obtain ⟨b2, o2, rfl, x2⟩ := seg_at hb k hkb
      rw [cmp_step hka hkb] at hinv
      obtain ⟨x, hx⟩ : ∃ x, A[k].toNat = x := ⟨_, rfl⟩
      obtain ⟨y, hy⟩ : ∃ x, B[k].toNat = x := ⟨_, rfl⟩
      rw [hx] at x1 hinv
      rw [hy] at x2 hinv
      have HI : Hid _ := hinv
      have i1 : (0 : Int) ≤ (k : Int) := by omega
      have i2 : (k : Int) < (na : Int) := by omega
      have i3 : (k : Int) < (nb : Int) := by omega
      clear hinv hx hy hka hkb ha hb hwr
      go_wp2_with fail
      go_quiet (fail)
      by_cases c1 : (x : Int) < y
      · have eR : R = -1 := by have := HI.out; rw [if_pos (by omega)] at this; exact this.symm
        subst eR
        go_wp2_with fail
        go_ret
        exact ⟨rfl, _, by rw [HW.out, World.drewN_drewN]⟩
      · go_wp2_with fail
        go_quiet (fail)
        by_cases c2 : (y : Int) < x
        · have eR : R = 1 := by have := HI.out; rw [if_neg (by omega), if_pos (by omega)] at this; exact this.symm
          subst eR
          go_wp2_with fail
          go_ret
          exact ⟨rfl, _, by rw [HW.out]; repeat rw [World.drewN_drewN]⟩
        · have eR := HI.out
          rw [if_neg (by omega), if_neg (by omega)] at eR
          have HE : Hid _ := eR
          clear eR
          go_wp2_with fail
          go_roundw
          case rel => exact ⟨k + 1, _, by omega, by omega, by go_num, by rw [HW.out]; repeat rw [World.drewN_drewN], HE.out⟩
          case measure => simp [intOf]; omega
    · have e : R = cmpN na nb := by
        rw [← hinv, ← HN.out.1, ← HN.out.2]
        exact cmp_end (by rw [HN.out.1, HN.out.2]; omega)
      clear hinv hwr
      have hor : (¬ (k : Int) < na) ∨ ((k : Int) < na ∧ ¬ (k : Int) < nb) := by omega
      by_cases c1 : (na : Int) < nb
      · have e : R = -1 := by rw [e]; unfold cmpN; rw [if_pos (by omega)]
        subst e
        rcases hor with hor | ⟨hor, hor2⟩ <;> (
          go_wp2_with fail
          go_ret
          exact ⟨rfl, _, HW.out⟩)
      · by_cases c2 : (nb : Int) < na
        · have e : R = 1 := by rw [e]; unfold cmpN; rw [if_neg (by omega), if_pos (by omega)]
          subst e
          rcases hor with hor | ⟨hor, hor2⟩ <;> (
            go_wp2_with fail
            go_ret
            exact ⟨rfl, _, HW.out⟩)
        · have e : R = 0 := by rw [e]; unfold cmpN; rw [if_neg (by omega), if_neg (by omega)]
          subst e
          rcases hor with hor | ⟨hor, hor2⟩ <;> (
            go_wp2_with fail
            go_ret
            exact ⟨rfl, _, HW.out⟩)

end Go.Proofs.YtfocmbnhkldnfaaGreatDoor.Names
/-
  Bytes that go as they are, digits; tables' names, keys, values: the program's, the document's.
-/
namespace Go.Proofs.YtfocmbnhkldnfaaGreatDoor.Names
open Go.RowKit Disk

/-- A text. -/
def Str (L : List UInt8) : Value := .string ⟨L.toArray⟩

theorem run_index9 (L : List UInt8) (k : Nat) (hk : k < L.length) (w : World) : (Instr.index 9 (.string ⟨L.toArray⟩) (.int .i64 k)).run Tryz.prog w = .ok (.int .u8 (L[k].toNat : Int)) w := by
  rw [run_index_string w 9 _ _ _ Tryz.underlying9]
  have hs : (⟨L.toArray⟩ : ByteArray).size = L.length := by simp [ByteArray.size]
  rw [dif_pos ⟨by omega, by rw [hs]; omega⟩]
  congr 3
theorem str_size (L : List UInt8) : (⟨L.toArray⟩ : ByteArray).size = L.length := by simp [ByteArray.size]

/-- What a byte is, as a number below 256. -/
theorem byte_lt (c : UInt8) : c.toNat < 256 := UInt8.toNat_lt c

set_option maxHeartbeats 1000000 in
theorem goes33 (c : UInt8) (w : World) : Calls Tryz.prog 123 #[.int .u8 (c.toNat : Int)] w fun e w' => e = .returned (.bool (plainB c)) ∧ w' = w := by
  obtain ⟨R, hR⟩ : ∃ R, plainB c = R := ⟨_, rfl⟩
  have HR : Hid (plainB c = R) := hR
  rw [hR]
  clear hR
  obtain ⟨x, hx⟩ : ∃ x, c.toNat = x := ⟨_, rfl⟩
  have hd := HR.out
  unfold plainB at hd
  rw [hx] at hd ⊢
  clear HR hx
  go_enter Tryz.func123, Tryz.ntmps123
  by_cases c1 : (x : Int) < 33
  · have e : R = false := by rw [← hd, decide_eq_false (by omega : ¬ 33 ≤ x)]; simp
    subst e
    clear hd
    go_wp2
    go_ret
    exact ⟨rfl, rfl⟩
  · by_cases c2 : (126 : Int) < x
    · have e : R = false := by rw [← hd, decide_eq_false (by omega : ¬ x ≤ 126)]; simp
      subst e
      clear hd
      go_wp2
      go_ret
      exact ⟨rfl, rfl⟩
    · by_cases c3 : (x : Int) = 37
      · have e : R = false := by rw [← hd]; simp; omega
        subst e
        rw [c3]
        clear hd
        go_wp2
        go_ret
        exact ⟨rfl, rfl⟩
      · by_cases c4 : (x : Int) = 44
        · have e : R = false := by rw [← hd]; simp; omega
          subst e
          rw [c4]
          clear hd
          go_wp2
          go_ret
          exact ⟨rfl, rfl⟩
        · by_cases c5 : (x : Int) = 59
          · have e : R = false := by rw [← hd]; simp; omega
            subst e
            rw [c5]
            clear hd
            go_wp2
            go_ret
            exact ⟨rfl, rfl⟩
          · have e : R = true := by rw [← hd]; simp; omega
            subst e
            clear hd
            go_wp2
            go_ret
            exact ⟨rfl, rfl⟩

set_option maxHeartbeats 1000000 in
theorem plain34 (c : UInt8) (w : World) : Calls Tryz.prog 127 #[.int .u8 (c.toNat : Int)] w fun e w' => e = .returned (.bool (plainB c)) ∧ w' = w := by
  obtain ⟨R, hR⟩ : ∃ R, plainB c = R := ⟨_, rfl⟩
  have HR : Hid (plainB c = R) := hR
  rw [hR]
  clear hR
  obtain ⟨x, hx⟩ : ∃ x, c.toNat = x := ⟨_, rfl⟩
  have hd := HR.out
  unfold plainB at hd
  rw [hx] at hd ⊢
  clear HR hx
  go_enter Tryz.func127, Tryz.ntmps127
  by_cases c1 : (33 : Int) ≤ x
  · by_cases c2 : (x : Int) ≤ 126
    · by_cases c3 : (x : Int) = 37
      · have e : R = false := by rw [← hd]; simp; omega
        subst e
        rw [c3]
        clear hd
        go_wp2
        go_ret
        exact ⟨rfl, rfl⟩
      · by_cases c4 : (x : Int) = 44
        · have e : R = false := by rw [← hd]; simp; omega
          subst e
          rw [c4]
          clear hd
          go_wp2
          go_ret
          exact ⟨rfl, rfl⟩
        · by_cases c5 : (x : Int) = 59
          · have e : R = false := by rw [← hd]; simp; omega
            subst e
            rw [c5]
            clear hd
            go_wp2
            go_ret
            exact ⟨rfl, rfl⟩
          · have e : R = true := by rw [← hd]; simp; omega
            subst e
            clear hd
            go_wp2
            go_ret
            exact ⟨by first | rfl | (simp; omega), rfl⟩
    · have e : R = false := by rw [← hd, decide_eq_false (by omega : ¬ x ≤ 126)]; simp
      subst e
      clear hd
      go_wp2
      go_ret
      exact ⟨rfl, rfl⟩
  · have e : R = false := by rw [← hd, decide_eq_false (by omega : ¬ 33 ≤ x)]; simp
    subst e
    clear hd
    go_wp2
    go_ret
    exact ⟨rfl, rfl⟩

set_option maxHeartbeats 400000 in
theorem digit35 (n : Nat) (hn : n < 16) (w : World) : Calls Tryz.prog 128 #[.int .u8 (n : Int)] w fun e w' => e = .returned (.int .u8 ((dig n).toNat : Int)) ∧ w' = w := by
  rw [dig_nat hn]
  go_enter Tryz.func128, Tryz.ntmps128
  by_cases c1 : (n : Int) < 10
  · rw [if_pos (by omega)]
    have i1 : IntKind.u8.wrap (48 + (n : Int)) = 48 + (n : Int) := by simp [IntKind.wrap, IntKind.bits, IntKind.signed]; omega
    go_wp2
    go_ret
    exact ⟨by first | rfl | (simp; try omega), rfl⟩
  · rw [if_neg (by omega)]
    have i1 : IntKind.u8.wrap (65 + (n : Int)) = 65 + (n : Int) := by simp [IntKind.wrap, IntKind.bits, IntKind.signed]; omega
    have i2 : IntKind.u8.wrap (65 + (n : Int) - 10) = 55 + (n : Int) := by simp [IntKind.wrap, IntKind.bits, IntKind.signed]; omega
    go_wp2
    go_ret
    exact ⟨by first | rfl | (simp; try omega), rfl⟩

set_option maxHeartbeats 400000 in
theorem value32 (c : UInt8) (w : World) : Calls Tryz.prog 182 #[.int .u8 (c.toNat : Int)] w fun e w' => e = .returned (.int .u8 (val c : Int)) ∧ w' = w := by
  have hv : val c = if 65 ≤ c.toNat ∧ c.toNat ≤ 70 then c.toNat - 55 else (c.toNat + 208) % 256 := rfl
  have hb := byte_lt c
  rw [hv]
  obtain ⟨x, hx⟩ : ∃ x, c.toNat = x := ⟨_, rfl⟩
  rw [hx] at hb ⊢
  clear hx hv
  go_enter Tryz.func182, Tryz.ntmps182
  by_cases c1 : (65 : Int) ≤ x ∧ (x : Int) ≤ 70
  · obtain ⟨c1, c2⟩ := c1
    rw [if_pos (by omega)]
    have i1 : IntKind.u8.wrap ((x : Int) - 65) = (x : Int) - 65 := by simp [IntKind.wrap, IntKind.bits, IntKind.signed]; omega
    have i2 : IntKind.u8.wrap ((x : Int) - 65 + 10) = ((x - 55 : Nat) : Int) := by simp [IntKind.wrap, IntKind.bits, IntKind.signed]; omega
    go_wp2
    go_ret
    exact ⟨by first | rfl | (simp; try omega), rfl⟩
  · rw [if_neg (by omega)]
    have i1 : IntKind.u8.wrap ((x : Int) - 48) = (((x + 208) % 256 : Nat) : Int) := by simp [IntKind.wrap, IntKind.bits, IntKind.signed]; omega
    have c3 : (¬ (65 : Int) ≤ x) ∨ ((65 : Int) ≤ x ∧ ¬ (x : Int) ≤ 70) := by omega
    rcases c3 with c3 | ⟨c3, c4⟩
    · go_wp2
      go_ret
      exact ⟨by first | rfl | (simp; try omega), rfl⟩
    · go_wp2
      go_ret
      exact ⟨by first | rfl | (simp; try omega), rfl⟩
end Go.Proofs.YtfocmbnhkldnfaaGreatDoor.Names
/-
  Where a digit stands among the digits; the byte that a text begins with.
-/
namespace Go.Proofs.YtfocmbnhkldnfaaGreatDoor.Names
open Go.RowKit Disk

/-- A digit's place, or -1. -/
def hexI (c : UInt8) : Int := match hexV c with
  | some n => (n : Int)
  | none => -1

def digits16 : List UInt8 := [48, 49, 50, 51, 52, 53, 54, 55, 56, 57, 65, 66, 67, 68, 69, 70]

theorem hex_all : ((List.range 256).all fun n => Lib.indexByte digits16 (UInt8.ofNat n) == hexI (UInt8.ofNat n)) = true := by kernel_rfl
theorem hex_index (c : UInt8) : Lib.indexByte digits16 c = hexI c := by
  have h := List.all_eq_true.1 hex_all c.toNat (List.mem_range.2 (byte_lt c))
  rw [UInt8.ofNat_toNat] at h
  exact eq_of_beq h

theorem toUInt8_nat (c : UInt8) : ((c.toNat : Int).toNat).toUInt8 = c := by
  rw [Int.toNat_natCast]
  exact UInt8.ofNat_toNat

set_option maxRecDepth 100000 in
set_option maxHeartbeats 1000000 in
theorem index44 (c : UInt8) (w : World) : Calls Tryz.prog 209 #[.string { data := #[48, 49, 50, 51, 52, 53, 54, 55, 56, 57, 65, 66, 67, 68, 69, 70] }, .int .u8 (c.toNat : Int)] w fun e w' => e = .returned (.int .i64 (hexI c)) ∧ w' = w := by
  have h := Lib.run_indexByteString (P := Tryz.prog) { data := #[48, 49, 50, 51, 52, 53, 54, 55, 56, 57, 65, 66, 67, 68, 69, 70] } (c.toNat : Int) w
  rw [toUInt8_nat, show ({ data := #[48, 49, 50, 51, 52, 53, 54, 55, 56, 57, 65, 66, 67, 68, 69, 70] } : ByteArray).data.toList = digits16 from rfl, hex_index] at h
  go_enter Tryz.func209, Tryz.ntmps209
  go_wp2
  rw [run_callFunc_extern Tryz.func228 (by kernel_rfl) (by kernel_rfl) (by kernel_rfl) (e := Extern.BytealgIndexByte.indexByte) (by kernel_rfl), h]
  simp only [Result.andThen]
  rw [Oper.upon_value]
  go_wp2
  go_ret
  exact ⟨rfl, rfl⟩

set_option maxHeartbeats 400000 in
theorem index41 (c : UInt8) (w : World) : Calls Tryz.prog 230 #[.string { data := #[48, 49, 50, 51, 52, 53, 54, 55, 56, 57, 65, 66, 67, 68, 69, 70] }, .int .u8 (c.toNat : Int)] w fun e w' => e = .returned (.int .i64 (hexI c)) ∧ w' = w := by
  go_enter Tryz.func230, Tryz.ntmps230
  go_wp2_with (first | (go_at_call 209; refine (index44 _ _).mono ?_; rintro e w1 ⟨rfl, h1⟩; rw [h1]; clear h1))
  go_ret
  exact ⟨rfl, rfl⟩

set_option maxHeartbeats 400000 in
theorem key11 (v : Value) (L : List UInt8) (w : World) (hs : Seg w v L) : Calls Tryz.prog 161 #[v] w fun e w' => e = .returned (.bool (keyB L)) ∧ w' = w := by
  obtain ⟨ao, n, cap, rfl, hn, hlen, HS⟩ := seg_open hs
  unfold keyB
  rw [hn]
  clear hs hn HS
  go_enter Tryz.func161, Tryz.ntmps161
  by_cases h : (1 : Int) ≤ n
  · rw [decide_eq_true (by omega : 1 ≤ n), Bool.true_and]
    go_wp2
    go_ret
    exact ⟨by simp; try omega, rfl⟩
  · rw [decide_eq_false (by omega : ¬ 1 ≤ n), Bool.false_and]
    go_wp2
    go_ret
    exact ⟨rfl, rfl⟩
set_option maxHeartbeats 400000 in
theorem key12 (v : Value) (L : List UInt8) (w : World) (hs : Seg w v L) : Calls Tryz.prog 65 #[v] w fun e w' => e = .returned (.bool (keyB L)) ∧ w' = w := by
  obtain ⟨ao, n, cap, rfl, hn, hlen, HS⟩ := seg_open hs
  unfold keyB
  rw [hn]
  clear hs hn HS
  go_enter Tryz.func65, Tryz.ntmps65
  by_cases h : (1 : Int) ≤ n
  · rw [decide_eq_true (by omega : 1 ≤ n), Bool.true_and]
    go_wp2
    go_ret
    exact ⟨by simp; try omega, rfl⟩
  · rw [decide_eq_false (by omega : ¬ 1 ≤ n), Bool.false_and]
    go_wp2
    go_ret
    exact ⟨rfl, rfl⟩
theorem value13 (v : Value) (L : List UInt8) (w : World) (hs : Seg w v L) : Calls Tryz.prog 147 #[v] w fun e w' => e = .returned (.bool (valueB L)) ∧ w' = w := by
  obtain ⟨ao, n, cap, rfl, hn, hlen, HS⟩ := seg_open hs
  unfold valueB
  rw [hn]
  clear hs hn HS
  go_enter Tryz.func147, Tryz.ntmps147
  go_wp2
  go_ret
  exact ⟨by simp; try omega, rfl⟩
theorem value14 (v : Value) (L : List UInt8) (w : World) (hs : Seg w v L) : Calls Tryz.prog 64 #[v] w fun e w' => e = .returned (.bool (valueB L)) ∧ w' = w := by
  obtain ⟨ao, n, cap, rfl, hn, hlen, HS⟩ := seg_open hs
  unfold valueB
  rw [hn]
  clear hs hn HS
  go_enter Tryz.func64, Tryz.ntmps64
  go_wp2
  go_ret
  exact ⟨by simp; try omega, rfl⟩
theorem num17 (k : Int) (w : World) : Calls Tryz.prog 15 #[.int .i64 k] w fun e w' => e = .returned (.int .i64 k) ∧ w' = w := by
  go_enter Tryz.func15, Tryz.ntmps15
  go_wp2
  go_ret
  exact ⟨rfl, rfl⟩

set_option maxRecDepth 100000 in
set_option maxHeartbeats 1000000 in
theorem table9 (L : List UInt8) (w : World) (hl : L.length ≤ 9223372036854775807) : Calls Tryz.prog 162 #[Str L] w fun e w' => e = .returned (.bool (tabB L)) ∧ w' = w := by
  unfold Str
  obtain ⟨X, hX⟩ : ∃ X, (⟨L.toArray⟩ : ByteArray) = X := ⟨_, rfl⟩
  obtain ⟨n, hn⟩ : ∃ n, L.length = n := ⟨_, rfl⟩
  have hsz : X.size = n := by rw [← hX, str_size, hn]
  have HX : Hid ((⟨L.toArray⟩ : ByteArray) = X ∧ L.length = n) := ⟨hX, hn⟩
  rw [hX]
  rw [hn] at hl
  obtain ⟨R, hR⟩ : ∃ R, tabB L = R := ⟨_, rfl⟩
  have HR : Hid (tabB L = R) := hR
  rw [hR]
  clear hX hn hR
  go_enter Tryz.func162, Tryz.ntmps162
  by_cases h1 : n < 1
  · have e : R = false := by rw [← HR.out]; unfold tabB; rw [HX.out.2, decide_eq_false (by omega : ¬ 1 ≤ n)]; simp
    subst e
    have i1 : (n : Int) < 1 := by omega
    go_wp2_with fail
    refine wp_scope_straight ?_
    go_wp2_with fail
    first | rw [Exit.noGoto_ret] | skip
    go_ret
    exact ⟨rfl, rfl⟩
  · by_cases h2 : 16 < n
    · have e : R = false := by rw [← HR.out]; unfold tabB; rw [HX.out.2, decide_eq_false (by omega : ¬ n ≤ 16)]; simp
      subst e
      have i1 : ¬ (n : Int) < 1 := by omega
      have i2 : (16 : Int) < n := by omega
      go_wp2_with fail
      refine wp_scope_straight ?_
      go_wp2_with fail
      first | rw [Exit.noGoto_ret] | skip
      go_ret
      exact ⟨rfl, rfl⟩
    · have i1 : ¬ (n : Int) < 1 := by omega
      have i2 : ¬ (16 : Int) < n := by omega
      go_wp2_with fail
      refine wp_scope_straight ?_
      go_wp2_with fail
      refine wp_label ?_
      refine (‹∀ (a : Act) (w : World), Code.wp Tryz.prog _ _ a w → _› _ _ ?_)
      go_wp2_with fail
      go_loopw [15] (fun i wr => ∃ k : Nat, k ≤ n ∧ i = .int .i64 k ∧ wr = w ∧ ∀ j (hj : j < L.length), j < k → alnum L[j] = true) (fun i _ => n - (intOf i).toNat)
      case atStart => exact ⟨0, by omega, rfl, rfl, fun j _ h => by omega⟩
      case round =>
        obtain ⟨k, hk, rfl, hwr, hinv⟩ := hrel
        have HW : Hid (wr = w ∧ ∀ j (hj : j < L.length), j < k → alnum L[j] = true) := ⟨hwr, hinv⟩
        clear hwr hinv
        by_cases hlt : k < n
        · have hkl : k < L.length := by rw [HX.out.2]; exact hlt
          have hidx := run_index9 L k hkl
          rw [HX.out.1] at hidx
          obtain ⟨q, hq⟩ : ∃ q, alnum L[k] = q := ⟨_, rfl⟩
          have HQ : Hid (alnum L[k] = q) := hq
          have hd := hq
          unfold alnum at hd
          obtain ⟨x, hx⟩ : ∃ x, L[k].toNat = x := ⟨_, rfl⟩
          rw [hx] at hidx hd
          clear hq hx
          have i3 : (0 : Int) ≤ (k : Int) := by omega
          have i4 : (k : Int) < (n : Int) := by omega
          by_cases a1 : (97 : Int) ≤ x ∧ (x : Int) ≤ 122
          · obtain ⟨a1, a2⟩ := a1
            have e : q = true := by rw [← hd]; simp; omega
            subst e
            clear hd
            go_wp2_with fail
            go_roundw
            case rel => exact ⟨k + 1, by omega, by go_num, HW.out.1, fun j hj hjk => by
              by_cases e : j = k
              · subst e; exact HQ.out
              · exact HW.out.2 j hj (by omega)⟩
            case measure => simp [intOf]; omega
          · have a1' : (¬ (97 : Int) ≤ x) ∨ ((97 : Int) ≤ x ∧ ¬ (x : Int) ≤ 122) := by omega
            by_cases a3 : (48 : Int) ≤ x ∧ (x : Int) ≤ 57
            · obtain ⟨a3, a4⟩ := a3
              have e : q = true := by rw [← hd]; simp; omega
              subst e
              clear hd
              rcases a1' with a5 | ⟨a5, a6⟩
              · go_wp2_with fail
                go_roundw
                case rel => exact ⟨k + 1, by omega, by go_num, HW.out.1, fun j hj hjk => by
                  by_cases e : j = k
                  · subst e; exact HQ.out
                  · exact HW.out.2 j hj (by omega)⟩
                case measure => simp [intOf]; omega
              · omega
            · have a3' : (¬ (48 : Int) ≤ x) ∨ ((48 : Int) ≤ x ∧ ¬ (x : Int) ≤ 57) := by omega
              have e : q = false := by rw [← hd]; simp; omega
              subst e
              have e : R = false := by rw [← HR.out]; exact tab_bad hkl HQ.out
              subst e
              clear hd a1 a3
              rcases a1' with a5 | ⟨a5, a6⟩ <;> rcases a3' with a7 | ⟨a7, a8⟩
              all_goals (
                go_wp2_with fail
                first | rw [Exit.noGoto_ret] | skip
                go_ret
                exact ⟨rfl, HW.out.1⟩)
        · have e : R = true := by
            rw [← HR.out, tab_end (fun j hj => HW.out.2 j hj (by have := HX.out.2; omega)), HX.out.2]
            simp; omega
          subst e
          go_wp2_with fail
          first | rw [Exit.noGoto_ret] | skip
          go_ret
          exact ⟨rfl, HW.out.1⟩
end Go.Proofs.YtfocmbnhkldnfaaGreatDoor.Names
/-
  Table of the document; the byte that a text begins with.
-/
namespace Go.Proofs.YtfocmbnhkldnfaaGreatDoor.Names
open Go.RowKit Disk

set_option maxRecDepth 100000 in
set_option maxHeartbeats 1000000 in
theorem table10 (L : List UInt8) (w : World) (hl : L.length ≤ 9223372036854775807) : Calls Tryz.prog 117 #[Str L] w fun e w' => e = .returned (.bool (tabB L)) ∧ w' = w := by
  unfold Str
  obtain ⟨X, hX⟩ : ∃ X, (⟨L.toArray⟩ : ByteArray) = X := ⟨_, rfl⟩
  obtain ⟨n, hn⟩ : ∃ n, L.length = n := ⟨_, rfl⟩
  have hsz : X.size = n := by rw [← hX, str_size, hn]
  have HX : Hid ((⟨L.toArray⟩ : ByteArray) = X ∧ L.length = n) := ⟨hX, hn⟩
  rw [hX]
  rw [hn] at hl
  obtain ⟨R, hR⟩ : ∃ R, tabB L = R := ⟨_, rfl⟩
  have HR : Hid (tabB L = R) := hR
  rw [hR]
  clear hX hn hR
  go_enter Tryz.func117, Tryz.ntmps117
  go_wp2_with fail
  go_loopw [3] (fun i wr => ∃ k : Nat, k ≤ n ∧ i = .int .i64 k ∧ wr = w ∧ ∀ j (hj : j < L.length), j < k → alnum L[j] = true) (fun i _ => n - (intOf i).toNat)
  case atStart => exact ⟨0, by omega, rfl, rfl, fun j _ h => by omega⟩
  case round =>
    obtain ⟨k, hk, rfl, hwr, hinv⟩ := hrel
    have HW : Hid (wr = w ∧ ∀ j (hj : j < L.length), j < k → alnum L[j] = true) := ⟨hwr, hinv⟩
    clear hwr hinv
    by_cases hlt : k < n
    · have hkl : k < L.length := by rw [HX.out.2]; exact hlt
      have hidx := run_index9 L k hkl
      rw [HX.out.1] at hidx
      obtain ⟨q, hq⟩ : ∃ q, alnum L[k] = q := ⟨_, rfl⟩
      have HQ : Hid (alnum L[k] = q) := hq
      have hd := hq
      unfold alnum at hd
      obtain ⟨x, hx⟩ : ∃ x, L[k].toNat = x := ⟨_, rfl⟩
      rw [hx] at hidx hd
      clear hq hx
      have i3 : (0 : Int) ≤ (k : Int) := by omega
      have i4 : (k : Int) < (n : Int) := by omega
      by_cases a1 : (97 : Int) ≤ x ∧ (x : Int) ≤ 122
      · obtain ⟨a1, a2⟩ := a1
        have e : q = true := by rw [← hd]; simp; omega
        subst e
        clear hd
        go_wp2_with fail
        go_roundw
        case rel => exact ⟨k + 1, by omega, by go_num, HW.out.1, fun j hj hjk => by
          by_cases e : j = k
          · subst e; exact HQ.out
          · exact HW.out.2 j hj (by omega)⟩
        case measure => simp [intOf]; omega
      · by_cases a3 : (48 : Int) ≤ x ∧ (x : Int) ≤ 57
        · obtain ⟨a3, a4⟩ := a3
          have e : q = true := by rw [← hd]; simp; omega
          subst e
          have a5 : ¬ (97 : Int) ≤ x := by omega
          clear hd
          go_wp2_with fail
          go_roundw
          case rel => exact ⟨k + 1, by omega, by go_num, HW.out.1, fun j hj hjk => by
            by_cases e : j = k
            · subst e; exact HQ.out
            · exact HW.out.2 j hj (by omega)⟩
          case measure => simp [intOf]; omega
        · have a1' : (¬ (97 : Int) ≤ x) ∨ ((97 : Int) ≤ x ∧ ¬ (x : Int) ≤ 122) := by omega
          have a3' : (¬ (48 : Int) ≤ x) ∨ ((48 : Int) ≤ x ∧ ¬ (x : Int) ≤ 57) := by omega
          have e : q = false := by rw [← hd]; simp; omega
          subst e
          have e : R = false := by rw [← HR.out]; exact tab_bad hkl HQ.out
          subst e
          clear hd a1 a3
          rcases a1' with a5 | ⟨a5, a6⟩ <;> rcases a3' with a7 | ⟨a7, a8⟩
          all_goals (
            go_wp2_with fail
            go_ret
            exact ⟨rfl, HW.out.1⟩)
    · have e : R = (decide (1 ≤ n) && decide (n ≤ 16)) := by
        rw [← HR.out, tab_end (fun j hj => HW.out.2 j hj (by have := HX.out.2; omega)), HX.out.2]
      by_cases h1 : (1 : Int) ≤ n
      · rw [decide_eq_true (by omega : 1 ≤ n), Bool.true_and] at e
        subst e
        go_wp2_with fail
        go_ret
        exact ⟨by first | rfl | (simp; try omega), HW.out.1⟩
      · rw [decide_eq_false (by omega : ¬ 1 ≤ n), Bool.false_and] at e
        subst e
        go_wp2_with fail
        go_ret
        exact ⟨rfl, HW.out.1⟩

theorem or_all : ((List.range 16).all fun a => (List.range 16).all fun b => bits .or .i64 ((a * 16 : Nat) : Int) (b : Int) == ((16 * a + b : Nat) : Int)) = true := by kernel_rfl
theorem or_two {a b : Nat} (ha : a < 16) (hb : b < 16) : bits .or .i64 ((a * 16 : Nat) : Int) (b : Int) = ((16 * a + b : Nat) : Int) :=
  eq_of_beq (List.all_eq_true.1 (List.all_eq_true.1 or_all a (List.mem_range.2 ha)) b (List.mem_range.2 hb))

set_option maxRecDepth 100000 in
set_option maxHeartbeats 2000000 in
theorem first30 (L : List UInt8) (w : World) (hl : L.length ≤ 9223372036854775807) (h0 : L ≠ []) :
    Calls Tryz.prog 213 #[Str L] w fun e w' => e = .returned (.tuple #[.int .u8 ((first L).1.toNat : Int), .int .i64 ((first L).2 : Int)]) ∧ ∃ m, w' = w.drewN m := by
  unfold Str
  obtain ⟨X, hX⟩ : ∃ X, (⟨L.toArray⟩ : ByteArray) = X := ⟨_, rfl⟩
  obtain ⟨n, hn⟩ : ∃ n, L.length = n := ⟨_, rfl⟩
  have hsz : X.size = n := by rw [← hX, str_size, hn]
  have hn0 : 0 < n := by rw [← hn]; exact List.length_pos_iff.2 h0
  obtain ⟨x, r, hL⟩ : ∃ x r, L = x :: r := List.exists_cons_of_ne_nil h0
  have i0 : ∀ wk, (Instr.index 9 (.string X) (.int .i64 0)).run Tryz.prog wk = .ok (.int .u8 (x.toNat : Int)) wk := by
    intro wk
    have := run_index9 L 0 (by omega) wk
    rw [hX] at this
    simp only [hL, List.getElem_cons_zero] at this
    exact this
  rw [hX]
  rw [hn] at hl
  obtain ⟨fr, hfr⟩ : ∃ fr, first L = fr := ⟨_, rfl⟩
  rw [hfr]
  have HF : Hid (first L = fr) := hfr
  have hf := hfr
  rw [hL] at hf
  simp only [first] at hf
  obtain ⟨p, hp⟩ : ∃ p, plainB x = p := ⟨_, rfl⟩
  have HP : Hid (plainB x = p) := hp
  rw [hp] at hf
  clear hfr hp
  cases p with
  | true =>
    rw [if_pos rfl] at hf
    subst hf
    clear hX hn hL h0
    go_enter Tryz.func213, Tryz.ntmps213
    go_wp2_with (first | (go_at_call 123; refine (goes33 _ _).mono ?_; rintro e w1 ⟨rfl, h1⟩; rw [h1, HP.out]; clear h1))
    go_ret2
    exact ⟨rfl, 0, rfl⟩
  | false =>
    rw [if_neg (by simp)] at hf
    by_cases hx : x.toNat = 37
    · rw [if_neg (by simp [hx])] at hf
      by_cases h3 : n < 3
      · have e : fr = (0, 0) := by
          match r, hL, hf with
          | [], _, hf => exact hf.symm
          | [_], _, hf => exact hf.symm
          | a :: b :: t, hL, _ => rw [hL] at hn; simp at hn; omega
        subst e
        have i3 : (n : Int) < 3 := by omega
        rw [hx] at i0
        clear hX hn hL h0 hf
        go_enter Tryz.func213, Tryz.ntmps213
        go_wp2_with (first | (go_at_call 123; refine (goes33 37 _).mono ?_; rintro e w1 ⟨rfl, h1⟩; rw [h1, show plainB 37 = false from by decide]; clear h1))
        go_ret2
        exact ⟨rfl, 0, rfl⟩
      · obtain ⟨a, b, t, hr⟩ : ∃ a b t, r = a :: b :: t := by
          match r, hL with
          | [], hL => rw [hL] at hn; simp at hn; omega
          | [_], hL => rw [hL] at hn; simp at hn; omega
          | a :: b :: t, _ => exact ⟨a, b, t, rfl⟩
        subst hr
        simp only at hf
        have i1 : ∀ wk, (Instr.index 9 (.string X) (.int .i64 1)).run Tryz.prog wk = .ok (.int .u8 (a.toNat : Int)) wk := by
          intro wk
          have := run_index9 L 1 (by omega) wk
          rw [hX] at this
          simp only [hL, List.getElem_cons_succ, List.getElem_cons_zero] at this
          exact this
        have i2 : ∀ wk, (Instr.index 9 (.string X) (.int .i64 2)).run Tryz.prog wk = .ok (.int .u8 (b.toNat : Int)) wk := by
          intro wk
          have := run_index9 L 2 (by omega) wk
          rw [hX] at this
          simp only [hL, List.getElem_cons_succ, List.getElem_cons_zero] at this
          exact this
        have i3 : ¬ (n : Int) < 3 := by omega
        rw [hx] at i0
        clear hX hn hL h0
        obtain ⟨ha, hha⟩ : ∃ v, hexI a = v := ⟨_, rfl⟩
        obtain ⟨hb, hhb⟩ : ∃ v, hexI b = v := ⟨_, rfl⟩
        have HAB : Hid (hexI a = ha ∧ hexI b = hb) := ⟨hha, hhb⟩
        go_enter Tryz.func213, Tryz.ntmps213
        go_wp2_with (first | (go_at_call 123; refine (goes33 37 _).mono ?_; rintro e w1 ⟨rfl, h1⟩; rw [h1, show plainB 37 = false from by decide]; clear h1))
        go_quiet ((go_at_call 230; exact Calls.quiet_of_same (index41 _ _)))
        rw [HAB.out.1, HAB.out.2]
        unfold hexI at hha hhb
        cases va : hexV a with
        | none =>
          rw [va] at hf hha
          subst hf; subst hha
          clear hhb va
          go_wp2_with fail
          go_ret2
          exact ⟨rfl, _, rfl⟩
        | some na =>
          have la := hex_lt va
          rw [va] at hf hha
          cases vb : hexV b with
          | none =>
            rw [vb] at hf hhb
            subst hf; subst hha; subst hhb
            have j1 : ¬ (na : Int) < 0 := by omega
            clear va vb
            go_wp2_with fail
            go_ret2
            exact ⟨rfl, _, rfl⟩
          | some nb =>
            have lb := hex_lt vb
            rw [vb] at hf hhb
            simp only at hf hha hhb
            subst hha; subst hhb
            have ht := two_nat la lb
            obtain ⟨c, hc⟩ : ∃ c, two na nb = c := ⟨_, rfl⟩
            rw [hc] at hf ht
            obtain ⟨q, hq⟩ : ∃ q, plainB c = q := ⟨_, rfl⟩
            have HQ : Hid (plainB c = q) := hq
            rw [hq] at hf
            have j1 : ¬ (na : Int) < 0 := by omega
            have j2 : ¬ (nb : Int) < 0 := by omega
            have ho := or_two la lb
            rw [← ht] at ho
            obtain ⟨m, hm⟩ : ∃ m, na * 16 = m := ⟨_, rfl⟩
            rw [hm] at ho
            have j3 : IntKind.i64.wrap ((na : Int) * 16) = (m : Int) := by rw [IntKind.wrap_i64]; omega
            have j4 : (na : Int) * 16 = (m : Int) := by omega
            have hcl := byte_lt c
            have j5 : IntKind.u8.wrap (c.toNat : Int) = (c.toNat : Int) := by simp [IntKind.wrap, IntKind.bits, IntKind.signed]; omega
            clear va vb hc hq hm ht
            cases q with
            | true =>
              rw [if_pos rfl] at hf
              subst hf
              go_wp2_with (first | (go_at_call 123; refine (goes33 c _).mono ?_; rintro e w1 ⟨rfl, h1⟩; rw [h1, HQ.out]; clear h1))
              go_ret2
              exact ⟨rfl, _, rfl⟩
            | false =>
              rw [if_neg (by simp)] at hf
              subst hf
              go_wp2_with (first | (go_at_call 123; refine (goes33 c _).mono ?_; rintro e w1 ⟨rfl, h1⟩; rw [h1, HQ.out]; clear h1))
              go_ret2
              exact ⟨rfl, _, rfl⟩
    · rw [if_pos hx] at hf
      subst hf
      have j1 : ¬ (x.toNat : Int) = 37 := by omega
      clear hX hn hL h0
      go_enter Tryz.func213, Tryz.ntmps213
      go_wp2_with (first | (go_at_call 123; refine (goes33 _ _).mono ?_; rintro e w1 ⟨rfl, h1⟩; rw [h1, HP.out]; clear h1))
      go_ret2
      exact ⟨rfl, 0, rfl⟩
end Go.Proofs.YtfocmbnhkldnfaaGreatDoor.Names
/-
  Copies that are cut at their capacity; Next, Behind, Meet: the program's, the document's.
-/
namespace Go.Proofs.YtfocmbnhkldnfaaGreatDoor.Names
open Go.RowKit Disk

/-- A row of the call's own from its beginning on, cut at its length or not. -/
def Cut (w : World) (B : Nat) (v : Value) (L : List UInt8) : Prop :=
  Disk.Own w B v L ∨ ∃ g cap, v = .slice (some ⟨g, 0, none⟩) L.length L.length ∧ Disk.Own w B (.slice (some ⟨g, 0, none⟩) L.length cap) L

theorem Cut.seg {w : World} {B : Nat} {v : Value} {L : List UInt8} (h : Cut w B v L) : Seg w v L := by
  rcases h with h | ⟨g, cap, rfl, h⟩
  · exact h.seg
  · obtain ⟨ao, c, hv, h1, h2, h3, h4⟩ := h.seg
    simp at hv
    obtain ⟨rfl, rfl⟩ := hv
    exact ⟨_, _, rfl, Nat.le_refl _, by omega, by simp, h4⟩
theorem Cut.lt {w : World} {B : Nat} {v : Value} {L : List UInt8} (h : Cut w B v L) : ∀ k, v.ownBlock = some k → B ≤ k ∧ k < w.heap.size := by
  rcases h with h | ⟨g, cap, rfl, h⟩
  · exact h.lt
  · exact fun k hk => h.lt k hk
theorem Cut.same {w w' : World} {B : Nat} {v : Value} {L : List UInt8} (h : Cut w B v L) (hs : ∀ k, v.ownBlock = some k → w'.heap[k]? = w.heap[k]?) : Cut w' B v L := by
  rcases h with h | ⟨g, cap, rfl, h⟩
  · exact .inl (h.same hs)
  · exact .inr ⟨g, cap, rfl, h.same fun k hk => hs k hk⟩
theorem Cut.grown {w w' : World} {B : Nat} {v : Value} {L : List UInt8} (h : Cut w B v L) (hg : w.grownBy w' none) : Cut w' B v L :=
  h.same fun k hk => hg.block k (h.lt k hk).2 (by simp)
theorem Cut.mono {w : World} {B B' : Nat} {v : Value} {L : List UInt8} (h : Cut w B v L) (hB : B' ≤ B) : Cut w B' v L := by
  rcases h with h | ⟨g, cap, rfl, h⟩
  · exact .inl (h.mono hB)
  · exact .inr ⟨g, cap, rfl, h.mono hB⟩
theorem cut_of {w : World} {B : Nat} {ao : Option Addr} {n cap : Nat} {L : List UInt8} (h : Disk.Own w B (.slice ao n cap) L) : Cut w B (.slice ao n n) L := by
  rcases h.shape with ⟨e, rfl⟩ | ⟨g, c, e, _⟩
  · simp at e
    obtain ⟨rfl, rfl, rfl⟩ := e
    exact .inl h
  · simp at e
    obtain ⟨rfl, rfl, rfl⟩ := e
    exact .inr ⟨g, cap, rfl, h⟩

theorem own_cap {w : World} {B : Nat} {ao : Option Addr} {n cap : Nat} {L : List UInt8} (h : Disk.Own w B (.slice ao n cap) L) : n = L.length ∧ n ≤ cap ∧ cap ≤ 9223372036854775807 := by
  rcases h.2 with ⟨e, h0⟩ | ⟨g, c, cur, e, _, _, h1, h2, _⟩
  · simp at e
    obtain ⟨rfl, rfl, rfl⟩ := e
    exact ⟨h0.symm, by omega, by omega⟩
  · simp at e
    obtain ⟨rfl, rfl, rfl⟩ := e
    unfold maxLen at h2
    exact ⟨rfl, h1, by omega⟩

set_option maxRecDepth 100000 in
set_option maxHeartbeats 400000 in
theorem copied31 (v u : Value) (L M : List UInt8) (w : World) (hs : Seg w v L) (hu : Seg w u M) (hL : L.length + M.length ≤ 140737488355328) :
    Calls Tryz.prog 214 #[v, u] w fun e w' => ∃ x, e = .returned x ∧ Cut w' w.heap.size x (L ++ M) ∧ w.grownBy w' none := by
  obtain ⟨ao, n, cap, rfl, hn, hlen, HS⟩ := seg_open hs
  obtain ⟨bo, m, cb, rfl, hm, hlem, HU⟩ := seg_open hu
  have HL : Hid _ := hL
  clear hs hu hL hn hm
  go_enter Tryz.func214, Tryz.ntmps214
  go_wp2_with (at_builtin; refine app22 _ rfl _ _ rfl w.heap.size _ [] _ L rfl rfl (Own.nil _ _) HS.out ?c0 ?c1 ?_)
  case c0 => have := HL.out; simp; omega
  case c1 => omega
  intro v1 w1 hown hg hl
  have F : Hid (Disk.Own w1 w.heap.size v1 L ∧ w.grownBy w1 none) := And.intro hown hg
  clear hown hg hl
  go_wp2_with (at_builtin; refine app22 _ rfl _ _ rfl w.heap.size _ L _ M rfl rfl F.out.1 (HU.out.grown F.out.2) ?c0 ?c1 ?_)
  case c0 => exact HL.out
  case c1 => exact F.out.2.size
  intro v2 w2 hown hg hl
  have g2 := grown_new F.out.2 hg (fun x hx => (F.out.1.lt x hx).1)
  obtain ⟨ao2, c2, e2⟩ := hown.seg.shape
  subst e2
  obtain ⟨h1, h2, h3⟩ := own_cap hown
  obtain ⟨n2, hn2⟩ : ∃ n, (L ++ M).length = n := ⟨_, rfl⟩
  rw [hn2] at hown h2 ⊢
  have F2 : Hid (Disk.Own w2 w.heap.size (.slice ao2 n2 c2) (L ++ M) ∧ w.grownBy w2 none) := And.intro hown g2
  have i1 : (n2 : Int) ≤ (c2 : Int) := by omega
  have i2 : (n2 : Int) ≤ 9223372036854775807 := by omega
  clear hown hg hl g2 h1 hn2
  go_wp2_with fail
  go_simp
  go_wp2_with fail
  go_ret
  exact ⟨_, rfl, cut_of F2.out.1, F2.out.2⟩
end Go.Proofs.YtfocmbnhkldnfaaGreatDoor.Names
/-
  Text: the program's, the document's.
-/
namespace Go.Proofs.YtfocmbnhkldnfaaGreatDoor.Names
open Go.RowKit Disk

theorem make22 (n : Nat) (hn : n ≤ 140737488355328) (w : World) : ∃ w', (Instr.makeSlice 29 (.int .i64 0) (.int .i64 (n : Int))).run Tryz.prog w = .ok (.slice (some ⟨w.heap.size, 0, none⟩) 0 n) w' ∧ Disk.Own w' w.heap.size (.slice (some ⟨w.heap.size, 0, none⟩) 0 n) [] ∧ w.grownBy w' none := by
  obtain ⟨i0, hi, hz0, hz1, hz2⟩ := info_parts Tryz.info5
  exact run_make_own (P := Tryz.prog) w w.heap.size 29 5 i0 (.int .u8 0) 1 Tryz.underlying29 hi hz0 hz1 .i64 .i64 n (by rw [hz2]; omega) (by unfold maxLen; omega) (Nat.le_refl _)

theorem dig_all : ((List.range 16).all fun n => digits16.getD n 0 == dig n) = true := by kernel_rfl
theorem index_dig (n : Nat) (hn : n < 16) (w : World) : (Instr.index 9 (.string { data := #[48, 49, 50, 51, 52, 53, 54, 55, 56, 57, 65, 66, 67, 68, 69, 70] }) (.int .u8 (n : Int))).run Tryz.prog w = .ok (.int .u8 ((dig n).toNat : Int)) w := by
  have h := eq_of_beq (List.all_eq_true.1 dig_all n (List.mem_range.2 hn))
  rw [run_index_string w 9 _ _ _ Tryz.underlying9]
  have hs : ({ data := #[48, 49, 50, 51, 52, 53, 54, 55, 56, 57, 65, 66, 67, 68, 69, 70] } : ByteArray).size = 16 := rfl
  rw [dif_pos ⟨by omega, by rw [hs]; omega⟩, ← h]
  have hl : n < digits16.length := hn
  rw [List.getD_eq_getElem?_getD, List.getElem?_eq_getElem hl]
  rfl

theorem and_all : ((List.range 256).all fun n => bits .and .u8 (n : Int) 15 == ((n % 16 : Nat) : Int)) = true := by kernel_rfl
theorem and_15 (c : UInt8) : bits .and .u8 (c.toNat : Int) 15 = ((c.toNat % 16 : Nat) : Int) := eq_of_beq (List.all_eq_true.1 and_all c.toNat (List.mem_range.2 (byte_lt c)))

theorem body_take_succ (A : List UInt8) (k : Nat) (hk : k < A.length) : body (A.take (k + 1)) = body (A.take k) ++ esc A[k] := by
  rw [List.take_succ_eq_append_getElem hk, body_snoc]
theorem body_take_len (A : List UInt8) (k : Nat) (hk : k < A.length) : (body (A.take k)).length + 3 ≤ 3 * A.length := by
  have := (body_len (A.take k)).2
  rw [List.length_take] at this
  omega

set_option maxRecDepth 100000 in
set_option maxHeartbeats 2000000 in
theorem text15 (v : Value) (A : List UInt8) (w : World) (hs : Seg w v A) (hL : 3 * A.length ≤ 140737488355328) :
    Calls Tryz.prog 77 #[v] w fun e w' => e = .returned (Str (txt A)) ∧ w.grownBy w' none := by
  obtain ⟨ao, n, cap, rfl, hn, hlen, HS⟩ := seg_open hs
  have HN : Hid (A.length = n ∧ 3 * A.length ≤ 140737488355328) := ⟨hn, hL⟩
  rw [hn] at hL
  clear hs hn
  obtain ⟨R, hR⟩ : ∃ R, Str (txt A) = R := ⟨_, rfl⟩
  have HR : Hid (Str (txt A) = R) := hR
  rw [hR]
  clear hR
  by_cases h0 : n = 0
  · have e : R = .string { data := #[37] } := by
      rw [← HR.out, List.eq_nil_of_length_eq_zero (by rw [HN.out.1]; exact h0 : A.length = 0)]
      rfl
    subst e; subst h0
    go_enter Tryz.func77, Tryz.ntmps77
    go_wp2_with fail
    refine wp_scope_straight ?_
    go_wp2_with fail
    first | rw [Exit.noGoto_ret] | skip
    go_ret
    exact ⟨rfl, grown_refl _ _⟩
  · obtain ⟨w0, hmk, ho0, hg0⟩ := make22 n (by omega) w
    have H0 : Hid (Disk.Own w0 w.heap.size (.slice (some ⟨w.heap.size, 0, none⟩) 0 n) [] ∧ w.grownBy w0 none) := ⟨ho0, hg0⟩
    have i0 : ¬ (n : Int) = 0 := by omega
    clear ho0 hg0
    go_enter Tryz.func77, Tryz.ntmps77
    go_wp2_with fail
    refine wp_scope_straight ?_
    go_wp2_with fail
    refine wp_label ?_
    refine (‹∀ (a : Act) (w : World), Code.wp Tryz.prog _ _ a w → _› _ _ ?_)
    clear hmk
    go_wp2_with fail
    have hz : ((n : Int) == 0) = false := by simp; omega
    rw [hz]
    go_loopw [3, 14] (fun x i wr => ∃ k : Nat, k ≤ n ∧ i = .int .i64 k ∧ Disk.Own wr w.heap.size x (body (A.take k)) ∧ w.grownBy wr none) (fun _ i _ => n - (intOf i).toNat)
    case atStart => exact ⟨0, by omega, rfl, H0.out.1, H0.out.2⟩
    case round =>
      obtain ⟨k, hk, rfl, hown, hg⟩ := hrel
      have HO : Hid (Disk.Own wr w.heap.size u3 (body (A.take k)) ∧ w.grownBy wr none) := ⟨hown, hg⟩
      clear hown hg
      by_cases hlt : k < n
      · have hka : k < A.length := by rw [HN.out.1]; exact hlt
        obtain ⟨b1, o1, rfl, x1⟩ := seg_at (HS.out.grown HO.out.2) k hka
        have hbs := body_take_succ A k hka
        have hbl := body_take_len A k hka
        rw [HN.out.1] at hbl
        obtain ⟨c, hc⟩ : ∃ c, A[k] = c := ⟨_, rfl⟩
        rw [hc] at x1 hbs
        have HB : Hid (body (A.take (k + 1)) = body (A.take k) ++ esc c ∧ (body (A.take k)).length + 3 ≤ 3 * n) := ⟨hbs, hbl⟩
        have i1 : (0 : Int) ≤ (k : Int) := by omega
        have i2 : (k : Int) < (n : Int) := by omega
        obtain ⟨p, hp⟩ : ∃ p, plainB c = p := ⟨_, rfl⟩
        have HP : Hid (plainB c = p) := hp
        clear hc hbs hbl hp hka
        cases p with
        | true =>
          go_wp2_with (first | (go_at_call 123; refine (goes33 _ _).mono ?_; rintro e w1 ⟨rfl, h1⟩; rw [h1, HP.out]; clear h1) | (at_builtin; refine app22 _ rfl _ _ rfl w.heap.size _ (body (A.take k)) _ [c] rfl rfl (HO.out.1.alloc _) (seg_lit _ _ _ [c] rfl (by simp)) ?c0 ?c1 ?_))
          case c0 => have := HB.out.2; simp; omega
          case c1 => have := HO.out.2.size; simp; omega
          intro v1 w1 hown hg hl
          have H1 : Hid (Disk.Own w1 w.heap.size v1 (body (A.take (k + 1))) ∧ w.grownBy w1 none) := by
            refine ⟨?_, grown_new (grown_trans HO.out.2 (World.grownBy_alloc _ _ none)) hg (fun x hx => (HO.out.1.lt x hx).1)⟩
            rw [HB.out.1]
            unfold esc
            rw [if_pos HP.out]
            exact hown
          clear hown hg hl
          go_wp2_with fail
          go_roundw
          case rel => exact ⟨k + 1, by omega, by go_num, H1.out.1, H1.out.2⟩
          case measure => simp [intOf]; omega
        | false =>
          have hcl := byte_lt c
          have hesc : esc c = [37, dig (c.toNat / 16), dig (c.toNat % 16)] := by unfold esc; rw [if_neg (by rw [HP.out]; simp)]
          obtain ⟨d1, hd1⟩ : ∃ d, c.toNat / 16 = d := ⟨_, rfl⟩
          obtain ⟨d2, hd2⟩ : ∃ d, c.toNat % 16 = d := ⟨_, rfl⟩
          have l1 : d1 < 16 := by omega
          have l2 : d2 < 16 := by omega
          rw [hd1, hd2] at hesc
          have x27 : ((c.toNat : Int)) / 16 = (d1 : Int) := by omega
          have x30 : bits .and .u8 (c.toNat : Int) 15 = (d2 : Int) := by rw [and_15 c, hd2]
          have xi1 := index_dig d1 l1
          have xi2 := index_dig d2 l2
          have HE : Hid (esc c = [37, dig d1, dig d2]) := hesc
          clear hesc hd1 hd2
          go_wp2_with (first | (go_at_call 123; refine (goes33 _ _).mono ?_; rintro e w1 ⟨rfl, h1⟩; rw [h1, HP.out]; clear h1))
          refine wp_region_noPanic ?_
          refine wp_region_hold 1000 (fun _ => True) (by kernel_rfl) ?_
          refine wpHold_take (i := 0) (v := _) (trivial) rfl rfl (by kernel_rfl) (by kernel_rfl) (by kernel_rfl) (by kernel_rfl) (by kernel_rfl) (fun _ _ _ h => h) (by rfl) (fun wk hk => by skip; go_simp; try rfl) ?_
          try simp only [Act.put, List.setIfInBounds_toArray, List.set_cons_zero, List.set_cons_succ]
          refine wpHold_take (i := 1) (v := _) (trivial) rfl rfl (by kernel_rfl) (by kernel_rfl) (by kernel_rfl) (by kernel_rfl) (by kernel_rfl) (fun _ _ _ h => h) (by rfl) (fun wk hk => by skip; go_simp; try rfl) ?_
          try simp only [Act.put, List.setIfInBounds_toArray, List.set_cons_zero, List.set_cons_succ]
          refine wpHold_take (i := 2) (v := _) (trivial) rfl rfl (by kernel_rfl) (by kernel_rfl) (by kernel_rfl) (by kernel_rfl) (by kernel_rfl) (fun _ _ _ h => h) (by rfl) (fun wk hk => by skip; go_simp; try rfl) ?_
          try simp only [Act.put, List.setIfInBounds_toArray, List.set_cons_zero, List.set_cons_succ]
          refine wpHold_take (i := 3) (v := _) (trivial) rfl rfl (by kernel_rfl) (by kernel_rfl) (by kernel_rfl) (by kernel_rfl) (by kernel_rfl) (fun _ _ _ h => h) (by rfl) (fun wk hk => by skip; go_simp; try rfl) ?_
          try simp only [Act.put, List.setIfInBounds_toArray, List.set_cons_zero, List.set_cons_succ]
          refine wpHold_take (i := 4) (v := _) (trivial) rfl rfl (by kernel_rfl) (by kernel_rfl) (by kernel_rfl) (by kernel_rfl) (by kernel_rfl) (fun _ _ _ h => h) (by rfl) (fun wk hk => by skip; go_simp; try rfl) ?_
          try simp only [Act.put, List.setIfInBounds_toArray, List.set_cons_zero, List.set_cons_succ]
          refine wpHold_take (i := 5) (v := _) (trivial) rfl rfl (by kernel_rfl) (by kernel_rfl) (by kernel_rfl) (by kernel_rfl) (by kernel_rfl) (fun _ _ _ h => h) (by rfl) (fun wk hk => by skip; go_simp; try rfl) ?_
          try simp only [Act.put, List.setIfInBounds_toArray, List.set_cons_zero, List.set_cons_succ]
          refine wpHold_take (i := 6) (v := _) (trivial) rfl rfl (by kernel_rfl) (by kernel_rfl) (by kernel_rfl) (by kernel_rfl) (by kernel_rfl) (fun _ _ _ h => h) (by rfl) (fun wk hk => by skip; go_simp; try rfl) ?_
          try simp only [Act.put, List.setIfInBounds_toArray, List.set_cons_zero, List.set_cons_succ]
          refine wpHold_one (i := 7) rfl (by kernel_rfl) (by rfl) (fun K hK => ?_)
          go_wp2_with fail
          refine hK.out _ _ (fun _ => trivial) ?_
          clear hK K
          try simp only [Act.put, List.setIfInBounds_toArray, List.set_cons_zero, List.set_cons_succ]
          refine wpHold_one (i := 8) rfl (by kernel_rfl) (by rfl) (fun K hK => ?_)
          refine app22_wp _ _ _ rfl w.heap.size _ (body (A.take k)) _ [37, dig d1, dig d2] rfl rfl (HO.out.1.grown (grown_trans (grown_drew _ _) (World.grownBy_alloc _ _ _))) (seg_lit _ _ _ [37, dig d1, dig d2] rfl (by simp)) ?f0 ?f1 ?_
          case f0 => have := HB.out.2; simp; omega
          case f1 => have := HO.out.2.size; simp; omega
          intro v1 w1 hown hg hl
          have H1 : Hid (Disk.Own w1 w.heap.size v1 (body (A.take (k + 1))) ∧ w.grownBy w1 none) := by
            refine ⟨?_, grown_new (grown_trans (grown_trans HO.out.2 (grown_drew _ _)) (World.grownBy_alloc _ _ none)) hg (fun x hx => (HO.out.1.lt x hx).1)⟩
            rw [HB.out.1, HE.out]
            exact hown
          clear hown hg hl
          refine hK.out _ _ (fun _ => trivial) ?_
          clear hK K
          try simp only [Act.put, List.setIfInBounds_toArray, List.set_cons_zero, List.set_cons_succ]
          refine wpHold_take (i := 9) (v := _) (trivial) rfl rfl (by kernel_rfl) (by kernel_rfl) (by kernel_rfl) (by kernel_rfl) (by kernel_rfl) (fun _ _ _ h => h) (by rfl) (fun wk hk => by skip; go_simp; try rfl) ?_
          try simp only [Act.put, List.setIfInBounds_toArray, List.set_cons_zero, List.set_cons_succ]
          refine wpHold_done (by kernel_rfl) ?_
          refine (‹∀ (a : Act) (w : World), Code.wp Tryz.prog _ _ a w → _› _ _ ?_)
          go_wp2_with fail
          go_roundw
          case rel => exact ⟨k + 1, by omega, by go_num, H1.out.1, H1.out.2⟩
          case measure => simp [intOf]; omega
      · have e : body (A.take k) = txt A := by
          unfold txt
          rw [if_neg (by intro e; have := HN.out.1; rw [e] at this; simp at this; omega), List.take_of_length_le (by rw [HN.out.1]; omega)]
        have cv := seg_str HO.out.1.seg
        rw [e, show Value.string ⟨(txt A).toArray⟩ = R from HR.out] at cv
        go_wp2_with fail
        first | rw [Exit.noGoto_ret] | skip
        go_ret
        exact ⟨rfl, HO.out.2⟩
end Go.Proofs.YtfocmbnhkldnfaaGreatDoor.Names
/-
  Next, Behind, Meet of the program.
-/
namespace Go.Proofs.YtfocmbnhkldnfaaGreatDoor.Names
end Go.Proofs.YtfocmbnhkldnfaaGreatDoor.Names
/-
  Meet of the program; what it calls.
-/
namespace Go.Proofs.YtfocmbnhkldnfaaGreatDoor.Names
theorem early_len (T U : List UInt8) (z : Nat) (h1 : T.length ≤ z) (h2 : U.length ≤ z) : (earlyL T U).length ≤ z := by
  unfold earlyL
  split <;> assumption
theorem later_len (T U : List UInt8) (z : Nat) (h1 : T.length ≤ z) (h2 : U.length ≤ z) : (laterL T U).length ≤ z := by
  unfold laterL
  split <;> assumption

/-- Two rows that were made: apart from each other, all that was there before is as it was. -/
def Two (w w' : World) (x y : Value) (X Y : List UInt8) : Prop :=
  Cut w' w.heap.size x X ∧ Cut w' w.heap.size y Y ∧ (∀ k, x.ownBlock = some k → y.ownBlock ≠ some k) ∧ w.grownBy w' none

end Go.Proofs.YtfocmbnhkldnfaaGreatDoor.Names
/-
  Behind and Meet of the document.
-/
namespace Go.Proofs.YtfocmbnhkldnfaaGreatDoor.Names
open Go.RowKit Disk

/-- A store into an owned row. -/
theorem own_store {w : World} {B g n cap : Nat} {L : List UInt8} (h : Disk.Own w B (.slice (some ⟨g, 0, none⟩) n cap) L) (j : Nat) (x : Int) (c : UInt8) (hx : x = (c.toNat : Int)) :
    Disk.Own (w.setCell ⟨g, j, none⟩ (.int .u8 x)) B (.slice (some ⟨g, 0, none⟩) n cap) (L.set j c) := by
  subst hx
  obtain ⟨hn, _⟩ := own_cap h
  subst hn
  have h1 := (World.ownsRow.stored h j (.int .u8 (c.toNat : Int))).1
  unfold Disk.Own
  rw [List.length_set]
  have e : BV (L.set j c) = (BV L).set j (.int .u8 (c.toNat : Int)) := by simp [BV, List.map_set]
  rw [e]; exact h1

theorem own_cell {w : World} {B g n cap : Nat} {L : List UInt8} (h : Disk.Own w B (.slice (some ⟨g, 0, none⟩) n cap) L) (j : Nat) (hj : j < L.length) : w.cell? ⟨g, j, none⟩ = some (.int .u8 (L[j].toNat : Int)) ∧ w.frozen? ⟨g, j, none⟩ = false := by
  obtain ⟨b, off, e, hc⟩ := seg_at h.seg j hj
  simp at e
  rw [← e.1, ← e.2, Nat.zero_add] at hc
  refine ⟨hc, ?_⟩
  rcases h.2 with ⟨e, h0⟩ | ⟨g', c, cur, e, _, hg, _⟩
  · simp at e
  · simp at e
    rw [e.1]
    exact frozen_of_row w g' j _ _ hg

theorem set_last (X : List UInt8) (c d : UInt8) (j : Nat) (hj : j = X.length) : (X ++ [c]).set j d = X ++ [d] := by
  subst hj
  simp

end Go.Proofs.YtfocmbnhkldnfaaGreatDoor.Names
/-
  left: what was lent is looked at; spoil: what was told is written over, and grown.
-/
namespace Go.Proofs.YtfocmbnhkldnfaaGreatDoor.Names
open Go.RowKit Disk

theorem str_append (L M : List UInt8) : (⟨L.toArray⟩ : ByteArray) ++ (⟨M.toArray⟩ : ByteArray) = ⟨(L ++ M).toArray⟩ := by
  apply ByteArray.ext
  rw [ByteArray.data_append]
  simp

theorem str_add (L M : List UInt8) (wk : World) (h : L.length + M.length ≤ 9223372036854775807) : (Op.stringOp .add ⟨L.toArray⟩ ⟨M.toArray⟩).run Tryz.prog wk = .ok (.string ⟨(L ++ M).toArray⟩) wk := by
  have h1 := run_string_add_sum (P := Tryz.prog) (w := wk) ⟨L.toArray⟩ ⟨M.toArray⟩ (by simpa [ByteArray.size] using h)
  rw [str_append] at h1
  exact h1

/-- Bytes appended to a row that may be cut. -/
theorem appCut {ops : Array Oper} {rest : List Oper} {o : Oper} {a : Act} {Q : Exit → Act → World → Prop} (w : World) (hgd : o.guard = none) (hw : Region.wanted o (yielded ops a.tmps) = true) (s x : Operand)
    (ho : o.op = .call { callee := .builtin .append, args := #[s, x], argTypes := #[29, 29] })
    (B : Nat) (v : Value) (L : List UInt8) (u : Value) (M : List UInt8) (hs : a.eval s = v) (hx : a.eval x = u) (hc : Cut w B v L) (hseg : Seg w u M) (hM : 0 < M.length) (hb : L.length + M.length ≤ 140737488355328) (hB : B ≤ w.heap.size)
    (h : ∀ v' w', Disk.Own w' B v' (L ++ M) → w.grownBy w' v.ownBlock → (∀ k, v'.ownBlock = some k → v.ownBlock = some k ∨ w.heap.size ≤ k) → wpList Tryz.prog ops Q rest (a.put o.dst v') w') : wpList Tryz.prog ops Q (o :: rest) a w := by
  have hcs := hc.seg
  rcases hc with hc | ⟨g, cap, rfl, hc⟩
  · exact app22 w hw s x ho B v L u M hs hx hc hseg hb hB h
  · obtain ⟨i0, hi, hz0, hz1, hz2⟩ := info_parts Tryz.info5
    have hsg := hseg
    obtain ⟨ao, cu, rfl, h1, h2, h3, h4⟩ := hsg
    cases ao with
    | none => have := h3 rfl; omega
    | some ad =>
      obtain ⟨_, hnews⟩ := seg_news hseg
      refine wpList_append_grows w hgd s x 29 ho 5 i0 (.int .u8 0) 1 1 Tryz.underlying29 hi hz0 hz1 hz2 rfl (by decide) (some ⟨g, 0, none⟩) L.length L.length (BV L) hs (by simp) (by simp [BV]) (fun b hb j y hj => ?_) ad M.length cu (BV M) hx (by simp [BV]) hnews (BV_one M) (by omega) (by unfold maxLen; omega) (by omega) ?_
      · simp at hb
        subst hb
        exact (seg_news hcs).2 j y hj
      · intro v' w' r1 r2
        have r3 : Disk.Own w' w.heap.size v' (L ++ M) := by unfold Disk.Own; rw [BV_append, List.length_append]; exact r1
        exact h v' w' (r3.mono hB) (grown_weak r2 _) (fun k hk => .inr (r3.lt k hk).1)

/-- The row behind a slice that may be cut. -/
theorem cut_open {w : World} {B : Nat} {v : Value} {L : List UInt8} (h : Cut w B v L) : (v = .slice none 0 0 ∧ L = []) ∨ ∃ g n c cap, v = .slice (some ⟨g, 0, none⟩) n c ∧ n = L.length ∧ (c = cap ∨ c = n) ∧ Disk.Own w B (.slice (some ⟨g, 0, none⟩) n cap) L := by
  rcases h with h | ⟨g, cap, rfl, h⟩
  · rcases h.shape with ⟨e1, e2⟩ | ⟨g, c, rfl, _⟩
    · exact .inl ⟨e1, e2⟩
    · exact .inr ⟨g, _, c, c, rfl, rfl, .inl rfl, h⟩
  · exact .inr ⟨g, _, _, cap, rfl, rfl, .inr rfl, h⟩

theorem cut_shut {w : World} {B g n c cap : Nat} {M : List UInt8} (h : Disk.Own w B (.slice (some ⟨g, 0, none⟩) n cap) M) (hc : c = cap ∨ c = n) : Cut w B (.slice (some ⟨g, 0, none⟩) n c) M := by
  rcases hc with rfl | rfl
  · exact .inl h
  · exact cut_of h

end Go.Proofs.YtfocmbnhkldnfaaGreatDoor.Names
/-
  Text of the document.
-/
namespace Go.Proofs.YtfocmbnhkldnfaaGreatDoor.Names
open Go.RowKit Disk

set_option maxRecDepth 100000 in
set_option maxHeartbeats 2000000 in
theorem text16 (v : Value) (A : List UInt8) (w : World) (hs : Seg w v A) (hL : 3 * A.length ≤ 140737488355328) :
    Calls Tryz.prog 84 #[v] w fun e w' => e = .returned (Str (txt A)) ∧ w.grownBy w' none := by
  obtain ⟨ao, n, cap, rfl, hn, hlen, HS⟩ := seg_open hs
  have HN : Hid (A.length = n ∧ 3 * A.length ≤ 140737488355328) := ⟨hn, hL⟩
  rw [hn] at hL
  clear hs hn
  obtain ⟨R, hR⟩ : ∃ R, Str (txt A) = R := ⟨_, rfl⟩
  have HR : Hid (Str (txt A) = R) := hR
  rw [hR]
  clear hR
  by_cases h0 : n = 0
  · have e : R = .string { data := #[37] } := by
      rw [← HR.out, List.eq_nil_of_length_eq_zero (by rw [HN.out.1]; exact h0 : A.length = 0)]
      rfl
    subst e; subst h0
    go_enter Tryz.func84, Tryz.ntmps84
    go_wp2_with fail
    go_ret
    exact ⟨rfl, grown_refl _ _⟩
  · have i0 : ¬ (n : Int) = 0 := by omega
    go_enter Tryz.func84, Tryz.ntmps84
    go_wp2_with fail
    have hz : ((n : Int) == 0) = false := by simp; omega
    rw [hz]
    go_loopw [3, 4] (fun x i wr => ∃ k : Nat, k ≤ n ∧ i = .int .i64 k ∧ Disk.Own wr w.heap.size x (body (A.take k)) ∧ w.grownBy wr none) (fun _ i _ => n - (intOf i).toNat)
    case atStart => exact ⟨0, by omega, rfl, Own.nil _ _, grown_refl _ _⟩
    case round =>
      obtain ⟨k, hk, rfl, hown, hg⟩ := hrel
      have HO : Hid (Disk.Own wr w.heap.size u3 (body (A.take k)) ∧ w.grownBy wr none) := ⟨hown, hg⟩
      clear hown hg
      by_cases hlt : k < n
      · have hka : k < A.length := by rw [HN.out.1]; exact hlt
        obtain ⟨b1, o1, rfl, x0⟩ := seg_at HS.out k hka
        have x1 := HO.out.2.cell x0 (by simp)
        have hbs := body_take_succ A k hka
        have hbl := body_take_len A k hka
        rw [HN.out.1] at hbl
        obtain ⟨c, hc⟩ : ∃ c, A[k] = c := ⟨_, rfl⟩
        rw [hc] at x0 x1 hbs
        have HQ : Hid (w.cell? ⟨b1, o1 + k, none⟩ = some (.int .u8 (c.toNat : Int))) := x0
        clear x0
        have HB : Hid (body (A.take (k + 1)) = body (A.take k) ++ esc c ∧ (body (A.take k)).length + 3 ≤ 3 * n) := ⟨hbs, hbl⟩
        have i1 : (0 : Int) ≤ (k : Int) := by omega
        have i2 : (k : Int) < (n : Int) := by omega
        obtain ⟨p, hp⟩ : ∃ p, plainB c = p := ⟨_, rfl⟩
        have HP : Hid (plainB c = p) := hp
        clear hc hbs hbl hp hka
        cases p with
        | true =>
          go_wp2_with (first | (go_at_call 127; refine (plain34 _ _).mono ?_; rintro e w1 ⟨rfl, h1⟩; rw [h1, HP.out]; clear h1) | (at_builtin; refine app22 _ rfl _ _ rfl w.heap.size _ (body (A.take k)) _ [c] rfl rfl (HO.out.1.alloc _) (seg_lit _ _ _ [c] rfl (by simp)) ?c0 ?c1 ?_))
          case c0 => have := HB.out.2; simp; omega
          case c1 => have := HO.out.2.size; simp; omega
          intro v1 w1 hown hg hl
          have H1 : Hid (Disk.Own w1 w.heap.size v1 (body (A.take (k + 1))) ∧ w.grownBy w1 none) := by
            refine ⟨?_, grown_new (grown_trans HO.out.2 (World.grownBy_alloc _ _ none)) hg (fun x hx => (HO.out.1.lt x hx).1)⟩
            rw [HB.out.1]
            unfold esc
            rw [if_pos HP.out]
            exact hown
          clear hown hg hl
          go_wp2_with fail
          go_roundw
          case rel => exact ⟨k + 1, by omega, by go_num, H1.out.1, H1.out.2⟩
          case measure => simp [intOf]; omega
        | false =>
          have hcl := byte_lt c
          have hesc : esc c = [37, dig (c.toNat / 16), dig (c.toNat % 16)] := by unfold esc; rw [if_neg (by rw [HP.out]; simp)]
          obtain ⟨d1, hd1⟩ : ∃ d, c.toNat / 16 = d := ⟨_, rfl⟩
          obtain ⟨d2, hd2⟩ : ∃ d, c.toNat % 16 = d := ⟨_, rfl⟩
          have l1 : d1 < 16 := by omega
          have l2 : d2 < 16 := by omega
          rw [hd1, hd2] at hesc
          have x27 : ((c.toNat : Int)) / 16 = (d1 : Int) := by omega
          have x27t : ((c.toNat : Int)).tdiv 16 = (d1 : Int) := by rw [Int.tdiv_eq_ediv_of_nonneg (by omega)]; omega
          have x30 : ((c.toNat : Int)) % 16 = (d2 : Int) := by omega
          have x30t : ((c.toNat : Int)).tmod 16 = (d2 : Int) := by rw [Int.tmod_eq_emod_of_nonneg (by omega)]; omega
          have xw1 : IntKind.u8.wrap (d1 : Int) = (d1 : Int) := by simp [IntKind.wrap, IntKind.bits, IntKind.signed]; omega
          have xw2 : IntKind.u8.wrap (d2 : Int) = (d2 : Int) := by simp [IntKind.wrap, IntKind.bits, IntKind.signed]; omega
          have HE : Hid (esc c = [37, dig d1, dig d2]) := hesc
          clear hesc hd1 hd2
          go_wp2_with (first | (go_at_call 127; refine (plain34 _ _).mono ?_; rintro e w1 ⟨rfl, h1⟩; rw [h1, HP.out]; clear h1))
          refine wp_region_noPanic ?_
          refine wp_region_hold 1000 (fun x => w.grownBy x none) (by kernel_rfl) ?_
          refine wpHold_take (i := 0) (v := _) (grown_trans HO.out.2 (grown_drew _ _)) rfl rfl (by kernel_rfl) (by kernel_rfl) (by kernel_rfl) (by kernel_rfl) (by kernel_rfl) (fun _ _ _ h => h) (by rfl) (fun wk hk => by have k0 := hk.cell HQ.out (by simp); go_simp; try rfl) ?_
          try simp only [Act.put, List.setIfInBounds_toArray, List.set_cons_zero, List.set_cons_succ]
          refine wpHold_take (i := 1) (v := _) (grown_trans HO.out.2 (grown_drew _ _)) rfl rfl (by kernel_rfl) (by kernel_rfl) (by kernel_rfl) (by kernel_rfl) (by kernel_rfl) (fun _ _ _ h => h) (by rfl) (fun wk hk => by have k0 := hk.cell HQ.out (by simp); go_simp; try rfl) ?_
          try simp only [Act.put, List.setIfInBounds_toArray, List.set_cons_zero, List.set_cons_succ]
          refine wpHold_take (i := 2) (v := _) (grown_trans HO.out.2 (grown_drew _ _)) rfl rfl (by kernel_rfl) (by kernel_rfl) (by kernel_rfl) (by kernel_rfl) (by kernel_rfl) (fun _ _ _ h => h) (by rfl) (fun wk hk => by have k0 := hk.cell HQ.out (by simp); go_simp; try rfl) ?_
          try simp only [Act.put, List.setIfInBounds_toArray, List.set_cons_zero, List.set_cons_succ]
          refine wpHold_take (i := 3) (v := _) (grown_trans HO.out.2 (grown_drew _ _)) rfl rfl (by kernel_rfl) (by kernel_rfl) (by kernel_rfl) (by kernel_rfl) (by kernel_rfl) (fun _ _ _ h => h) (by rfl) (fun wk hk => by have k0 := hk.cell HQ.out (by simp); go_simp; try rfl) ?_
          try simp only [Act.put, List.setIfInBounds_toArray, List.set_cons_zero, List.set_cons_succ]
          refine wpHold_take (i := 4) (v := _) (grown_trans HO.out.2 (grown_drew _ _)) rfl rfl (by kernel_rfl) (by kernel_rfl) (by kernel_rfl) (by kernel_rfl) (by kernel_rfl) (fun _ _ _ h => h) (by rfl) (fun wk hk => by have k0 := hk.cell HQ.out (by simp); go_simp; try rfl) ?_
          try simp only [Act.put, List.setIfInBounds_toArray, List.set_cons_zero, List.set_cons_succ]
          refine wpHold_take (i := 5) (v := _) (grown_trans HO.out.2 (grown_drew _ _)) rfl rfl (by kernel_rfl) (by kernel_rfl) (by kernel_rfl) (by kernel_rfl) (by kernel_rfl) (fun _ _ _ h => h) (by rfl) (fun wk hk => by have k0 := hk.cell HQ.out (by simp); go_simp; try rfl) ?_
          try simp only [Act.put, List.setIfInBounds_toArray, List.set_cons_zero, List.set_cons_succ]
          refine wpHold_take (i := 7) (v := _) (grown_trans HO.out.2 (grown_drew _ _)) rfl rfl (by kernel_rfl) (by kernel_rfl) (by kernel_rfl) (by kernel_rfl) (by kernel_rfl) (fun _ _ _ h => h) (by rfl) (fun wk hk => by have k0 := hk.cell HQ.out (by simp); go_simp; try rfl) ?_
          try simp only [Act.put, List.setIfInBounds_toArray, List.set_cons_zero, List.set_cons_succ]
          refine wpHold_take (i := 8) (v := _) (grown_trans HO.out.2 (grown_drew _ _)) rfl rfl (by kernel_rfl) (by kernel_rfl) (by kernel_rfl) (by kernel_rfl) (by kernel_rfl) (fun _ _ _ h => h) (by rfl) (fun wk hk => by have k0 := hk.cell HQ.out (by simp); go_simp; try rfl) ?_
          try simp only [Act.put, List.setIfInBounds_toArray, List.set_cons_zero, List.set_cons_succ]
          refine wpHold_take (i := 9) (v := _) (grown_trans HO.out.2 (grown_drew _ _)) rfl rfl (by kernel_rfl) (by kernel_rfl) (by kernel_rfl) (by kernel_rfl) (by kernel_rfl) (fun _ _ _ h => h) (by rfl) (fun wk hk => by have k0 := hk.cell HQ.out (by simp); go_simp; try rfl) ?_
          try simp only [Act.put, List.setIfInBounds_toArray, List.set_cons_zero, List.set_cons_succ]
          refine wpHold_take (i := 10) (v := _) (grown_trans HO.out.2 (grown_drew _ _)) rfl rfl (by kernel_rfl) (by kernel_rfl) (by kernel_rfl) (by kernel_rfl) (by kernel_rfl) (fun _ _ _ h => h) (by rfl) (fun wk hk => by have k0 := hk.cell HQ.out (by simp); go_simp; try rfl) ?_
          try simp only [Act.put, List.setIfInBounds_toArray, List.set_cons_zero, List.set_cons_succ]
          refine wpHold_take (i := 11) (v := _) (grown_trans HO.out.2 (grown_drew _ _)) rfl rfl (by kernel_rfl) (by kernel_rfl) (by kernel_rfl) (by kernel_rfl) (by kernel_rfl) (fun _ _ _ h => h) (by rfl) (fun wk hk => by have k0 := hk.cell HQ.out (by simp); go_simp; try rfl) ?_
          try simp only [Act.put, List.setIfInBounds_toArray, List.set_cons_zero, List.set_cons_succ]
          refine wpHold_one (i := 6) rfl (by kernel_rfl) (by rfl) (fun K hK => ?_)
          go_simp
          refine (digit35 d1 l1 _).mono ?_
          rintro e wq ⟨rfl, hq⟩
          rw [hq]
          clear hq
          go_wp2_with fail
          refine hK.out _ _ (fun _ => grown_trans HO.out.2 (grown_drew _ _)) ?_
          clear hK K
          try simp only [Act.put, List.setIfInBounds_toArray, List.set_cons_zero, List.set_cons_succ]
          refine wpHold_one (i := 12) rfl (by kernel_rfl) (by rfl) (fun K hK => ?_)
          go_simp
          refine (digit35 d2 l2 _).mono ?_
          rintro e wq ⟨rfl, hq⟩
          rw [hq]
          clear hq
          go_wp2_with fail
          refine hK.out _ _ (fun _ => grown_trans HO.out.2 (grown_drew _ _)) ?_
          clear hK K
          try simp only [Act.put, List.setIfInBounds_toArray, List.set_cons_zero, List.set_cons_succ]
          refine wpHold_one (i := 13) rfl (by kernel_rfl) (by rfl) (fun K hK => ?_)
          go_wp2_with fail
          refine hK.out _ _ (fun _ => grown_trans (grown_trans HO.out.2 (grown_drew _ _)) (World.grownBy_alloc _ _ none)) ?_
          clear hK K
          try simp only [Act.put, List.setIfInBounds_toArray, List.set_cons_zero, List.set_cons_succ]
          refine wpHold_one (i := 14) rfl (by kernel_rfl) (by rfl) (fun K hK => ?_)
          refine app22_wp _ _ _ rfl w.heap.size _ (body (A.take k)) _ [37, dig d1, dig d2] rfl rfl (HO.out.1.grown (grown_trans (grown_drew _ _) (World.grownBy_alloc _ _ _))) (seg_lit _ _ _ [37, dig d1, dig d2] rfl (by simp)) ?f0 ?f1 ?_
          case f0 => have := HB.out.2; simp; omega
          case f1 => have := HO.out.2.size; simp; omega
          intro v1 w1 hown hg hl
          have H1 : Hid (Disk.Own w1 w.heap.size v1 (body (A.take (k + 1))) ∧ w.grownBy w1 none) := by
            refine ⟨?_, grown_new (grown_trans (grown_trans HO.out.2 (grown_drew _ _)) (World.grownBy_alloc _ _ none)) hg (fun x hx => (HO.out.1.lt x hx).1)⟩
            rw [HB.out.1, HE.out]
            exact hown
          clear hown hg hl
          refine hK.out _ _ (fun _ => H1.out.2) ?_
          clear hK K
          try simp only [Act.put, List.setIfInBounds_toArray, List.set_cons_zero, List.set_cons_succ]
          refine wpHold_take (i := 15) (v := _) (H1.out.2) rfl rfl (by kernel_rfl) (by kernel_rfl) (by kernel_rfl) (by kernel_rfl) (by kernel_rfl) (fun _ _ _ h => h) (by rfl) (fun wk hk => by have k0 := hk.cell HQ.out (by simp); go_simp; try rfl) ?_
          try simp only [Act.put, List.setIfInBounds_toArray, List.set_cons_zero, List.set_cons_succ]
          refine wpHold_done (by kernel_rfl) ?_
          refine (‹∀ (a : Act) (w : World), Code.wp Tryz.prog _ _ a w → _› _ _ ?_)
          go_wp2_with fail
          go_roundw
          case rel => exact ⟨k + 1, by omega, by go_num, H1.out.1, H1.out.2⟩
          case measure => simp [intOf]; omega
      · have e : body (A.take k) = txt A := by
          unfold txt
          rw [if_neg (by intro e; have := HN.out.1; rw [e] at this; simp at this; omega), List.take_of_length_le (by rw [HN.out.1]; omega)]
        have cv := seg_str HO.out.1.seg
        rw [e, show Value.string ⟨(txt A).toArray⟩ = R from HR.out] at cv
        go_wp2_with fail
        go_ret
        exact ⟨rfl, HO.out.2⟩
end Go.Proofs.YtfocmbnhkldnfaaGreatDoor.Names
/-
  Read of the program.
-/
namespace Go.Proofs.YtfocmbnhkldnfaaGreatDoor.Names
open Go.RowKit Disk

theorem run_slice9 (L : List UInt8) (k : Nat) (hk : k ≤ L.length) (w : World) : (Instr.slice 9 (.string ⟨L.toArray⟩) (some (.int .i64 k)) none none).run Tryz.prog w = .ok (.string ⟨(L.drop k).toArray⟩) w := by
  rw [run_slice_string_from_if w 9 _ _ _ Tryz.underlying9, if_pos ⟨by omega, by rw [str_size]; omega⟩]
  have e : (⟨L.toArray⟩ : ByteArray).extract (k : Int).toNat (⟨L.toArray⟩ : ByteArray).size = ⟨(L.drop k).toArray⟩ := by
    apply ByteArray.ext
    rw [ByteArray.data_extract, str_size]
    simp
    exact List.take_of_length_le (by simp)
  rw [e]

def sizeStr : Value → Nat
  | .string x => x.size
  | _ => 0

theorem str_inj {L M : List UInt8} (h : (⟨L.toArray⟩ : ByteArray) = ⟨M.toArray⟩) : L = M := by
  have h1 := congrArg (fun x => x.data.toList) h
  simpa using h1

set_option maxRecDepth 100000 in
set_option maxHeartbeats 2000000 in
theorem read7 (s : List UInt8) (w : World) (hl : s.length ≤ 140737488355328) :
    Calls Tryz.prog 180 #[Str s] w fun e w' => ∃ x, e = .returned (.tuple #[x, .int .i64 (readE s)]) ∧ Cut w' w.heap.size x (readL s) ∧ w.grownBy w' none := by
  by_cases hs : s = [37]
  · subst hs
    obtain ⟨h1, h2⟩ := read_mark
    rw [h1, h2]
    show Calls Tryz.prog 180 #[.string ⟨#[37]⟩] w _
    go_enter Tryz.func180, Tryz.ntmps180
    go_wp2_with fail
    refine wp_scope_straight ?_
    go_wp2_with fail
    first | rw [Exit.noGoto_ret] | skip
    go_ret2
    exact ⟨_, rfl, .inl (Own.nil _ _), grown_refl _ _⟩
  · unfold Str
    have hne : ((⟨s.toArray⟩ : ByteArray).toList == [37]) = false := by
      rw [beq_eq_false_iff_ne, ByteArray.toList_mk]
      exact hs
    obtain ⟨X, hX⟩ : ∃ X, (⟨s.toArray⟩ : ByteArray) = X := ⟨_, rfl⟩
    obtain ⟨n, hn⟩ : ∃ n, s.length = n := ⟨_, rfl⟩
    have hsz : X.size = n := by rw [← hX, str_size, hn]
    have HX : Hid ((⟨s.toArray⟩ : ByteArray) = X ∧ s.length = n ∧ s ≠ [37]) := ⟨hX, hn, hs⟩
    rw [hX] at hne ⊢
    rw [hn] at hl
    obtain ⟨E, hE⟩ : ∃ E, readE s = E := ⟨_, rfl⟩
    have HE : Hid (readE s = E) := hE
    rw [hE]
    obtain ⟨w0, hmk, ho0, hg0⟩ := make22 n hl w
    have H0 : Hid (Disk.Own w0 w.heap.size (.slice (some ⟨w.heap.size, 0, none⟩) 0 n) [] ∧ w.grownBy w0 none) := ⟨ho0, hg0⟩
    clear hX hn hs hE ho0 hg0
    go_enter Tryz.func180, Tryz.ntmps180
    go_wp2_with fail
    refine wp_scope_straight ?_
    go_wp2_with fail
    refine wp_label ?_
    refine (‹∀ (a : Act) (w : World), Code.wp Tryz.prog _ _ a w → _› _ _ ?_)
    clear hmk hne
    go_wp2_with fail
    go_loopw [4, 5] (fun x r wr => ∃ (b rest : List UInt8), r = Str rest ∧ s = body b ++ rest ∧ Disk.Own wr w.heap.size x b ∧ w.grownBy wr none) (fun _ r _ => sizeStr r)
    case atStart => exact ⟨[], s, by rw [← HX.out.1]; rfl, rfl, H0.out.1, H0.out.2⟩
    case round =>
      obtain ⟨b, rest, hr, hsb, hown, hg⟩ := hrel
      subst hr
      have HO : Hid (s = body b ++ rest ∧ Disk.Own wr w.heap.size u4 b ∧ w.grownBy wr none) := ⟨hsb, hown, hg⟩
      obtain ⟨ao, nb, cb, hsh, hnb, lb, HS⟩ := seg_open hown.seg
      subst hsh
      have hbl : b.length + rest.length ≤ n := by
        have h1 := congrArg List.length hsb
        rw [List.length_append, HX.out.2.1] at h1
        have := (body_len b).1
        omega
      obtain ⟨m, hm⟩ : ∃ m, rest.length = m := ⟨_, rfl⟩
      have HM : Hid (rest.length = m ∧ b.length = nb) := ⟨hm, hnb⟩
      rw [hm, hnb] at hbl
      clear hsb hown hg hnb
      by_cases hm0 : m = 0
      · have er : rest = [] := List.eq_nil_of_length_eq_zero (by rw [hm]; exact hm0)
        subst er
        clear hm
        show Code.wp Tryz.prog _ _ { tmps := _, defers := _ } wr
        by_cases hb0 : nb = 0
        · have eb : b = [] := List.eq_nil_of_length_eq_zero (by rw [HM.out.2]; exact hb0)
          subst eb; subst hb0
          have hd := read_bad HX.out.2.2 (fun h => absurd HO.out.1 h)
          have e : E = 4 := by rw [← HE.out]; exact hd.2
          subst e
          have HD : Hid (readL s = []) := hd.1
          clear hd
          unfold Str
          go_wp2_with fail
          first | rw [Exit.noGoto_ret] | skip
          go_ret2
          exact ⟨_, rfl, by rw [HD.out]; exact .inl (Own.nil _ _), HO.out.2.2⟩
        · have hb1 : b ≠ [] := by
            intro e
            have h1 := HM.out.2
            rw [e] at h1
            simp at h1
            omega
          have hd := read_ok HX.out.2.2 hb1 (show s = body b by rw [← List.append_nil (body b)]; exact HO.out.1)
          clear hb1
          have e : E = 0 := by rw [← HE.out]; exact hd.2
          subst e
          have HD : Hid (readL s = b) := hd.1
          have i1 : ¬ (nb : Int) = 0 := by omega
          clear hd
          unfold Str
          go_wp2_with fail
          refine (copied31 _ _ b [] _ HS.out (seg_nil _) (by simp; have := HM.out.2; omega)).mono ?_
          rintro e w1 ⟨x, rfl, hc, hg⟩
          rw [List.append_nil] at hc
          have H1 : Hid (Cut w1 w.heap.size x b ∧ w.grownBy w1 none) := ⟨hc.mono HO.out.2.2.size, grown_trans HO.out.2.2 hg⟩
          clear hc hg
          go_wp2_with fail
          first | rw [Exit.noGoto_ret] | skip
          go_ret2
          exact ⟨_, rfl, by rw [HD.out]; exact H1.out.1, H1.out.2⟩
      · have hr0 : rest ≠ [] := by intro e; rw [e] at hm; simp at hm; omega
        have HF := first30 rest wr (by omega) hr0
        obtain ⟨⟨c, k⟩, hck⟩ : ∃ ck, first rest = ck := ⟨_, rfl⟩
        rw [hck] at HF
        have HC : Hid (first rest = (c, k) ∧ rest ≠ []) := ⟨hck, hr0⟩
        have hF : Hid (Calls Tryz.prog 213 #[Str rest] wr fun e w' => e = .returned (.tuple #[.int .u8 (c.toNat : Int), .int .i64 (k : Int)]) ∧ ∃ m, w' = wr.drewN m) := HF
        have i1 : (0 : Int) < (m : Int) := by omega
        clear HF hck
        obtain ⟨Y, hY⟩ : ∃ Y, (⟨rest.toArray⟩ : ByteArray) = Y := ⟨_, rfl⟩
        have hsy : Y.size = m := by rw [← hY, str_size, hm]
        have HY : Hid ((⟨rest.toArray⟩ : ByteArray) = Y) := hY
        unfold Str
        rw [hY]
        clear hm hr0
        by_cases hk0 : k = 0
        · subst hk0
          have hbad : ∀ d, s ≠ body d := fun d e => by
            rw [HO.out.1] at e
            obtain ⟨d', e'⟩ := body_prefix e
            exact first_none (d := d') (by rw [HC.out.1]) HC.out.2 e'
          have hd := read_bad HX.out.2.2 (fun _ => hbad)
          have e : E = 4 := by rw [← HE.out]; exact hd.2
          subst e
          have HD : Hid (readL s = []) := hd.1
          clear hd hbad hY
          by_cases hb0 : nb = 0
          · subst hb0
            go_wp2_with (first | (go_at_call 213; rw [← HY.out]; refine hF.out.mono ?_; rintro e w1 ⟨rfl, hw1⟩; have HW : Hid _ := hw1; clear hw1; try rw [HY.out]))
            first | rw [Exit.noGoto_ret] | skip
            go_ret2
            obtain ⟨q, hq⟩ := HW.out
            exact ⟨_, rfl, by rw [HD.out]; exact .inl (Own.nil _ _), by rw [hq]; exact grown_trans HO.out.2.2 (grown_drewN _ _ _)⟩
          · have i2 : ¬ (nb : Int) = 0 := by omega
            go_wp2_with (first | (go_at_call 213; rw [← HY.out]; refine hF.out.mono ?_; rintro e w1 ⟨rfl, hw1⟩; have HW : Hid _ := hw1; clear hw1; try rw [HY.out]))
            first | rw [Exit.noGoto_ret] | skip
            go_ret2
            obtain ⟨q, hq⟩ := HW.out
            exact ⟨_, rfl, by rw [HD.out]; exact .inl (Own.nil _ _), by rw [hq]; exact grown_trans HO.out.2.2 (grown_drewN _ _ _)⟩
        · obtain ⟨f1, f2, f3⟩ := first_some HC.out.1 hk0
          have hsl := run_slice9 rest k f2
          rw [hY] at hsl
          have i2 : ¬ (k : Int) = 0 := by omega
          have hlr : (rest.drop k).length < m := by rw [List.length_drop]; have := HM.out.1; omega
          have HG : Hid (s = body (b ++ [c]) ++ rest.drop k ∧ (rest.drop k).length < m) := by
            refine ⟨?_, hlr⟩
            rw [body_snoc, List.append_assoc, ← f1]
            exact HO.out.1
          obtain ⟨Z, hZ⟩ : ∃ Z, (⟨(rest.drop k).toArray⟩ : ByteArray) = Z := ⟨_, rfl⟩
          rw [hZ] at hsl
          have HZ : Hid (Value.string Z = Str (rest.drop k)) := by rw [← hZ]; rfl
          clear f1 f2 f3 hY hZ hlr
          go_wp2_with fail
          rw [← HY.out]
          refine hF.out.mono ?_
          rintro e w1 ⟨rfl, q, hq⟩
          have hgq : Hid (wr.grownBy w1 none) := by rw [hq]; exact grown_drewN _ _ _
          rw [HY.out]
          clear hq
          go_wp2_with (at_builtin; refine app22 _ rfl _ _ rfl w.heap.size _ b _ [c] rfl rfl ((HO.out.2.1.grown hgq.out).alloc _) (seg_lit _ _ _ [c] rfl (by simp)) ?c0 ?c1 ?_)
          case c0 => have := HM.out.2; simp; omega
          case c1 => have := HO.out.2.2.size; have := hgq.out.size; simp; omega
          intro v2 w2 hown hg hl2
          have H2 : Hid (Disk.Own w2 w.heap.size v2 (b ++ [c]) ∧ w.grownBy w2 none) := ⟨hown, grown_new (grown_trans (grown_trans HO.out.2.2 hgq.out) (World.grownBy_alloc _ _ none)) hg (fun x hx => (HO.out.2.1.lt x hx).1)⟩
          clear hown hg hl2
          go_wp2_with fail
          go_roundw
          case rel => exact ⟨b ++ [c], rest.drop k, HZ.out, HG.out.1, H2.out.1, H2.out.2⟩
          case measure =>
            have h1 := congrArg sizeStr HZ.out
            simp only [sizeStr, Str, str_size] at h1 ⊢
            have := HG.out.2
            omega
end Go.Proofs.YtfocmbnhkldnfaaGreatDoor.Names
