/-
  Keys on plain lists: how they are held against each other, ranges, the next one, what is behind a beginning, what two ranges share.
-/
import Derived.Test.YtahpkgglkibikaaRows
namespace Go.Proofs.Ytahpkgglkibikaa

/-- -1, 0, 1: below, the same, above. -/
def cmpL : List UInt8 → List UInt8 → Int
  | [], [] => 0
  | [], _ :: _ => -1
  | _ :: _, [] => 1
  | a :: az, b :: bs => if a.toNat < b.toNat then -1 else if b.toNat < a.toNat then 1 else cmpL az bs

def cmpN (a b : Nat) : Int := if a < b then -1 else if b < a then 1 else 0

theorem cmp_nil_left (B : List UInt8) : cmpL [] B = cmpN 0 B.length := by
  cases B <;> simp [cmpL, cmpN]
theorem cmp_nil_right (A : List UInt8) : cmpL A [] = cmpN A.length 0 := by
  cases A <;> simp [cmpL, cmpN]

theorem cmp_end {A B : List UInt8} {k : Nat} (h : k = min A.length B.length) : cmpL (A.drop k) (B.drop k) = cmpN A.length B.length := by
  by_cases h1 : A.length ≤ B.length
  · have e : k = A.length := by omega
    subst e
    rw [List.drop_length, cmp_nil_left, List.length_drop]
    unfold cmpN
    by_cases h2 : A.length < B.length
    · rw [if_pos (by omega), if_pos h2]
    · rw [if_neg (by omega), if_neg (by omega), if_neg h2, if_neg (by omega)]
  · have e : k = B.length := by omega
    subst e
    rw [List.drop_length, cmp_nil_right, List.length_drop]
    unfold cmpN
    rw [if_neg (by omega), if_pos (by omega), if_neg (by omega), if_pos (by omega)]

theorem cmp_step {A B : List UInt8} {k : Nat} (ha : k < A.length) (hb : k < B.length) :
    cmpL (A.drop k) (B.drop k) = if A[k].toNat < B[k].toNat then -1 else if B[k].toNat < A[k].toNat then 1 else cmpL (A.drop (k + 1)) (B.drop (k + 1)) := by
  rw [List.drop_eq_getElem_cons ha, List.drop_eq_getElem_cons hb]
  rfl

theorem cmp_range : ∀ (A B : List UInt8), cmpL A B = -1 ∨ cmpL A B = 0 ∨ cmpL A B = 1
  | [], [] => .inr (.inl rfl)
  | [], _ :: _ => .inl rfl
  | _ :: _, [] => .inr (.inr rfl)
  | a :: az, b :: bs => by
    unfold cmpL
    split
    · exact .inl rfl
    · split
      · exact .inr (.inr rfl)
      · exact cmp_range az bs

theorem cmp_flip : ∀ (A B : List UInt8), cmpL A B = -cmpL B A
  | [], [] => rfl
  | [], _ :: _ => rfl
  | _ :: _, [] => rfl
  | a :: az, b :: bs => by
    unfold cmpL
    by_cases h1 : a.toNat < b.toNat
    · rw [if_pos h1, if_neg (by omega), if_pos h1]
    · by_cases h2 : b.toNat < a.toNat
      · rw [if_neg h1, if_pos h2, if_pos h2]
        rfl
      · rw [if_neg h1, if_neg h2, if_neg h2, if_neg h1]
        exact cmp_flip az bs

theorem cmp_self : ∀ (A : List UInt8), cmpL A A = 0
  | [] => rfl
  | a :: az => by
    unfold cmpL
    rw [if_neg (by omega), if_neg (by omega)]
    exact cmp_self az

theorem cmp_zero : ∀ {A B : List UInt8}, cmpL A B = 0 → A = B
  | [], [], _ => rfl
  | [], _ :: _, h => by simp [cmpL] at h
  | _ :: _, [], h => by simp [cmpL] at h
  | a :: az, b :: bs, h => by
    unfold cmpL at h
    split at h
    · simp at h
    · split at h
      · simp at h
      · rename_i h1 h2
        have e : a = b := UInt8.toNat_inj.1 (by omega)
        rw [e, cmp_zero h]

theorem cmp_iff {A B : List UInt8} : cmpL A B = 0 ↔ A = B := ⟨cmp_zero, fun h => by rw [h]; exact cmp_self B⟩

/-- Not above, twice. -/
theorem cmp_trans : ∀ {A B C : List UInt8}, cmpL A B ≤ 0 → cmpL B C ≤ 0 → cmpL A C ≤ 0
  | [], _, [], _, _ => by simp [cmpL]
  | [], _, _ :: _, _, _ => by simp [cmpL]
  | a :: az, [], _, h, _ => by simp [cmpL] at h
  | a :: az, b :: bs, [], _, h => by simp [cmpL] at h
  | a :: az, b :: bs, c :: cs, h, k => by
    unfold cmpL at h k ⊢
    by_cases h1 : a.toNat < c.toNat
    · rw [if_pos h1]
      omega
    · by_cases h2 : a.toNat < b.toNat
      · rw [if_neg (by omega), if_pos (by omega)] at k
        omega
      · rw [if_neg h2] at h
        by_cases h3 : b.toNat < a.toNat
        · rw [if_pos h3] at h
          omega
        · rw [if_neg h3] at h
          by_cases h4 : b.toNat < c.toNat
          · omega
          · rw [if_neg h4] at k
            by_cases h5 : c.toNat < b.toNat
            · rw [if_pos h5] at k
              omega
            · rw [if_neg h5] at k
              rw [if_neg h1, if_neg (by omega)]
              exact cmp_trans h k

theorem cmp_lt_trans {A B C : List UInt8} (h : cmpL A B ≤ 0) (k : cmpL B C < 0) : cmpL A C < 0 := by
  have h1 := cmp_trans h (Int.le_of_lt k)
  rcases Int.lt_or_eq_of_le h1 with h2 | h2
  · exact h2
  · have e := cmp_zero h2
    subst e
    have := cmp_flip B A
    omega

/-- In the range from F up to T. -/
def inB (K F T : List UInt8) : Bool := decide (0 ≤ cmpL K F) && (decide (T.length = 0) || decide (cmpL K T < 0))

/-- Above K is at or above the next one. -/
theorem next_least {K A : List UInt8} (h : cmpL K A < 0) : ¬ cmpL A (K ++ [0]) < 0 := by
  induction K generalizing A with
  | nil =>
    cases A with
    | nil => simp [cmpL] at h
    | cons a az =>
      simp only [List.nil_append]
      unfold cmpL
      rw [if_neg (by simp)]
      split
      · omega
      · cases az <;> simp [cmpL]
  | cons x xs ih =>
    cases A with
    | nil => simp [cmpL] at h
    | cons a az =>
      simp only [List.cons_append]
      unfold cmpL at h ⊢
      by_cases h1 : x.toNat < a.toNat
      · rw [if_neg (by omega), if_pos h1]
        omega
      · rw [if_neg h1] at h
        by_cases h2 : a.toNat < x.toNat
        · rw [if_pos h2] at h
          omega
        · rw [if_neg h2] at h
          rw [if_neg h2, if_neg h1]
          exact ih h

theorem next_above : ∀ (K : List UInt8), cmpL K (K ++ [0]) = -1
  | [] => rfl
  | x :: xs => by
    simp only [List.cons_append]
    unfold cmpL
    rw [if_neg (by omega), if_neg (by omega)]
    exact next_above xs

/-- Without the bytes 255 at its end. -/
def trim : List UInt8 → List UInt8
  | [] => []
  | x :: xs => match trim xs with
    | [] => if x = 255 then [] else [x]
    | y :: ys => x :: y :: ys

/-- The last byte greater by one. -/
def bump : List UInt8 → List UInt8
  | [] => []
  | [x] => [x + 1]
  | x :: y :: ys => x :: bump (y :: ys)

def behindL (A : List UInt8) : List UInt8 := bump (trim A)
def behindB (A : List UInt8) : Bool := decide (trim A ≠ [])

/-- What begins with A. -/
def begins (A K : List UInt8) : Prop := K.take A.length = A

theorem trim_cons_nil {x : UInt8} {xs : List UInt8} (h : trim xs = []) : trim (x :: xs) = if x = 255 then [] else [x] := by
  simp [trim, h]
theorem trim_cons_some {x : UInt8} {xs : List UInt8} (h : trim xs ≠ []) : trim (x :: xs) = x :: trim xs := by
  cases e : trim xs with
  | nil => exact absurd e h
  | cons y ys => simp [trim, e]

theorem begins_cons {a k : UInt8} {A K : List UInt8} : begins (a :: A) (k :: K) ↔ a = k ∧ begins A K := by
  unfold begins
  simp only [List.length_cons, List.take_succ_cons, List.cons.injEq]
  exact ⟨fun h => ⟨h.1.symm, h.2⟩, fun h => ⟨h.1.symm, h.2⟩⟩
theorem begins_nil (K : List UInt8) : begins [] K := by simp [begins]
theorem not_begins_nil {a : UInt8} {A : List UInt8} : ¬ begins (a :: A) [] := by simp [begins]

/-- Bytes 255 alone: not below is to begin with. -/
theorem full_begins : ∀ (A K : List UInt8), trim A = [] → (0 ≤ cmpL K A ↔ begins A K)
  | [], K, _ => by
    refine ⟨fun _ => begins_nil K, fun _ => ?_⟩
    rw [cmp_nil_right]
    unfold cmpN
    rw [if_neg (by omega)]
    split <;> omega
  | a :: az, [], _ => by
    refine ⟨fun h => by simp [cmpL] at h, fun h => absurd h not_begins_nil⟩
  | a :: az, k :: ks, h => by
    have h1 : trim az = [] := by
      by_cases e : trim az = []
      · exact e
      · rw [trim_cons_some e] at h
        simp at h
    rw [trim_cons_nil h1] at h
    have ha : a = 255 := by
      by_cases e : a = 255
      · exact e
      · rw [if_neg e] at h
        simp at h
    subst ha
    rw [begins_cons]
    have hk : k.toNat < 256 := UInt8.toNat_lt k
    have e255 : (255 : UInt8).toNat = 255 := rfl
    unfold cmpL
    rw [e255]
    by_cases h2 : k.toNat < 255
    · rw [if_pos h2]
      refine ⟨fun h => by omega, fun h => ?_⟩
      have := h.1
      subst this
      omega
    · have e : k = 255 := UInt8.toNat_inj.1 (by rw [e255]; omega)
      subst e
      rw [if_neg (by omega), if_neg (by omega), full_begins az ks h1]
      exact ⟨fun h => ⟨rfl, h⟩, fun h => h.2⟩

theorem bump_ne {A : List UInt8} (h : A ≠ []) : bump A ≠ [] := by
  cases A with
  | nil => exact absurd rfl h
  | cons a az => cases az <;> simp [bump]

/-- From A up to what is behind it are just those that begin with A. -/
theorem behind_begins : ∀ (A K : List UInt8), trim A ≠ [] → ((0 ≤ cmpL K A ∧ cmpL K (behindL A) < 0) ↔ begins A K)
  | [], K, h => absurd rfl h
  | a :: az, [], h => by
    refine ⟨fun h => ?_, fun h => absurd h not_begins_nil⟩
    have := h.1
    simp [cmpL] at this
  | a :: az, k :: ks, h => by
    rw [begins_cons]
    by_cases h1 : trim az = []
    · rw [trim_cons_nil h1] at h
      have ha : a ≠ 255 := by
        intro e
        rw [if_pos e] at h
        exact h rfl
      have eb : behindL (a :: az) = [a + 1] := by
        unfold behindL
        rw [trim_cons_nil h1, if_neg ha]
        rfl
      rw [eb]
      have hlt : a.toNat < 255 := by
        have := UInt8.toNat_lt a
        have e255 : (255 : UInt8).toNat = 255 := rfl
        have : a.toNat ≠ 255 := fun e => ha (UInt8.toNat_inj.1 (by rw [e255]; exact e))
        omega
      have e1 : (a + 1).toNat = a.toNat + 1 := by
        rw [UInt8.toNat_add]
        have : (1 : UInt8).toNat = 1 := rfl
        rw [this]
        omega
      have hf := full_begins az ks h1
      unfold cmpL
      rw [e1]
      by_cases c1 : k.toNat < a.toNat
      · rw [if_pos c1]
        refine ⟨fun h => by omega, fun h => ?_⟩
        rw [h.1] at c1
        omega
      · by_cases c2 : a.toNat < k.toNat
        · rw [if_neg c1, if_pos c2, if_neg (by omega)]
          refine ⟨fun h => ?_, fun h => ?_⟩
          · have := h.2
            split at this
            · omega
            · cases ks <;> simp [cmpL] at this
          · rw [h.1] at c2
            omega
        · have e : a = k := UInt8.toNat_inj.1 (by omega)
          subst e
          rw [if_neg c1, if_neg c1, if_pos (by omega), hf]
          exact ⟨fun h => ⟨rfl, h.1⟩, fun h => ⟨h.2, by omega⟩⟩
    · have ih := behind_begins az ks h1
      have eb : behindL (a :: az) = a :: behindL az := by
        unfold behindL
        rw [trim_cons_some h1]
        cases e : trim az with
        | nil => exact absurd e h1
        | cons y ys => rfl
      rw [eb]
      unfold cmpL
      by_cases c1 : k.toNat < a.toNat
      · rw [if_pos c1]
        refine ⟨fun h => by omega, fun h => ?_⟩
        rw [h.1] at c1
        omega
      · by_cases c2 : a.toNat < k.toNat
        · rw [if_neg c1, if_pos c2, if_neg c1, if_pos c2]
          refine ⟨fun h => by omega, fun h => ?_⟩
          rw [h.1] at c2
          omega
        · have e : a = k := UInt8.toNat_inj.1 (by omega)
          subst e
          rw [if_neg c1, if_neg c1, if_neg c1, if_neg c1, ih]
          exact ⟨fun h => ⟨rfl, h⟩, fun h => h.2⟩

def laterL (F G : List UInt8) : List UInt8 := if cmpL F G < 0 then G else F
/-- No end is above all. -/
def endB (T K : List UInt8) : Bool := decide (T.length = 0) || decide (cmpL K T < 0)
def earlyL (T U : List UInt8) : List UInt8 := if 0 < T.length ∧ endB U T = true then T else U
def meetB (F T G U : List UInt8) : Bool := inB (laterL F G) (laterL F G) (earlyL T U)
def meetA (F T G U : List UInt8) : List UInt8 := if meetB F T G U = true then laterL F G else []
def meetZ (F T G U : List UInt8) : List UInt8 := if meetB F T G U = true then earlyL T U else []

theorem in_end (K F T : List UInt8) : inB K F T = (decide (0 ≤ cmpL K F) && endB T K) := rfl

theorem later_in (K F G : List UInt8) : 0 ≤ cmpL K (laterL F G) ↔ 0 ≤ cmpL K F ∧ 0 ≤ cmpL K G := by
  unfold laterL
  have f1 := cmp_flip K F
  have f2 := cmp_flip K G
  by_cases h : cmpL F G < 0
  · rw [if_pos h]
    refine ⟨fun h1 => ⟨?_, h1⟩, fun h1 => h1.2⟩
    have := cmp_trans (Int.le_of_lt h) (C := K) (by omega)
    omega
  · rw [if_neg h]
    refine ⟨fun h1 => ⟨h1, ?_⟩, fun h1 => h1.1⟩
    have f3 := cmp_flip F G
    have := cmp_trans (A := G) (B := F) (C := K) (by omega) (by omega)
    omega

theorem early_in (K T U : List UInt8) : endB (earlyL T U) K = true ↔ endB T K = true ∧ endB U K = true := by
  unfold earlyL
  by_cases h : 0 < T.length ∧ endB U T = true
  · rw [if_pos h]
    refine ⟨fun h1 => ⟨h1, ?_⟩, fun h1 => h1.1⟩
    have h2 := h.2
    have h0 := h.1
    simp only [endB, Bool.or_eq_true, decide_eq_true_eq] at h1 h2 ⊢
    rcases h2 with h2 | h2
    · exact .inl h2
    · rcases h1 with h1 | h1
      · omega
      · exact .inr (cmp_lt_trans (Int.le_of_lt h1) h2)
  · rw [if_neg h]
    refine ⟨fun h1 => ⟨?_, h1⟩, fun h1 => h1.2⟩
    simp only [endB, Bool.or_eq_true, decide_eq_true_eq] at h h1 ⊢
    by_cases h0 : T.length = 0
    · exact .inl h0
    · refine .inr ?_
      have h3 : ¬ (U.length = 0 ∨ cmpL T U < 0) := fun e => h ⟨by omega, e⟩
      have f := cmp_flip T U
      rcases h1 with h1 | h1
      · exact absurd (.inl h1) h3
      · have hn : ¬ cmpL T U < 0 := fun e => h3 (.inr e)
        have f2 := cmp_flip K U
        have h5 := cmp_lt_trans (A := K) (B := U) (C := T)
        by_cases h6 : cmpL U T < 0
        · exact h5 (by omega) h6
        · have e : U = T := cmp_zero (by omega)
          rw [← e]
          exact h1

/-- What two ranges share is what is in both. -/
theorem meet_in (K F T G U : List UInt8) : inB K (laterL F G) (earlyL T U) = (inB K F T && inB K G U) := by
  rw [Bool.eq_iff_iff]
  simp only [in_end, Bool.and_eq_true, decide_eq_true_eq, later_in, early_in]
  exact ⟨fun ⟨⟨a, b⟩, c, d⟩ => ⟨⟨a, c⟩, b, d⟩, fun ⟨⟨a, c⟩, b, d⟩ => ⟨⟨a, b⟩, c, d⟩⟩

/-- A range that does not even have its beginning has nothing. -/
theorem in_self {K F T : List UInt8} (h : inB K F T = true) : inB F F T = true := by
  rw [in_end] at h ⊢
  simp only [endB, Bool.and_eq_true, Bool.or_eq_true, decide_eq_true_eq] at h ⊢
  refine ⟨by rw [cmp_self]; exact Int.le_refl _, ?_⟩
  rcases h.2 with h1 | h1
  · exact .inl h1
  · have f := cmp_flip K F
    exact .inr (cmp_lt_trans (by omega) h1)

theorem trim_snoc_full : ∀ (X : List UInt8), trim (X ++ [255]) = trim X
  | [] => rfl
  | x :: xs => by
    have ih := trim_snoc_full xs
    simp only [List.cons_append]
    by_cases h : trim xs = []
    · rw [trim_cons_nil h, trim_cons_nil (by rw [ih]; exact h)]
    · rw [trim_cons_some h, trim_cons_some (by rw [ih]; exact h), ih]
theorem trim_snoc_other {c : UInt8} (hc : c ≠ 255) : ∀ (X : List UInt8), trim (X ++ [c]) = X ++ [c]
  | [] => by simp [trim, hc]
  | x :: xs => by
    have ih := trim_snoc_other hc xs
    simp only [List.cons_append]
    rw [trim_cons_some (by rw [ih]; simp), ih]
theorem bump_snoc (c : UInt8) : ∀ (X : List UInt8), bump (X ++ [c]) = X ++ [c + 1]
  | [] => rfl
  | [x] => rfl
  | x :: y :: ys => by
    have ih := bump_snoc c (y :: ys)
    simp only [List.cons_append] at ih ⊢
    simp only [bump]
    rw [ih]

theorem trim_take_full {A : List UInt8} {k : Nat} (hk : k < A.length) (h : A[k] = 255) : trim (A.take (k + 1)) = trim (A.take k) := by
  rw [List.take_succ_eq_append_getElem hk, h, trim_snoc_full]
theorem trim_take_other {A : List UInt8} {k : Nat} (hk : k < A.length) (h : A[k] ≠ 255) : trim (A.take (k + 1)) = A.take (k + 1) := by
  rw [List.take_succ_eq_append_getElem hk, trim_snoc_other h]
/-- The last byte that is below 255 stands at k. -/
theorem behind_at {A : List UInt8} {k : Nat} (hk : k < A.length) (h : A[k] ≠ 255) (ht : trim (A.take (k + 1)) = trim A) : behindL A = A.take k ++ [A[k] + 1] ∧ behindB A = true := by
  rw [trim_take_other hk h] at ht
  unfold behindL behindB
  rw [← ht, List.take_succ_eq_append_getElem hk]
  refine ⟨bump_snoc _ _, decide_eq_true (by intro e; have := congrArg List.length e; simp only [List.length_append, List.length_cons, List.length_nil] at this; omega)⟩
theorem behind_none {A : List UInt8} (ht : trim (A.take 0) = trim A) : behindL A = [] ∧ behindB A = false := by
  unfold behindL behindB
  rw [← ht]
  simp [trim, bump]

theorem later_doc (F G : List UInt8) : laterL F G = if 0 < cmpL G F then G else F := by
  have := cmp_flip F G
  unfold laterL
  by_cases h : cmpL F G < 0
  · rw [if_pos h, if_pos (by omega)]
  · rw [if_neg h, if_neg (by omega)]
theorem early_doc (T U : List UInt8) : earlyL T U = if T.length = 0 ∨ (0 < U.length ∧ cmpL U T < 0) then U else T := by
  have f := cmp_flip T U
  unfold earlyL
  simp only [endB, Bool.or_eq_true, decide_eq_true_eq]
  by_cases h0 : T.length = 0
  · rw [if_neg (by omega), if_pos (.inl h0)]
  · by_cases h1 : U.length = 0
    · rw [if_pos ⟨by omega, .inl h1⟩, if_neg (by omega)]
    · by_cases h2 : cmpL T U < 0
      · rw [if_pos ⟨by omega, .inr h2⟩, if_neg (by omega)]
      · by_cases h3 : cmpL U T < 0
        · rw [if_neg (by omega), if_pos (.inr ⟨by omega, h3⟩)]
        · have e : U = T := cmp_zero (by omega)
          subst e
          simp
theorem meet_doc (F T G U : List UInt8) : meetB F T G U = endB (earlyL T U) (laterL F G) := by
  unfold meetB
  rw [in_end, cmp_self]
  simp
end Go.Proofs.Ytahpkgglkibikaa
