/-
  Names and texts on plain lists: tables' names, bytes as texts, what a text says.
-/
import Derived.Test.YtahpkgglkibikaaP
namespace Go.Proofs.Ytahpkgglkibikaa

/-- A letter from a to z, or a digit. -/
def alnum (c : UInt8) : Bool := (decide (97 ≤ c.toNat) && decide (c.toNat ≤ 122)) || (decide (48 ≤ c.toNat) && decide (c.toNat ≤ 57))
def tabB (L : List UInt8) : Bool := (decide (1 ≤ L.length) && decide (L.length ≤ 16)) && L.all alnum
def keyB (L : List UInt8) : Bool := decide (1 ≤ L.length) && decide (L.length ≤ 64)
def valueB (L : List UInt8) : Bool := decide (L.length ≤ 256)

theorem tab_bad {L : List UInt8} {k : Nat} (hk : k < L.length) (h : alnum L[k] = false) : tabB L = false := by
  unfold tabB
  have : L.all alnum = false := by
    rw [List.all_eq_false]
    exact ⟨L[k], List.getElem_mem hk, by rw [h]; simp⟩
  rw [this, Bool.and_false]
theorem tab_end {L : List UInt8} (h : ∀ j (hj : j < L.length), alnum L[j] = true) : tabB L = (decide (1 ≤ L.length) && decide (L.length ≤ 16)) := by
  unfold tabB
  have : L.all alnum = true := by
    rw [List.all_eq_true]
    intro x hx
    obtain ⟨j, hj, rfl⟩ := List.mem_iff_getElem.1 hx
    exact h j hj
  rw [this, Bool.and_true]

/-- A byte that goes as it is. -/
def plainB (c : UInt8) : Bool := decide (33 ≤ c.toNat) && decide (c.toNat ≤ 126) && decide (c.toNat ≠ 37) && decide (c.toNat ≠ 44) && decide (c.toNat ≠ 59)
/-- A digit to the base 16. -/
def dig (n : Nat) : UInt8 := if n < 10 then UInt8.ofNat (48 + n) else UInt8.ofNat (55 + n)
/-- A byte's text. -/
def esc (c : UInt8) : List UInt8 := if plainB c = true then [c] else [37, dig (c.toNat / 16), dig (c.toNat % 16)]
def body (b : List UInt8) : List UInt8 := b.flatMap esc
def txt (b : List UInt8) : List UInt8 := if b = [] then [37] else body b

theorem body_nil : body [] = [] := rfl
theorem body_cons (c : UInt8) (b : List UInt8) : body (c :: b) = esc c ++ body b := rfl
theorem body_append (a b : List UInt8) : body (a ++ b) = body a ++ body b := by simp [body]
theorem body_snoc (a : List UInt8) (c : UInt8) : body (a ++ [c]) = body a ++ esc c := by simp [body]
theorem esc_len (c : UInt8) : 1 ≤ (esc c).length ∧ (esc c).length ≤ 3 := by
  unfold esc
  split <;> simp
theorem body_len : ∀ (b : List UInt8), b.length ≤ (body b).length ∧ (body b).length ≤ 3 * b.length
  | [] => by simp [body]
  | c :: b => by
    have := body_len b
    have := esc_len c
    rw [body_cons, List.length_append, List.length_cons]
    omega
theorem txt_len (b : List UInt8) : (txt b).length ≤ 3 * b.length + 1 := by
  unfold txt
  split
  · simp
  · have := body_len b; omega

theorem dig_nat {n : Nat} (h : n < 16) : (dig n).toNat = if n < 10 then 48 + n else 55 + n := by
  unfold dig
  split
  · rw [UInt8.toNat_ofNat_of_lt' (by have : UInt8.size = 256 := rfl; omega)]
  · rw [UInt8.toNat_ofNat_of_lt' (by have : UInt8.size = 256 := rfl; omega)]

/-- What a digit stands for, if it is one. -/
def hexV (c : UInt8) : Option Nat := if 48 ≤ c.toNat ∧ c.toNat ≤ 57 then some (c.toNat - 48) else if 65 ≤ c.toNat ∧ c.toNat ≤ 70 then some (c.toNat - 55) else none

theorem hex_lt {c : UInt8} {n : Nat} (h : hexV c = some n) : n < 16 := by
  unfold hexV at h
  split at h
  · simp at h; omega
  · split at h
    · simp at h; omega
    · simp at h
theorem hex_dig {n : Nat} (h : n < 16) : hexV (dig n) = some n := by
  unfold hexV
  rw [dig_nat h]
  by_cases h1 : n < 10
  · rw [if_pos h1, if_pos (by omega)]
    congr 1
    omega
  · rw [if_neg h1, if_neg (by omega), if_pos (by omega)]
    congr 1
    omega
theorem dig_hex {c : UInt8} {n : Nat} (h : hexV c = some n) : dig n = c := by
  have hlt := hex_lt h
  apply UInt8.toNat_inj.1
  rw [dig_nat hlt]
  unfold hexV at h
  split at h
  · simp at h
    subst h
    rw [if_pos (by omega)]
    omega
  · split at h
    · simp at h
      subst h
      rw [if_neg (by omega)]
      omega
    · simp at h

/-- The byte of two digits. -/
def two (a b : Nat) : UInt8 := UInt8.ofNat (16 * a + b)
theorem two_nat {a b : Nat} (ha : a < 16) (hb : b < 16) : (two a b).toNat = 16 * a + b := by
  unfold two
  rw [UInt8.toNat_ofNat_of_lt' (by have : UInt8.size = 256 := rfl; omega)]

/-- The byte that a text begins with, and how many bytes say it; 0: none. -/
def first : List UInt8 → UInt8 × Nat
  | [] => (0, 0)
  | x :: r => if plainB x = true then (x, 1) else if x.toNat ≠ 37 then (0, 0) else match r with
    | h :: l :: _ => match hexV h, hexV l with
      | some a, some b => if plainB (two a b) = true then (0, 0) else (two a b, 3)
      | _, _ => (0, 0)
    | _ => (0, 0)

theorem first_esc (c : UInt8) (r : List UInt8) : first (esc c ++ r) = (c, (esc c).length) := by
  unfold esc
  by_cases h : plainB c = true
  · rw [if_pos h]
    simp [first, h]
  · rw [if_neg h]
    have h1 : c.toNat / 16 < 16 := by have := UInt8.toNat_lt c; omega
    have h2 : c.toNat % 16 < 16 := by omega
    have e : two (c.toNat / 16) (c.toNat % 16) = c := UInt8.toNat_inj.1 (by rw [two_nat h1 h2]; omega)
    have h37 : plainB 37 = false := by decide
    simp only [List.cons_append, List.nil_append, first, hex_dig h1, hex_dig h2, e, h37]
    simp [h]

/-- What a text begins with is its text. -/
theorem first_some {s : List UInt8} {c : UInt8} {k : Nat} (h : first s = (c, k)) (hk : k ≠ 0) : s = esc c ++ s.drop k ∧ k ≤ s.length ∧ k ≤ 3 := by
  cases s with
  | nil => simp [first] at h; omega
  | cons x r =>
    simp only [first] at h
    by_cases h1 : plainB x = true
    · rw [if_pos h1] at h
      simp at h
      obtain ⟨rfl, rfl⟩ := h
      unfold esc
      rw [if_pos h1]
      simp
    · rw [if_neg h1] at h
      by_cases h2 : x.toNat ≠ 37
      · rw [if_pos h2] at h
        simp at h; omega
      · rw [if_neg h2] at h
        have hx : x = 37 := UInt8.toNat_inj.1 (by have : (37 : UInt8).toNat = 37 := rfl; omega)
        subst hx
        match r, h with
        | [], h => simp at h; omega
        | [_], h => simp at h; omega
        | a :: b :: t, h =>
          simp only at h
          cases ha : hexV a with
          | none => rw [ha] at h; simp at h; omega
          | some na =>
            cases hb : hexV b with
            | none => rw [ha, hb] at h; simp at h; omega
            | some nb =>
              rw [ha, hb] at h
              simp only at h
              by_cases hp : plainB (two na nb) = true
              · rw [if_pos hp] at h; simp at h; omega
              · rw [if_neg hp] at h
                simp at h
                obtain ⟨rfl, rfl⟩ := h
                unfold esc
                rw [if_neg hp, two_nat (hex_lt ha) (hex_lt hb)]
                have l1 := hex_lt ha
                have l2 := hex_lt hb
                have e1 : (16 * na + nb) / 16 = na := by omega
                have e2 : (16 * na + nb) % 16 = nb := by omega
                rw [e1, e2, dig_hex ha, dig_hex hb]
                simp

/-- What begins as a text of bytes goes on as one. -/
theorem body_prefix : ∀ {b c rest : List UInt8}, body b ++ rest = body c → ∃ d, rest = body d
  | [], c, rest, h => ⟨c, by simpa [body] using h⟩
  | x :: b, [], rest, h => by
    rw [body_cons] at h
    have := esc_len x
    have hl := congrArg List.length h
    rw [body_nil, List.length_append, List.length_append, List.length_nil] at hl
    omega
  | x :: b, y :: c, rest, h => by
    rw [body_cons, body_cons, List.append_assoc] at h
    have h1 := first_esc x (body b ++ rest)
    rw [h, first_esc] at h1
    simp at h1
    obtain ⟨rfl, _⟩ := h1
    exact body_prefix (List.append_cancel_left h)

/-- What begins with no byte's text is no text. -/
theorem first_none {s d : List UInt8} (h : (first s).2 = 0) (hs : s ≠ []) : s ≠ body d := by
  rintro rfl
  cases d with
  | nil => exact hs rfl
  | cons c d =>
    rw [body_cons, first_esc] at h
    have h1 := (esc_len c).1
    rw [show (c, (esc c).length).2 = (esc c).length from rfl] at h
    omega

/-- What a digit is worth in the document, whatever byte it is. -/
def val (c : UInt8) : Nat := if 65 ≤ c.toNat ∧ c.toNat ≤ 70 then c.toNat - 55 else (c.toNat + 208) % 256
theorem val_dig {n : Nat} (h : n < 16) : val (dig n) = n := by
  unfold val
  rw [dig_nat h]
  by_cases h1 : n < 10
  · rw [if_pos h1, if_neg (by omega)]; omega
  · rw [if_neg h1, if_pos (by omega)]; omega
def loose2 (h l : UInt8) : UInt8 := UInt8.ofNat ((16 * val h % 256 + val l) % 256)

/-- The document's reading: whatever stands behind a '%' as digits. -/
def ld : List UInt8 → List UInt8
  | [] => []
  | [x] => [x]
  | [x, y] => x :: ld [y]
  | x :: h :: l :: t => if x.toNat = 37 then loose2 h l :: ld t else x :: ld (h :: l :: t)

theorem ld_two {s : List UInt8} {i : Nat} (hi : i + 2 < s.length) (h : s[i].toNat = 37) : ld (s.drop i) = loose2 s[i + 1] s[i + 2] :: ld (s.drop (i + 3)) := by
  have e : s.drop i = s[i] :: s[i + 1] :: s[i + 2] :: s.drop (i + 3) := by
    rw [List.drop_eq_getElem_cons (by omega), List.drop_eq_getElem_cons (by omega : i + 1 < s.length), List.drop_eq_getElem_cons (by omega : i + 2 < s.length)]
  rw [e, ld, if_pos h]
theorem ld_one {s : List UInt8} {i : Nat} (hi : i < s.length) (h : ¬ (s[i].toNat = 37 ∧ i + 2 < s.length)) : ld (s.drop i) = s[i] :: ld (s.drop (i + 1)) := by
  rw [List.drop_eq_getElem_cons hi]
  have hl : (s.drop (i + 1)).length = s.length - (i + 1) := List.length_drop
  match e : s.drop (i + 1), hl with
  | [], _ => rw [ld, ld]
  | [y], _ => simp [ld]
  | a :: b :: t, hl =>
    have : i + 2 < s.length := by simp at hl; omega
    rw [ld, if_neg (fun e => h ⟨e, this⟩)]

theorem ld_body : ∀ (b : List UInt8), ld (body b) = b
  | [] => by rw [body_nil, ld]
  | c :: b => by
    have ih := ld_body b
    rw [body_cons]
    unfold esc
    by_cases h : plainB c = true
    · rw [if_pos h]
      have h37 : ¬ c.toNat = 37 := by
        intro e
        simp [plainB, e] at h
      have := ld_one (s := [c] ++ body b) (i := 0) (by simp) (fun e => h37 (by simpa using e.1))
      simp only [List.drop_zero] at this
      rw [this]
      simp [ih]
    · rw [if_neg h]
      simp only [List.cons_append, List.nil_append]
      rw [ld, if_pos (by rfl), ih]
      have h1 : c.toNat / 16 < 16 := by have := UInt8.toNat_lt c; omega
      have h2 : c.toNat % 16 < 16 := by omega
      congr 1
      unfold loose2
      rw [val_dig h1, val_dig h2]
      apply UInt8.toNat_inj.1
      have := UInt8.toNat_lt c
      rw [UInt8.toNat_ofNat_of_lt' (by have : UInt8.size = 256 := rfl; omega)]
      omega

/-- What a text is read as, and the error's number. -/
def readL (s : List UInt8) : List UInt8 := if s ≠ [37] ∧ s ≠ [] ∧ body (ld s) = s then ld s else []
def readE (s : List UInt8) : Int := if s ≠ [37] ∧ ¬ (s ≠ [] ∧ body (ld s) = s) then 4 else 0

theorem read_mark : readL [37] = [] ∧ readE [37] = 0 := by
  unfold readL readE
  rw [if_neg (fun h => h.1 rfl), if_neg (fun h => h.1 rfl)]
  exact ⟨rfl, rfl⟩
theorem read_ok {s b : List UInt8} (h : s ≠ [37]) (hb : b ≠ []) (e : s = body b) : readL s = b ∧ readE s = 0 := by
  have hs : s ≠ [] := by
    rintro rfl
    have := (body_len b).1
    rw [← e] at this
    exact hb (List.eq_nil_of_length_eq_zero (by simpa using this))
  have el : ld s = b := by rw [e, ld_body]
  unfold readL readE
  rw [el, ← e, if_pos ⟨h, hs, rfl⟩, if_neg (fun x => x.2 ⟨hs, rfl⟩)]
  exact ⟨rfl, rfl⟩
theorem read_bad {s : List UInt8} (h : s ≠ [37]) (hb : s ≠ [] → ∀ d, s ≠ body d) : readL s = [] ∧ readE s = 4 := by
  unfold readL readE
  rw [if_neg (fun x => hb x.2.1 _ x.2.2.symm), if_pos ⟨h, fun x => hb x.1 _ x.2.symm⟩]
  exact ⟨rfl, rfl⟩
theorem read_txt (b : List UInt8) : readL (txt b) = b ∧ readE (txt b) = 0 := by
  unfold txt
  by_cases hb : b = []
  · rw [if_pos hb, hb]
    exact read_mark
  · rw [if_neg hb]
    refine read_ok (fun e => ?_) hb rfl
    cases b with
    | nil => exact hb rfl
    | cons c b =>
      rw [body_cons] at e
      have h1 := first_esc c (body b)
      rw [e] at h1
      have := esc_len c
      have h37 : plainB 37 = false := by decide
      simp [first, h37] at h1
      omega
end Go.Proofs.Ytahpkgglkibikaa
