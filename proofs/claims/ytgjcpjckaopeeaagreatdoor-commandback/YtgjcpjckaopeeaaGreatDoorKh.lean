/-
  Texts of commands on plain lists. Nothing of the program is named.
-/
import Derived.Test.YtgjcpjckaopeeaaGreatDoorKa
import Derived.Test.YtgjcpjckaopeeaaGreatDoorCallsBp
import Derived.Lib.ParseIntB
namespace Go.Proofs.YtgjcpjckaopeeaaGreatDoor
open Go.RowKit
open _root_.Go.Proofs.YtgjcpjckaopeeaaGreatDoor.Calls

/- Numerals. -/
theorem dec_len : ∀ (k u : Nat), u < 10 ^ (k + 1) → (Lib.decDigits u).length ≤ k + 1
  | 0, u, h => by rw [Lib.decDigits_one (by simpa using h)]; simp
  | k + 1, u, h => by
    rw [Lib.decDigits]
    split
    · simp
    · rw [List.length_append]
      have := dec_len k (u / 10) (by rw [Nat.div_lt_iff_lt_mul (by decide)]; rw [Nat.pow_succ] at h; exact h)
      simp; omega
theorem dec_dig (u : Nat) : Lib.decDigits u ≠ [] ∧ ∀ x ∈ Lib.decDigits u, 48 ≤ x.toNat ∧ x.toNat ≤ 57 := by
  induction u using Nat.strongRecOn with
  | ind u ih =>
    rw [Lib.decDigits]
    split
    · rename_i h
      refine ⟨by simp, fun x hx => ?_⟩
      rw [List.mem_singleton.1 hx, dig_toNat h]; omega
    · rename_i h
      refine ⟨by simp, fun x hx => ?_⟩
      simp only [List.mem_append, List.mem_singleton] at hx
      rcases hx with hx | rfl
      · exact (ih (u / 10) (by omega)).2 x hx
      · rw [dig_toNat (by omega)]; omega
theorem itoa_len {n : Int} (h0 : -9223372036854775808 ≤ n) (h1 : n ≤ 9223372036854775807) : (Lib.itoa n).length ≤ 21 := by
  unfold Lib.itoa
  split
  · have := dec_len 19 n.natAbs (by omega)
    simp; omega
  · have := dec_len 19 n.toNat (by omega)
    omega
theorem itoa_no32 (n : Int) : (32 : UInt8) ∉ Lib.itoa n := by
  unfold Lib.itoa
  split
  · intro h
    simp only [List.mem_cons] at h
    rcases h with h | h
    · exact absurd h (by decide)
    · have := (dec_dig _).2 _ h
      revert this; decide
  · intro h
    have := (dec_dig _).2 _ h
    revert this; decide
theorem pu_append (M : Nat) : ∀ (L R : List UInt8) (acc : Nat), Lib.parseUintM M acc (L ++ R) = match Lib.parseUintM M acc L with | .ok a => Lib.parseUintM M a R | .range => .range | .syntax => .syntax
  | [], R, acc => by simp [Lib.parseUintM]
  | c :: L, R, acc => by
    simp only [List.cons_append, Lib.parseUintM]
    split
    · split
      · rfl
      · split
        · rfl
        · exact pu_append M L R _
    · rfl
theorem pu_dec (M : Nat) (hM : M ≤ 18446744073709551615) (u : Nat) (hu : u ≤ M) : Lib.parseUintM M 0 (Lib.decDigits u) = .ok u := by
  induction u using Nat.strongRecOn with
  | ind u ih =>
    rw [Lib.decDigits]
    split
    · rename_i h
      simp only [Lib.parseUintM]
      rw [dig_toNat h, if_pos (by omega), if_neg (by omega), if_neg (by omega)]
      congr 1; omega
    · rename_i h
      rw [pu_append, ih (u / 10) (by omega) (by omega)]
      simp only [Lib.parseUintM]
      rw [dig_toNat (by omega), if_pos (by omega), if_neg (by omega), if_neg (by omega)]
      congr 1; omega
theorem pi_dec {n : Int} (h0 : -9223372036854775808 ≤ n) (h1 : n ≤ 9223372036854775807) : Lib.parseIntB 64 (Lib.itoa n) = .ok n := by
  unfold Lib.itoa
  split
  · rename_i h
    unfold Lib.parseIntB
    simp only [show (45 : UInt8).toNat = 45 from rfl]
    simp only [or_true, if_true]
    unfold Lib.parseUintB
    rw [if_neg (dec_dig _).1, pu_dec _ (by decide) _ (by omega)]
    dsimp only
    rw [if_neg (by simp), if_neg (by simp; omega)]
    congr 1; first | omega | (split <;> omega)
  · rename_i h
    have hd := (dec_dig n.toNat)
    cases hL : Lib.decDigits n.toNat with
    | nil => exact absurd hL hd.1
    | cons c r =>
      have hc := hd.2 c (by rw [hL]; simp)
      unfold Lib.parseIntB
      simp only
      rw [if_neg (by omega), ← hL]
      unfold Lib.parseUintB
      rw [if_neg hd.1, pu_dec _ (by decide) _ (by omega)]
      simp only
      rw [if_neg (by simp; omega), if_neg (by simp; omega)]
      congr 1
      rw [if_neg (by omega)]; omega
theorem pi_in {l : List UInt8} {v : Int} (h : Lib.parseIntB 64 l = .ok v) : -9223372036854775808 ≤ v ∧ v ≤ 9223372036854775807 := by
  unfold Lib.parseIntB at h
  cases l with
  | nil => cases h
  | cons c r =>
    simp only at h
    split at h
    · cases h
    · cases h
    · split at h
      · cases h
      · split at h
        · cases h
        · rename_i u hu h1 h2
          simp only [Lib.NumEnd.ok.injEq] at h
          subst h
          by_cases hc : c.toNat = 45
          · rw [if_pos hc]
            simp [hc] at h2
            omega
          · rw [if_neg hc]
            simp [hc] at h1
            omega

def pInt (x : Bs) : Option Int := match Lib.parseIntB 64 x with | .ok v => if Lib.itoa v = x then some v else none | _ => none
theorem pInt_itoa {n : Int} (h0 : -9223372036854775808 ≤ n) (h1 : n ≤ 9223372036854775807) : pInt (Lib.itoa n) = some n := by unfold pInt; rw [pi_dec h0 h1]; simp
theorem pInt_inv {x : Bs} {v : Int} (h : pInt x = some v) : x = Lib.itoa v ∧ -9223372036854775808 ≤ v ∧ v ≤ 9223372036854775807 := by
  unfold pInt at h
  split at h
  · rename_i u hu
    split at h
    · rename_i e
      simp at h
      subst h
      exact ⟨e.symm, pi_in hu⟩
    · cases h
  · cases h
theorem pInt_nil : pInt [] = none := rfl

/- Words. -/
def wordK (k : Int) : Bs := if k = 1 then [111, 112, 101, 110] else if k = 2 then [99, 97, 108, 108] else if k = 3 then [99, 108, 111, 115, 101] else if k = 4 then [101, 120, 112, 105, 114, 101] else []
def tailW (c : PCmd) : List Bs := (numsC c).map Lib.itoa ++ (if c.kind = 2 then [callTxt c.ops] else [])
def wordsC (c : PCmd) : List Bs := wordK c.kind :: tailW c
def textC (c : PCmd) : Bs := Lib.join (wordsC c) [32]
def wNx (L : List Bs) : Bs × List Bs := match L with | [] => ([], []) | x :: r => (x, r)
def kindOf (x : Bs) : Int := if x = wordK 1 then 1 else if x = wordK 2 then 2 else if x = wordK 3 then 3 else if x = wordK 4 then 4 else 0
def numW (L : List Bs) : Option (Int × List Bs) := (pInt (wNx L).1).map fun v => (v, (wNx L).2)
def finW (c : PCmd) (L : List Bs) : Option PCmd := if L = [] ∧ okC c = true then some c else none
def callW (s n m : Int) (L : List Bs) : Option PCmd := if (parseC (wNx L).1).2 = 0 then finW ⟨2, 0, s, n, m, (parseC (wNx L).1).1⟩ (wNx L).2 else none
def pWords (L : List Bs) : Option PCmd :=
  if kindOf (wNx L).1 = 1 then (numW (wNx L).2).bind fun t => finW ⟨1, t.1, 0, 0, 0, []⟩ t.2
  else if kindOf (wNx L).1 = 2 then (numW (wNx L).2).bind fun s => (numW s.2).bind fun n => (numW n.2).bind fun m => callW s.1 n.1 m.1 m.2
  else if kindOf (wNx L).1 = 3 ∨ kindOf (wNx L).1 = 4 then (numW (wNx L).2).bind fun s => finW ⟨kindOf (wNx L).1, 0, s.1, 0, 0, []⟩ s.2
  else none
def cutN (s : Bs) : List Bs := Lib.splitK [32] 0 (min 5 (s.length + 1) - 1) s
def pTxt (s : Bs) : Option PCmd := pWords (cutN s)
def parseM (s : Bs) : PCmd × Int := match pTxt s with | some c => (c, 0) | none => (zeroC, 4)

theorem finW_some {c d : PCmd} {L : List Bs} (h : finW c L = some d) : c = d ∧ L = [] ∧ okC d = true := by
  unfold finW at h
  split at h
  · rename_i hh
    simp at h
    subst h
    exact ⟨rfl, hh.1, hh.2⟩
  · cases h
theorem numW_inv {L : List Bs} {x : Int × List Bs} (h : numW L = some x) : L = Lib.itoa x.1 :: x.2 ∧ -9223372036854775808 ≤ x.1 ∧ x.1 ≤ 9223372036854775807 := by
  unfold numW at h
  cases L with
  | nil => simp [wNx, pInt_nil] at h
  | cons a r =>
    simp only [wNx] at h
    cases hp : pInt a with
    | none => rw [hp] at h; cases h
    | some v =>
      rw [hp] at h
      simp at h
      subst h
      obtain ⟨e, b⟩ := pInt_inv hp
      exact ⟨by rw [e], b⟩
theorem kind_word {L : List Bs} {k : Int} (h : kindOf (wNx L).1 = k) (hk : 1 ≤ k ∧ k ≤ 4) : L = wordK k :: (wNx L).2 := by
  cases L with
  | nil => revert h; simp only [wNx]; rw [show kindOf [] = 0 by decide]; omega
  | cons a r =>
    simp only [wNx] at h ⊢
    unfold kindOf at h
    split at h
    · rename_i e; subst h; rw [e]
    · split at h
      · rename_i e; subst h; rw [e]
      · split at h
        · rename_i e; subst h; rw [e]
        · split at h
          · rename_i e; subst h; rw [e]
          · omega
theorem pParse_nil : pParse [] = none := by kernel_rfl
theorem pWords_inv {L : List Bs} {c : PCmd} (h : pWords L = some c) : okC c = true ∧ InC c ∧ L = wordsC c := by
  unfold pWords at h
  split at h
  · rename_i hk
    have e0 := kind_word hk (by omega)
    cases hn : numW (wNx L).2 with
    | none => rw [hn] at h; cases h
    | some t =>
      rw [hn] at h
      simp only [Option.bind_some] at h
      obtain ⟨rfl, e1, e2⟩ := finW_some h
      obtain ⟨e3, b0, b1⟩ := numW_inv hn
      refine ⟨e2, ?_, ?_⟩
      · constructor <;> first | exact b0 | exact b1 | (dsimp only; omega)
      · rw [e0, e3, e1]; simp [wordsC, tailW, numsC]
  · split at h
    · rename_i hk1 hk
      have e0 := kind_word hk (by omega)
      cases hs : numW (wNx L).2 with
      | none => rw [hs] at h; cases h
      | some s =>
        rw [hs] at h
        simp only [Option.bind_some] at h
        cases hn : numW s.2 with
        | none => rw [hn] at h; cases h
        | some n =>
          rw [hn] at h
          simp only [Option.bind_some] at h
          cases hm : numW n.2 with
          | none => rw [hm] at h; cases h
          | some m =>
            rw [hm] at h
            simp only [Option.bind_some] at h
            unfold callW at h
            split at h
            · rename_i hp
              obtain ⟨rfl, e1, e2⟩ := finW_some h
              obtain ⟨e3, s0, s1⟩ := numW_inv hs
              obtain ⟨e4, n0, n1⟩ := numW_inv hn
              obtain ⟨e5, m0, m1⟩ := numW_inv hm
              refine ⟨e2, ?_, ?_⟩
              · constructor <;> first | exact s0 | exact s1 | exact n0 | exact n1 | exact m0 | exact m1 | (dsimp only; omega)
              · have hz : ∃ x, m.2 = [x] ∧ x = callTxt (parseC x).1 := by
                  cases hmm : m.2 with
                  | nil =>
                    exfalso
                    rw [hmm] at hp
                    simp only [wNx] at hp
                    unfold parseC at hp
                    rw [if_pos (by simp), pParse_nil] at hp
                    simp at hp
                  | cons x r =>
                    rw [hmm] at hp e1
                    simp only [wNx] at hp e1
                    subst e1
                    refine ⟨x, rfl, ?_⟩
                    unfold parseC at hp ⊢
                    split at hp
                    · rename_i hlen
                      cases hq : pParse x with
                      | none => rw [hq] at hp; simp at hp
                      | some l => rw [if_pos hlen]; exact (pParse_iff.1 hq).2
                    · simp at hp
                obtain ⟨x, hx, hx2⟩ := hz
                rw [e0, e3, e4, e5, hx]
                simp only [wNx]
                simp [wordsC, tailW, numsC]
                exact hx2
            · cases h
    · split at h
      · rename_i hk1 hk2 hk
        obtain ⟨kk, hkk⟩ : ∃ k, kindOf (wNx L).1 = k := ⟨_, rfl⟩
        rw [hkk] at h hk
        have e0 := kind_word hkk (by omega)
        cases hn : numW (wNx L).2 with
        | none => rw [hn] at h; cases h
        | some t =>
          rw [hn] at h
          simp only [Option.bind_some] at h
          obtain ⟨rfl, e1, e2⟩ := finW_some h
          obtain ⟨e3, b0, b1⟩ := numW_inv hn
          have q1 : ¬ kk = 1 := by omega
          have q2 : ¬ kk = 2 := by omega
          refine ⟨e2, ?_, ?_⟩
          · constructor <;> first | exact b0 | exact b1 | (dsimp only; omega)
          · rw [e0, e3, e1]; simp [wordsC, tailW, numsC, q1, q2, hk]
      · cases h
theorem word_no32 (k : Int) : (32 : UInt8) ∉ wordK k := by
  unfold wordK
  split
  · decide
  · split
    · decide
    · split
      · decide
      · split <;> decide
theorem kindOf_word {k : Int} (h : 1 ≤ k ∧ k ≤ 4) : kindOf (wordK k) = k := by
  rcases (show k = 1 ∨ k = 2 ∨ k = 3 ∨ k = 4 by omega) with rfl | rfl | rfl | rfl <;> decide
theorem numW_itoa {n : Int} (h0 : -9223372036854775808 ≤ n) (h1 : n ≤ 9223372036854775807) (r : List Bs) : numW (Lib.itoa n :: r) = some (n, r) := by
  unfold numW wNx; simp only; rw [pInt_itoa h0 h1]; rfl
theorem pWords_of {c : PCmd} (h : okC c = true) (hi : InC c) : pWords (wordsC c) = some c := by
  have hk := fitC_kind (okC_fit h)
  have hn := fitC_named (okC_fit h)
  have hko : kindOf (wNx (wordsC c)).1 = c.kind := kindOf_word hk
  unfold pWords
  rw [hko]
  unfold wordsC
  simp only [wNx]
  unfold tailW numsC
  by_cases h1 : c.kind = 1
  · have e : c = ⟨1, c.token, 0, 0, 0, []⟩ := by rw [hn, namedC, if_pos h1]; simp [h1]
    rw [if_pos h1, if_pos h1, if_neg (by omega)]
    simp only [List.map_cons, List.map_nil, List.append_nil]
    rw [numW_itoa hi.t0 hi.t1]
    simp only [Option.bind_some]
    rw [← e, finW, if_pos ⟨rfl, h⟩]
  · rw [if_neg h1, if_neg h1]
    by_cases h2 : c.kind = 2
    · have e : c = ⟨2, 0, c.session, c.number, c.mark, c.ops⟩ := by rw [hn, namedC, if_neg h1, if_pos h2]; simp [h2]
      rw [if_pos h2, if_pos h2, if_pos h2]
      simp only [List.map_cons, List.map_nil, List.cons_append, List.nil_append]
      rw [numW_itoa hi.s0 hi.s1]
      simp only [Option.bind_some]
      rw [numW_itoa hi.n0 hi.n1]
      simp only [Option.bind_some]
      rw [numW_itoa hi.m0 hi.m1]
      simp only [Option.bind_some]
      have hpt : parseC (wNx [callTxt c.ops]).1 = (c.ops, 0) := parseC_txt (okC_chk h h2)
      unfold callW
      rw [hpt, if_pos rfl]
      simp only [wNx]
      rw [← e, finW, if_pos ⟨rfl, h⟩]
    · have h3 : c.kind = 3 ∨ c.kind = 4 := by omega
      have e : c = ⟨c.kind, 0, c.session, 0, 0, []⟩ := by rw [hn, namedC, if_neg h1, if_neg h2, if_pos h3]
      rw [if_neg h2, if_pos h3, if_neg h2, if_pos h3, if_neg h2]
      simp only [List.map_cons, List.map_nil, List.append_nil]
      rw [numW_itoa hi.s0 hi.s1]
      simp only [Option.bind_some]
      rw [← e, finW, if_pos ⟨rfl, h⟩]
/-- A text is cut at its first blanks. -/
theorem splitK_join : ∀ (L : List Bs) (z : Bs), (∀ x ∈ L, (32 : UInt8) ∉ x) → Lib.splitK [32] 0 L.length (Lib.join (L ++ [z]) [32]) = L ++ [z]
  | [], z, _ => by rw [List.nil_append, join_one]; rfl
  | x :: L, z, h => by
    have hx := h x (by simp)
    have ih := splitK_join L z (fun y hy => h y (by simp [hy]))
    have ej : Lib.join (x :: L ++ [z]) [32] = x ++ ([32] ++ Lib.join (L ++ [z]) [32]) := by
      cases L with
      | nil => rw [List.nil_append, List.cons_append, List.nil_append, join_two]
      | cons y L => rw [List.cons_append, List.cons_append, join_two]
    rw [ej]
    have hi : Lib.index (x ++ ([32] ++ Lib.join (L ++ [z]) [32])) [32] = x.length := index_hit (s := []) hx
    rw [List.length_cons, Lib.splitK, hi]
    rw [if_neg (by simp)]
    simp only [Int.toNat_natCast, Nat.add_zero, List.take_left, List.length_cons, List.length_nil, Nat.zero_add]
    rw [show x ++ ([32] ++ Lib.join (L ++ [z]) [32]) = (x ++ [32]) ++ Lib.join (L ++ [z]) [32] by simp]
    rw [List.drop_left' (by simp), ih]
    rfl
theorem splitK_two {x z : Bs} (hx : (32 : UInt8) ∉ x) (hz : (32 : UInt8) ∉ z) (k : Nat) : Lib.splitK [32] 0 (k + 1) (Lib.join [x, z] [32]) = [x, z] := by
  rw [join_two, join_one]
  have hi : Lib.index (x ++ ([32] ++ z)) [32] = x.length := index_hit (s := []) hx
  rw [Lib.splitK, hi, if_neg (by simp)]
  simp only [Int.toNat_natCast, Nat.add_zero, List.take_left, List.length_cons, List.length_nil, Nat.zero_add]
  rw [show x ++ ([32] ++ z) = (x ++ [32]) ++ z by simp, List.drop_left' (by simp)]
  cases k with
  | zero => rfl
  | succ k => rw [Lib.splitK, index_no (s := []) hz]; simp
theorem cutN_text {c : PCmd} (h : okC c = true) : cutN (textC c) = wordsC c := by
  have hk := fitC_kind (okC_fit h)
  unfold cutN textC wordsC tailW numsC
  by_cases h1 : c.kind = 1
  · rw [if_pos h1, if_neg (by omega)]
    simp only [List.map_cons, List.map_nil, List.append_nil]
    have hl : 4 ≤ (Lib.join [wordK c.kind, Lib.itoa c.token] [32]).length := by rw [join_two, h1]; simp [wordK] <;> omega
    obtain ⟨j, hj⟩ : ∃ j, min 5 ((Lib.join [wordK c.kind, Lib.itoa c.token] [32]).length + 1) - 1 = j + 1 := ⟨min 5 ((Lib.join [wordK c.kind, Lib.itoa c.token] [32]).length + 1) - 2, by omega⟩
    rw [hj]
    exact splitK_two (word_no32 _) (itoa_no32 _) _
  · rw [if_neg h1]
    by_cases h2 : c.kind = 2
    · rw [if_pos h2, if_pos h2]
      simp only [List.map_cons, List.map_nil, List.cons_append, List.nil_append]
      have hl : 4 ≤ (Lib.join [wordK c.kind, Lib.itoa c.session, Lib.itoa c.number, Lib.itoa c.mark, callTxt c.ops] [32]).length := by rw [join_two, h2]; simp [wordK] <;> omega
      rw [show min 5 ((Lib.join [wordK c.kind, Lib.itoa c.session, Lib.itoa c.number, Lib.itoa c.mark, callTxt c.ops] [32]).length + 1) - 1 = [wordK c.kind, Lib.itoa c.session, Lib.itoa c.number, Lib.itoa c.mark].length by simp only [List.length_cons, List.length_nil]; omega]
      exact splitK_join [wordK c.kind, Lib.itoa c.session, Lib.itoa c.number, Lib.itoa c.mark] _ (by
        intro x hx
        simp only [List.mem_cons, List.not_mem_nil, or_false] at hx
        rcases hx with rfl | rfl | rfl | rfl
        · exact word_no32 _
        · exact itoa_no32 _
        · exact itoa_no32 _
        · exact itoa_no32 _)
    · have h3 : c.kind = 3 ∨ c.kind = 4 := by omega
      rw [if_neg h2, if_pos h3, if_neg h2]
      simp only [List.map_cons, List.map_nil, List.append_nil]
      have hl : 4 ≤ (Lib.join [wordK c.kind, Lib.itoa c.session] [32]).length := by rw [join_two]; rcases h3 with e | e <;> rw [e] <;> simp [wordK] <;> omega
      obtain ⟨j, hj⟩ : ∃ j, min 5 ((Lib.join [wordK c.kind, Lib.itoa c.session] [32]).length + 1) - 1 = j + 1 := ⟨min 5 ((Lib.join [wordK c.kind, Lib.itoa c.session] [32]).length + 1) - 2, by omega⟩
      rw [hj]
      exact splitK_two (word_no32 _) (itoa_no32 _) _
theorem pTxt_iff {s : Bs} {c : PCmd} : pTxt s = some c ↔ okC c = true ∧ InC c ∧ s = textC c := by
  constructor
  · intro h
    obtain ⟨h1, h2, h3⟩ := pWords_inv h
    refine ⟨h1, h2, ?_⟩
    unfold textC
    rw [← h3]
    exact (join_splitK [32] _ s).symm
  · rintro ⟨h1, h2, rfl⟩
    unfold pTxt
    rw [cutN_text h1]
    exact pWords_of h1 h2
theorem parseM_text {c : PCmd} (h : okC c = true) (hi : InC c) : parseM (textC c) = (c, 0) := by unfold parseM; rw [pTxt_iff.2 ⟨h, hi, rfl⟩]
theorem callTxt_len {l : List POp} (h : chk l = 0) : (callTxt l).length ≤ 12288 := callTxt_three h
theorem textC_len {c : PCmd} (h : okC c = true) (hi : InC c) : (textC c).length ≤ 13000 := by
  have hk := fitC_kind (okC_fit h)
  have ht := itoa_len hi.t0 hi.t1
  have hs := itoa_len hi.s0 hi.s1
  have hn := itoa_len hi.n0 hi.n1
  have hm := itoa_len hi.m0 hi.m1
  unfold textC wordsC tailW numsC
  rcases (show c.kind = 1 ∨ c.kind = 2 ∨ c.kind = 3 ∨ c.kind = 4 by omega) with e | e | e | e
  · rw [e]; simp [join_two, join_one, wordK]; omega
  · have := callTxt_len (okC_chk h e)
    rw [e]; simp [join_two, join_one, wordK]; omega
  · rw [e]; simp [join_two, join_one, wordK]; omega
  · rw [e]; simp [join_two, join_one, wordK]; omega
end Go.Proofs.YtgjcpjckaopeeaaGreatDoor
