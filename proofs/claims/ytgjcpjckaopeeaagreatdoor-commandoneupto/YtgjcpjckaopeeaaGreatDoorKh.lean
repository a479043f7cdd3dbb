/-
  Texts of commands on plain lists. Nothing of the program is named.
-/
import Derived.Test.YtgjcpjckaopeeaaGreatDoorKa
import Derived.Test.YtgjcpjckaopeeaaGreatDoorCallsBp
import Derived.Lib.ParseIntB
namespace Go.Proofs.YtgjcpjckaopeeaaGreatDoor
open Go.RowKit
open _root_.Go.Proofs.YtgjcpjckaopeeaaGreatDoor.Calls

/- Numerals. -/
theorem dec_len : ∀ (k u : Nat), u < 10 ^ (k + 1) → (Lib.decDigits u).length ≤ k + 1
  | 0, u, h => by rw [Lib.decDigits_one (by simpa using h)]; simp
  | k + 1, u, h => by
    rw [Lib.decDigits]
    split
    · simp
    · rw [List.length_append]
      have := dec_len k (u / 10) (by rw [Nat.div_lt_iff_lt_mul (by decide)]; rw [Nat.pow_succ] at h; exact h)
      simp; omega
theorem itoa_len {n : Int} (h0 : -9223372036854775808 ≤ n) (h1 : n ≤ 9223372036854775807) : (Lib.itoa n).length ≤ 21 := by
  unfold Lib.itoa
  split
  · have := dec_len 19 n.natAbs (by omega)
    simp; omega
  · have := dec_len 19 n.toNat (by omega)
    omega
theorem pi_in {l : List UInt8} {v : Int} (h : Lib.parseIntB 64 l = .ok v) : -9223372036854775808 ≤ v ∧ v ≤ 9223372036854775807 := by
  unfold Lib.parseIntB at h
  cases l with
  | nil => cases h
  | cons c r =>
    simp only at h
    split at h
    · cases h
    · cases h
    · split at h
      · cases h
      · split at h
        · cases h
        · rename_i u hu h1 h2
          simp only [Lib.NumEnd.ok.injEq] at h
          subst h
          by_cases hc : c.toNat = 45
          · rw [if_pos hc]
            simp [hc] at h2
            omega
          · rw [if_neg hc]
            simp [hc] at h1
            omega

def pInt (x : Bs) : Option Int := match Lib.parseIntB 64 x with | .ok v => if Lib.itoa v = x then some v else none | _ => none
theorem pInt_inv {x : Bs} {v : Int} (h : pInt x = some v) : x = Lib.itoa v ∧ -9223372036854775808 ≤ v ∧ v ≤ 9223372036854775807 := by
  unfold pInt at h
  split at h
  · rename_i u hu
    split at h
    · rename_i e
      simp at h
      subst h
      exact ⟨e.symm, pi_in hu⟩
    · cases h
  · cases h
theorem pInt_nil : pInt [] = none := rfl

/- Words. -/
def wordK (k : Int) : Bs := if k = 1 then [111, 112, 101, 110] else if k = 2 then [99, 97, 108, 108] else if k = 3 then [99, 108, 111, 115, 101] else if k = 4 then [101, 120, 112, 105, 114, 101] else []
def tailW (c : PCmd) : List Bs := (numsC c).map Lib.itoa ++ (if c.kind = 2 then [callTxt c.ops] else [])
def wordsC (c : PCmd) : List Bs := wordK c.kind :: tailW c
def textC (c : PCmd) : Bs := Lib.join (wordsC c) [32]
def wNx (L : List Bs) : Bs × List Bs := match L with | [] => ([], []) | x :: r => (x, r)
def kindOf (x : Bs) : Int := if x = wordK 1 then 1 else if x = wordK 2 then 2 else if x = wordK 3 then 3 else if x = wordK 4 then 4 else 0
def numW (L : List Bs) : Option (Int × List Bs) := (pInt (wNx L).1).map fun v => (v, (wNx L).2)
def finW (c : PCmd) (L : List Bs) : Option PCmd := if L = [] ∧ okC c = true then some c else none
def callW (s n m : Int) (L : List Bs) : Option PCmd := if (parseC (wNx L).1).2 = 0 then finW ⟨2, 0, s, n, m, (parseC (wNx L).1).1⟩ (wNx L).2 else none
def pWords (L : List Bs) : Option PCmd :=
  if kindOf (wNx L).1 = 1 then (numW (wNx L).2).bind fun t => finW ⟨1, t.1, 0, 0, 0, []⟩ t.2
  else if kindOf (wNx L).1 = 2 then (numW (wNx L).2).bind fun s => (numW s.2).bind fun n => (numW n.2).bind fun m => callW s.1 n.1 m.1 m.2
  else if kindOf (wNx L).1 = 3 ∨ kindOf (wNx L).1 = 4 then (numW (wNx L).2).bind fun s => finW ⟨kindOf (wNx L).1, 0, s.1, 0, 0, []⟩ s.2
  else none
def cutN (s : Bs) : List Bs := Lib.splitK [32] 0 (min 5 (s.length + 1) - 1) s
def pTxt (s : Bs) : Option PCmd := pWords (cutN s)
def parseM (s : Bs) : PCmd × Int := match pTxt s with | some c => (c, 0) | none => (zeroC, 4)

theorem numW_inv {L : List Bs} {x : Int × List Bs} (h : numW L = some x) : L = Lib.itoa x.1 :: x.2 ∧ -9223372036854775808 ≤ x.1 ∧ x.1 ≤ 9223372036854775807 := by
  unfold numW at h
  cases L with
  | nil => simp [wNx, pInt_nil] at h
  | cons a r =>
    simp only [wNx] at h
    cases hp : pInt a with
    | none => rw [hp] at h; cases h
    | some v =>
      rw [hp] at h
      simp at h
      subst h
      obtain ⟨e, b⟩ := pInt_inv hp
      exact ⟨by rw [e], b⟩
theorem callTxt_len {l : List POp} (h : chk l = 0) : (callTxt l).length ≤ 12288 := callTxt_three h
theorem textC_len {c : PCmd} (h : okC c = true) (hi : InC c) : (textC c).length ≤ 13000 := by
  have hk := fitC_kind (okC_fit h)
  have ht := itoa_len hi.t0 hi.t1
  have hs := itoa_len hi.s0 hi.s1
  have hn := itoa_len hi.n0 hi.n1
  have hm := itoa_len hi.m0 hi.m1
  unfold textC wordsC tailW numsC
  rcases (show c.kind = 1 ∨ c.kind = 2 ∨ c.kind = 3 ∨ c.kind = 4 by omega) with e | e | e | e
  · rw [e]; simp [join_two, join_one, wordK]; omega
  · have := callTxt_len (okC_chk h e)
    rw [e]; simp [join_two, join_one, wordK]; omega
  · rw [e]; simp [join_two, join_one, wordK]; omega
  · rw [e]; simp [join_two, join_one, wordK]; omega
end Go.Proofs.YtgjcpjckaopeeaaGreatDoor
