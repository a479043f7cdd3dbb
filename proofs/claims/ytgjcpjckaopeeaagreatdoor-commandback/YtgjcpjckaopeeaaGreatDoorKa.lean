/-
  Commands on plain lists: which may be, their forms, their texts, and how both are read. Nothing of the program is named.
-/
import Derived.Test.YtgjcpjckaopeeaaGreatDoorCallsP
import Derived.Test.YtgjcpjckaopeeaaGreatDoorWireAll
namespace Go.Proofs.YtgjcpjckaopeeaaGreatDoor
open Go.RowKit
open _root_.Go.Proofs.YtgjcpjckaopeeaaGreatDoor.Calls

theorem chk0 {l : List POp} (h : chk l = 0) : mayCall l = true ∧ (callForm l).length ≤ 4096 := by
  unfold chk at h
  split at h
  · split at h
    · exact ⟨by assumption, by assumption⟩
    · omega
  · omega

/-- A command. -/
structure PCmd where
  kind : Int
  token : Int
  session : Int
  number : Int
  mark : Int
  ops : List POp
deriving DecidableEq

def zeroC : PCmd := ⟨0, 0, 0, 0, 0, []⟩
/-- What the command has in the fields that its kind names. -/
def namedC (c : PCmd) : PCmd :=
  if c.kind = 1 then ⟨c.kind, c.token, 0, 0, 0, []⟩
  else if c.kind = 2 then ⟨c.kind, 0, c.session, c.number, c.mark, c.ops⟩
  else if c.kind = 3 ∨ c.kind = 4 then ⟨c.kind, 0, c.session, 0, 0, []⟩
  else ⟨c.kind, 0, 0, 0, 0, []⟩
def idC (c : PCmd) : Option Int := if c.kind = 1 then some c.token else if c.kind = 2 ∨ c.kind = 3 ∨ c.kind = 4 then some c.session else none
def idOk (c : PCmd) : Bool := match idC c with | some n => decide (1 ≤ n) | none => false
def markOk (c : PCmd) : Bool := decide (c.kind = 2 → 0 ≤ c.mark ∧ c.mark < c.number)
def fitC (c : PCmd) : Bool := idOk c && markOk c && decide (c = namedC c)
/-- May the command be? -/
def okC (c : PCmd) : Bool := fitC c && decide (c.kind = 2 → chk c.ops = 0)
def chkC (c : PCmd) : Int := if okC c = true then 0 else 2

structure InC (c : PCmd) : Prop where
  k0 : -9223372036854775808 ≤ c.kind
  k1 : c.kind ≤ 9223372036854775807
  t0 : -9223372036854775808 ≤ c.token
  t1 : c.token ≤ 9223372036854775807
  s0 : -9223372036854775808 ≤ c.session
  s1 : c.session ≤ 9223372036854775807
  n0 : -9223372036854775808 ≤ c.number
  n1 : c.number ≤ 9223372036854775807
  m0 : -9223372036854775808 ≤ c.mark
  m1 : c.mark ≤ 9223372036854775807

/- The form. -/
def sgn (n : Int) : Bs := Wire.numForm (Wire.foldZ n)
def headC (c : PCmd) : Bs := Wire.numForm c.kind.toNat
def numsC (c : PCmd) : List Int := if c.kind = 1 then [c.token] else if c.kind = 2 then [c.session, c.number, c.mark] else if c.kind = 3 ∨ c.kind = 4 then [c.session] else []
def frontC (c : PCmd) : Bs := headC c ++ (numsC c).flatMap sgn
def formC (c : PCmd) : Bs := frontC c ++ (if c.kind = 2 then bytesForm (callForm c.ops) else [])

theorem okC_fit {c : PCmd} (h : okC c = true) : fitC c = true := by unfold okC at h; simp only [Bool.and_eq_true] at h; exact h.1
theorem okC_chk {c : PCmd} (h : okC c = true) (hk : c.kind = 2) : chk c.ops = 0 := by unfold okC at h; simp only [Bool.and_eq_true, decide_eq_true_eq] at h; exact h.2 hk
theorem fitC_kind {c : PCmd} (h : fitC c = true) : 1 ≤ c.kind ∧ c.kind ≤ 4 := by
  unfold fitC idOk idC at h
  simp only [Bool.and_eq_true] at h
  have h1 := h.1.1
  split at h1
  · rename_i n hn
    split at hn
    · omega
    · split at hn
      · omega
      · cases hn
  · cases h1
theorem fitC_named {c : PCmd} (h : fitC c = true) : c = namedC c := by unfold fitC at h; simp only [Bool.and_eq_true, decide_eq_true_eq] at h; exact h.2

/- Reading forms. -/
def pSgn (L : Bs) : Option (Int × Bs) := (pNum 18446744073709551615 L).map fun x => (Wire.unfoldZ x.1, x.2)
def finC (c : PCmd) (M : Bs) : Option PCmd := if M = [] ∧ okC c = true then some c else none
def pCmd (L : Bs) : Option PCmd := (pNum 4 L).bind fun k =>
  if k.1 = 1 then (pSgn k.2).bind fun t => finC ⟨1, t.1, 0, 0, 0, []⟩ t.2
  else if k.1 = 2 then (pSgn k.2).bind fun s => (pSgn s.2).bind fun n => (pSgn n.2).bind fun m => (pBytes 4096 m.2).bind fun b => (pCall b.1).bind fun l => finC ⟨2, 0, s.1, n.1, m.1, l⟩ b.2
  else if k.1 = 3 ∨ k.1 = 4 then (pSgn k.2).bind fun s => finC ⟨k.1, 0, s.1, 0, 0, []⟩ s.2
  else none

theorem fold_unfold (n : Nat) : Wire.foldZ (Wire.unfoldZ n) = n := by
  unfold Wire.unfoldZ Wire.foldZ; split <;> split <;> omega
theorem pSgn_form {n : Int} (h0 : -9223372036854775808 ≤ n) (h1 : n ≤ 9223372036854775807) (M : Bs) : pSgn (sgn n ++ M) = some (n, M) := by
  unfold pSgn sgn
  have := Wire.foldZ_lt n h0 h1
  rw [pNum_form (by omega) (by decide)]
  simp [Wire.unfold_fold]
theorem pSgn_inv {n : Int} {L M : Bs} (h : pSgn L = some (n, M)) : L = sgn n ++ M := by
  unfold pSgn at h
  cases hx : pNum 18446744073709551615 L with
  | none => rw [hx] at h; cases h
  | some x =>
    rw [hx] at h
    simp at h
    obtain ⟨rfl, rfl⟩ := h
    unfold sgn
    rw [fold_unfold]
    exact (pNum_inv (n := x.1) (M := x.2) hx).1
theorem unfold_in {n : Nat} (h : n ≤ 18446744073709551615) : -9223372036854775808 ≤ Wire.unfoldZ n ∧ Wire.unfoldZ n ≤ 9223372036854775807 := by
  unfold Wire.unfoldZ; split <;> omega
theorem pSgn_in {n : Int} {L M : Bs} (h : pSgn L = some (n, M)) : -9223372036854775808 ≤ n ∧ n ≤ 9223372036854775807 := by
  unfold pSgn at h
  cases hx : pNum 18446744073709551615 L with
  | none => rw [hx] at h; cases h
  | some x =>
    rw [hx] at h
    simp at h
    obtain ⟨rfl, rfl⟩ := h
    exact unfold_in (pNum_inv (n := x.1) (M := x.2) hx).2
theorem pCmd_form {c : PCmd} (h : okC c = true) (hi : InC c) : pCmd (formC c) = some c := by
  have hk := fitC_kind (okC_fit h)
  have hn := fitC_named (okC_fit h)
  unfold pCmd formC frontC headC numsC
  by_cases h1 : c.kind = 1
  · have e : c = ⟨1, c.token, 0, 0, 0, []⟩ := by rw [hn, namedC, if_pos h1]; simp [h1]
    rw [if_pos h1, if_neg (by omega), h1]
    simp only [List.flatMap_cons, List.flatMap_nil, List.append_nil]
    rw [pNum_form (by decide) (by decide)]
    simp only [Option.bind_some]
    rw [if_pos (by decide)]
    have := pSgn_form hi.t0 hi.t1 []
    rw [List.append_nil] at this
    rw [this]
    simp only [Option.bind_some]
    rw [← e, finC, if_pos ⟨rfl, h⟩]
  · rw [if_neg h1]
    by_cases h2 : c.kind = 2
    · have e : c = ⟨2, 0, c.session, c.number, c.mark, c.ops⟩ := by rw [hn, namedC, if_neg h1, if_pos h2]; simp [h2]
      rw [if_pos h2, if_pos h2, h2]
      simp only [List.flatMap_cons, List.flatMap_nil, List.append_nil, List.append_assoc]
      rw [pNum_form (by decide) (by decide)]
      simp only [Option.bind_some]
      rw [if_neg (by decide), if_pos (by decide), pSgn_form hi.s0 hi.s1]
      simp only [Option.bind_some]
      rw [pSgn_form hi.n0 hi.n1]
      simp only [Option.bind_some]
      rw [pSgn_form hi.m0 hi.m1]
      simp only [Option.bind_some]
      have hc := okC_chk h h2
      have hb := pBytes_form (b := callForm c.ops) (most := 4096) (chk0 hc).2 (by decide) []
      rw [List.append_nil] at hb
      rw [hb]
      simp only [Option.bind_some]
      rw [pCall_iff.2 ⟨(chk0 hc).1, rfl⟩]
      simp only [Option.bind_some]
      rw [← e, finC, if_pos ⟨rfl, h⟩]
    · have h3 : c.kind = 3 ∨ c.kind = 4 := by omega
      have e : c = ⟨c.kind, 0, c.session, 0, 0, []⟩ := by rw [hn, namedC, if_neg h1, if_neg h2, if_pos h3]
      rw [if_neg h2, if_pos h3, if_neg h2]
      simp only [List.flatMap_cons, List.flatMap_nil, List.append_nil]
      rw [pNum_form (by omega) (by decide)]
      simp only [Option.bind_some]
      rw [if_neg (by omega), if_neg (by omega), if_pos (by omega)]
      have := pSgn_form hi.s0 hi.s1 []
      rw [List.append_nil] at this
      rw [this]
      simp only [Option.bind_some]
      rw [show ((c.kind.toNat : Nat) : Int) = c.kind by omega, ← e, finC, if_pos ⟨rfl, h⟩]

/-- What Read answers. -/
def readM (b : Bs) : PCmd × Int := match pCmd b with | some c => (c, 0) | none => (zeroC, 4)
theorem readM_form {c : PCmd} (h : okC c = true) (hi : InC c) : readM (formC c) = (c, 0) := by unfold readM; rw [pCmd_form h hi]
end Go.Proofs.YtgjcpjckaopeeaaGreatDoor
