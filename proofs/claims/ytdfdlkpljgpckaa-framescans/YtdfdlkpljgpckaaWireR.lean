/-
  The reader's methods: Number, Signed, Flag, Bytes: what each answers of the bytes before it, and where the reader is behind the call.
-/
import Derived.Test.YtdfdlkpljgpckaaWireF
namespace Go.Proofs.Ytdfdlkpljgpckaa.Wire
open Go.RowKit

/-- What Number answers: the number, the error's number, what is left. -/
def rdNum (L : List UInt8) : Nat × Int × List UInt8 := match scan 0 0 L with
  | none => (0, 4, L)
  | some (n, k) => (n, 0, L.drop k)

theorem rdNum_none {L : List UInt8} (h : scan 0 0 L = none) : rdNum L = (0, 4, L) := by simp [rdNum, h]
theorem rdNum_some {L : List UInt8} {n k : Nat} (h : scan 0 0 L = some (n, k)) : rdNum L = (n, 0, L.drop k) := by simp [rdNum, h]

theorem rdNum_lt (L : List UInt8) : (rdNum L).1 < 2 ^ 64 := by
  cases h : scan 0 0 L with
  | none => rw [rdNum_none h]; show 0 < 2 ^ 64; decide
  | some x => obtain ⟨n, k⟩ := x; rw [rdNum_some h]; exact (scan_bound L 0 0 (by omega) (by simp) n k h).1

def unfoldZ (n : Nat) : Int := if n % 2 = 1 then -((n / 2 : Nat) : Int) - 1 else ((n / 2 : Nat) : Int)

theorem seg_alloc {w : World} {v : Value} {L : List UInt8} (h : Seg w v L) (x : Obj) : Seg (w.alloc x) v L := h.grown (World.grownBy_alloc w x none)

theorem Seg.shape {w : World} {v : Value} {L : List UInt8} (h : Seg w v L) : ∃ ao cap, v = .slice ao L.length cap := by obtain ⟨ao, cap, h, _⟩ := h; exact ⟨ao, cap, h⟩

/-- What Flag answers. -/
def rdFlag (L : List UInt8) : Bool × Int × List UInt8 := match L with
  | [] => (false, 4, [])
  | c :: l => if 1 < c.toNat then (false, 4, c :: l) else (c.toNat == 1, 0, l)

theorem seg_one_cell {w : World} {v : Value} {c : UInt8} (h : Seg w v [c]) : ∃ b off cap, v = .slice (some ⟨b, off, none⟩) 1 cap ∧ w.cell? ⟨b, off, none⟩ = some (.int .u8 (c.toNat : Int)) := by
  obtain ⟨ao, cap, rfl, h1, h2, h3, h4⟩ := h
  obtain ⟨bb, off, rfl, hc⟩ := h4 0 (by simp)
  exact ⟨bb, off, cap, rfl, by simpa using hc⟩

theorem ret_flag {a b : Bool} {c : Int} (h : a = b) : Ending.returned (.tuple #[.bool a, .int .i64 c]) = .returned (.tuple #[.bool b, .int .i64 c]) := by rw [h]

/-- What count answers: how many there are, the error's number, how many bytes it took. -/
def rdCount (L : List UInt8) (most : Int) : Nat × Int × List UInt8 :=
  if most < 0 then (0, 2, L) else match scan 0 0 L with
    | none => (0, 4, L)
    | some (n, k) => if most < (n : Int) then (0, 3, L.drop k) else (n, 0, L.drop k)

/-- What Bytes answers. -/
def rdBytes (L : List UInt8) (most : Int) : List UInt8 × Int × List UInt8 :=
  if (rdCount L most).2.1 ≠ 0 then ([], (rdCount L most).2.1, L) else
    if (rdCount L most).2.2.length < (rdCount L most).1 then ([], 4, L) else
      ((rdCount L most).2.2.take (rdCount L most).1, 0, (rdCount L most).2.2.drop (rdCount L most).1)

end Go.Proofs.Ytdfdlkpljgpckaa.Wire
