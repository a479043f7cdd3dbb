/-
  Frames on plain lists: the header, the frame, what bytes begin with, the frames of bytes; a beginning of frames; one bit other.
-/
import Derived.Test.YtdfdlkpljgpckaaCrcAll
namespace Go.Proofs.Ytdfdlkpljgpckaa
open Crc (sum sum_lt)

/-- Four bytes, the highest first. -/
def be (n : Nat) : List UInt8 := [UInt8.ofNat (n / 16777216), UInt8.ofNat (n / 65536), UInt8.ofNat (n / 256), UInt8.ofNat n]
def unbe (a b c d : UInt8) : Nat := a.toNat * 16777216 + b.toNat * 65536 + c.toNat * 256 + d.toNat
theorem be_len (n : Nat) : (be n).length = 4 := rfl
theorem unbe_lt (a b c d : UInt8) : unbe a b c d < 4294967296 := by
  unfold unbe
  have := a.toNat_lt; have := b.toNat_lt; have := c.toNat_lt; have := d.toNat_lt
  omega
theorem unbe_be (n : Nat) (h : n < 4294967296) : unbe (UInt8.ofNat (n / 16777216)) (UInt8.ofNat (n / 65536)) (UInt8.ofNat (n / 256)) (UInt8.ofNat n) = n := by
  unfold unbe
  simp only [UInt8.toNat_ofNat']
  omega
theorem be_inj {m n : Nat} (hm : m < 4294967296) (hn : n < 4294967296) (h : be m = be n) : m = n := by
  simp only [be, List.cons.injEq, and_true] at h
  rw [← unbe_be m hm, ← unbe_be n hn, h.1, h.2.1, h.2.2.1, h.2.2.2]
theorem be_unbe (a b c d : UInt8) : be (unbe a b c d) = [a, b, c, d] := by
  have h1 := a.toNat_lt; have h2 := b.toNat_lt; have h3 := c.toNat_lt; have h4 := d.toNat_lt
  unfold be unbe
  simp only [List.cons.injEq, and_true]
  refine ⟨?_, ?_, ?_, ?_⟩ <;> (apply UInt8.toNat_inj.1; simp only [UInt8.toNat_ofNat']; omega)

/-- The five bytes ahead of the sum. -/
def pre5 (k : Nat) (n : Nat) : List UInt8 := UInt8.ofNat k :: be n
/-- The nine bytes ahead of a body. -/
def hdr (k : Nat) (L : List UInt8) : List UInt8 := pre5 k L.length ++ be (sum (pre5 k L.length ++ L))
/-- The frame. -/
def frm (k : Nat) (L : List UInt8) : List UInt8 := hdr k L ++ L
theorem pre5_len (k n : Nat) : (pre5 k n).length = 5 := rfl
theorem hdr_len (k : Nat) (L : List UInt8) : (hdr k L).length = 9 := rfl
theorem frm_len (k : Nat) (L : List UInt8) : (frm k L).length = 9 + L.length := by unfold frm; rw [List.length_append, hdr_len]

/-- The length that a header says. -/
def lenOf (L : List UInt8) : Nat := unbe (L.getD 1 0) (L.getD 2 0) (L.getD 3 0) (L.getD 4 0)
theorem lenOf_lt (L : List UInt8) : lenOf L < 4294967296 := unbe_lt _ _ _ _
/-- The body that it says. -/
def bodyOf (L : List UInt8) : List UInt8 := (L.drop 9).take (lenOf L)
def kindOf (L : List UInt8) : Nat := (L.getD 0 0).toNat
theorem kindOf_lt (L : List UInt8) : kindOf L < 256 := UInt8.toNat_lt _

/-- How a header says that bytes end, whatever its sum is. -/
def spl (L : List UInt8) : Nat := if L.length < 9 then 140 else if 2147483647 < lenOf L then 141 else if L.length - 9 < lenOf L then 140 else 0
/-- How bytes end, as no frame is a beginning of them; 0: one is. -/
def code (L : List UInt8) : Nat := if spl L ≠ 0 then spl L else if L.take 9 = hdr (kindOf L) (bodyOf L) then 0 else 141

theorem bodyOf_len {L : List UInt8} (h : spl L = 0) : (bodyOf L).length = lenOf L ∧ 9 + lenOf L ≤ L.length ∧ lenOf L ≤ 2147483647 := by
  unfold spl at h
  split at h
  · omega
  · split at h
    · omega
    · split at h
      · omega
      · unfold bodyOf
        simp only [List.length_take, List.length_drop]
        omega

theorem code_spl {L : List UInt8} (h : code L = 0) : spl L = 0 ∧ L.take 9 = hdr (kindOf L) (bodyOf L) := by
  unfold code at h
  by_cases hs : spl L = 0
  · rw [if_neg (by simpa using hs)] at h
    split at h
    · rename_i e; exact ⟨hs, e⟩
    · omega
  · rw [if_pos hs] at h; exact absurd h hs

/-- What a frame says. -/
theorem lenOf_frm (k : Nat) (L R : List UInt8) (h : L.length < 4294967296) : lenOf (frm k L ++ R) = L.length := by
  have : lenOf (frm k L ++ R) = unbe (UInt8.ofNat (L.length / 16777216)) (UInt8.ofNat (L.length / 65536)) (UInt8.ofNat (L.length / 256)) (UInt8.ofNat L.length) := rfl
  rw [this, unbe_be _ h]
theorem kindOf_frm (k : Nat) (L R : List UInt8) (h : k < 256) : kindOf (frm k L ++ R) = k := by
  have : kindOf (frm k L ++ R) = (UInt8.ofNat k).toNat := rfl
  rw [this, UInt8.toNat_ofNat']; omega
theorem drop_frm (k : Nat) (L R : List UInt8) : (frm k L ++ R).drop (9 + L.length) = R := by
  rw [← frm_len k L, List.drop_left]
theorem bodyOf_frm (k : Nat) (L R : List UInt8) (h : L.length < 4294967296) : bodyOf (frm k L ++ R) = L := by
  unfold bodyOf
  rw [lenOf_frm k L R h]
  unfold frm
  rw [List.append_assoc, show (9 : Nat) = (hdr k L).length from rfl, List.drop_left, List.take_left]
theorem take9_frm (k : Nat) (L R : List UInt8) : (frm k L ++ R).take 9 = hdr k L := by
  unfold frm
  rw [List.append_assoc, show (9 : Nat) = (hdr k L).length from rfl, List.take_left]
theorem code_frm (k : Nat) (L R : List UInt8) (hk : k < 256) (h : L.length ≤ 2147483647) : code (frm k L ++ R) = 0 := by
  have hs : spl (frm k L ++ R) = 0 := by
    unfold spl
    rw [lenOf_frm k L R (by omega), List.length_append, frm_len]
    rw [if_neg (by omega), if_neg (by omega), if_neg (by omega)]
  unfold code
  rw [if_neg (by simpa using hs), kindOf_frm k L R hk, bodyOf_frm k L R (by omega), take9_frm, if_pos rfl]
/-- Bytes that begin with a frame. -/
theorem code_zero {L : List UInt8} (h : code L = 0) : L = frm (kindOf L) (bodyOf L) ++ L.drop (9 + lenOf L) := by
  obtain ⟨hs, he⟩ := code_spl h
  obtain ⟨h1, h2, h3⟩ := bodyOf_len hs
  unfold frm
  rw [← he]
  unfold bodyOf
  rw [← List.drop_drop, List.append_assoc, List.take_append_drop, List.take_append_drop]
theorem code_le (L : List UInt8) : code L = 0 ∨ code L = 140 ∨ code L = 141 := by
  unfold code spl
  repeat' split
  all_goals simp
theorem spl_le (L : List UInt8) : spl L = 0 ∨ spl L = 140 ∨ spl L = 141 := by
  unfold spl
  repeat' split
  all_goals simp

/-- Frames: a kind and a body each. -/
abbrev Frs := List (Int × List UInt8)
/-- All frames, one behind the other. -/
def flat (l : Frs) : List UInt8 := (l.map fun f => frm f.1.toNat f.2).flatten
theorem flat_nil : flat [] = [] := rfl
theorem flat_cons (f : Int × List UInt8) (l : Frs) : flat (f :: l) = frm f.1.toNat f.2 ++ flat l := by simp [flat]
theorem flat_append (l m : Frs) : flat (l ++ m) = flat l ++ flat m := by simp [flat]
/-- Frames that may be. -/
def May (l : Frs) : Prop := ∀ f ∈ l, 0 ≤ f.1 ∧ f.1 ≤ 255 ∧ f.2.length ≤ 2147483647
theorem May.cons {f : Int × List UInt8} {l : Frs} (h : May (f :: l)) : (0 ≤ f.1 ∧ f.1 ≤ 255 ∧ f.2.length ≤ 2147483647) ∧ May l := ⟨h f (by simp), fun g hg => h g (by simp [hg])⟩

/-- The frames of bytes, and what stands behind them. -/
structure Sc (L : List UInt8) (l : Frs) (R : List UInt8) : Prop where
  eq : L = flat l ++ R
  may : May l
  last : R ≠ [] → code R ≠ 0
/-- How bytes end. -/
def ends (R : List UInt8) : Nat := if R = [] then 0 else code R

theorem sc_nil (R : List UInt8) (h : R ≠ [] → code R ≠ 0) : Sc R [] R := ⟨rfl, fun f hf => by simp at hf, h⟩
theorem sc_cons {L : List UInt8} {l : Frs} {R : List UInt8} (hc : code L = 0) (h : Sc (L.drop (9 + lenOf L)) l R) : Sc L ((((kindOf L : Nat) : Int), bodyOf L) :: l) R := by
  obtain ⟨hs, _⟩ := code_spl hc
  obtain ⟨h1, h2, h3⟩ := bodyOf_len hs
  have hk := kindOf_lt L
  refine ⟨?_, ?_, h.last⟩
  · rw [flat_cons, List.append_assoc, ← h.eq]
    exact code_zero hc
  · intro f hf
    simp at hf
    rcases hf with rfl | hf
    · simp only
      omega
    · exact h.may f hf
end Go.Proofs.Ytdfdlkpljgpckaa
