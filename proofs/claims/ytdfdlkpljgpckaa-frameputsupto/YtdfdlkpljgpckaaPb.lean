/-
  Frames on plain lists: there is one way to read bytes as frames; what of a beginning; one bit other.
-/
import Derived.Test.YtdfdlkpljgpckaaP
namespace Go.Proofs.Ytdfdlkpljgpckaa
open Crc (sum sum_lt num num_set tells_burst)

theorem sc_exists : ∀ (n : Nat) (L : List UInt8), L.length ≤ n → ∃ l R, Sc L l R
  | 0, L, h => ⟨[], L, sc_nil L (fun hn => absurd (List.eq_nil_of_length_eq_zero (by omega)) hn)⟩
  | n + 1, L, h => by
    by_cases hn : L = []
    · exact ⟨[], L, sc_nil L (fun h => absurd hn h)⟩
    · by_cases hc : code L = 0
      · obtain ⟨hs, _⟩ := code_spl hc
        obtain ⟨_, h2, _⟩ := bodyOf_len hs
        obtain ⟨l, R, hl⟩ := sc_exists n (L.drop (9 + lenOf L)) (by simp; omega)
        exact ⟨_, R, sc_cons hc hl⟩
      · exact ⟨[], L, sc_nil L (fun _ => hc)⟩

theorem frm_ne (k : Nat) (L R : List UInt8) : frm k L ++ R ≠ [] := by
  intro h
  have := congrArg List.length h
  rw [List.length_append, frm_len] at this
  simp at this

theorem frm_split {k k' : Nat} {L L' R R' : List UInt8} (hk : k < 256) (hk' : k' < 256) (hl : L.length ≤ 2147483647) (hl' : L'.length ≤ 2147483647) (h : frm k L ++ R = frm k' L' ++ R') : k = k' ∧ L = L' ∧ R = R' := by
  have e1 : k = k' := by rw [← kindOf_frm k L R hk, h, kindOf_frm k' L' R' hk']
  have e2 : L = L' := by rw [← bodyOf_frm k L R (by omega), h, bodyOf_frm k' L' R' (by omega)]
  refine ⟨e1, e2, ?_⟩
  have := drop_frm k L R
  rw [h, e2, drop_frm] at this
  exact this.symm

theorem sc_unique : ∀ (l : Frs) {L : List UInt8} {l' : Frs} {R R' : List UInt8}, Sc L l R → Sc L l' R' → l = l' ∧ R = R'
  | [], L, l', R, R', h, h' => by
    have e : L = R := h.eq
    cases l' with
    | nil => exact ⟨rfl, e.symm.trans h'.eq⟩
    | cons f t =>
      have hf := h'.may.cons
      have e2 := h'.eq
      rw [flat_cons, List.append_assoc] at e2
      exfalso
      refine h.last (by rw [← e, e2]; exact frm_ne _ _ _) ?_
      rw [← e, e2]
      exact code_frm _ _ _ (by omega) hf.1.2.2
  | f :: t, L, l', R, R', h, h' => by
    have hf := h.may.cons
    have e := h.eq
    rw [flat_cons, List.append_assoc] at e
    cases l' with
    | nil =>
      have e2 : L = R' := h'.eq
      exfalso
      refine h'.last (by rw [← e2, e]; exact frm_ne _ _ _) ?_
      rw [← e2, e]
      exact code_frm _ _ _ (by omega) hf.1.2.2
    | cons g u =>
      have hg := h'.may.cons
      have e2 := h'.eq
      rw [flat_cons, List.append_assoc] at e2
      obtain ⟨q1, q2, q3⟩ := frm_split (by omega) (by omega) hf.1.2.2 hg.1.2.2 (e.symm.trans e2)
      obtain ⟨r1, r2⟩ := sc_unique t (L := flat t ++ R) ⟨rfl, hf.2, h.last⟩ ⟨q3, hg.2, h'.last⟩
      refine ⟨?_, r2⟩
      rw [r1]
      congr 1
      exact Prod.ext (by omega) q2

/-- Frames put one behind the other. -/
theorem sc_flat {l : Frs} (h : May l) : Sc (flat l) l [] := ⟨by simp, h, fun h => absurd rfl h⟩

theorem flat_len : ∀ (l : Frs), (flat l).length = (l.map fun f => 9 + f.2.length).sum
  | [] => rfl
  | f :: t => by rw [flat_cons, List.length_append, frm_len, flat_len t]; simp
theorem flat_take_succ (l : Frs) (k : Nat) (h : k < l.length) : flat (l.take (k + 1)) = flat (l.take k) ++ frm l[k].1.toNat l[k].2 := by
  rw [List.take_succ_eq_append_getElem h, flat_append]
  simp [flat]
theorem flat_take_len (l : Frs) (k : Nat) (h : k < l.length) : (flat (l.take (k + 1))).length = (flat (l.take k)).length + (9 + l[k].2.length) := by
  rw [flat_take_succ l k h, List.length_append, frm_len]
theorem flat_take_le (l : Frs) (k : Nat) : (flat (l.take k)).length ≤ (flat l).length := by
  have : flat l = flat (l.take k) ++ flat (l.drop k) := by rw [← flat_append, List.take_append_drop]
  rw [this, List.length_append]
  omega
theorem May.take {l : Frs} (h : May l) (k : Nat) : May (l.take k) := fun f hf => h f (List.mem_of_mem_take hf)

/-- The rest of bytes ahead of which k frames stand. -/
theorem Sc.rest {L : List UInt8} {l : Frs} {R : List UInt8} (h : Sc L l R) (k : Nat) (hk : k < l.length) : L.drop (flat (l.take k)).length = frm l[k].1.toNat l[k].2 ++ (flat (l.drop (k + 1)) ++ R) := by
  have : L = flat (l.take k) ++ (frm l[k].1.toNat l[k].2 ++ (flat (l.drop (k + 1)) ++ R)) := by
    rw [h.eq, ← List.append_assoc (frm _ _), ← flat_cons, ← List.append_assoc, ← flat_append]
    simp
  rw [this, List.drop_left]
theorem Sc.end {L : List UInt8} {l : Frs} {R : List UInt8} (h : Sc L l R) : L.drop (flat l).length = R := by
  rw [h.eq, List.drop_left]
theorem Sc.len {L : List UInt8} {l : Frs} {R : List UInt8} (h : Sc L l R) : L.length = (flat l).length + R.length := by rw [h.eq, List.length_append]
theorem Sc.at {L : List UInt8} {l : Frs} {R : List UInt8} (h : Sc L l R) (k : Nat) (hk : k < l.length) : code (L.drop (flat (l.take k)).length) = 0 ∧ ((kindOf (L.drop (flat (l.take k)).length) : Nat) : Int) = l[k].1 ∧ bodyOf (L.drop (flat (l.take k)).length) = l[k].2 ∧ (flat (l.take k)).length + (9 + l[k].2.length) ≤ L.length := by
  have hm := h.may l[k] (List.getElem_mem hk)
  rw [h.rest k hk]
  refine ⟨code_frm _ _ _ (by omega) hm.2.2, ?_, bodyOf_frm _ _ _ (by omega), ?_⟩
  · rw [kindOf_frm _ _ _ (by omega)]; omega
  · rw [← flat_take_len l k hk, h.eq, List.length_append]
    have := flat_take_le l (k + 1)
    omega
theorem Sc.count {L : List UInt8} {l : Frs} {R : List UInt8} (h : Sc L l R) : l.length * 9 ≤ L.length := by
  rw [h.eq, List.length_append, flat_len]
  have : ∀ l : Frs, l.length * 9 ≤ (l.map fun f => 9 + f.2.length).sum := fun l => by
    induction l with
    | nil => simp
    | cons f t ih => simp; omega
  have := this l
  omega

/-- A beginning of a frame that is not all of it. -/
theorem code_torn {k : Nat} {L : List UInt8} {c : Nat} (h : c < 9 + L.length) (hl : L.length ≤ 2147483647) : code ((frm k L).take c) = 140 := by
  have hlen : ((frm k L).take c).length = c := by rw [List.length_take, frm_len]; omega
  have hs : spl ((frm k L).take c) = 140 := by
    unfold spl
    rw [hlen]
    by_cases h9 : c < 9
    · rw [if_pos h9]
    · rw [if_neg h9]
      have : lenOf ((frm k L).take c) = L.length := by
        have e : ∀ i, i < 9 → ((frm k L).take c).getD i 0 = (frm k L).getD i 0 := fun i hi => by
          rw [List.getD_eq_getElem?_getD, List.getD_eq_getElem?_getD, List.getElem?_take, if_pos (by omega)]
        unfold lenOf
        rw [e 1 (by omega), e 2 (by omega), e 3 (by omega), e 4 (by omega)]
        have := lenOf_frm k L [] (by omega)
        rw [List.append_nil] at this
        exact this
      rw [this, if_neg (by omega), if_pos (by omega)]
  unfold code
  rw [hs]
  rfl

/-- What of a beginning of frames. -/
theorem sc_take : ∀ (l : Frs) (c : Nat), May l → c ≤ (flat l).length → ∃ n R, n ≤ l.length ∧ Sc ((flat l).take c) (l.take n) R ∧ (R ≠ [] → code R = 140) ∧ (n < l.length → c < (flat (l.take (n + 1))).length)
  | [], c, h, hc => ⟨0, [], Nat.le_refl _, by simpa [flat_nil] using sc_nil [] (fun h => absurd rfl h), fun h => absurd rfl h, fun h => absurd h (by simp)⟩
  | f :: t, c, h, hc => by
    have hf := h.cons
    rw [flat_cons, List.length_append, frm_len] at hc
    by_cases hlt : c < 9 + f.2.length
    · refine ⟨0, (flat (f :: t)).take c, Nat.zero_le _, ?_, ?_, ?_⟩
      · refine sc_nil _ fun _ => ?_
        rw [flat_cons, List.take_append_of_le_length (by rw [frm_len]; omega), code_torn hlt hf.1.2.2]
        decide
      · intro _
        rw [flat_cons, List.take_append_of_le_length (by rw [frm_len]; omega), code_torn hlt hf.1.2.2]
      · intro _
        simp only [Nat.zero_add, List.take_succ_cons, List.take_zero]
        rw [flat_cons, flat_nil, List.append_nil, frm_len]
        exact hlt
    · obtain ⟨n, R, h1, h2, h3, h4⟩ := sc_take t (c - (9 + f.2.length)) hf.2 (by omega)
      refine ⟨n + 1, R, by simp; omega, ?_, h3, ?_⟩
      · refine ⟨?_, fun g hg => ?_, h2.last⟩
        · rw [List.take_succ_cons, flat_cons, flat_cons, List.append_assoc, ← h2.eq, ← frm_len f.1.toNat f.2, List.take_append, List.take_of_length_le (by rw [frm_len]; omega)]
        · rw [List.take_succ_cons] at hg
          simp at hg
          rcases hg with rfl | hg
          · exact hf.1
          · exact h2.may g hg
      · intro hn
        simp at hn
        have := h4 (by omega)
        rw [List.take_succ_cons, flat_cons, List.length_append, frm_len]
        omega

theorem set_same {T : List UInt8} {j : Nat} {c : UInt8} {s : Nat} (hj : j < T.length) (hc : c.toNat = T[j].toNat ^^^ 2 ^ s) (h : T.set j c = T) : False := by
  have e : c = T[j] := by
    have := congrArg (fun X => X[j]?) h
    simp [hj] at this
    exact this
  rw [e] at hc
  have := congrArg (fun x => T[j].toNat ^^^ x) hc
  simp only [Nat.xor_self, ← Nat.xor_assoc, Nat.zero_xor] at this
  have := Nat.two_pow_pos s
  omega

/-- One bit of a text other: another sum. -/
theorem sum_bit {T : List UInt8} {j : Nat} {c : UInt8} {s : Nat} (hj : j < T.length) (hs : s < 8) (hc : c.toNat = T[j].toNat ^^^ 2 ^ s) (h : sum (T.set j c) = sum T) : False := by
  refine set_same hj hc ?_
  refine tells_burst (k := 8 * j) (m := 2 ^ s) (by simp) (num_set T j c (2 ^ s) hj hc) (by omega) ?_ h
  have : (2 : Nat) ^ s ≤ 2 ^ 7 := Nat.pow_le_pow_right (by omega) (by omega)
  omega

/-- One bit of a frame other: it is none. -/
theorem frm_bit {k : Nat} {L : List UInt8} {j : Nat} {c : UInt8} {s : Nat} (_hk : k < 256) (hl : L.length ≤ 2147483647) (hj : j < (frm k L).length) (hs : s < 8) (hc : c.toNat = (frm k L)[j].toNat ^^^ 2 ^ s) (hcode : code ((frm k L).set j c) = 0) : lenOf ((frm k L).set j c) ≠ L.length := by
  intro hlen
  have e0 := code_zero hcode
  have hlen2 : ((frm k L).set j c).length = 9 + L.length := by rw [List.length_set, frm_len]
  have hb := bodyOf_len (code_spl hcode).1
  rw [hlen, List.drop_eq_nil_of_le (by omega), List.append_nil] at e0
  generalize hL' : bodyOf ((frm k L).set j c) = L' at e0 hb
  generalize kindOf ((frm k L).set j c) = k' at e0
  have hn : L'.length = L.length := by omega
  have hlf := frm_len k L
  generalize hσ : sum (pre5 k L.length ++ L) = σ
  have ef : frm k L = pre5 k L.length ++ (be σ ++ L) := by unfold frm hdr; rw [hσ, List.append_assoc]
  have ef' : frm k' L' = pre5 k' L.length ++ (be (sum (pre5 k' L.length ++ L')) ++ L') := by unfold frm hdr; rw [hn, List.append_assoc]
  have hσl : σ < 4294967296 := by rw [← hσ]; exact sum_lt _
  have hσl' := sum_lt (pre5 k' L.length ++ L')
  rw [ef'] at e0
  by_cases h5 : j < 5
  · have ej : (frm k L)[j] = (pre5 k L.length)[j]'(by rw [pre5_len]; exact h5) := by
      simp only [ef]
      rw [List.getElem_append_left]
    rw [ef, List.set_append_left _ _ (by rw [pre5_len]; exact h5)] at e0
    obtain ⟨q1, q2⟩ := List.append_inj e0 (by simp [pre5_len])
    obtain ⟨q3, q4⟩ := List.append_inj q2 (by simp [be_len])
    have q5 := be_inj hσl hσl' q3
    rw [← q4, ← q1, ← hσ] at q5
    have hj5 : j < (pre5 k L.length ++ L).length := by simp [pre5_len]; omega
    refine sum_bit (T := pre5 k L.length ++ L) hj5 hs (c := c) ?_ ?_
    · rw [hc, ej, List.getElem_append_left]
    · rw [List.set_append_left _ _ (by rw [pre5_len]; exact h5)]
      exact q5.symm
  · rw [ef, List.set_append_right _ _ (by rw [pre5_len]; omega), pre5_len] at e0
    obtain ⟨q1, q2⟩ := List.append_inj e0 (by simp [pre5_len])
    by_cases h9 : j < 9
    · have ej : (frm k L)[j] = (be σ)[j - 5]'(by rw [be_len]; omega) := by
        simp only [ef]
        rw [List.getElem_append_right (by rw [pre5_len]; omega), List.getElem_append_left (by rw [be_len, pre5_len]; omega)]
        rfl
      rw [List.set_append_left _ _ (by rw [be_len]; omega)] at q2
      obtain ⟨q3, q4⟩ := List.append_inj q2 (by simp [be_len])
      rw [← q1, ← q4, hσ] at q3
      exact set_same (T := be σ) (j := j - 5) (by rw [be_len]; omega) (by rw [hc, ej]) q3
    · have ej : (frm k L)[j] = L[j - 9]'(by omega) := by
        simp only [ef]
        rw [List.getElem_append_right (by rw [pre5_len]; omega), List.getElem_append_right (by rw [be_len, pre5_len]; omega)]
        congr 1
      rw [List.set_append_right _ _ (by rw [be_len]; omega), be_len] at q2
      obtain ⟨q3, q4⟩ := List.append_inj q2 (by simp [be_len])
      have q5 := be_inj hσl hσl' q3
      rw [← q4, ← q1, ← hσ] at q5
      have hj5 : j - 4 < (pre5 k L.length ++ L).length := by simp [pre5_len]; omega
      refine sum_bit (T := pre5 k L.length ++ L) hj5 hs (c := c) ?_ ?_
      · rw [hc, ej, List.getElem_append_right (by rw [pre5_len]; omega)]
        congr 2
      · rw [List.set_append_right _ _ (by rw [pre5_len]; omega), pre5_len, show j - 4 - 5 = j - 5 - 4 from by omega]
        exact q5.symm
end Go.Proofs.Ytdfdlkpljgpckaa
