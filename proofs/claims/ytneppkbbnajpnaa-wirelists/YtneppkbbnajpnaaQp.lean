/-
  Plain facts: what Take answers of the form of a list of pairs, and of a beginning of it.
-/
import Derived.Test.YtneppkbbnajpnaaFp
namespace Go.Proofs.Ytneppkbbnajpnaa

theorem scan_short (n : Nat) (hn : n < 2 ^ 64) (R : List UInt8) (c : Nat) (hc : c < (numForm n).length) : scan 0 0 ((numForm n ++ R).take c) = none := by
  cases h : scan 0 0 ((numForm n ++ R).take c) with
  | none => rfl
  | some z =>
    exfalso
    obtain ⟨m, k⟩ := z
    have hb := scan_bound _ 0 0 (by omega) (by simp) m k h
    have hf := form_scan0 _ m k h
    have hk : k ≤ c := by
      have := hb.2.2.1
      simp at this
      omega
    have hlen : (numForm m).length = k := by
      rw [← hf]
      have := hb.2.2.1
      simp at this ⊢
      omega
    have e1 : (numForm n ++ R).take k = numForm m := by
      rw [← hf, List.take_take]
      congr 1
      omega
    have e2 : numForm n ++ R = numForm m ++ (numForm n ++ R).drop k := by rw [← e1, List.take_append_drop]
    have s1 := scan_num n hn R
    rw [e2, scan_num m hb.1] at s1
    simp at s1
    omega

theorem rd2_form (p : Nat × Nat) (h1 : p.1 < 2 ^ 64) (h2 : p.2 < 2 ^ 64) (R : List UInt8) : rd2 (pairForm p ++ R) = some (p, R) := by
  unfold rd2 pairForm
  rw [List.append_assoc, scan_num p.1 h1]
  simp only
  rw [List.drop_left, scan_num p.2 h2]
  simp only
  rw [List.drop_left]

theorem rd2_short (p : Nat × Nat) (h1 : p.1 < 2 ^ 64) (h2 : p.2 < 2 ^ 64) (R : List UInt8) (c : Nat) (hc : c < (pairForm p).length) : rd2 ((pairForm p ++ R).take c) = none := by
  unfold pairForm at hc ⊢
  rw [List.append_assoc]
  unfold rd2
  by_cases h : c < (numForm p.1).length
  · rw [scan_short p.1 h1 _ c h]
  · have e : (numForm p.1 ++ (numForm p.2 ++ R)).take c = numForm p.1 ++ (numForm p.2 ++ R).take (c - (numForm p.1).length) := by
      rw [List.take_append]
      congr 1
      exact List.take_of_length_le (by omega)
    rw [e, scan_num p.1 h1]
    simp only
    rw [List.drop_left, scan_short p.2 h2 R _ (by simp at hc; omega)]

theorem rdManyP_cons (p : Nat × Nat) (h1 : p.1 < 2 ^ 64) (h2 : p.2 < 2 ^ 64) (R : List UInt8) : ∀ n, rdManyP (n + 1) (pairForm p ++ R) = match rdManyP n R with
    | none => none
    | some (xs, M) => some (p :: xs, M)
  | 0 => by simp [rdManyP, rd2_form p h1 h2]
  | n + 1 => by
    rw [rdManyP, rdManyP_cons p h1 h2 R n, rdManyP]
    cases rdManyP n R with
    | none => rfl
    | some y =>
      obtain ⟨xs, M⟩ := y
      simp only
      cases rd2 M with
      | none => rfl
      | some z => obtain ⟨x, N⟩ := z; rfl

theorem rdManyP_form : ∀ (ps : List (Nat × Nat)), Small ps → rdManyP ps.length (pairsForm ps) = some (ps, [])
  | [], _ => rfl
  | p :: ps, h => by
    have hp := h p (by simp)
    have e : pairsForm (p :: ps) = pairForm p ++ pairsForm ps := by simp [pairsForm]
    rw [e, List.length_cons, rdManyP_cons p hp.1 hp.2, rdManyP_form ps (fun q hq => h q (by simp [hq]))]

theorem rdManyP_short : ∀ (ps : List (Nat × Nat)), Small ps → ∀ c, c < (pairsForm ps).length → rdManyP ps.length ((pairsForm ps).take c) = none
  | [], _, c, hc => by simp [pairsForm] at hc
  | p :: ps, h, c, hc => by
    have hp := h p (by simp)
    have e : pairsForm (p :: ps) = pairForm p ++ pairsForm ps := by simp [pairsForm]
    rw [e] at hc ⊢
    by_cases hl : c < (pairForm p).length
    · have h1 : rdManyP 1 ((pairForm p ++ pairsForm ps).take c) = none := by
        rw [rdManyP, rdManyP]
        simp only
        rw [rd2_short p hp.1 hp.2 _ c hl]
      have h2 := rdManyP_none ps.length 1 _ h1
      rw [List.length_cons, Nat.add_comm]
      exact h2
    · have e2 : (pairForm p ++ pairsForm ps).take c = pairForm p ++ (pairsForm ps).take (c - (pairForm p).length) := by
        rw [List.take_append]
        congr 1
        exact List.take_of_length_le (by omega)
      rw [e2, List.length_cons, rdManyP_cons p hp.1 hp.2, rdManyP_short ps (fun q hq => h q (by simp [hq])) _ (by simp at hc; omega)]

/-- The whole list. -/
theorem rdListP_form (ps : List (Nat × Nat)) (h : Small ps) (hz : ps.length < 2 ^ 64) : rdListP (listForm ps) (ps.length : Int) = (ps, 0, []) := by
  have hs : scan 0 0 (listForm ps) = some (ps.length, (numForm ps.length).length) := scan_num _ hz _
  refine rdListP_ok (by omega) hs (by omega) ?_
  unfold listForm
  rw [List.drop_left]
  exact rdManyP_form ps h

/-- One fewer than there are. -/
theorem rdListP_fewer (ps : List (Nat × Nat)) (hz : ps.length < 2 ^ 64) (hp : 0 < ps.length) : rdListP (listForm ps) ((ps.length : Int) - 1) = ([], 3, listForm ps) := by
  have hs : scan 0 0 (listForm ps) = some (ps.length, (numForm ps.length).length) := scan_num _ hz _
  exact rdListP_long (by omega) hs (by omega)

/-- A beginning. -/
theorem rdListP_short (ps : List (Nat × Nat)) (h : Small ps) (hz : ps.length < 2 ^ 64) (c : Nat) (hc : c < (listForm ps).length) : rdListP ((listForm ps).take c) (ps.length : Int) = ([], 4, (listForm ps).take c) := by
  unfold listForm at hc ⊢
  by_cases hl : c < (numForm ps.length).length
  · exact rdListP_none (by omega) (scan_short _ hz _ c hl)
  · have e : (numForm ps.length ++ pairsForm ps).take c = numForm ps.length ++ (pairsForm ps).take (c - (numForm ps.length).length) := by
      rw [List.take_append]
      congr 1
      exact List.take_of_length_le (by omega)
    rw [e]
    refine rdListP_fail (by omega) (scan_num _ hz _) (by omega) ?_
    rw [List.drop_left]
    exact rdManyP_short ps h _ (by simp at hc; omega)

theorem listForm_len (ps : List (Nat × Nat)) (h : Small ps) (hz : ps.length ≤ 8796093021952) : (listForm ps).length ≤ ps.length * 20 + 10 := by
  have h1 := pairsForm_len ps h
  have h2 := numForm_len10 ps.length (by omega)
  unfold listForm
  simp; omega
end Go.Proofs.Ytneppkbbnajpnaa
