/-
  The document's window: its things, and which are back.
-/
import Derived.Test.YtignmnmhigncjaaWb
import Derived.Test.YtignmnmhigncjaaSB
namespace Go.Proofs.Ytignmnmhigncjaa
open Go.RowKit Disk

/-- The list that both say. -/
def zipL (T : List ByteArray) (K : List Bool) : List (Option ByteArray) := List.zipWith (fun t k => if k then none else some t) T K
theorem zipL_len {T : List ByteArray} {K : List Bool} (h : K.length = T.length) : (zipL T K).length = T.length := by simp [zipL, h]
theorem zipL_at {T : List ByteArray} {K : List Bool} (h : K.length = T.length) (i : Nat) (hi : i < T.length) : (zipL T K)[i]? = some (if K[i]'(by omega) then none else some T[i]) := by
  have h2 : i < K.length := by omega
  simp [zipL, List.getElem?_zipWith, hi, h2]
theorem zipL_push (T : List ByteArray) (K : List Bool) (x : ByteArray) (h : K.length = T.length) : zipL (T ++ [x]) (K ++ [false]) = zipL T K ++ [some x] := by
  unfold zipL
  rw [List.zipWith_append (by omega)]
  rfl
theorem zipL_put {T : List ByteArray} {K : List Bool} (h : K.length = T.length) (i : Nat) (hi : i < T.length) (hk : K[i]'(by omega) = false) (x : ByteArray) : zipL (T.set i x) K = (zipL T K).set i (some x) := by
  apply List.ext_getElem?
  intro j
  by_cases hj : j < T.length
  · rw [zipL_at (by simpa using h) j (by simpa using hj)]
    by_cases e : i = j
    · subst e
      rw [List.getElem?_set_self (by rw [zipL_len h]; exact hi)]
      simp [hk]
    · rw [List.getElem?_set_ne e, zipL_at h j hj, List.getElem_set_ne e]
  · rw [List.getElem?_eq_none (by rw [zipL_len (by simpa using h)]; simp; omega), List.getElem?_eq_none (by rw [List.length_set, zipL_len h]; omega)]
theorem zipL_back {T : List ByteArray} {K : List Bool} (h : K.length = T.length) (i : Nat) (hi : i < T.length) : zipL T (K.set i true) = (zipL T K).set i none := by
  apply List.ext_getElem?
  intro j
  by_cases hj : j < T.length
  · rw [zipL_at (by simpa using h) j hj]
    by_cases e : i = j
    · subst e
      rw [List.getElem?_set_self (by rw [zipL_len h]; exact hi)]
      simp
    · rw [List.getElem?_set_ne e, zipL_at h j hj, List.getElem_set_ne e]
  · rw [List.getElem?_eq_none (by rw [zipL_len (by simpa using h)]; omega), List.getElem?_eq_none (by rw [List.length_set, zipL_len h]; omega)]

/-- The document's window in memory. -/
structure Rw (w : World) (b : Nat) (tv bv : Value) (n : Nat) (T : List ByteArray) (K : List Bool) : Prop where
  blk : Blk w b 33 #[.int .i64 (n : Nat), tv, bv]
  things : Row 9 w 0 tv (T.map Value.string)
  back : Row 4 w 0 bv (K.map Value.bool)
  same : K.length = T.length
  long : T.length ≤ 800000
def FR (b : Nat) (tv bv : Value) (i : Nat) : Prop := i = b ∨ tv.ownBlock = some i ∨ bv.ownBlock = some i
theorem Rw.grown {w w' : World} {b : Nat} {tv bv : Value} {n : Nat} {T : List ByteArray} {K : List Bool} (h : Rw w b tv bv n T K) (hg : w.grownBy w' none) : Rw w' b tv bv n T K := ⟨h.blk.grown hg (by simp), h.things.grown hg, h.back.grown hg, h.same, h.long⟩
theorem Rw.kept {w w' : World} {b : Nat} {tv bv : Value} {n : Nat} {T : List ByteArray} {K : List Bool} (h : Rw w b tv bv n T K) (hk : ∀ i, FR b tv bv i → w'.heap[i]? = w.heap[i]?) : Rw w' b tv bv n T K :=
  ⟨h.blk.same (hk b (.inl rfl)), h.things.same fun i hi => hk i (.inr (.inl hi)), h.back.same fun i hi => hk i (.inr (.inr hi)), h.same, h.long⟩
theorem Rw.sl {w : World} {b : Nat} {tv bv : Value} {n : Nat} {T : List ByteArray} {K : List Bool} (h : Rw w b tv bv n T K) : ∃ ta tc bo bc, tv = .slice ta T.length tc ∧ bv = .slice bo T.length bc := by
  obtain ⟨ta, tc, h1⟩ := h.things.sl
  obtain ⟨bo, bc, h2⟩ := h.back.sl
  rw [List.length_map] at h1 h2
  rw [h.same] at h2
  exact ⟨ta, tc, bo, bc, h1, h2⟩
theorem Rw.lt {w : World} {b : Nat} {tv bv : Value} {n : Nat} {T : List ByteArray} {K : List Bool} (h : Rw w b tv bv n T K) : ∀ i, FR b tv bv i → i < w.heap.size := by
  rintro i (rfl | hi | hi)
  · exact h.blk.lt
  · exact (h.things.lt i hi).2
  · exact (h.back.lt i hi).2
theorem Rw.typ {w : World} {b : Nat} {tv bv : Value} {n : Nat} {T : List ByteArray} {K : List Bool} (h : Rw w b tv bv n T K) : ∀ i, FR b tv bv i → ∃ t C, Blk w i t C ∧ (t = 33 ∨ t = 9 ∨ t = 4) := by
  rintro i (rfl | hi | hi)
  · exact ⟨33, _, h.blk, .inl rfl⟩
  · obtain ⟨C, hC⟩ := h.things.blk i hi
    exact ⟨9, C, hC, .inr (.inl rfl)⟩
  · obtain ⟨C, hC⟩ := h.back.blk i hi
    exact ⟨4, C, hC, .inr (.inr rfl)⟩
theorem Rw.tat {w : World} {b : Nat} {ta : Option Addr} {tn tc : Nat} {bv : Value} {n : Nat} {T : List ByteArray} {K : List Bool} (h : Rw w b (.slice ta tn tc) bv n T K) (i : Nat) (hi : i < T.length) : ∃ g, ta = some ⟨g, 0, none⟩ ∧ w.cell? ⟨g, i, none⟩ = some (.string T[i]) ∧ w.frozen? ⟨g, i, none⟩ = false := by
  rcases h.things.shape with ⟨_, e'⟩ | ⟨g, cap, C, e, _⟩
  · rw [List.map_eq_nil_iff] at e'
    subst e'
    exact absurd hi (by simp)
  · simp at e
    obtain ⟨rfl, rfl, rfl⟩ := e
    have h2 := h.things
    exact ⟨g, rfl, by rw [h2.cell i (by simpa using hi)]; simp, h2.free i⟩
theorem Rw.bat {w : World} {b : Nat} {bo : Option Addr} {bn bc : Nat} {tv : Value} {n : Nat} {T : List ByteArray} {K : List Bool} (h : Rw w b tv (.slice bo bn bc) n T K) (i : Nat) (hi : i < T.length) : ∃ g, bo = some ⟨g, 0, none⟩ ∧ w.cell? ⟨g, i, none⟩ = some (.bool (K[i]'(by rw [h.same]; exact hi))) ∧ w.frozen? ⟨g, i, none⟩ = false := by
  have hi' : i < K.length := by rw [h.same]; exact hi
  rcases h.back.shape with ⟨_, e'⟩ | ⟨g, cap, C, e, _⟩
  · rw [List.map_eq_nil_iff] at e'
    rw [e'] at hi'
    exact absurd hi' (by simp)
  · simp at e
    obtain ⟨rfl, rfl, rfl⟩ := e
    have h2 := h.back
    exact ⟨g, rfl, by rw [h2.cell i (by simpa using hi')]; simp, h2.free i⟩

set_option maxRecDepth 100000 in
set_option maxHeartbeats 1000000 in
theorem rmark13 (b : Nat) (tv bv : Value) (n : Nat) (T : List ByteArray) (K : List Bool) (w : World) (h : Rw w b tv bv n T K) : Calls Try.prog 13 #[.pointer (some ⟨b, 0, none⟩)] w fun e w' => e = .returned (.int .i64 (lead (zipL T K) : Nat)) ∧ w' = w := by
  obtain ⟨ta, tc, bo, bc, rfl, rfl⟩ := h.sl
  have HN : Hid (Rw w b (.slice ta T.length tc) (.slice bo T.length bc) n T K) := h
  have c2 := h.blk.cell 2
  simp at c2
  obtain ⟨ln, hln⟩ : ∃ ln, T.length = ln := ⟨_, rfl⟩
  rw [hln] at c2
  have HL : Hid (T.length = ln ∧ ln ≤ 800000) := ⟨hln, by have := h.long; omega⟩
  have hl0 : ln ≤ 800000 := HL.out.2
  clear h hln
  go_enter Try.func13, Try.ntmps13
  go_wp2_with fail
  go_loopw [3] (fun p wr => Hid (wr = w) ∧ ∃ i : Nat, p = .int .i64 (i : Nat) ∧ i ≤ ln ∧ Hid (∀ j (hj : j < i), (zipL T K)[j]? = some none)) (fun p _ => ln - (intOf p).toNat)
  case atStart => exact ⟨rfl, 0, rfl, Nat.zero_le _, fun j hj => absurd hj (Nat.not_lt_zero _)⟩
  case round =>
    obtain ⟨HWE, i, rfl, hi, HM⟩ := hrel
    rw [← HWE.out] at c2
    by_cases hlt : i < ln
    · have j1 : (i : Int) < (ln : Int) := by omega
      have j2 : (0 : Int) ≤ (i : Int) := by omega
      obtain ⟨g, rfl, hc, _⟩ := HN.out.bat i (by have := HL.out; omega)
      have hz := zipL_at HN.out.same i (by have := HL.out; omega)
      obtain ⟨kb, hkb⟩ : ∃ k, K[i]'(by rw [HN.out.same]; have := HL.out; omega) = k := ⟨_, rfl⟩
      rw [hkb] at hc hz
      rw [← HWE.out] at hc
      cases kb with
      | true =>
        have HM2 : Hid (∀ j (hj : j < i + 1), (zipL T K)[j]? = some none) := fun j hj => by
          by_cases e : j = i
          · subst e; rw [hz]; rfl
          · exact HM.out j (by omega)
        clear hz hkb
        go_wp2_with fail
        go_roundw
        case rel => exact ⟨HWE, i + 1, by go_num, by omega, HM2⟩
        case measure => simp [intOf]; omega
      | false =>
        have HE : Hid (lead (zipL T K) = i) := lead_eq _ _ HM.out (.inr ⟨_, hz⟩)
        clear hz hkb
        go_wp2_with fail
        go_ret
        rw [HE.out]
        exact ⟨rfl, HWE.out⟩
    · have j1 : ¬ (i : Int) < (ln : Int) := by omega
      have HE : Hid (lead (zipL T K) = i) := lead_eq _ _ HM.out (.inl (by rw [zipL_len HN.out.same]; have := HL.out; omega))
      go_wp2_with fail
      go_ret
      rw [HE.out]
      exact ⟨rfl, HWE.out⟩

set_option maxRecDepth 100000 in
set_option maxHeartbeats 1000000 in
theorem rlen16 (b : Nat) (tv bv : Value) (n : Nat) (T : List ByteArray) (K : List Bool) (w : World) (h : Rw w b tv bv n T K) : Calls Try.prog 16 #[.pointer (some ⟨b, 0, none⟩)] w fun e w' => e = .returned (.int .i64 (outN (zipL T K) (zipL T K).length : Nat)) ∧ w' = w := by
  obtain ⟨ta, tc, bo, bc, rfl, rfl⟩ := h.sl
  have HN : Hid (Rw w b (.slice ta T.length tc) (.slice bo T.length bc) n T K) := h
  have c2 := h.blk.cell 2
  simp at c2
  obtain ⟨ln, hln⟩ : ∃ ln, T.length = ln := ⟨_, rfl⟩
  rw [hln] at c2
  have HL : Hid (T.length = ln ∧ ln ≤ 800000) := ⟨hln, by have := h.long; omega⟩
  have hl0 : ln ≤ 800000 := HL.out.2
  clear h hln
  go_enter Try.func16, Try.ntmps16
  go_wp2_with fail
  go_loopw [3, 4] (fun q p wr => Hid (wr = w) ∧ ∃ i c : Nat, p = .int .i64 (i : Nat) ∧ q = .int .i64 (c : Nat) ∧ i ≤ ln ∧ c ≤ i ∧ Hid (outN (zipL T K) i = c)) (fun _ p _ => ln - (intOf p).toNat)
  case atStart => exact ⟨rfl, 0, 0, rfl, rfl, Nat.zero_le _, Nat.le_refl _, outN_zero _⟩
  case round =>
    obtain ⟨HWE, i, c, rfl, rfl, hi, hci, HM⟩ := hrel
    rw [← HWE.out] at c2
    by_cases hlt : i < ln
    · have j1 : (i : Int) < (ln : Int) := by omega
      have j2 : (0 : Int) ≤ (i : Int) := by omega
      obtain ⟨g, rfl, hc, _⟩ := HN.out.bat i (by have := HL.out; omega)
      have hz := zipL_at HN.out.same i (by have := HL.out; omega)
      obtain ⟨kb, hkb⟩ : ∃ k, K[i]'(by rw [HN.out.same]; have := HL.out; omega) = k := ⟨_, rfl⟩
      rw [hkb] at hc hz
      rw [← HWE.out] at hc
      cases kb with
      | true =>
        have HM2 : Hid (outN (zipL T K) (i + 1) = c) := by rw [Hid, outN_none (by rw [hz]; rfl)]; exact HM.out
        clear hz hkb
        go_wp2_with fail
        go_roundw
        case rel => exact ⟨HWE, i + 1, c, by go_num, rfl, by omega, by omega, HM2⟩
        case measure => simp [intOf]; omega
      | false =>
        have HM2 : Hid (outN (zipL T K) (i + 1) = c + 1) := by rw [Hid, outN_some hz, HM.out]
        clear hz hkb
        go_wp2_with fail
        go_roundw
        case rel => exact ⟨HWE, i + 1, c + 1, by go_num, by go_num, by omega, by omega, HM2⟩
        case measure => simp [intOf]; omega
    · have j1 : ¬ (i : Int) < (ln : Int) := by omega
      have HE : Hid (outN (zipL T K) (zipL T K).length = c) := by
        rw [Hid, zipL_len HN.out.same, HL.out.1, ← HM.out]
        congr 1
        omega
      go_wp2_with fail
      go_ret
      rw [HE.out]
      exact ⟨rfl, HWE.out⟩

set_option maxRecDepth 100000 in
set_option maxHeartbeats 1000000 in
theorem rout38 (b : Nat) (tv bv : Value) (n : Nat) (T : List ByteArray) (K : List Bool) (z : Int) (w : World) (h : Rw w b tv bv n T K) : Calls Try.prog 38 #[.pointer (some ⟨b, 0, none⟩), .int .i64 z] w fun e w' => e = .returned (.bool (outD (zipL T K) z).isSome) ∧ w' = w := by
  obtain ⟨ta, tc, bo, bc, rfl, rfl⟩ := h.sl
  have HN : Hid (Rw w b (.slice ta T.length tc) (.slice bo T.length bc) n T K) := h
  have c1 := h.blk.cell 1
  have c2 := h.blk.cell 2
  simp at c1 c2
  obtain ⟨ln, hln⟩ : ∃ ln, T.length = ln := ⟨_, rfl⟩
  rw [hln] at c1 c2
  have HL : Hid (T.length = ln ∧ ln ≤ 800000) := ⟨hln, by have := h.long; omega⟩
  clear h hln
  by_cases h1 : 1 ≤ z
  · by_cases h2 : z ≤ (ln : Int)
    · obtain ⟨i, rfl⟩ : ∃ i : Nat, z = ((i + 1 : Nat) : Int) := ⟨(z - 1).toNat, by omega⟩
      obtain ⟨g, rfl, hc, _⟩ := HN.out.bat i (by have := HL.out; omega)
      have hz := zipL_at HN.out.same i (by have := HL.out; omega)
      obtain ⟨kb, hkb⟩ : ∃ k, K[i]'(by rw [HN.out.same]; have := HL.out; omega) = k := ⟨_, rfl⟩
      rw [hkb] at hc hz
      have HE : Hid ((outD (zipL T K) ((i + 1 : Nat) : Int)).isSome = !kb) := by
        rw [Hid, outD_nat, hz]
        cases kb <;> rfl
      rw [HE.out]
      have d1 : IntKind.i64.wrap (((i + 1 : Nat) : Int) - 1) = (i : Int) := by have := HL.out; rw [IntKind.wrap_i64]; omega
      have d2 : IntKind.i64.wrap (i : Int) = (i : Int) := by have := HL.out; rw [IntKind.wrap_i64]; omega
      have j1 : (i : Int) < (ln : Int) := by omega
      have j2 : (0 : Int) ≤ (i : Int) := by omega
      have j3 : (1 : Int) ≤ (i : Int) + 1 := by omega
      have j4 : (i : Int) + 1 ≤ (ln : Int) := by omega
      clear hz hkb
      go_enter Try.func38, Try.ntmps38
      go_wp2_with fail
      go_ret
      exact ⟨rfl, rfl⟩
    · have HE : Hid ((outD (zipL T K) z).isSome = false) := by
        rw [Hid, outD_high (by rw [zipL_len HN.out.same]; have := HL.out; omega)]
        rfl
      rw [HE.out]
      go_enter Try.func38, Try.ntmps38
      go_wp2_with fail
      go_ret
      exact ⟨rfl, rfl⟩
  · have HE : Hid ((outD (zipL T K) z).isSome = false) := by
      rw [Hid, outD_low (m := 0) (fun k hk => absurd hk (Nat.not_lt_zero _)) (by omega)]
      rfl
    rw [HE.out]
    go_enter Try.func38, Try.ntmps38
    go_wp2_with fail
    go_ret
    exact ⟨rfl, rfl⟩

theorem out_at {T : List ByteArray} {K : List Bool} {i : Nat} {t : ByteArray} (h : K.length = T.length) (ho : outD (zipL T K) ((i + 1 : Nat) : Int) = some t) : ∃ hi : i < T.length, T[i] = t ∧ K[i]'(by omega) = false := by
  rw [outD_nat] at ho
  by_cases hi : i < T.length
  · rw [zipL_at h i hi] at ho
    refine ⟨hi, ?_⟩
    cases hk : K[i]'(by omega) <;> simp [hk] at ho
    exact ⟨ho, rfl⟩
  · rw [List.getElem?_eq_none (by rw [zipL_len h]; omega)] at ho
    cases ho

set_option maxRecDepth 100000 in
set_option maxHeartbeats 1000000 in
theorem rget33 (b : Nat) (tv bv : Value) (n : Nat) (T : List ByteArray) (K : List Bool) (z : Int) (w : World) (h : Rw w b tv bv n T K) : Calls Try.prog 33 #[.pointer (some ⟨b, 0, none⟩), .int .i64 z] w fun e w' => e = .returned (.tuple #[Value.string (S.getD (zipL T K) z).1, .int .i64 (S.getD (zipL T K) z).2]) ∧ w' = w := by
  obtain ⟨ta, tc, bo, bc, rfl, rfl⟩ := h.sl
  have HN : Hid (Rw w b (.slice ta T.length tc) (.slice bo T.length bc) n T K) := h
  have c1 := h.blk.cell 1
  simp at c1
  obtain ⟨ln, hln⟩ : ∃ ln, T.length = ln := ⟨_, rfl⟩
  rw [hln] at c1
  have HL : Hid (T.length = ln ∧ ln ≤ 800000) := ⟨hln, by have := h.long; omega⟩
  clear h hln
  go_enter Try.func33, Try.ntmps33
  go_wp2_with fail
  refine (rout38 b _ _ n T K z w HN.out).mono ?_
  rintro e w1 ⟨rfl, rfl⟩
  cases ho : outD (zipL T K) z with
  | none =>
    have HX : Hid (S.getD (zipL T K) z = (⟨#[]⟩, 5)) := by unfold Hid S.getD; rw [ho]
    clear ho
    go_wp2_with fail
    go_ret2
    rw [HX.out]
    exact ⟨rfl, rfl⟩
  | some t =>
    obtain ⟨i, rfl, hk, _⟩ := outD_some ho
    have HX : Hid (S.getD (zipL T K) ((i + 1 : Nat) : Int) = (t, 0)) := by unfold Hid S.getD; rw [ho]
    obtain ⟨hi, ht, hkf⟩ := out_at HN.out.same ho
    obtain ⟨g, rfl, hc, _⟩ := HN.out.tat i hi
    rw [ht] at hc
    have d1 : IntKind.i64.wrap (((i + 1 : Nat) : Int) - 1) = (i : Int) := by have := HL.out; rw [IntKind.wrap_i64]; omega
    have d2 : IntKind.i64.wrap (i : Int) = (i : Int) := by have := HL.out; rw [IntKind.wrap_i64]; omega
    have j1 : (i : Int) < (ln : Int) := by have := HL.out; omega
    have j2 : (0 : Int) ≤ (i : Int) := by omega
    clear ho hk ht hkf hi
    go_wp2_with fail
    go_ret2
    rw [HX.out]
    exact ⟨rfl, rfl⟩

/-- What a step makes of the document's window. -/
def RTo (w : World) (b : Nat) (tv bv : Value) (n : Nat) (L : List (Option ByteArray)) (w' : World) : Prop := ∃ tv' bv' T' K', Rw w' b tv' bv' n T' K' ∧ zipL T' K' = L ∧ Fr w w' (FR b tv bv) ∧ ∀ i, FR b tv' bv' i → FR b tv bv i ∨ w.heap.size ≤ i
theorem RTo.refl {w : World} {b : Nat} {tv bv : Value} {n : Nat} {T : List ByteArray} {K : List Bool} (h : Rw w b tv bv n T K) : RTo w b tv bv n (zipL T K) w := ⟨tv, bv, T, K, h, rfl, Fr.of (grown_refl w none) (by simp), fun _ hi => .inl hi⟩
/-- What Set does. -/
def RSetP (w : World) (b : Nat) (tv bv : Value) (n : Nat) (L : List (Option ByteArray)) (z : Int) (x : ByteArray) (e : Ending) (w' : World) : Prop := e = .returned (.int .i64 (S.getD L z).2) ∧ RTo w b tv bv n (putL L z (some x)) w'
def RBackP (w : World) (b : Nat) (tv bv : Value) (n : Nat) (L : List (Option ByteArray)) (z : Int) (e : Ending) (w' : World) : Prop := e = .returned (.tuple #[Value.string (S.getD L z).1, .int .i64 (S.getD L z).2]) ∧ RTo w b tv bv n (putL L z none) w'

set_option maxRecDepth 100000 in
set_option maxHeartbeats 1000000 in
theorem rset35 (b : Nat) (tv bv : Value) (n : Nat) (T : List ByteArray) (K : List Bool) (z : Int) (x : ByteArray) (w : World) (h : Rw w b tv bv n T K) : Calls Try.prog 35 #[.pointer (some ⟨b, 0, none⟩), .int .i64 z, Value.string x] w (RSetP w b tv bv n (zipL T K) z x) := by
  obtain ⟨ta, tc, bo, bc, rfl, rfl⟩ := h.sl
  have HN : Hid (Rw w b (.slice ta T.length tc) (.slice bo T.length bc) n T K) := h
  have c1 := h.blk.cell 1
  simp at c1
  obtain ⟨ln, hln⟩ : ∃ ln, T.length = ln := ⟨_, rfl⟩
  rw [hln] at c1
  have HL : Hid (T.length = ln ∧ ln ≤ 800000) := ⟨hln, by have := h.long; omega⟩
  clear h hln
  go_enter Try.func35, Try.ntmps35
  go_wp2_with fail
  refine (rout38 b _ _ n T K z w HN.out).mono ?_
  rintro e w1 ⟨rfl, rfl⟩
  cases ho : outD (zipL T K) z with
  | none =>
    have HX : Hid (S.getD (zipL T K) z = (⟨#[]⟩, 5) ∧ putL (zipL T K) z (some x) = zipL T K) := ⟨by unfold S.getD; rw [ho], putL_none ho _⟩
    clear ho
    go_wp2_with fail
    go_ret
    unfold RSetP
    rw [HX.out.1, HX.out.2]
    exact ⟨rfl, RTo.refl HN.out⟩
  | some t =>
    obtain ⟨i, rfl, hk, _⟩ := outD_some ho
    obtain ⟨hi, ht, hkf⟩ := out_at HN.out.same ho
    have HX : Hid (S.getD (zipL T K) ((i + 1 : Nat) : Int) = (t, 0) ∧ putL (zipL T K) ((i + 1 : Nat) : Int) (some x) = zipL (T.set i x) K) := ⟨by unfold S.getD; rw [ho], by rw [putL_some ho, zipL_put HN.out.same i hi hkf]⟩
    obtain ⟨g, rfl, hc, hf⟩ := HN.out.tat i hi
    rw [ht] at hc
    have HW : Hid (RTo w1 b (.slice (some ⟨g, 0, none⟩) T.length tc) (.slice bo T.length bc) n (zipL (T.set i x) K) (w1.setCell ⟨g, i, none⟩ (.string x))) := by
      have h0 := HN.out
      have gs := grown_setCell w1 g i (.string x)
      obtain ⟨C, hC⟩ := h0.things.blk g rfl
      refine ⟨_, _, _, K, ⟨h0.blk.grown gs fun e => ?_, ?_, ?_, by simpa using h0.same, by simpa using h0.long⟩, rfl, Fr.of gs fun k hk => .inr (.inl hk), fun _ hi => .inl hi⟩
      · simp at e
        subst e
        exact absurd (blk_type hC h0.blk) (by decide)
      · have := h0.things.put i (by simpa using hi) (.string x) rfl
        rw [List.map_set]
        exact this
      · refine h0.back.same fun k hk => gs.block k (h0.back.lt k hk).2 fun e => ?_
        simp at e
        subst e
        obtain ⟨D, hD⟩ := h0.back.blk _ hk
        exact absurd (blk_type hC hD) (by decide)
    have d1 : IntKind.i64.wrap (((i + 1 : Nat) : Int) - 1) = (i : Int) := by have := HL.out; rw [IntKind.wrap_i64]; omega
    have d2 : IntKind.i64.wrap (i : Int) = (i : Int) := by have := HL.out; rw [IntKind.wrap_i64]; omega
    have j1 : (i : Int) < (ln : Int) := by have := HL.out; omega
    have j2 : (0 : Int) ≤ (i : Int) := by omega
    clear ho hk ht hkf hi
    go_wp2_with fail
    go_ret
    unfold RSetP
    rw [HX.out.1, HX.out.2]
    exact ⟨rfl, HW.out⟩

set_option maxRecDepth 100000 in
set_option maxHeartbeats 1000000 in
theorem rback36 (b : Nat) (tv bv : Value) (n : Nat) (T : List ByteArray) (K : List Bool) (z : Int) (w : World) (h : Rw w b tv bv n T K) : Calls Try.prog 36 #[.pointer (some ⟨b, 0, none⟩), .int .i64 z] w (RBackP w b tv bv n (zipL T K) z) := by
  obtain ⟨ta, tc, bo, bc, rfl, rfl⟩ := h.sl
  have HN : Hid (Rw w b (.slice ta T.length tc) (.slice bo T.length bc) n T K) := h
  have c2 := h.blk.cell 2
  simp at c2
  obtain ⟨ln, hln⟩ : ∃ ln, T.length = ln := ⟨_, rfl⟩
  rw [hln] at c2
  have HL : Hid (T.length = ln ∧ ln ≤ 800000) := ⟨hln, by have := h.long; omega⟩
  clear h hln
  go_enter Try.func36, Try.ntmps36
  go_wp2_with fail
  refine (rget33 b _ _ n T K z w HN.out).mono ?_
  rintro e w1 ⟨rfl, rfl⟩
  cases ho : outD (zipL T K) z with
  | none =>
    have HX : Hid (S.getD (zipL T K) z = (⟨#[]⟩, 5) ∧ putL (zipL T K) z none = zipL T K) := ⟨by unfold S.getD; rw [ho], putL_none ho _⟩
    clear ho
    rw [HX.out.1]
    go_wp2_with fail
    go_ret2
    unfold RBackP
    rw [HX.out.1, HX.out.2]
    exact ⟨rfl, RTo.refl HN.out⟩
  | some t =>
    obtain ⟨i, rfl, hk, _⟩ := outD_some ho
    obtain ⟨hi, ht, hkf⟩ := out_at HN.out.same ho
    have HX : Hid (S.getD (zipL T K) ((i + 1 : Nat) : Int) = (t, 0) ∧ putL (zipL T K) ((i + 1 : Nat) : Int) none = zipL T (K.set i true)) := ⟨by unfold S.getD; rw [ho], by rw [putL_some ho, zipL_back HN.out.same i hi]⟩
    obtain ⟨g, rfl, hc, hf⟩ := HN.out.bat i hi
    rw [hkf] at hc
    have HW : Hid (RTo w1 b (.slice ta T.length tc) (.slice (some ⟨g, 0, none⟩) T.length bc) n (zipL T (K.set i true)) (w1.setCell ⟨g, i, none⟩ (.bool true))) := by
      have h0 := HN.out
      have gs := grown_setCell w1 g i (.bool true)
      obtain ⟨C, hC⟩ := h0.back.blk g rfl
      refine ⟨_, _, T, _, ⟨h0.blk.grown gs fun e => ?_, ?_, ?_, by simpa using h0.same, by simpa using h0.long⟩, rfl, Fr.of gs fun k hk => .inr (.inr hk), fun _ hi => .inl hi⟩
      · simp at e
        subst e
        exact absurd (blk_type hC h0.blk) (by decide)
      · refine h0.things.same fun k hk => gs.block k (h0.things.lt k hk).2 fun e => ?_
        simp at e
        subst e
        obtain ⟨D, hD⟩ := h0.things.blk _ hk
        exact absurd (blk_type hC hD) (by decide)
      · have := h0.back.put i (by simpa [h0.same] using hi) (.bool true) rfl
        rw [List.map_set]
        exact this
    have d1 : IntKind.i64.wrap (((i + 1 : Nat) : Int) - 1) = (i : Int) := by have := HL.out; rw [IntKind.wrap_i64]; omega
    have d2 : IntKind.i64.wrap (i : Int) = (i : Int) := by have := HL.out; rw [IntKind.wrap_i64]; omega
    have j1 : (i : Int) < (ln : Int) := by have := HL.out; omega
    have j2 : (0 : Int) ≤ (i : Int) := by omega
    clear ho hk ht hkf hi
    rw [HX.out.1]
    go_wp2_with fail
    go_ret2
    unfold RBackP
    rw [HX.out.1, HX.out.2]
    exact ⟨rfl, HW.out⟩
end Go.Proofs.Ytignmnmhigncjaa
