/-
  A number found in a window; its thing.
-/
import Derived.Test.YtignmnmhigncjaaSA
namespace Go.Proofs.Ytignmnmhigncjaa.S
open Go.RowKit Disk
variable {Q : Nat → Prop}

/-- What Get answers. -/
def getD (L : List (Option ByteArray)) (z : Int) : ByteArray × Int := match outD L z with
  | some t => (t, 0)
  | none => ((⟨#[]⟩ : ByteArray), 5)
theorem Win.long {w : World} {b : Nat} {v : Value} {n : Nat} {L : List (Option ByteArray)} {m : Nat} (h : Win Q w b v n L m) : L.length ≤ m + 64 := by have := h.room; have := h.size; omega
/-- What find answers. -/
def FindP (n : Nat) (L : List (Option ByteArray)) (m : Nat) (z : Int) (e : Ending) : Prop :=
  (outD L z = none ∧ e = .returned (.tuple #[.int .i64 0, .int .i64 5])) ∨ (∃ (k : Nat) (t : ByteArray), outD L z = some t ∧ z = ((k + 1 : Nat) : Int) ∧ m ≤ k ∧ k < L.length ∧ L[k]? = some (some t) ∧ e = .returned (.tuple #[.int .i64 ((k + 1) % n : Nat), .int .i64 0]))

set_option maxRecDepth 100000 in
set_option maxHeartbeats 1000000 in
theorem find_yes (b : Nat) (v : Value) (n : Nat) (L : List (Option ByteArray)) (m : Nat) (z : Int) (w : World) (h : Win Q w b v n L m) (hL : L.length ≤ 1000000) : Calls Try.prog 47 #[.pointer (some ⟨b, 0, none⟩), .int .i64 z] w fun e w' => FindP n L m z e ∧ w' = w := by
  obtain ⟨g, cap, rfl, hcap⟩ := h.sl
  have HN : Hid (Win Q w b (.slice (some ⟨g, 0, none⟩) n cap) n L m) := h
  have c0 := h.blk.cell 0
  have c1 := h.blk.cell 1
  have c2 := h.blk.cell 2
  simp at c0 c1 c2
  obtain ⟨ln, hln⟩ : ∃ ln, L.length = ln := ⟨_, rfl⟩
  rw [hln] at c1 hL
  by_cases h1 : z ≤ (m : Int)
  · have HP : Hid (FindP n L m z (.returned (.tuple #[.int .i64 0, .int .i64 5]))) := .inl ⟨outD_low h.low h1, rfl⟩
    clear h hln hcap
    go_enter Try.func47, Try.ntmps47
    go_wp2_with fail
    refine HN.out.yes.mono ?_
    rintro e w1 ⟨rfl, rfl⟩
    go_wp2_with fail
    go_ret2
    exact ⟨HP.out, rfl⟩
  · by_cases h2 : (ln : Int) < z
    · have HP : Hid (FindP n L m z (.returned (.tuple #[.int .i64 0, .int .i64 5]))) := .inl ⟨outD_high (by rw [hln]; exact h2), rfl⟩
      clear h hln hcap
      go_enter Try.func47, Try.ntmps47
      go_wp2_with fail
      refine HN.out.yes.mono ?_
      rintro e w1 ⟨rfl, rfl⟩
      go_wp2_with fail
      go_ret2
      exact ⟨HP.out, rfl⟩
    · obtain ⟨k, hk⟩ : ∃ k : Nat, z = ((k + 1 : Nat) : Int) := ⟨(z - 1).toNat, by omega⟩
      subst hk
      have HK : Hid (m ≤ k ∧ k < L.length) := ⟨by omega, by omega⟩
      obtain ⟨x, hx, hp⟩ := h.at k HK.out.1 HK.out.2
      obtain ⟨o, ho⟩ : ∃ o, L[k]'HK.out.2 = o := ⟨_, rfl⟩
      rw [ho] at hp
      have HO : Hid (L[k]? = some o) := by rw [Hid, List.getElem?_eq_getElem HK.out.2, ho]
      have hmod : (k + 1) % n < n := Nat.mod_lt _ (by have := h.size; omega)
      obtain ⟨j, hj⟩ : ∃ j, (k + 1) % n = j := ⟨_, rfl⟩
      have HJ : Hid ((k + 1) % n = j) := hj
      rw [hj] at hx hmod
      have j1 : (j : Int) < (n : Int) := by omega
      have j2 : (0 : Int) ≤ (j : Int) := by omega
      cases o with
      | none =>
        have hp' : x = .pointer none := hp
        subst hp'
        have HP : Hid (FindP n L m ((k + 1 : Nat) : Int) (.returned (.tuple #[.int .i64 0, .int .i64 5]))) := .inl ⟨by rw [outD_nat, HO.out]; rfl, rfl⟩
        clear h hln hcap hj hp ho
        go_enter Try.func47, Try.ntmps47
        go_wp2_with fail
        refine HN.out.yes.mono ?_
        rintro e w1 ⟨rfl, rfl⟩
        go_wp2_with fail
        refine (place_yes b g n n cap _ _ (k + 1) j w1 HJ.out HN.out.blk HN.out.size (by have := HK.out; omega)).mono ?_
        rintro e w1 ⟨rfl, rfl⟩
        go_wp2_with fail
        go_ret2
        exact ⟨HP.out, rfl⟩
      | some t =>
        obtain ⟨p, rfl, hpb, _⟩ := hp
        have HP : Hid (FindP n L m ((k + 1 : Nat) : Int) (.returned (.tuple #[.int .i64 (j : Nat), .int .i64 0]))) := .inr ⟨k, t, by rw [outD_nat, HO.out]; rfl, rfl, HK.out.1, HK.out.2, HO.out, by rw [HJ.out]⟩
        clear h hln hcap hj hpb ho
        go_enter Try.func47, Try.ntmps47
        go_wp2_with fail
        refine HN.out.yes.mono ?_
        rintro e w1 ⟨rfl, rfl⟩
        go_wp2_with fail
        refine (place_yes b g n n cap _ _ (k + 1) j w1 HJ.out HN.out.blk HN.out.size (by have := HK.out; omega)).mono ?_
        rintro e w1 ⟨rfl, rfl⟩
        go_wp2_with fail
        go_ret2
        exact ⟨HP.out, rfl⟩
set_option maxRecDepth 100000 in
set_option maxHeartbeats 1000000 in
theorem find_no (x : Value) (z : Int) (w : World) (h : NoWin w x) : Calls Try.prog 47 #[x, .int .i64 z] w fun e w' => e = .returned (.tuple #[.int .i64 0, .int .i64 1]) ∧ w' = w := by
  have HN : Hid (NoWin w x) := h
  clear h
  go_enter Try.func47, Try.ntmps47
  go_wp2_with fail
  refine (there_no x w HN.out).mono ?_
  rintro e w1 ⟨rfl, rfl⟩
  go_wp2_with fail
  go_ret2
  exact ⟨rfl, rfl⟩

set_option maxRecDepth 100000 in
set_option maxHeartbeats 1000000 in
theorem get_yes (b : Nat) (v : Value) (n : Nat) (L : List (Option ByteArray)) (m : Nat) (z : Int) (w : World) (h : Win Q w b v n L m) (hL : L.length ≤ 1000000) : Calls Try.prog 32 #[.pointer (some ⟨b, 0, none⟩), .int .i64 z] w fun e w' => e = .returned (.tuple #[Value.string (getD L z).1, .int .i64 (getD L z).2]) ∧ w' = w := by
  obtain ⟨g, cap, rfl, hcap⟩ := h.sl
  have HN : Hid (Win Q w b (.slice (some ⟨g, 0, none⟩) n cap) n L m) := h
  have c0 := h.blk.cell 0
  simp at c0
  clear h hcap
  go_enter Try.func32, Try.ntmps32
  go_wp2_with fail
  refine (find_yes b _ n L m z w HN.out hL).mono ?_
  rintro e w1 ⟨hf, rfl⟩
  rcases hf with ⟨hno, rfl⟩ | ⟨k, t, hso, rfl, hk, hl, hg, rfl⟩
  · have HX : Hid (getD L z = ((⟨#[]⟩ : ByteArray), 5)) := by unfold Hid getD; rw [hno]
    clear hno
    go_wp2_with fail
    go_ret2
    rw [HX.out]
    exact ⟨rfl, rfl⟩
  · have HX : Hid (getD L ((k + 1 : Nat) : Int) = (t, 0)) := by unfold Hid getD; rw [hso]
    obtain ⟨x, hx, hp⟩ := HN.out.at k hk hl
    have ho : L[k]'hl = some t := (List.getElem?_eq_some_iff.1 hg).2
    rw [ho] at hp
    obtain ⟨p, rfl, hpb, _⟩ := hp
    have hmod : (k + 1) % n < n := Nat.mod_lt _ (by have := HN.out.size; omega)
    obtain ⟨j, hj⟩ : ∃ j, (k + 1) % n = j := ⟨_, rfl⟩
    rw [hj] at hx hmod ⊢
    have j1 : (j : Int) < (n : Int) := by omega
    have j2 : (0 : Int) ≤ (j : Int) := by omega
    have c3 := hpb.cell 0
    simp at c3
    clear hso hg ho hpb hj hk hl
    go_wp2_with fail
    go_ret2
    rw [HX.out]
    exact ⟨rfl, rfl⟩
set_option maxRecDepth 100000 in
set_option maxHeartbeats 1000000 in
theorem get_no (x : Value) (z : Int) (w : World) (h : NoWin w x) : Calls Try.prog 32 #[x, .int .i64 z] w fun e w' => e = .returned (.tuple #[Value.string (⟨#[]⟩ : ByteArray), .int .i64 1]) ∧ w' = w := by
  have HN : Hid (NoWin w x) := h
  clear h
  go_enter Try.func32, Try.ntmps32
  go_wp2_with fail
  refine (find_no x z w HN.out).mono ?_
  rintro e w1 ⟨rfl, rfl⟩
  go_wp2_with fail
  go_ret2
  exact ⟨rfl, rfl⟩
end Go.Proofs.Ytignmnmhigncjaa.S
