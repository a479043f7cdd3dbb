/-
  A window in memory; what tells of it: there, Mark, Last, Room, place.
-/
import Derived.Test.YtignmnmhigncjaaWa
namespace Go.Proofs.Ytignmnmhigncjaa.S
open Go.RowKit Disk
variable {Q : Nat → Prop}

/-- What a place of the ring holds: nothing, or where a thing lies. -/
def Pl (Q : Nat → Prop) (w : World) (x : Value) (o : Option ByteArray) : Prop := match o with
  | none => x = .pointer none
  | some t => ∃ p, x = .pointer (some ⟨p, 0, none⟩) ∧ Blk w p 9 #[Value.string t] ∧ Q p
/-- A window: its size n, its things L (none: back), its mark m. -/
structure Win (Q : Nat → Prop) (w : World) (b : Nat) (v : Value) (n : Nat) (L : List (Option ByteArray)) (m : Nat) : Prop where
  blk : Blk w b 56 #[v, .int .i64 (L.length : Nat), .int .i64 (m : Nat)]
  ring : ∃ xs, Row 61 w 0 v xs ∧ xs.length = n ∧ ∀ k, m ≤ k → ∀ (h : k < L.length), ∃ x, xs[(k + 1) % n]? = some x ∧ Pl Q w x L[k]
  low : ∀ k, k < m → L[k]? = some none
  room : L.length ≤ m + n
  size : 1 ≤ n ∧ n ≤ 64
  top : m ≤ L.length
/-- A window that is not there. -/
def NoWin (w : World) (x : Value) : Prop := x = .pointer none ∨ ∃ b u v, x = .pointer (some ⟨b, 0, none⟩) ∧ Blk w b 56 #[.slice none 0 0, u, v]
/-- The blocks of a window. -/
def FN (b : Nat) (v : Value) (i : Nat) : Prop := i = b ∨ v.ownBlock = some i

theorem Pl.same {w w' : World} {x : Value} {o : Option ByteArray} (h : Pl Q w x o) (hs : ∀ i c, Blk w i 9 c → Blk w' i 9 c) : Pl Q w' x o := by
  cases o with
  | none => exact h
  | some t =>
    obtain ⟨p, h1, h2, h3⟩ := h
    exact ⟨p, h1, hs _ _ h2, h3⟩
theorem Pl.grown {w w' : World} {x : Value} {o : Option ByteArray} (h : Pl Q w x o) (hg : w.grownBy w' none) : Pl Q w' x o := h.same fun _ _ hb => hb.grown hg (by simp)
theorem Pl.kept {w w' : World} {x : Value} {o : Option ByteArray} (h : Pl Q w x o) (hs : ∀ i, Q i → i < w.heap.size → w'.heap[i]? = w.heap[i]?) : Pl Q w' x o := by
  cases o with
  | none => exact h
  | some t =>
    obtain ⟨p, h1, h2, h3⟩ := h
    exact ⟨p, h1, h2.same (hs p h3 h2.lt), h3⟩
theorem Pl.mono {Q' : Nat → Prop} {w : World} {x : Value} {o : Option ByteArray} (h : Pl Q w x o) (hq : ∀ i, Q i → Q' i) : Pl Q' w x o := by
  cases o with
  | none => exact h
  | some t =>
    obtain ⟨p, h1, h2, h3⟩ := h
    exact ⟨p, h1, h2, hq p h3⟩
theorem Win.mono {Q' : Nat → Prop} {w : World} {b : Nat} {v : Value} {n : Nat} {L : List (Option ByteArray)} {m : Nat} (h : Win Q w b v n L m) (hq : ∀ i, Q i → Q' i) : Win Q' w b v n L m := by
  obtain ⟨xs, h1, h2, h3⟩ := h.ring
  exact ⟨h.blk, ⟨xs, h1, h2, fun k hk hl => let ⟨x, hx, hp⟩ := h3 k hk hl; ⟨x, hx, hp.mono hq⟩⟩, h.low, h.room, h.size, h.top⟩
/-- A window where its blocks, and those of its things, are as they were. -/
theorem Win.kept {w w' : World} {b : Nat} {v : Value} {n : Nat} {L : List (Option ByteArray)} {m : Nat} (h : Win Q w b v n L m) (hk : ∀ i, FN b v i ∨ Q i → i < w.heap.size → w'.heap[i]? = w.heap[i]?) : Win Q w' b v n L m := by
  obtain ⟨xs, h1, h2, h3⟩ := h.ring
  exact ⟨h.blk.same (hk b (.inl (.inl rfl)) h.blk.lt), ⟨xs, h1.same fun k e => hk k (.inl (.inr e)) (h1.lt k e).2, h2, fun k hk' hl => let ⟨x, hx, hp⟩ := h3 k hk' hl; ⟨x, hx, hp.kept fun i hi => hk i (.inr hi)⟩⟩, h.low, h.room, h.size, h.top⟩
theorem Win.same {w w' : World} {b : Nat} {v : Value} {n : Nat} {L : List (Option ByteArray)} {m : Nat} (h : Win Q w b v n L m) (hb : w'.heap[b]? = w.heap[b]?) (hv : ∀ k, v.ownBlock = some k → w'.heap[k]? = w.heap[k]?) (hs : ∀ i c, Blk w i 9 c → Blk w' i 9 c) : Win Q w' b v n L m := by
  obtain ⟨xs, h1, h2, h3⟩ := h.ring
  exact ⟨h.blk.same hb, ⟨xs, h1.same hv, h2, fun k hk hl => let ⟨x, hx, hp⟩ := h3 k hk hl; ⟨x, hx, hp.same hs⟩⟩, h.low, h.room, h.size, h.top⟩
theorem Win.grown {w w' : World} {b : Nat} {v : Value} {n : Nat} {L : List (Option ByteArray)} {m : Nat} (h : Win Q w b v n L m) (hg : w.grownBy w' none) : Win Q w' b v n L m := by
  obtain ⟨xs, h1, h2, h3⟩ := h.ring
  exact ⟨h.blk.grown hg (by simp), ⟨xs, h1.grown hg, h2, fun k hk hl => let ⟨x, hx, hp⟩ := h3 k hk hl; ⟨x, hx, hp.grown hg⟩⟩, h.low, h.room, h.size, h.top⟩
theorem NoWin.grown {w w' : World} {x : Value} (h : NoWin w x) (hg : w.grownBy w' none) : NoWin w' x := by
  rcases h with h | ⟨b, u, v, h, hb⟩
  · exact .inl h
  · exact .inr ⟨b, u, v, h, hb.grown hg (by simp)⟩
/-- The ring's form. -/
theorem Win.sl {w : World} {b : Nat} {v : Value} {n : Nat} {L : List (Option ByteArray)} {m : Nat} (h : Win Q w b v n L m) : ∃ g cap, v = .slice (some ⟨g, 0, none⟩) n cap ∧ n ≤ cap ∧ cap ≤ maxLen := by
  obtain ⟨xs, h1, h2, _⟩ := h.ring
  rcases h1.shape with ⟨_, rfl⟩ | ⟨g, cap, C, rfl, _, _, h3, h4, _⟩
  · have := h.size
    simp at h2
    omega
  · exact ⟨g, cap, by rw [h2], by omega, h4⟩
/-- What is no block of a window stays as it was. -/
theorem Win.other {w w' : World} {b : Nat} {v : Value} {n : Nat} {L : List (Option ByteArray)} {m : Nat} (h : Win Q w b v n L m) (hf : Fr w w' (FN b v)) {i t : Nat} {c : Array Value} (hb : Blk w i t c) (h1 : t ≠ 56) (h2 : t ≠ 61) : Blk w' i t c := by
  refine hb.same (hf.block i hb.lt fun e => ?_)
  rcases e with rfl | e
  · exact h1 (blk_type hb h.blk)
  · obtain ⟨xs, hr, _⟩ := h.ring
    obtain ⟨C, hC⟩ := hr.blk i e
    exact h2 (blk_type hb hC)
theorem Win.lt {w : World} {b : Nat} {v : Value} {n : Nat} {L : List (Option ByteArray)} {m : Nat} (h : Win Q w b v n L m) : ∀ i, FN b v i → i < w.heap.size := by
  rintro i (rfl | e)
  · exact h.blk.lt
  · obtain ⟨xs, hr, _⟩ := h.ring
    exact (hr.lt i e).2
/-- A place of the ring. -/
theorem Win.at {w : World} {b g cap : Nat} {n n' : Nat} {L : List (Option ByteArray)} {m : Nat} (h : Win Q w b (.slice (some ⟨g, 0, none⟩) n' cap) n L m) (k : Nat) (hk : m ≤ k) (hl : k < L.length) : ∃ x, w.cell? ⟨g, (k + 1) % n, none⟩ = some x ∧ Pl Q w x L[k] := by
  obtain ⟨xs, h1, h2, h3⟩ := h.ring
  obtain ⟨x, hx, hp⟩ := h3 k hk hl
  obtain ⟨hj, e⟩ := List.getElem?_eq_some_iff.1 hx
  exact ⟨x, by rw [h1.cell _ hj, e], hp⟩
theorem Win.free {w : World} {b g cap : Nat} {n n' : Nat} {L : List (Option ByteArray)} {m : Nat} (h : Win Q w b (.slice (some ⟨g, 0, none⟩) n' cap) n L m) (j : Nat) : w.frozen? ⟨g, j, none⟩ = false := by
  obtain ⟨xs, h1, _⟩ := h.ring
  exact h1.free j
theorem Win.there {w : World} {b g cap : Nat} {n n' : Nat} {L : List (Option ByteArray)} {m : Nat} (h : Win Q w b (.slice (some ⟨g, 0, none⟩) n' cap) n L m) (j : Nat) (hj : j < n) : ∃ x, w.cell? ⟨g, j, none⟩ = some x := by
  obtain ⟨xs, h1, h2, _⟩ := h.ring
  exact ⟨_, h1.cell j (by omega)⟩

set_option maxRecDepth 100000 in
set_option maxHeartbeats 400000 in
theorem there_yes (b g n cap : Nat) (x y : Value) (w : World) (hb : Blk w b 56 #[.slice (some ⟨g, 0, none⟩) n cap, x, y]) (hn : 1 ≤ n) : Calls Try.prog 29 #[.pointer (some ⟨b, 0, none⟩)] w fun e w' => e = .returned (.bool true) ∧ w' = w := by
  have c0 := hb.cell 0
  simp at c0
  have i1 : ((0 : Int) < (n : Int)) = True := eq_true (by omega)
  have i2 : (0 < n) = True := eq_true (by omega)
  have i3 : (n = 0) = False := eq_false (by omega)
  clear hb hn
  go_enter Try.func29, Try.ntmps29
  go_wp2
  go_ret
  exact ⟨rfl, rfl⟩
set_option maxRecDepth 100000 in
set_option maxHeartbeats 400000 in
theorem there_no (x : Value) (w : World) (h : NoWin w x) : Calls Try.prog 29 #[x] w fun e w' => e = .returned (.bool false) ∧ w' = w := by
  rcases h with rfl | ⟨b, u, v, rfl, hb⟩
  · go_enter Try.func29, Try.ntmps29
    go_wp2
    go_ret
    exact ⟨rfl, rfl⟩
  · have c0 := hb.cell 0
    simp at c0
    clear hb
    go_enter Try.func29, Try.ntmps29
    go_wp2
    go_ret
    exact ⟨rfl, rfl⟩
theorem Win.yes {w : World} {b : Nat} {v : Value} {n : Nat} {L : List (Option ByteArray)} {m : Nat} (h : Win Q w b v n L m) : Calls Try.prog 29 #[.pointer (some ⟨b, 0, none⟩)] w fun e w' => e = .returned (.bool true) ∧ w' = w := by
  obtain ⟨g, cap, rfl, _⟩ := h.sl
  exact there_yes b g n cap _ _ w h.blk h.size.1

set_option maxRecDepth 100000 in
set_option maxHeartbeats 400000 in
theorem mark_yes (b : Nat) (v : Value) (n : Nat) (L : List (Option ByteArray)) (m : Nat) (w : World) (h : Win Q w b v n L m) : Calls Try.prog 12 #[.pointer (some ⟨b, 0, none⟩)] w fun e w' => e = .returned (.int .i64 (m : Nat)) ∧ w' = w := by
  have HN : Hid (Win Q w b v n L m) := h
  have c2 := h.blk.cell 2
  simp at c2
  clear h
  go_enter Try.func12, Try.ntmps12
  go_wp2_with fail
  refine HN.out.yes.mono ?_
  rintro e w1 ⟨rfl, rfl⟩
  go_wp2_with fail
  go_ret
  exact ⟨rfl, rfl⟩
set_option maxRecDepth 100000 in
set_option maxHeartbeats 400000 in
theorem mark_no (x : Value) (w : World) (h : NoWin w x) : Calls Try.prog 12 #[x] w fun e w' => e = .returned (.int .i64 0) ∧ w' = w := by
  have HN : Hid (NoWin w x) := h
  clear h
  go_enter Try.func12, Try.ntmps12
  go_wp2_with fail
  refine (there_no x w HN.out).mono ?_
  rintro e w1 ⟨rfl, rfl⟩
  go_wp2_with fail
  go_ret
  exact ⟨rfl, rfl⟩
set_option maxRecDepth 100000 in
set_option maxHeartbeats 400000 in
theorem last_yes (b : Nat) (v : Value) (n : Nat) (L : List (Option ByteArray)) (m : Nat) (w : World) (h : Win Q w b v n L m) : Calls Try.prog 14 #[.pointer (some ⟨b, 0, none⟩)] w fun e w' => e = .returned (.int .i64 (L.length : Nat)) ∧ w' = w := by
  have HN : Hid (Win Q w b v n L m) := h
  have c1 := h.blk.cell 1
  simp at c1
  obtain ⟨ln, hln⟩ : ∃ ln, L.length = ln := ⟨_, rfl⟩
  rw [hln] at c1 ⊢
  clear h hln
  go_enter Try.func14, Try.ntmps14
  go_wp2_with fail
  refine HN.out.yes.mono ?_
  rintro e w1 ⟨rfl, rfl⟩
  go_wp2_with fail
  go_ret
  exact ⟨rfl, rfl⟩
set_option maxRecDepth 100000 in
set_option maxHeartbeats 400000 in
theorem last_no (x : Value) (w : World) (h : NoWin w x) : Calls Try.prog 14 #[x] w fun e w' => e = .returned (.int .i64 0) ∧ w' = w := by
  have HN : Hid (NoWin w x) := h
  clear h
  go_enter Try.func14, Try.ntmps14
  go_wp2_with fail
  refine (there_no x w HN.out).mono ?_
  rintro e w1 ⟨rfl, rfl⟩
  go_wp2_with fail
  go_ret
  exact ⟨rfl, rfl⟩
set_option maxRecDepth 100000 in
set_option maxHeartbeats 400000 in
theorem room_yes (b : Nat) (v : Value) (n : Nat) (L : List (Option ByteArray)) (m : Nat) (w : World) (h : Win Q w b v n L m) (hL : L.length ≤ 1000000) : Calls Try.prog 17 #[.pointer (some ⟨b, 0, none⟩)] w fun e w' => e = .returned (.int .i64 (m + n - L.length : Nat)) ∧ w.grownBy w' none := by
  obtain ⟨g, cap, rfl, hcap⟩ := h.sl
  have HN : Hid (Win Q w b (.slice (some ⟨g, 0, none⟩) n cap) n L m) := h
  have c0 := h.blk.cell 0
  have c1 := h.blk.cell 1
  have c2 := h.blk.cell 2
  simp at c0 c1 c2
  obtain ⟨ln, hln⟩ : ∃ ln, L.length = ln := ⟨_, rfl⟩
  have h1 := h.room
  have h2 := h.size
  have h3 := h.top
  rw [hln] at c1 h1 h3 hL ⊢
  have d1 : IntKind.i64.wrap ((ln : Int) - (m : Int)) = (ln : Int) - (m : Int) := by rw [IntKind.wrap_i64]; omega
  have d2 : IntKind.i64.wrap ((n : Int) - ((ln : Int) - (m : Int))) = (n : Int) - ((ln : Int) - (m : Int)) := by rw [IntKind.wrap_i64]; omega
  have HE : Hid ((n : Int) - ((ln : Int) - (m : Int)) = ((m + n - ln : Nat) : Int)) := by unfold Hid; omega
  clear h hln h1 h2 h3 hcap hL
  go_enter Try.func17, Try.ntmps17
  go_wp2_with fail
  refine HN.out.yes.mono ?_
  rintro e w1 ⟨rfl, rfl⟩
  go_upto_region 3 with fail
  refine wp_region_noPanic ?_
  refine wp_region_hold 1000 (fun y => w1.grownBy y none) (by kernel_rfl) ?_
  have HD : Hid (w1.grownBy w1.drew none) := grown_drew _ _
  generalize w1.drew = wd at HD ⊢
  have J : Idx [0, 1, 2, 3, 4, 5, 6, 7, 8, 9, 10, 11, 12, 13, 14, 15] := trivial
  iterate 16 (refine tk J (HD.out) rfl rfl (fun wk hk => by have k0 := hk.cell c0 (by simp); have k1 := hk.cell c1 (by simp); have k2 := hk.cell c2 (by simp); go_simp; try rfl) ?_; replace J := J.tl; try simp only [Act.put, List.setIfInBounds_toArray, List.set_cons_zero, List.set_cons_succ])
  clear J
  refine wpHold_done (by kernel_rfl) ?_
  refine (‹∀ (a : Act) (w : World), Code.wp Try.prog _ _ a w → _› _ _ ?_)
  go_wp2_with fail
  go_ret
  rw [HE.out]
  exact ⟨rfl, HD.out⟩
set_option maxRecDepth 100000 in
set_option maxHeartbeats 400000 in
theorem room_no (x : Value) (w : World) (h : NoWin w x) : Calls Try.prog 17 #[x] w fun e w' => e = .returned (.int .i64 0) ∧ w' = w := by
  have HN : Hid (NoWin w x) := h
  clear h
  go_enter Try.func17, Try.ntmps17
  go_wp2_with fail
  refine (there_no x w HN.out).mono ?_
  rintro e w1 ⟨rfl, rfl⟩
  go_wp2_with fail
  go_ret
  exact ⟨rfl, rfl⟩
set_option maxRecDepth 100000 in
set_option maxHeartbeats 400000 in
theorem place_yes (b : Nat) (g n _n' cap : Nat) (x y : Value) (k j : Nat) (w : World) (hj : k % n = j) (h : Blk w b 56 #[.slice (some ⟨g, 0, none⟩) n cap, x, y]) (hn : 1 ≤ n ∧ n ≤ 64) (hk : k ≤ 1000001) : Calls Try.prog 45 #[.pointer (some ⟨b, 0, none⟩), .int .i64 (k : Nat)] w fun e w' => e = .returned (.int .i64 (j : Nat)) ∧ w' = w := by
  subst hj
  have c0 := h.cell 0
  simp at c0
  have i1 : ((n : Int) == 0) = false := by simp; omega
  have i2 : ((n : Int) = 0) = False := eq_false (by omega)
  have i3 : (n = 0) = False := eq_false (by omega)
  clear h
  go_enter Try.func45, Try.ntmps45
  go_wp2_with fail
  go_ret
  exact ⟨rfl, rfl⟩
end Go.Proofs.Ytignmnmhigncjaa.S
