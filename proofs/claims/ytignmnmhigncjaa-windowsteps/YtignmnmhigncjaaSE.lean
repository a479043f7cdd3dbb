/-
  A window copied.
-/
import Derived.Test.YtignmnmhigncjaaSC
namespace Go.Proofs.Ytignmnmhigncjaa.S
open Go.RowKit Disk
variable {Q : Nat → Prop}

theorem eqlR : ∀ (w : World) (a : Option Addr) (n c n' c' : Nat), (binOp .eql 54 (.slice a n c) (.slice none n' c')).run Try.prog w = .ok (.bool a.isNone) w := fun w a n c n' c' => Lib.run_eql_slice_nil w 54 61 a n c n' c' utR

/-- What Clone makes. -/
def CloneP (xs : List Value) (w : World) (e : Ending) (w' : World) : Prop := ∃ u, e = .returned u ∧ Row 61 w' w.heap.size u xs ∧ w.grownBy w' none
set_option maxRecDepth 100000 in
set_option maxHeartbeats 1000000 in
theorem clone_row (B g n cap : Nat) (xs : List Value) (w : World) (h : Row 61 w B (.slice (some ⟨g, 0, none⟩) n cap) xs) (hl : xs.length ≤ 64) : Calls Try.prog 30 #[.slice (some ⟨g, 0, none⟩) n cap] w (CloneP xs w) := by
  have e1 := eqlR
  have HQ : Hid (Row 61 w B (.slice (some ⟨g, 0, none⟩) n cap) xs ∧ xs.length ≤ 64) := ⟨h, hl⟩
  clear h hl
  go_enter Try.func30, Try.ntmps30
  go_wp2_with (at_builtin; refine appR 54 61 8 _ rfl infoR rfl _ rfl _ _ rfl w.heap.size _ [] _ xs rfl rfl (row_made 61 w) (HQ.out.1.rd.grown (World.grownBy_alloc _ _ _)) HQ.out.1.one ?c0 ?c1 ?c2 ?_)
  case c0 => have := HQ.out.2; simp; omega
  case c1 => have := HQ.out.2; unfold maxLen; simp; omega
  case c2 => simp
  intro v' w1 hr hg hv
  have H1 : Hid (Row 61 w1 w.heap.size v' xs ∧ w.grownBy w1 none) := by
    have g1 : w.grownBy w1 none := grown_new (World.grownBy_alloc w _ none) hg (by intro x hx; simp [Value.ownBlock] at hx; omega)
    exact ⟨hr, g1⟩
  clear hr hg hv
  go_wp2_with fail
  go_ret
  exact ⟨_, rfl, H1.out⟩

/-- What Copy makes. -/
def CopyR (xs : List Value) (l m : Int) (w : World) (e : Ending) (w' : World) : Prop := ∃ b v, e = .returned (.pointer (some ⟨b, 0, none⟩)) ∧ Blk w' b 56 #[v, .int .i64 l, .int .i64 m] ∧ Row 61 w' w.heap.size v xs ∧ w.heap.size ≤ b ∧ w.grownBy w' none
set_option maxRecDepth 100000 in
set_option maxHeartbeats 2000000 in
theorem copy_row (b B : Nat) (v : Value) (l m : Int) (xs : List Value) (w : World) (hb : Blk w b 56 #[v, .int .i64 l, .int .i64 m]) (h : Row 61 w B v xs) (h1 : 1 ≤ xs.length) (h2 : xs.length ≤ 64) : Calls Try.prog 9 #[.pointer (some ⟨b, 0, none⟩)] w (CopyR xs l m w) := by
  obtain ⟨g, cap, rfl⟩ : ∃ g cap, v = .slice (some ⟨g, 0, none⟩) xs.length cap := by
    rcases h.shape with ⟨_, rfl⟩ | ⟨g, cap, C, rfl, _⟩
    · simp at h1
    · exact ⟨g, cap, rfl⟩
  obtain ⟨n, hn⟩ : ∃ n, xs.length = n := ⟨_, rfl⟩
  rw [hn] at hb h h1 h2
  have HQ : Hid (Blk w b 56 #[.slice (some ⟨g, 0, none⟩) n cap, .int .i64 l, .int .i64 m] ∧ Row 61 w B (.slice (some ⟨g, 0, none⟩) n cap) xs ∧ xs.length = n ∧ 1 ≤ n ∧ n ≤ 64) := ⟨hb, h, hn, h1, h2⟩
  have c0 := hb.cell 0
  have c1 := hb.cell 1
  have c2 := hb.cell 2
  simp at c0 c1 c2
  clear hb h h1 h2 hn
  go_enter Try.func9, Try.ntmps9
  go_wp2_with fail
  refine (there_yes b g n cap _ _ w HQ.out.1 HQ.out.2.2.2.1).mono ?_
  rintro e w1 ⟨rfl, rfl⟩
  go_upto_region 3 with fail
  refine wp_region_noPanic ?_
  refine wp_region_hold 1000 (fun y => w1.grownBy y none) (by kernel_rfl) ?_
  have HD : Hid (w1.grownBy w1.drew none) := grown_drew _ _
  generalize w1.drew = wd at HD ⊢
  have J : Idx [0, 1, 2, 3, 5, 6, 7, 8, 9, 10, 11, 12] := trivial
  iterate 12 (refine tk J (HD.out) rfl rfl (fun wk hk => by have k0 := hk.cell c0 (by simp); have k1 := hk.cell c1 (by simp); have k2 := hk.cell c2 (by simp); go_simp; try rfl) ?_; replace J := J.tl; try simp only [Act.put, List.setIfInBounds_toArray, List.set_cons_zero, List.set_cons_succ])
  clear J
  refine wpHold_one (i := 4) rfl (by kernel_rfl) (by rfl) (fun K hK => ?_)
  go_wp2_with fail
  refine (clone_row B g n cap xs wd (HQ.out.2.1.grown HD.out) (by have := HQ.out; omega)).mono ?_
  rintro e w5 ⟨u, rfl, hr5, hg5⟩
  obtain ⟨uo, uc, rfl⟩ := hr5.sl
  rw [HQ.out.2.2.1] at hr5
  try rw [HQ.out.2.2.1]
  have H5 : Hid (Row 61 w5 w1.heap.size (.slice uo n uc) xs ∧ w1.grownBy w5 none) := ⟨hr5.mono HD.out.size, grown_trans HD.out hg5⟩
  clear hr5 hg5
  go_wp2_with fail
  refine hK.out _ _ (fun _ => H5.out.2) ?_
  clear hK K
  try simp only [Act.put, List.setIfInBounds_toArray, List.set_cons_zero, List.set_cons_succ]
  have J : Idx [13] := trivial
  iterate 1 (refine tk J (H5.out.2) rfl rfl (fun wk hk => by have k0 := hk.cell c0 (by simp); have k1 := hk.cell c1 (by simp); have k2 := hk.cell c2 (by simp); go_simp; try rfl) ?_; replace J := J.tl; try simp only [Act.put, List.setIfInBounds_toArray, List.set_cons_zero, List.set_cons_succ])
  clear J
  refine wpHold_one (i := 14) rfl (by kernel_rfl) (by rfl) (fun K hK => ?_)
  obtain ⟨w6, hw6, H6⟩ := al1 w5 #[.slice uo n uc, .int .i64 l, .int .i64 m] 56
  obtain ⟨b2, hb2⟩ : ∃ x, w5.heap.size = x := ⟨_, rfl⟩
  rw [hb2] at H6
  have HW6 : Hid (w5.alloc (.cells #[.slice uo n uc, .int .i64 l, .int .i64 m] 56) = w6 ∧ w5.heap.size = b2) := ⟨hw6, hb2⟩
  clear hw6 hb2
  go_wp2_with fail
  rw [HW6.out.1, HW6.out.2]
  have H7 : Hid (Blk w6 b2 56 #[.slice uo n uc, .int .i64 l, .int .i64 m] ∧ Row 61 w6 w1.heap.size (.slice uo n uc) xs ∧ w1.heap.size ≤ b2 ∧ w1.grownBy w6 none) := ⟨H6.out.1, H5.out.1.grown H6.out.2.1, by have := HW6.out.2; have := H5.out.2.size; omega, grown_trans H5.out.2 H6.out.2.1⟩
  clear HW6 H6
  refine hK.out _ _ (fun _ => H7.out.2.2.2) ?_
  clear hK K
  try simp only [Act.put, List.setIfInBounds_toArray, List.set_cons_zero, List.set_cons_succ]
  have J : Idx [15] := trivial
  iterate 1 (refine tk J (H7.out.2.2.2) rfl rfl (fun wk hk => by have k0 := hk.cell c0 (by simp); have k1 := hk.cell c1 (by simp); have k2 := hk.cell c2 (by simp); go_simp; try rfl) ?_; replace J := J.tl; try simp only [Act.put, List.setIfInBounds_toArray, List.set_cons_zero, List.set_cons_succ])
  clear J
  refine wpHold_done (by kernel_rfl) ?_
  refine (‹∀ (a : Act) (w : World), Code.wp Try.prog _ _ a w → _› _ _ ?_)
  clear c0 c1 c2
  go_wp2_with fail
  go_ret
  exact ⟨b2, _, rfl, H7.out.1, H7.out.2.1, H7.out.2.2.1, H7.out.2.2.2⟩
set_option maxRecDepth 100000 in
set_option maxHeartbeats 400000 in
theorem copy_no (x : Value) (w : World) (h : NoWin w x) : Calls Try.prog 9 #[x] w fun e w' => e = .returned (.pointer none) ∧ w' = w := by
  have HN : Hid (NoWin w x) := h
  clear h
  go_enter Try.func9, Try.ntmps9
  go_wp2_with fail
  refine (there_no x w HN.out).mono ?_
  rintro e w1 ⟨rfl, rfl⟩
  go_wp2_with fail
  go_ret
  exact ⟨rfl, rfl⟩
/-- A copy of a window. -/
def CopyP (Q : Nat → Prop) (n : Nat) (L : List (Option ByteArray)) (m : Nat) (w : World) (e : Ending) (w' : World) : Prop := ∃ b v, e = .returned (.pointer (some ⟨b, 0, none⟩)) ∧ Win Q w' b v n L m ∧ w.grownBy w' none ∧ ∀ i, FN b v i → w.heap.size ≤ i
theorem copy_yes (b : Nat) (v : Value) (n : Nat) (L : List (Option ByteArray)) (m : Nat) (w : World) (h : Win Q w b v n L m) : Calls Try.prog 9 #[.pointer (some ⟨b, 0, none⟩)] w (CopyP Q n L m w) := by
  obtain ⟨xs, h1, h2, h3⟩ := h.ring
  have hs := h.size
  refine (copy_row b 0 v _ _ xs w h.blk h1 (by omega) (by omega)).mono ?_
  rintro e w' ⟨b', v', rfl, hb, hr, hbb, hg⟩
  refine ⟨b', v', rfl, ⟨hb, ⟨xs, hr.mono (Nat.zero_le _), h2, fun k hk hl => let ⟨x, hx, hp⟩ := h3 k hk hl; ⟨x, hx, hp.grown hg⟩⟩, h.low, h.room, h.size, h.top⟩, hg, ?_⟩
  rintro i (rfl | hi)
  · exact hbb
  · exact (hr.lt i hi).1
/-- A window again, where what it lies in is as it was. -/
theorem win_again {w0 W1 wr : World} {b B : Nat} {v : Value} {n : Nat} {L : List (Option ByteArray)} {m : Nat} {xs : List Value} (hb : Blk W1 b 56 #[v, .int .i64 (L.length : Nat), .int .i64 (m : Nat)]) (hr : Row 61 W1 B v xs) (hn : xs.length = n) (hp : ∀ k, m ≤ k → ∀ (h : k < L.length), ∃ x, xs[(k + 1) % n]? = some x ∧ Pl Q w0 x L[k])
    (hl : ∀ k, k < m → L[k]? = some none) (hrm : L.length ≤ m + n) (hs : 1 ≤ n ∧ n ≤ 64) (ht : m ≤ L.length) (hg : w0.grownBy W1 none) (hk : ∀ i, i < w0.heap.size ∨ FN b v i → wr.heap[i]? = W1.heap[i]?) : Win Q wr b v n L m := by
  refine ⟨hb.same (hk b (.inr (.inl rfl))), ⟨xs, (hr.mono (Nat.zero_le _)).same fun k hk' => hk k (.inr (.inr hk')), hn, fun k h1 h2 => ?_⟩, hl, hrm, hs, ht⟩
  obtain ⟨x, hx, hpp⟩ := hp k h1 h2
  refine ⟨x, hx, ?_⟩
  cases ho : L[k] with
  | none => rw [ho] at hpp; exact hpp
  | some t =>
    rw [ho] at hpp
    obtain ⟨p, h3, h4, h5⟩ := hpp
    exact ⟨p, h3, h4.same ((hk p (.inl h4.lt)).trans (hg.block p h4.lt (by simp))), h5⟩
end Go.Proofs.Ytignmnmhigncjaa.S
