/-
  A window made; a thing given out.
-/
import Derived.Test.YtignmnmhigncjaaSB
namespace Go.Proofs.Ytignmnmhigncjaa.S
open Go.RowKit Disk
variable {Q : Nat → Prop}

def Ring (Q : Nat → Prop) (w : World) (v : Value) (n : Nat) (L : List (Option ByteArray)) (m : Nat) : Prop := ∃ xs, Row 61 w 0 v xs ∧ xs.length = n ∧ ∀ k, m ≤ k → ∀ (h : k < L.length), ∃ x, xs[(k + 1) % n]? = some x ∧ Pl Q w x L[k]
theorem Ring.grown {w w' : World} {v : Value} {n : Nat} {L : List (Option ByteArray)} {m : Nat} (h : Ring Q w v n L m) (hg : w.grownBy w' none) : Ring Q w' v n L m := by
  obtain ⟨xs, h1, h2, h3⟩ := h
  exact ⟨xs, h1.grown hg, h2, fun k hk hl => let ⟨x, hx, hp⟩ := h3 k hk hl; ⟨x, hx, hp.grown hg⟩⟩
/-- A ring beside a block of another type that is written. -/
theorem Ring.but {w w' : World} {v : Value} {n b t : Nat} {c : Array Value} {L : List (Option ByteArray)} {m : Nat} (h : Ring Q w v n L m) (hg : w.grownBy w' (some b)) (hb : Blk w b t c) (h1 : t ≠ 61) (h2 : t ≠ 9) : Ring Q w' v n L m := by
  obtain ⟨xs, hr, hl, h3⟩ := h
  refine ⟨xs, hr.same fun k hk => ?_, hl, fun k hk hl => ?_⟩
  · obtain ⟨C, hC⟩ := hr.blk k hk
    refine hg.block k hC.lt fun e => ?_
    simp at e
    subst e
    exact h1 (blk_type hb hC)
  · obtain ⟨x, hx, hp⟩ := h3 k hk hl
    refine ⟨x, hx, hp.same fun i c hi => hi.grown hg fun e => ?_⟩
    simp at e
    subst e
    exact h2 (blk_type hb hi)
theorem Ring.mono {Q' : Nat → Prop} {w : World} {v : Value} {n : Nat} {L : List (Option ByteArray)} {m : Nat} (h : Ring Q w v n L m) (hq : ∀ i, Q i → Q' i) : Ring Q' w v n L m := by
  obtain ⟨xs, h1, h2, h3⟩ := h
  exact ⟨xs, h1, h2, fun k hk hl => let ⟨x, hx, hp⟩ := h3 k hk hl; ⟨x, hx, hp.mono hq⟩⟩
theorem Ring.blk {w : World} {g n' cap n : Nat} {L : List (Option ByteArray)} {m : Nat} (h : Ring Q w (.slice (some ⟨g, 0, none⟩) n' cap) n L m) : ∃ C, Blk w g 61 C := by
  obtain ⟨xs, hr, _⟩ := h
  exact hr.blk g rfl
/-- One place put. -/
theorem ring_put {w : World} {g n cap m k : Nat} {L L' : List (Option ByteArray)} {x : Value} (hr : Ring Q w (.slice (some ⟨g, 0, none⟩) n cap) n L m) (hn : 1 ≤ n) (hl : L'.length ≤ m + n) (hk : m ≤ k) (hk' : k < L'.length) (ho : ∀ j, m ≤ j → j ≠ k → ∀ h' : j < L'.length, L[j]? = some L'[j])
    (hx : Pl Q w x L'[k]) (h1 : x.oneCell' = true) : Ring Q (w.setCell ⟨g, (k + 1) % n, none⟩ x) (.slice (some ⟨g, 0, none⟩) n cap) n L' m := by
  obtain ⟨xs, h2, h3, h4⟩ := hr
  obtain ⟨C, hC⟩ := h2.blk g rfl
  have hkeep : ∀ i c, Blk w i 9 c → Blk (w.setCell ⟨g, (k + 1) % n, none⟩ x) i 9 c := fun i c hi => hi.grown (grown_setCell _ _ _ _) fun e => by
    simp at e
    subst e
    exact absurd (blk_type hC hi) (by decide)
  have hmod : (k + 1) % n < xs.length := by rw [h3]; exact Nat.mod_lt _ (by omega)
  refine ⟨xs.set ((k + 1) % n) x, h2.put _ hmod x h1, by simpa using h3, fun j hj hjl => ?_⟩
  by_cases e : j = k
  · subst e
    exact ⟨x, by rw [List.getElem?_set_self hmod], hx.same hkeep⟩
  · have e1 := ho j hj e hjl
    obtain ⟨hjL, e2⟩ := List.getElem?_eq_some_iff.1 e1
    obtain ⟨y, hy, hp⟩ := h4 j hj hjL
    refine ⟨y, ?_, ?_⟩
    · rw [List.getElem?_set_ne (fun e3 => mod_apart hj (by omega) hk (by omega) e e3.symm)]
      exact hy
    · rw [← e2]
      exact hp.same hkeep
theorem row_lift {w : World} {B n : Nat} {v : Value} {xs : List Value} (h : Row 61 w B v xs) (hn : xs.length = n) : Ring Q w v n [] 0 := ⟨xs, h.mono (Nat.zero_le _), hn, fun k _ hl => absurd hl (by simp)⟩

theorem infoR : (Try.prog.info? 61).map (fun i => (i.zero, i.size, i.bytes)) = some (some (.pointer none), 1, 8) := by kernel_rfl
theorem utR : Try.prog.underlying 54 = some (.slice 61) := by kernel_rfl
theorem makeR (n : Nat) (x : Int) (hx : x = (n : Int)) (hn : n ≤ 64) (w : World) : ∃ W, (Instr.makeSlice 54 (.int .i64 x) (.int .i64 x)).run Try.prog w = .ok (.slice (some ⟨w.heap.size, 0, none⟩) n n) W ∧ Hid (Row 61 W w.heap.size (.slice (some ⟨w.heap.size, 0, none⟩) n n) (List.replicate n (.pointer none)) ∧ w.grownBy W none) := by
  subst hx
  obtain ⟨i0, hi, hz0, hz1, hz2⟩ := info_parts1 infoR
  obtain ⟨W, h1, h2, h3⟩ := run_make_full (P := Try.prog) w w.heap.size 54 61 i0 _ 1 utR hi hz0 hz1 .i64 .i64 n (by rw [hz2]; omega) (by simp [maxLen]; omega) (Nat.le_refl _)
  refine ⟨W, h1, ⟨?_, fun y hy => by rw [List.eq_of_mem_replicate hy]; rfl⟩, h3⟩
  have e := made_one (.pointer none) n
  rw [List.length_replicate, ← e]
  exact h2

/-- What New makes. -/
def NewP (n : Nat) (w : World) (e : Ending) (w' : World) : Prop := ∃ b v, e = .returned (.tuple #[.pointer (some ⟨b, 0, none⟩), .int .i64 0]) ∧ Win (fun _ => False) w' b v n [] 0 ∧ w.grownBy w' none ∧ ∀ i, FN b v i → w.heap.size ≤ i
set_option maxRecDepth 100000 in
set_option maxHeartbeats 1000000 in
theorem new_win (n : Nat) (w : World) (h1 : 1 ≤ n) (h2 : n ≤ 64) : Calls Try.prog 6 #[.int .i64 (n : Nat)] w (NewP n w) := by
  have i1 : ¬ ((n : Int) < 1) := by omega
  have i2 : ¬ ((64 : Int) < (n : Int)) := by omega
  obtain ⟨W, mk1, HM⟩ := makeR n n rfl h2 w
  have HS : Hid (1 ≤ n ∧ n ≤ 64) := ⟨h1, h2⟩
  clear h1 h2
  go_enter Try.func6, Try.ntmps6
  go_wp2_with fail
  go_ret2
  have hb : Blk (W.alloc (.cells #[.slice (some ⟨w.heap.size, 0, none⟩) n n, .int .i64 0, .int .i64 0] 56)) W.heap.size 56 #[.slice (some ⟨w.heap.size, 0, none⟩) n n, .int .i64 0, .int .i64 0] := heap_alloc_new W _
  have hg := World.grownBy_alloc W (.cells #[.slice (some ⟨w.heap.size, 0, none⟩) n n, .int .i64 0, .int .i64 0] 56) none
  refine ⟨W.heap.size, _, rfl, ⟨hb, (row_lift HM.out.1 (by simp)).grown hg, fun k hk => absurd hk (Nat.not_lt_zero _), by simp, HS.out, Nat.le_refl _⟩, grown_trans HM.out.2 hg, ?_⟩
  rintro i (rfl | hi)
  · exact HM.out.2.size
  · simp [Value.ownBlock] at hi
    omega
set_option maxRecDepth 100000 in
set_option maxHeartbeats 1000000 in
theorem new_no (z : Int) (w : World) (h : z < 1 ∨ 64 < z) : Calls Try.prog 6 #[.int .i64 z] w fun e w' => e = .returned (.tuple #[.pointer none, .int .i64 2]) ∧ w' = w := by
  rcases h with h | h
  · go_enter Try.func6, Try.ntmps6
    go_wp2_with fail
    go_ret2
    exact ⟨rfl, rfl⟩
  · have h1 : ¬ (z < 1) := by omega
    go_enter Try.func6, Try.ntmps6
    go_wp2_with fail
    go_ret2
    exact ⟨rfl, rfl⟩

/-- What Give does. -/
def GiveP (Q : Nat → Prop) (w : World) (b : Nat) (v : Value) (n : Nat) (L : List (Option ByteArray)) (m : Nat) (x : ByteArray) (e : Ending) (w' : World) : Prop :=
  (L.length = m + n ∧ e = .returned (.tuple #[.int .i64 0, .int .i64 7]) ∧ Win Q w' b v n L m ∧ Fr w w' (FN b v)) ∨
    (L.length < m + n ∧ e = .returned (.tuple #[.int .i64 (L.length + 1 : Nat), .int .i64 0]) ∧ Win (Qn Q w w') w' b v n (L ++ [some x]) m ∧ Fr w w' (FN b v))

set_option maxRecDepth 100000 in
set_option maxHeartbeats 2000000 in
theorem give_yes (b : Nat) (v : Value) (n : Nat) (L : List (Option ByteArray)) (m : Nat) (x : ByteArray) (w : World) (h : Win Q w b v n L m) (hL : L.length ≤ 900000) : Calls Try.prog 27 #[.pointer (some ⟨b, 0, none⟩), Value.string x] w (GiveP Q w b v n L m x) := by
  obtain ⟨g, cap, rfl, hcap⟩ := h.sl
  have HN : Hid (Win Q w b (.slice (some ⟨g, 0, none⟩) n cap) n L m ∧ L.length ≤ 900000) := ⟨h, hL⟩
  clear h hcap hL
  go_enter Try.func27, Try.ntmps27
  go_upto_region 1 with fail
  obtain ⟨w1, hw1, H1⟩ := al1 w #[Value.string x] 9
  rw [hw1]
  obtain ⟨p, hp⟩ : ∃ p, w.heap.size = p := ⟨_, rfl⟩
  rw [hp] at H1 ⊢
  clear hw1
  go_wp2_with fail
  refine (HN.out.1.grown H1.out.2.1).yes.mono ?_
  rintro e w2 ⟨rfl, rfl⟩
  go_wp2_with fail
  refine (room_yes b _ n L m w2 (HN.out.1.grown H1.out.2.1) (by have := HN.out.2; omega)).mono ?_
  rintro e w3 ⟨rfl, hg3⟩
  have H3 : Hid (w.grownBy w3 none ∧ Blk w3 p 9 #[Value.string x]) := ⟨grown_trans H1.out.2.1 hg3, H1.out.1.grown hg3 (by simp)⟩
  clear hg3
  by_cases hfull : m + n - L.length = 0
  · rw [hfull]
    have HP : Hid (GiveP Q w b (.slice (some ⟨g, 0, none⟩) n cap) n L m x (.returned (.tuple #[.int .i64 0, .int .i64 7])) w3) := .inl ⟨by have := HN.out.1.room; omega, rfl, HN.out.1.grown H3.out.1, Fr.of H3.out.1 (by simp)⟩
    clear hfull
    go_wp2_with fail
    go_ret2
    exact HP.out
  · obtain ⟨r, hr⟩ : ∃ r, m + n - L.length = r := ⟨_, rfl⟩
    obtain ⟨ln, hln⟩ : ∃ ln, L.length = ln := ⟨_, rfl⟩
    rw [hr] at hfull ⊢
    have i1 : ((r : Int) == 0) = false := by simp; omega
    have i2 : ((r : Int) = 0) = False := eq_false (by omega)
    have i3 : (r = 0) = False := eq_false (by omega)
    have HB : Hid (Blk w3 b 56 #[.slice (some ⟨g, 0, none⟩) n cap, .int .i64 (ln : Nat), .int .i64 (m : Nat)] ∧ L.length = ln ∧ ln < m + n) := by
      have h1 := (HN.out.1.grown H3.out.1).blk
      rw [hln] at h1
      exact ⟨h1, hln, by omega⟩
    have c1 := HB.out.1.cell 1
    have f1 := HB.out.1.free 1
    have d1 : IntKind.i64.wrap ((ln : Int) + 1) = (ln : Int) + 1 := by have := HN.out.2; rw [IntKind.wrap_i64]; omega
    simp at c1
    clear hfull hr hln
    go_upto_region 6 with fail
    obtain ⟨w4, hw4⟩ : ∃ W, w3.setCell ⟨b, 1, none⟩ (.int .i64 ((ln : Int) + 1)) = W := ⟨_, rfl⟩
    have H4 : Hid (Blk w4 b 56 #[.slice (some ⟨g, 0, none⟩) n cap, .int .i64 (ln + 1 : Nat), .int .i64 (m : Nat)] ∧ w3.grownBy w4 (some b) ∧ Ring Q w4 (.slice (some ⟨g, 0, none⟩) n cap) n L m ∧ Blk w4 p 9 #[Value.string x]) := by
      rw [← hw4]
      have gs := grown_setCell w3 b 1 (.int .i64 ((ln : Int) + 1))
      refine ⟨by simpa using HB.out.1.store 1 (.int .i64 ((ln : Int) + 1)), gs, Ring.but (HN.out.1.grown H3.out.1).ring gs HB.out.1 (by decide) (by decide), H3.out.2.grown gs fun e => ?_⟩
      simp at e
      subst e
      exact absurd (blk_type H3.out.2 HB.out.1) (by decide)
    rw [hw4]
    clear hw4 c1 f1 i1 i2 i3 d1
    obtain ⟨j, hj⟩ : ∃ j, (ln + 1) % n = j := ⟨_, rfl⟩
    have HJ : Hid ((ln + 1) % n = j ∧ j < n) := ⟨hj, by rw [← hj]; exact Nat.mod_lt _ (by have := HN.out.1.size; omega)⟩
    clear hj
    have j1 : (j : Int) < (n : Int) := by have := HJ.out; omega
    have j2 : (0 : Int) ≤ (j : Int) := by omega
    refine wp_region_hold 11 (fun y => w4.grownBy y none) (by kernel_rfl) ?_
    have HD : Hid (w4.grownBy w4.drew none) := grown_drew _ _
    generalize w4.drew = wd at HD ⊢
    have J : Idx [0, 1, 2, 3, 4, 5, 6, 7, 8] := trivial
    iterate 9 (refine tk J (HD.out) rfl rfl (fun wk hk => by have k0 := (H4.out.1.grown hk (by simp)).cell 0; have k1 := (H4.out.1.grown hk (by simp)).cell 1; simp at k0 k1; go_simp; try rfl) ?_; replace J := J.tl; try simp only [Act.put, List.setIfInBounds_toArray, List.set_cons_zero, List.set_cons_succ])
    clear J
    refine wpHold_one (i := 9) rfl (by kernel_rfl) (by rfl) (fun K hK => ?_)
    go_wp2_with fail
    refine (place_yes b g n n cap _ _ (ln + 1) j wd HJ.out.1 (H4.out.1.grown HD.out (by simp)) HN.out.1.size (by have := HN.out.2; have := HB.out; omega)).mono ?_
    rintro e w5 ⟨rfl, rfl⟩
    go_wp2_with fail
    refine hK.out _ _ (fun _ => HD.out) ?_
    clear hK K
    try simp only [Act.put, List.setIfInBounds_toArray, List.set_cons_zero, List.set_cons_succ]
    have J : Idx [10] := trivial
    iterate 1 (refine tk J (HD.out) rfl rfl (fun wk hk => by have k0 := (H4.out.1.grown hk (by simp)).cell 0; have k1 := (H4.out.1.grown hk (by simp)).cell 1; simp at k0 k1; go_simp; try rfl) ?_; replace J := J.tl; try simp only [Act.put, List.setIfInBounds_toArray, List.set_cons_zero, List.set_cons_succ])
    clear J
    refine wpHold_one (i := 11) rfl (by kernel_rfl) (by rfl) (fun K hK => ?_)
    obtain ⟨q0, hq0⟩ : ∃ x, w5.cell? ⟨g, j, none⟩ = some x := by
      obtain ⟨xs, h1, h2, _⟩ := H4.out.2.2.1.grown HD.out
      exact ⟨_, h1.cell j (by have := HJ.out; omega)⟩
    have f0 : w5.frozen? ⟨g, j, none⟩ = false := by
      obtain ⟨xs, h1, h2, _⟩ := H4.out.2.2.1.grown HD.out
      exact h1.free j
    go_wp2_with fail
    refine hK.out _ _ (fun h => absurd rfl h) ?_
    clear hK K
    try simp only [Act.put, List.setIfInBounds_toArray, List.set_cons_zero, List.set_cons_succ]
    refine wpHold_done (by kernel_rfl) ?_
    refine (‹∀ (a : Act) (w : World), Code.wp Try.prog _ _ a w → _› _ _ ?_)
    have HW : Hid (Win (Qn Q w (w5.setCell ⟨g, j, none⟩ (.pointer (some ⟨p, 0, none⟩)))) (w5.setCell ⟨g, j, none⟩ (.pointer (some ⟨p, 0, none⟩))) b (.slice (some ⟨g, 0, none⟩) n cap) n (L ++ [some x]) m ∧ Fr w (w5.setCell ⟨g, j, none⟩ (.pointer (some ⟨p, 0, none⟩))) (FN b (.slice (some ⟨g, 0, none⟩) n cap))) := by
      have h0 := HN.out.1
      have h1 := HB.out
      have hb5 := H4.out.1.grown HD.out (by simp)
      have hr5 := H4.out.2.2.1.grown HD.out
      have gs := grown_setCell w5 g j (.pointer (some ⟨p, 0, none⟩))
      have hll : (L ++ [some x]).length = ln + 1 := by simp; omega
      refine ⟨⟨?_, ?_, fun k hk => ?_, by omega, h0.size, by have := h0.top; omega⟩, ?_⟩
      · rw [hll]
        refine hb5.grown gs fun e => ?_
        simp at e
        subst e
        obtain ⟨C, hC⟩ := hr5.blk
        exact absurd (blk_type hC hb5) (by decide)
      · rw [← HJ.out.1]
        refine ring_put (hr5.mono fun i hi => .inl hi) h0.size.1 (by omega) (by have := h0.top; omega) (by omega) (fun j hj hne h' => ?_) ?_ rfl
        · rw [List.getElem_append_left (by omega)]
          exact List.getElem?_eq_getElem _
        · rw [List.getElem_append_right (by omega)]
          simp only [List.getElem_singleton]
          have hpb := H4.out.2.2.2.grown HD.out (by simp)
          exact ⟨p, rfl, hpb, .inr ⟨by omega, by have := hpb.lt; simp; omega⟩⟩
      · rw [List.getElem?_append_left (by have := h0.top; omega)]
        exact h0.low k hk
      · refine ((Fr.of (F := FN b (.slice (some ⟨g, 0, none⟩) n cap)) H3.out.1 (by simp)).trans (Fr.of (F := FN b (.slice (some ⟨g, 0, none⟩) n cap)) H4.out.2.1 fun k hk => .inl (by simpa using hk.symm)) fun i hi => .inl hi).trans ((Fr.of (F := FN b (.slice (some ⟨g, 0, none⟩) n cap)) HD.out (by simp)).trans (Fr.of (F := FN b (.slice (some ⟨g, 0, none⟩) n cap)) gs fun k hk => .inr hk) fun i hi => .inl hi) fun i hi => .inl hi
    have c1 := HW.out.1.blk.cell 1
    have HL : Hid ((L ++ [some x]).length = ln + 1 ∧ ln = L.length) := ⟨by have := HB.out; simp; omega, HB.out.2.1.symm⟩
    rw [HL.out.1] at c1
    simp at c1
    generalize w5.setCell ⟨g, j, none⟩ (.pointer (some ⟨p, 0, none⟩)) = w6 at HW c1 ⊢
    clear j1 j2
    go_wp2_with fail
    go_ret2
    refine .inr ⟨by have := HB.out; omega, ?_, HW.out⟩
    rw [← HL.out.2]
    rfl
set_option maxRecDepth 100000 in
set_option maxHeartbeats 1000000 in
theorem give_no (y : Value) (x : ByteArray) (w : World) (h : NoWin w y) : Calls Try.prog 27 #[y, Value.string x] w fun e w' => e = .returned (.tuple #[.int .i64 0, .int .i64 1]) ∧ w.grownBy w' none := by
  have HN : Hid (NoWin w y) := h
  clear h
  go_enter Try.func27, Try.ntmps27
  go_upto_region 1 with fail
  obtain ⟨w1, hw1, H1⟩ := al1 w #[Value.string x] 9
  rw [hw1]
  clear hw1
  go_wp2_with fail
  refine (there_no y w1 (HN.out.grown H1.out.2.1)).mono ?_
  rintro e w2 ⟨rfl, rfl⟩
  go_wp2_with fail
  go_ret2
  exact ⟨rfl, H1.out.2.1⟩
end Go.Proofs.Ytignmnmhigncjaa.S
