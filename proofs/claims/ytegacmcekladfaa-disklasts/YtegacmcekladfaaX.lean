/-
  does: a step, on the program's disk and the document's.
-/
import Derived.Test.YtegacmcekladfaaV
namespace Go.Proofs.Ytegacmcekladfaa
open Go.RowKit

/-- Behind a step: both stand alike. -/
def DoneQ (W0 w : World) (d r : Value) (X : Option St) (m : Nat) : Prop := ∃ X', PairQ W0 w d r X' ∧ Few m X' ∧ (X = none ↔ X' = none)

theorem map_none {X : Option St} {f : St → St} : X = none ↔ X.map f = none := by cases X <;> simp

theorem out_of {W0 w : World} {F G : Nat → Prop} {d r u : Value} {X Y : Option St} {M : List UInt8} (h : Mid W0 w F G d r X Y) (hu : Seg W0 u M) : (M ≠ [] → ∀ k, u.ownBlock = some k → ¬ F k) ∧ (M ≠ [] → ∀ k, u.ownBlock = some k → ¬ G k) := by
  have q : M ≠ [] → ∀ k, u.ownBlock = some k → k < W0.heap.size := fun hM k hk => by
    obtain ⟨ao, cap, rfl, _, _, _, h4⟩ := hu
    obtain ⟨b, off, e, hc⟩ := h4 0 (List.length_pos_iff.2 hM)
    subst e
    simp [Value.ownBlock] at hk
    subst hk
    exact World.block_lt_of_cell? W0 _ hc
  exact ⟨fun hM k hk hf => by have := q hM k hk; have := h.lf k hf; omega, fun hM k hk hf => by have := q hM k hk; have := h.lg k hf; omega⟩

theorem eq_code (a : Int) (w : World) : (binOp .eql 3 (.int .i64 a) (.int .i64 a)).run Try.prog w = .ok (.bool true) w := by
  simp [go_sem]

set_option maxRecDepth 100000 in
set_option maxHeartbeats 1000000 in
theorem does11_1 (W0 w : World) (d r : Value) (X : Option St) (m : Nat) (n : Int) (u : Value) (M : List UInt8) (h : PairQ W0 w d r X) (hm : Few m X) (hm2 : m ≤ 9223372036854775800) (hu : Seg W0 u M) (hM : M.length ≤ 140737488351232) (_hn1 : -9223372036854775808 ≤ n) (_hn2 : n ≤ 9223372036854775807) :
    Calls Try.prog 11 #[d, r, .agg #[.int .i64 1, .int .i64 n, u]] w fun e w' => ∃ d' r', e = .returned (.tuple #[d', r', .bool true]) ∧ DoneQ W0 w' d' r' X (m + 1) := by
  obtain ⟨F, G, hp⟩ := h
  obtain ⟨au, cu, huv⟩ := hu.shape
  subst huv
  have hmf : Few 9223372036854775806 X := hm.mono (by omega)
  have HB : Hid (Blk (w.alloc (.cells #[.int .i64 1, .int .i64 n, .slice au M.length cu] 39)) w.heap.size 39 #[.int .i64 1, .int .i64 n, .slice au M.length cu] ∧ Mid W0 (w.alloc (.cells #[.int .i64 1, .int .i64 n, .slice au M.length cu] 39)) F G d r X X) := ⟨heap_alloc_new _ _, hp.grown (World.grownBy_alloc _ _ _)⟩
  have HU : Hid (Seg W0 (.slice au M.length cu) M) := hu
  have HF : Hid (∀ k, F k ∨ G k → k < w.heap.size) := fun k hk => by
    rcases hk with hk | hk
    · exact hp.uf k hk
    · exact hp.ug k hk
  have HM : Hid (Few m X) := hm
  have HMF : Hid (Few 9223372036854775806 X) := hmf
  clear hu hp hm hmf
  obtain ⟨nM, hnM⟩ : ∃ n, M.length = n := ⟨_, rfl⟩
  have HNM : Hid (M.length = nM) := hnM
  rw [hnM] at HB HU hM ⊢
  clear hnM
  go_enter Try.func11, Try.ntmps11
  go_wp2_with fail
  generalize w.alloc (.cells #[.int .i64 1, .int .i64 n, .slice au nM cu] 39) = w1 at HB ⊢
  refine (lent6 _ M _ (HU.out.grown HB.out.2.gr) (by rw [HNM.out]; omega)).mono ?_
  rintro e w2 ⟨um, rfl, lm, g2⟩
  obtain ⟨gm, cm, hum, _⟩ := id lm
  rw [HNM.out] at hum
  subst hum
  have S2 : Hid (Lent w2 w1.heap.size (.slice (some ⟨gm, 0, none⟩) nM cm) M ∧ Blk w2 w.heap.size 39 #[.int .i64 1, .int .i64 n, .slice au nM cu] ∧ Mid W0 w2 F G d r X X ∧ w1.heap.size ≤ gm) := ⟨lm, HB.out.1.grown g2 (by simp), HB.out.2.grown g2, (lm.lt gm rfl).1⟩
  have hz1 : Hid (w.heap.size < w1.heap.size) := HB.out.1.lt
  have hz0 : Hid (W0.heap.size ≤ w1.heap.size) := HB.out.2.gr.size
  clear lm g2 HB
  have b0 := S2.out.2.1.cell 0
  simp at b0
  go_wp2_with fail
  clear b0
  have HC : Hid (∀ x : World, Blk x w.heap.size 39 #[.int .i64 1, .int .i64 n, .slice au nM cu] → x.cell? ⟨w.heap.size, 2, none⟩ = some (.slice au nM cu)) := fun x hx => hx.cell 2
  have ec := eq_code (codeQ X fun S => S.writeCode M)
  refine wp_region_noPanic ?_
  refine wp_region_hold 1000 (fun x => Blk x w.heap.size 39 #[.int .i64 1, .int .i64 n, .slice au nM cu]) (by kernel_rfl) ?_
  refine wpHold_take (i := 0) (v := _) (S2.out.2.1) rfl rfl (by kernel_rfl) (by kernel_rfl) (by kernel_rfl) (by kernel_rfl) (by kernel_rfl) (fun _ _ _ h => h) (by rfl) (fun wk hk => by have k0 := HC.out wk hk; go_simp; try rfl) ?_
  try simp only [Act.put, List.setIfInBounds_toArray, List.set_cons_zero, List.set_cons_succ]
  refine wpHold_take (i := 1) (v := _) (S2.out.2.1) rfl rfl (by kernel_rfl) (by kernel_rfl) (by kernel_rfl) (by kernel_rfl) (by kernel_rfl) (fun _ _ _ h => h) (by rfl) (fun wk hk => by have k0 := HC.out wk hk; go_simp; try rfl) ?_
  try simp only [Act.put, List.setIfInBounds_toArray, List.set_cons_zero, List.set_cons_succ]
  refine wpHold_take (i := 3) (v := _) (S2.out.2.1) rfl rfl (by kernel_rfl) (by kernel_rfl) (by kernel_rfl) (by kernel_rfl) (by kernel_rfl) (fun _ _ _ h => h) (by rfl) (fun wk hk => by have k0 := HC.out wk hk; go_simp; try rfl) ?_
  try simp only [Act.put, List.setIfInBounds_toArray, List.set_cons_zero, List.set_cons_succ]
  refine wpHold_take (i := 4) (v := _) (S2.out.2.1) rfl rfl (by kernel_rfl) (by kernel_rfl) (by kernel_rfl) (by kernel_rfl) (by kernel_rfl) (fun _ _ _ h => h) (by rfl) (fun wk hk => by have k0 := HC.out wk hk; go_simp; try rfl) ?_
  try simp only [Act.put, List.setIfInBounds_toArray, List.set_cons_zero, List.set_cons_succ]
  refine wpHold_take (i := 5) (v := _) (S2.out.2.1) rfl rfl (by kernel_rfl) (by kernel_rfl) (by kernel_rfl) (by kernel_rfl) (by kernel_rfl) (fun _ _ _ h => h) (by rfl) (fun wk hk => by have k0 := HC.out wk hk; go_simp; try rfl) ?_
  try simp only [Act.put, List.setIfInBounds_toArray, List.set_cons_zero, List.set_cons_succ]
  refine wpHold_one (i := 2) rfl (by kernel_rfl) (by rfl) (fun K hK => ?_)
  go_simp
  refine (writeD F _ X _ M _ (S2.out.2.2.1.grown (grown_drew _ _)).dq (S2.out.2.2.1.grown (grown_drew _ _)).uf HMF.out (S2.out.1.seg.grown (grown_drew _ _)) (fun _ k hk hf => by simp [Value.ownBlock] at hk; have := S2.out.2.2.2; have := HF.out k (.inl hf); have := hz1.out; omega)).mono ?_
  rintro e w3 ⟨rfl, F3, d3, a3, l3⟩
  have S3 : Hid (Lent w3 w1.heap.size (.slice (some ⟨gm, 0, none⟩) nM cm) M ∧ Blk w3 w.heap.size 39 #[.int .i64 1, .int .i64 n, .slice au nM cu] ∧ Mid W0 w3 F3 G d r (X.map fun S => S.write M) X ∧ w1.heap.size ≤ gm ∧ ¬ F3 gm) := by
    obtain ⟨h1, h2, h3, h4⟩ := S2.out
    have hlt := (h1.lt gm rfl).2
    have hz := hz1.out
    have hnf : ¬ F gm := fun hf => by have := HF.out gm (.inl hf); omega
    have hnw : ¬ F w.heap.size := fun hf => by have := HF.out w.heap.size (.inl hf); omega
    refine ⟨h1.same fun k hk => ?_, h2.same (a3.fr.block w.heap.size h2.lt hnw), (h3.grown (grown_drew _ _)).stepD d3 a3 l3, h4, fun hf => ?_⟩
    · simp [Value.ownBlock] at hk
      subst hk
      exact a3.fr.block gm hlt hnf
    · rcases a3.sub gm hf with h5 | h5
      · exact hnf h5
      · have h6 : w2.heap.size ≤ gm := h5
        omega
  clear d3 a3 l3
  go_wp2_with fail
  refine hK.out _ _ (fun _ => S3.out.2.1) ?_
  clear hK K
  try simp only [Act.put, List.setIfInBounds_toArray, List.set_cons_zero, List.set_cons_succ]
  refine wpHold_one (i := 6) rfl (by kernel_rfl) (by rfl) (fun K hK => ?_)
  go_simp
  refine (writeR G _ X _ M _ S3.out.2.2.1.rq S3.out.2.2.1.ug HMF.out (HU.out.grown S3.out.2.2.1.gr) (out_of S3.out.2.2.1 HU.out).2).mono ?_
  rintro e w4 ⟨rfl, G4, d4, a4, l4⟩
  have S4 : Hid (Lent w4 w1.heap.size (.slice (some ⟨gm, 0, none⟩) nM cm) M ∧ Blk w4 w.heap.size 39 #[.int .i64 1, .int .i64 n, .slice au nM cu] ∧ Mid W0 w4 F3 G4 d r (X.map fun S => S.write M) (X.map fun S => S.write M) ∧ w1.heap.size ≤ gm ∧ ¬ F3 gm ∧ ¬ G4 gm) := by
    obtain ⟨h1, h2, h3, h4, h7⟩ := S3.out
    have hlt := (h1.lt gm rfl).2
    have hz := hz1.out
    have hnf : ¬ G gm := fun hf => by have := HF.out gm (.inr hf); omega
    have hnw : ¬ G w.heap.size := fun hf => by have := HF.out w.heap.size (.inr hf); omega
    refine ⟨h1.same fun k hk => ?_, h2.same (a4.fr.block w.heap.size h2.lt hnw), h3.stepR d4 a4 l4, h4, h7, fun hf => ?_⟩
    · simp [Value.ownBlock] at hk
      subst hk
      exact a4.fr.block gm hlt hnf
    · rcases a4.sub gm hf with h5 | h5
      · exact hnf h5
      · omega
  clear d4 a4 l4 S3
  go_wp2_with fail
  refine hK.out _ _ (fun _ => S4.out.2.1) ?_
  clear hK K
  try simp only [Act.put, List.setIfInBounds_toArray, List.set_cons_zero, List.set_cons_succ]
  refine wpHold_take (i := 7) (v := _) (S4.out.2.1) rfl rfl (by kernel_rfl) (by kernel_rfl) (by kernel_rfl) (by kernel_rfl) (by kernel_rfl) (fun _ _ _ h => h) (by rfl) (fun wk hk => by have k0 := HC.out wk hk; go_simp; try rfl) ?_
  try simp only [Act.put, List.setIfInBounds_toArray, List.set_cons_zero, List.set_cons_succ]
  refine wpHold_take (i := 8) (v := _) (S4.out.2.1) rfl rfl (by kernel_rfl) (by kernel_rfl) (by kernel_rfl) (by kernel_rfl) (by kernel_rfl) (fun _ _ _ h => h) (by rfl) (fun wk hk => by have k0 := HC.out wk hk; go_simp; try rfl) ?_
  try simp only [Act.put, List.setIfInBounds_toArray, List.set_cons_zero, List.set_cons_succ]
  refine wpHold_done (by kernel_rfl) ?_
  refine (‹∀ (a : Act) (w : World), Code.wp Try.prog _ _ a w → _› _ _ ?_)
  have b2 := S4.out.2.1.cell 2
  simp at b2
  clear ec
  go_wp2_with fail
  refine (left9 _ _ w1.heap.size M _ (by have h := S4.out.1; exact h) (HU.out.grown S4.out.2.2.1.gr) (by rw [HNM.out]; omega)).mono ?_
  rintro e w5 ⟨rfl, g5⟩
  have S5 : Hid (DoneQ W0 w5 d r X (m + 1)) := by
    obtain ⟨h1, h2, h3, h4, h5, h6⟩ := S4.out
    refine ⟨X.map fun S => S.write M, ⟨F3, G4, h3.over g5 fun k hk => ?_⟩, HM.out.map (fun S => steps_write S M), map_none⟩
    simp [Value.ownBlock] at hk
    subst hk
    exact ⟨Nat.le_trans hz0.out h4, h5, h6⟩
  clear g5 S4 S2
  go_wp2_with fail
  exact bodyPost_ret (v := .tuple #[d, r, .bool true]) (by simp [results, Try.results11]) rfl ⟨_, _, rfl, S5.out⟩

set_option maxRecDepth 100000 in
set_option maxHeartbeats 1000000 in
theorem does11_5 (W0 w : World) (d r : Value) (X : Option St) (m : Nat) (n : Int) (u : Value) (M : List UInt8) (h : PairQ W0 w d r X) (hm : Few m X) (hm2 : m ≤ 9223372036854775800) (hu : Seg W0 u M) (hM : M.length ≤ 140737488351232) (_hn1 : -9223372036854775808 ≤ n) (_hn2 : n ≤ 9223372036854775807) :
    Calls Try.prog 11 #[d, r, .agg #[.int .i64 5, .int .i64 n, u]] w fun e w' => ∃ d' r', e = .returned (.tuple #[d', r', .bool true]) ∧ DoneQ W0 w' d' r' X (m + 1) := by
  obtain ⟨F, G, hp⟩ := h
  obtain ⟨au, cu, huv⟩ := hu.shape
  subst huv
  have hmf : Few 9223372036854775806 X := hm.mono (by omega)
  have HB : Hid (Blk (w.alloc (.cells #[.int .i64 5, .int .i64 n, .slice au M.length cu] 39)) w.heap.size 39 #[.int .i64 5, .int .i64 n, .slice au M.length cu] ∧ Mid W0 (w.alloc (.cells #[.int .i64 5, .int .i64 n, .slice au M.length cu] 39)) F G d r X X) := ⟨heap_alloc_new _ _, hp.grown (World.grownBy_alloc _ _ _)⟩
  have HU : Hid (Seg W0 (.slice au M.length cu) M) := hu
  have HF : Hid (∀ k, F k ∨ G k → k < w.heap.size) := fun k hk => by
    rcases hk with hk | hk
    · exact hp.uf k hk
    · exact hp.ug k hk
  have HM : Hid (Few m X) := hm
  have HMF : Hid (Few 9223372036854775806 X) := hmf
  clear hu hp hm hmf
  obtain ⟨nM, hnM⟩ : ∃ n, M.length = n := ⟨_, rfl⟩
  have HNM : Hid (M.length = nM) := hnM
  rw [hnM] at HB HU hM ⊢
  clear hnM
  go_enter Try.func11, Try.ntmps11
  go_wp2_with fail
  generalize w.alloc (.cells #[.int .i64 5, .int .i64 n, .slice au nM cu] 39) = w1 at HB ⊢
  refine (lent6 _ M _ (HU.out.grown HB.out.2.gr) (by rw [HNM.out]; omega)).mono ?_
  rintro e w2 ⟨um, rfl, lm, g2⟩
  obtain ⟨gm, cm, hum, _⟩ := id lm
  rw [HNM.out] at hum
  subst hum
  have S2 : Hid (Lent w2 w1.heap.size (.slice (some ⟨gm, 0, none⟩) nM cm) M ∧ Blk w2 w.heap.size 39 #[.int .i64 5, .int .i64 n, .slice au nM cu] ∧ Mid W0 w2 F G d r X X ∧ w1.heap.size ≤ gm) := ⟨lm, HB.out.1.grown g2 (by simp), HB.out.2.grown g2, (lm.lt gm rfl).1⟩
  have hz1 : Hid (w.heap.size < w1.heap.size) := HB.out.1.lt
  have hz0 : Hid (W0.heap.size ≤ w1.heap.size) := HB.out.2.gr.size
  clear lm g2 HB
  have b0 := S2.out.2.1.cell 0
  simp at b0
  go_wp2_with fail
  clear b0
  have HC : Hid (∀ x : World, Blk x w.heap.size 39 #[.int .i64 5, .int .i64 n, .slice au nM cu] → x.cell? ⟨w.heap.size, 2, none⟩ = some (.slice au nM cu)) := fun x hx => hx.cell 2
  have ec := eq_code (codeQ X fun S => 0)
  refine wp_region_noPanic ?_
  refine wp_region_hold 1000 (fun x => Blk x w.heap.size 39 #[.int .i64 5, .int .i64 n, .slice au nM cu]) (by kernel_rfl) ?_
  refine wpHold_take (i := 0) (v := _) (S2.out.2.1) rfl rfl (by kernel_rfl) (by kernel_rfl) (by kernel_rfl) (by kernel_rfl) (by kernel_rfl) (fun _ _ _ h => h) (by rfl) (fun wk hk => by have k0 := HC.out wk hk; go_simp; try rfl) ?_
  try simp only [Act.put, List.setIfInBounds_toArray, List.set_cons_zero, List.set_cons_succ]
  refine wpHold_take (i := 1) (v := _) (S2.out.2.1) rfl rfl (by kernel_rfl) (by kernel_rfl) (by kernel_rfl) (by kernel_rfl) (by kernel_rfl) (fun _ _ _ h => h) (by rfl) (fun wk hk => by have k0 := HC.out wk hk; go_simp; try rfl) ?_
  try simp only [Act.put, List.setIfInBounds_toArray, List.set_cons_zero, List.set_cons_succ]
  refine wpHold_take (i := 3) (v := _) (S2.out.2.1) rfl rfl (by kernel_rfl) (by kernel_rfl) (by kernel_rfl) (by kernel_rfl) (by kernel_rfl) (fun _ _ _ h => h) (by rfl) (fun wk hk => by have k0 := HC.out wk hk; go_simp; try rfl) ?_
  try simp only [Act.put, List.setIfInBounds_toArray, List.set_cons_zero, List.set_cons_succ]
  refine wpHold_take (i := 4) (v := _) (S2.out.2.1) rfl rfl (by kernel_rfl) (by kernel_rfl) (by kernel_rfl) (by kernel_rfl) (by kernel_rfl) (fun _ _ _ h => h) (by rfl) (fun wk hk => by have k0 := HC.out wk hk; go_simp; try rfl) ?_
  try simp only [Act.put, List.setIfInBounds_toArray, List.set_cons_zero, List.set_cons_succ]
  refine wpHold_take (i := 5) (v := _) (S2.out.2.1) rfl rfl (by kernel_rfl) (by kernel_rfl) (by kernel_rfl) (by kernel_rfl) (by kernel_rfl) (fun _ _ _ h => h) (by rfl) (fun wk hk => by have k0 := HC.out wk hk; go_simp; try rfl) ?_
  try simp only [Act.put, List.setIfInBounds_toArray, List.set_cons_zero, List.set_cons_succ]
  refine wpHold_one (i := 2) rfl (by kernel_rfl) (by rfl) (fun K hK => ?_)
  go_simp
  refine (putD F _ X _ M _ (S2.out.2.2.1.grown (grown_drew _ _)).dq (S2.out.2.2.1.grown (grown_drew _ _)).uf HMF.out (S2.out.1.seg.grown (grown_drew _ _)) (fun _ k hk hf => by simp [Value.ownBlock] at hk; have := S2.out.2.2.2; have := HF.out k (.inl hf); have := hz1.out; omega) (by rw [HNM.out]; omega)).mono ?_
  rintro e w3 ⟨rfl, F3, d3, a3, l3⟩
  have S3 : Hid (Lent w3 w1.heap.size (.slice (some ⟨gm, 0, none⟩) nM cm) M ∧ Blk w3 w.heap.size 39 #[.int .i64 5, .int .i64 n, .slice au nM cu] ∧ Mid W0 w3 F3 G d r (X.map fun S => S.put M) X ∧ w1.heap.size ≤ gm ∧ ¬ F3 gm) := by
    obtain ⟨h1, h2, h3, h4⟩ := S2.out
    have hlt := (h1.lt gm rfl).2
    have hz := hz1.out
    have hnf : ¬ F gm := fun hf => by have := HF.out gm (.inl hf); omega
    have hnw : ¬ F w.heap.size := fun hf => by have := HF.out w.heap.size (.inl hf); omega
    refine ⟨h1.same fun k hk => ?_, h2.same (a3.fr.block w.heap.size h2.lt hnw), (h3.grown (grown_drew _ _)).stepD d3 a3 l3, h4, fun hf => ?_⟩
    · simp [Value.ownBlock] at hk
      subst hk
      exact a3.fr.block gm hlt hnf
    · rcases a3.sub gm hf with h5 | h5
      · exact hnf h5
      · have h6 : w2.heap.size ≤ gm := h5
        omega
  clear d3 a3 l3
  go_wp2_with fail
  refine hK.out _ _ (fun _ => S3.out.2.1) ?_
  clear hK K
  try simp only [Act.put, List.setIfInBounds_toArray, List.set_cons_zero, List.set_cons_succ]
  refine wpHold_one (i := 6) rfl (by kernel_rfl) (by rfl) (fun K hK => ?_)
  go_simp
  refine (putR G _ X _ M _ S3.out.2.2.1.rq S3.out.2.2.1.ug HMF.out (HU.out.grown S3.out.2.2.1.gr) (out_of S3.out.2.2.1 HU.out).2 (by rw [HNM.out]; omega)).mono ?_
  rintro e w4 ⟨rfl, G4, d4, a4, l4⟩
  have S4 : Hid (Lent w4 w1.heap.size (.slice (some ⟨gm, 0, none⟩) nM cm) M ∧ Blk w4 w.heap.size 39 #[.int .i64 5, .int .i64 n, .slice au nM cu] ∧ Mid W0 w4 F3 G4 d r (X.map fun S => S.put M) (X.map fun S => S.put M) ∧ w1.heap.size ≤ gm ∧ ¬ F3 gm ∧ ¬ G4 gm) := by
    obtain ⟨h1, h2, h3, h4, h7⟩ := S3.out
    have hlt := (h1.lt gm rfl).2
    have hz := hz1.out
    have hnf : ¬ G gm := fun hf => by have := HF.out gm (.inr hf); omega
    have hnw : ¬ G w.heap.size := fun hf => by have := HF.out w.heap.size (.inr hf); omega
    refine ⟨h1.same fun k hk => ?_, h2.same (a4.fr.block w.heap.size h2.lt hnw), h3.stepR d4 a4 l4, h4, h7, fun hf => ?_⟩
    · simp [Value.ownBlock] at hk
      subst hk
      exact a4.fr.block gm hlt hnf
    · rcases a4.sub gm hf with h5 | h5
      · exact hnf h5
      · omega
  clear d4 a4 l4 S3
  go_wp2_with fail
  refine hK.out _ _ (fun _ => S4.out.2.1) ?_
  clear hK K
  try simp only [Act.put, List.setIfInBounds_toArray, List.set_cons_zero, List.set_cons_succ]
  refine wpHold_take (i := 7) (v := _) (S4.out.2.1) rfl rfl (by kernel_rfl) (by kernel_rfl) (by kernel_rfl) (by kernel_rfl) (by kernel_rfl) (fun _ _ _ h => h) (by rfl) (fun wk hk => by have k0 := HC.out wk hk; go_simp; try rfl) ?_
  try simp only [Act.put, List.setIfInBounds_toArray, List.set_cons_zero, List.set_cons_succ]
  refine wpHold_take (i := 8) (v := _) (S4.out.2.1) rfl rfl (by kernel_rfl) (by kernel_rfl) (by kernel_rfl) (by kernel_rfl) (by kernel_rfl) (fun _ _ _ h => h) (by rfl) (fun wk hk => by have k0 := HC.out wk hk; go_simp; try rfl) ?_
  try simp only [Act.put, List.setIfInBounds_toArray, List.set_cons_zero, List.set_cons_succ]
  refine wpHold_done (by kernel_rfl) ?_
  refine (‹∀ (a : Act) (w : World), Code.wp Try.prog _ _ a w → _› _ _ ?_)
  have b2 := S4.out.2.1.cell 2
  simp at b2
  clear ec
  go_wp2_with fail
  refine (left9 _ _ w1.heap.size M _ (by have h := S4.out.1; exact h) (HU.out.grown S4.out.2.2.1.gr) (by rw [HNM.out]; omega)).mono ?_
  rintro e w5 ⟨rfl, g5⟩
  have S5 : Hid (DoneQ W0 w5 d r X (m + 1)) := by
    obtain ⟨h1, h2, h3, h4, h5, h6⟩ := S4.out
    refine ⟨X.map fun S => S.put M, ⟨F3, G4, h3.over g5 fun k hk => ?_⟩, HM.out.map (fun S => steps_put S M), map_none⟩
    simp [Value.ownBlock] at hk
    subst hk
    exact ⟨Nat.le_trans hz0.out h4, h5, h6⟩
  clear g5 S4 S2
  go_wp2_with fail
  exact bodyPost_ret (v := .tuple #[d, r, .bool true]) (by simp [results, Try.results11]) rfl ⟨_, _, rfl, S5.out⟩

set_option maxRecDepth 100000 in
set_option maxHeartbeats 1000000 in
theorem does11_2 (W0 w : World) (d r : Value) (X : Option St) (m : Nat) (n : Int) (u : Value) (M : List UInt8) (h : PairQ W0 w d r X) (hm : Few m X) (hm2 : m ≤ 9223372036854775800) (hu : Seg W0 u M) (_hM : M.length ≤ 140737488351232) (_hn1 : -9223372036854775808 ≤ n) (_hn2 : n ≤ 9223372036854775807) :
    Calls Try.prog 11 #[d, r, .agg #[.int .i64 2, .int .i64 n, u]] w fun e w' => ∃ d' r', e = .returned (.tuple #[d', r', .bool true]) ∧ DoneQ W0 w' d' r' X (m + 1) := by
  obtain ⟨F, G, hp⟩ := h
  obtain ⟨au, cu, huv⟩ := hu.shape
  subst huv
  have hmf : Few 9223372036854775806 X := hm.mono (by omega)
  have HB : Hid (Blk (w.alloc (.cells #[.int .i64 2, .int .i64 n, .slice au M.length cu] 39)) w.heap.size 39 #[.int .i64 2, .int .i64 n, .slice au M.length cu] ∧ Mid W0 (w.alloc (.cells #[.int .i64 2, .int .i64 n, .slice au M.length cu] 39)) F G d r X X) := ⟨heap_alloc_new _ _, hp.grown (World.grownBy_alloc _ _ _)⟩
  have HU : Hid (Seg W0 (.slice au M.length cu) M) := hu
  have HF : Hid (∀ k, F k ∨ G k → k < w.heap.size) := fun k hk => by
    rcases hk with hk | hk
    · exact hp.uf k hk
    · exact hp.ug k hk
  have HM : Hid (Few m X) := hm
  have HMF : Hid (Few 9223372036854775806 X) := hmf
  clear hu hp hm hmf
  obtain ⟨nM, hnM⟩ : ∃ n, M.length = n := ⟨_, rfl⟩
  have HNM : Hid (M.length = nM) := hnM
  rw [hnM] at HB HU ⊢
  clear hnM
  go_enter Try.func11, Try.ntmps11
  go_wp2_with fail
  generalize w.alloc (.cells #[.int .i64 2, .int .i64 n, .slice au nM cu] 39) = w1 at HB ⊢
  have ec := eq_code (codeQ X fun S => 0)
  clear HU HNM
  refine (syncD F _ X _ HB.out.2.dq HB.out.2.uf HMF.out).mono ?_
  rintro e w3 ⟨rfl, F3, d3, a3, l3⟩
  have S3 : Hid (Mid W0 w3 F3 G d r (X.map fun S => S.sync) X) := HB.out.2.stepD d3 a3 l3
  clear d3 a3 l3
  go_wp2_with fail
  refine (syncR G _ X _ S3.out.rq S3.out.ug HMF.out).mono ?_
  rintro e w4 ⟨rfl, G4, d4, a4, l4⟩
  have S5 : Hid (DoneQ W0 w4 d r X (m + 1)) := ⟨X.map fun S => S.sync, ⟨F3, G4, S3.out.stepR d4 a4 l4⟩, HM.out.map (fun S => steps_sync S), map_none⟩
  clear d4 a4 l4 S3
  go_wp2_with fail
  exact bodyPost_ret (v := .tuple #[d, r, .bool true]) (by simp [results, Try.results11]) rfl ⟨_, _, rfl, S5.out⟩

set_option maxRecDepth 100000 in
set_option maxHeartbeats 1000000 in
theorem does11_6 (W0 w : World) (d r : Value) (X : Option St) (m : Nat) (n : Int) (u : Value) (M : List UInt8) (h : PairQ W0 w d r X) (hm : Few m X) (hm2 : m ≤ 9223372036854775800) (hu : Seg W0 u M) (_hM : M.length ≤ 140737488351232) (_hn1 : -9223372036854775808 ≤ n) (_hn2 : n ≤ 9223372036854775807) :
    Calls Try.prog 11 #[d, r, .agg #[.int .i64 6, .int .i64 n, u]] w fun e w' => ∃ d' r', e = .returned (.tuple #[d', r', .bool true]) ∧ DoneQ W0 w' d' r' X (m + 1) := by
  obtain ⟨F, G, hp⟩ := h
  obtain ⟨au, cu, huv⟩ := hu.shape
  subst huv
  have hmf : Few 9223372036854775806 X := hm.mono (by omega)
  have HB : Hid (Blk (w.alloc (.cells #[.int .i64 6, .int .i64 n, .slice au M.length cu] 39)) w.heap.size 39 #[.int .i64 6, .int .i64 n, .slice au M.length cu] ∧ Mid W0 (w.alloc (.cells #[.int .i64 6, .int .i64 n, .slice au M.length cu] 39)) F G d r X X) := ⟨heap_alloc_new _ _, hp.grown (World.grownBy_alloc _ _ _)⟩
  have HU : Hid (Seg W0 (.slice au M.length cu) M) := hu
  have HF : Hid (∀ k, F k ∨ G k → k < w.heap.size) := fun k hk => by
    rcases hk with hk | hk
    · exact hp.uf k hk
    · exact hp.ug k hk
  have HM : Hid (Few m X) := hm
  have HMF : Hid (Few 9223372036854775806 X) := hmf
  clear hu hp hm hmf
  obtain ⟨nM, hnM⟩ : ∃ n, M.length = n := ⟨_, rfl⟩
  have HNM : Hid (M.length = nM) := hnM
  rw [hnM] at HB HU ⊢
  clear hnM
  go_enter Try.func11, Try.ntmps11
  go_wp2_with fail
  generalize w.alloc (.cells #[.int .i64 6, .int .i64 n, .slice au nM cu] 39) = w1 at HB ⊢
  have ec := eq_code (codeQ X fun S => S.switchCode)
  clear HU HNM
  refine (switchD F _ X _ HB.out.2.dq HB.out.2.uf HMF.out).mono ?_
  rintro e w3 ⟨rfl, F3, d3, a3, l3⟩
  have S3 : Hid (Mid W0 w3 F3 G d r (X.map fun S => S.switch) X) := HB.out.2.stepD d3 a3 l3
  clear d3 a3 l3
  go_wp2_with fail
  refine (switchR G _ X _ S3.out.rq S3.out.ug HMF.out).mono ?_
  rintro e w4 ⟨rfl, G4, d4, a4, l4⟩
  have S5 : Hid (DoneQ W0 w4 d r X (m + 1)) := ⟨X.map fun S => S.switch, ⟨F3, G4, S3.out.stepR d4 a4 l4⟩, HM.out.map (fun S => steps_switch S), map_none⟩
  clear d4 a4 l4 S3
  go_wp2_with fail
  exact bodyPost_ret (v := .tuple #[d, r, .bool true]) (by simp [results, Try.results11]) rfl ⟨_, _, rfl, S5.out⟩

set_option maxRecDepth 100000 in
set_option maxHeartbeats 1000000 in
theorem does11_3 (W0 w : World) (d r : Value) (X : Option St) (m : Nat) (n : Int) (u : Value) (M : List UInt8) (h : PairQ W0 w d r X) (hm : Few m X) (hm2 : m ≤ 9223372036854775800) (hu : Seg W0 u M) (_hM : M.length ≤ 140737488351232) (_hn1 : -9223372036854775808 ≤ n) (_hn2 : n ≤ 9223372036854775807) :
    Calls Try.prog 11 #[d, r, .agg #[.int .i64 3, .int .i64 n, u]] w fun e w' => ∃ d' r', e = .returned (.tuple #[d', r', .bool true]) ∧ DoneQ W0 w' d' r' X (m + 1) := by
  obtain ⟨F, G, hp⟩ := h
  obtain ⟨au, cu, huv⟩ := hu.shape
  subst huv
  have hmf : Few 9223372036854775806 X := hm.mono (by omega)
  have HB : Hid (Blk (w.alloc (.cells #[.int .i64 3, .int .i64 n, .slice au M.length cu] 39)) w.heap.size 39 #[.int .i64 3, .int .i64 n, .slice au M.length cu] ∧ Mid W0 (w.alloc (.cells #[.int .i64 3, .int .i64 n, .slice au M.length cu] 39)) F G d r X X) := ⟨heap_alloc_new _ _, hp.grown (World.grownBy_alloc _ _ _)⟩
  have HU : Hid (Seg W0 (.slice au M.length cu) M) := hu
  have HF : Hid (∀ k, F k ∨ G k → k < w.heap.size) := fun k hk => by
    rcases hk with hk | hk
    · exact hp.uf k hk
    · exact hp.ug k hk
  have HM : Hid (Few m X) := hm
  have HMF : Hid (Few 9223372036854775806 X) := hmf
  clear hu hp hm hmf
  obtain ⟨nM, hnM⟩ : ∃ n, M.length = n := ⟨_, rfl⟩
  have HNM : Hid (M.length = nM) := hnM
  rw [hnM] at HB HU ⊢
  clear hnM
  go_enter Try.func11, Try.ntmps11
  go_wp2_with fail
  generalize w.alloc (.cells #[.int .i64 3, .int .i64 n, .slice au nM cu] 39) = w1 at HB ⊢
  have ec := eq_code (codeQ X fun S => S.trimCode n)
  have hnw : Hid (¬ F w.heap.size ∧ ¬ G w.heap.size) := ⟨fun hf => by have := HF.out w.heap.size (.inl hf); omega, fun hf => by have := HF.out w.heap.size (.inr hf); omega⟩
  have HC : Hid (∀ x : World, Blk x w.heap.size 39 #[.int .i64 3, .int .i64 n, .slice au nM cu] → x.cell? ⟨w.heap.size, 1, none⟩ = some (.int .i64 n)) := fun x hx => hx.cell 1
  clear HU HNM
  refine wp_region_noPanic ?_
  refine wp_region_hold 1000 (fun x => Blk x w.heap.size 39 #[.int .i64 3, .int .i64 n, .slice au nM cu]) (by kernel_rfl) ?_
  refine wpHold_take (i := 0) (v := _) (HB.out.1) rfl rfl (by kernel_rfl) (by kernel_rfl) (by kernel_rfl) (by kernel_rfl) (by kernel_rfl) (fun _ _ _ h => h) (by rfl) (fun wk hk => by have k0 := HC.out wk hk; go_simp; try rfl) ?_
  try simp only [Act.put, List.setIfInBounds_toArray, List.set_cons_zero, List.set_cons_succ]
  refine wpHold_take (i := 1) (v := _) (HB.out.1) rfl rfl (by kernel_rfl) (by kernel_rfl) (by kernel_rfl) (by kernel_rfl) (by kernel_rfl) (fun _ _ _ h => h) (by rfl) (fun wk hk => by have k0 := HC.out wk hk; go_simp; try rfl) ?_
  try simp only [Act.put, List.setIfInBounds_toArray, List.set_cons_zero, List.set_cons_succ]
  refine wpHold_take (i := 2) (v := _) (HB.out.1) rfl rfl (by kernel_rfl) (by kernel_rfl) (by kernel_rfl) (by kernel_rfl) (by kernel_rfl) (fun _ _ _ h => h) (by rfl) (fun wk hk => by have k0 := HC.out wk hk; go_simp; try rfl) ?_
  try simp only [Act.put, List.setIfInBounds_toArray, List.set_cons_zero, List.set_cons_succ]
  refine wpHold_take (i := 3) (v := _) (HB.out.1) rfl rfl (by kernel_rfl) (by kernel_rfl) (by kernel_rfl) (by kernel_rfl) (by kernel_rfl) (fun _ _ _ h => h) (by rfl) (fun wk hk => by have k0 := HC.out wk hk; go_simp; try rfl) ?_
  try simp only [Act.put, List.setIfInBounds_toArray, List.set_cons_zero, List.set_cons_succ]
  refine wpHold_take (i := 4) (v := _) (HB.out.1) rfl rfl (by kernel_rfl) (by kernel_rfl) (by kernel_rfl) (by kernel_rfl) (by kernel_rfl) (fun _ _ _ h => h) (by rfl) (fun wk hk => by have k0 := HC.out wk hk; go_simp; try rfl) ?_
  try simp only [Act.put, List.setIfInBounds_toArray, List.set_cons_zero, List.set_cons_succ]
  refine wpHold_take (i := 6) (v := _) (HB.out.1) rfl rfl (by kernel_rfl) (by kernel_rfl) (by kernel_rfl) (by kernel_rfl) (by kernel_rfl) (fun _ _ _ h => h) (by rfl) (fun wk hk => by have k0 := HC.out wk hk; go_simp; try rfl) ?_
  try simp only [Act.put, List.setIfInBounds_toArray, List.set_cons_zero, List.set_cons_succ]
  refine wpHold_take (i := 7) (v := _) (HB.out.1) rfl rfl (by kernel_rfl) (by kernel_rfl) (by kernel_rfl) (by kernel_rfl) (by kernel_rfl) (fun _ _ _ h => h) (by rfl) (fun wk hk => by have k0 := HC.out wk hk; go_simp; try rfl) ?_
  try simp only [Act.put, List.setIfInBounds_toArray, List.set_cons_zero, List.set_cons_succ]
  refine wpHold_take (i := 8) (v := _) (HB.out.1) rfl rfl (by kernel_rfl) (by kernel_rfl) (by kernel_rfl) (by kernel_rfl) (by kernel_rfl) (fun _ _ _ h => h) (by rfl) (fun wk hk => by have k0 := HC.out wk hk; go_simp; try rfl) ?_
  try simp only [Act.put, List.setIfInBounds_toArray, List.set_cons_zero, List.set_cons_succ]
  refine wpHold_one (i := 5) rfl (by kernel_rfl) (by rfl) (fun K hK => ?_)
  go_simp
  refine (trimD F _ X n _ (HB.out.2.grown (grown_drew _ _)).dq (HB.out.2.grown (grown_drew _ _)).uf HMF.out).mono ?_
  rintro e w3 ⟨rfl, F3, d3, a3, l3⟩
  have S3 : Hid (Blk w3 w.heap.size 39 #[.int .i64 3, .int .i64 n, .slice au nM cu] ∧ Mid W0 w3 F3 G d r (X.map fun S => S.trim n) X) := ⟨HB.out.1.same (a3.fr.block w.heap.size HB.out.1.lt hnw.out.1), (HB.out.2.grown (grown_drew _ _)).stepD d3 a3 l3⟩
  clear d3 a3 l3
  go_wp2_with fail
  refine hK.out _ _ (fun _ => S3.out.1) ?_
  clear hK K
  try simp only [Act.put, List.setIfInBounds_toArray, List.set_cons_zero, List.set_cons_succ]
  refine wpHold_one (i := 9) rfl (by kernel_rfl) (by rfl) (fun K hK => ?_)
  go_simp
  refine (trimR G _ X n _ S3.out.2.rq S3.out.2.ug HMF.out).mono ?_
  rintro e w4 ⟨rfl, G4, d4, a4, l4⟩
  have S4 : Hid (Blk w4 w.heap.size 39 #[.int .i64 3, .int .i64 n, .slice au nM cu] ∧ DoneQ W0 w4 d r X (m + 1)) := ⟨S3.out.1.same (a4.fr.block w.heap.size S3.out.1.lt hnw.out.2), X.map fun S => S.trim n, ⟨F3, G4, S3.out.2.stepR d4 a4 l4⟩, HM.out.map (fun S => steps_trim S n), map_none⟩
  clear d4 a4 l4 S3
  go_wp2_with fail
  refine hK.out _ _ (fun _ => S4.out.1) ?_
  clear hK K
  try simp only [Act.put, List.setIfInBounds_toArray, List.set_cons_zero, List.set_cons_succ]
  refine wpHold_take (i := 10) (v := _) (S4.out.1) rfl rfl (by kernel_rfl) (by kernel_rfl) (by kernel_rfl) (by kernel_rfl) (by kernel_rfl) (fun _ _ _ h => h) (by rfl) (fun wk hk => by have k0 := HC.out wk hk; go_simp; try rfl) ?_
  try simp only [Act.put, List.setIfInBounds_toArray, List.set_cons_zero, List.set_cons_succ]
  refine wpHold_take (i := 11) (v := _) (S4.out.1) rfl rfl (by kernel_rfl) (by kernel_rfl) (by kernel_rfl) (by kernel_rfl) (by kernel_rfl) (fun _ _ _ h => h) (by rfl) (fun wk hk => by have k0 := HC.out wk hk; go_simp; try rfl) ?_
  try simp only [Act.put, List.setIfInBounds_toArray, List.set_cons_zero, List.set_cons_succ]
  refine wpHold_take (i := 12) (v := _) (S4.out.1) rfl rfl (by kernel_rfl) (by kernel_rfl) (by kernel_rfl) (by kernel_rfl) (by kernel_rfl) (fun _ _ _ h => h) (by rfl) (fun wk hk => by have k0 := HC.out wk hk; go_simp; try rfl) ?_
  try simp only [Act.put, List.setIfInBounds_toArray, List.set_cons_zero, List.set_cons_succ]
  refine wpHold_take (i := 13) (v := _) (S4.out.1) rfl rfl (by kernel_rfl) (by kernel_rfl) (by kernel_rfl) (by kernel_rfl) (by kernel_rfl) (fun _ _ _ h => h) (by rfl) (fun wk hk => by have k0 := HC.out wk hk; go_simp; try rfl) ?_
  try simp only [Act.put, List.setIfInBounds_toArray, List.set_cons_zero, List.set_cons_succ]
  refine wpHold_done (by kernel_rfl) ?_
  refine (‹∀ (a : Act) (w : World), Code.wp Try.prog _ _ a w → _› _ _ ?_)
  go_wp2_with fail
  exact bodyPost_ret (v := .tuple #[d, r, .bool true]) (by simp [results, Try.results11]) rfl ⟨_, _, rfl, S4.out.2⟩

set_option maxRecDepth 100000 in
set_option maxHeartbeats 1000000 in
theorem does11_4 (W0 w : World) (d r : Value) (X : Option St) (m : Nat) (n : Int) (u : Value) (M : List UInt8) (h : PairQ W0 w d r X) (hm : Few m X) (hm2 : m ≤ 9223372036854775800) (hu : Seg W0 u M) (_hM : M.length ≤ 140737488351232) (_hn1 : -9223372036854775808 ≤ n) (_hn2 : n ≤ 9223372036854775807) :
    Calls Try.prog 11 #[d, r, .agg #[.int .i64 4, .int .i64 n, u]] w fun e w' => ∃ d' r', e = .returned (.tuple #[d', r', .bool true]) ∧ DoneQ W0 w' d' r' X (m + 1) := by
  obtain ⟨F, G, hp⟩ := h
  obtain ⟨au, cu, huv⟩ := hu.shape
  subst huv
  have hmf : Few 9223372036854775806 X := hm.mono (by omega)
  have HB : Hid (Blk (w.alloc (.cells #[.int .i64 4, .int .i64 n, .slice au M.length cu] 39)) w.heap.size 39 #[.int .i64 4, .int .i64 n, .slice au M.length cu] ∧ Mid W0 (w.alloc (.cells #[.int .i64 4, .int .i64 n, .slice au M.length cu] 39)) F G d r X X) := ⟨heap_alloc_new _ _, hp.grown (World.grownBy_alloc _ _ _)⟩
  have HU : Hid (Seg W0 (.slice au M.length cu) M) := hu
  have HF : Hid (∀ k, F k ∨ G k → k < w.heap.size) := fun k hk => by
    rcases hk with hk | hk
    · exact hp.uf k hk
    · exact hp.ug k hk
  have HM : Hid (Few m X) := hm
  have HMF : Hid (Few 9223372036854775806 X) := hmf
  clear hu hp hm hmf
  obtain ⟨nM, hnM⟩ : ∃ n, M.length = n := ⟨_, rfl⟩
  have HNM : Hid (M.length = nM) := hnM
  rw [hnM] at HB HU ⊢
  clear hnM
  go_enter Try.func11, Try.ntmps11
  go_wp2_with fail
  generalize w.alloc (.cells #[.int .i64 4, .int .i64 n, .slice au nM cu] 39) = w1 at HB ⊢
  have ec := eq_code (codeQ X fun S => S.dropCode n)
  have hnw : Hid (¬ F w.heap.size ∧ ¬ G w.heap.size) := ⟨fun hf => by have := HF.out w.heap.size (.inl hf); omega, fun hf => by have := HF.out w.heap.size (.inr hf); omega⟩
  have HC : Hid (∀ x : World, Blk x w.heap.size 39 #[.int .i64 4, .int .i64 n, .slice au nM cu] → x.cell? ⟨w.heap.size, 1, none⟩ = some (.int .i64 n)) := fun x hx => hx.cell 1
  clear HU HNM
  refine wp_region_noPanic ?_
  refine wp_region_hold 1000 (fun x => Blk x w.heap.size 39 #[.int .i64 4, .int .i64 n, .slice au nM cu]) (by kernel_rfl) ?_
  refine wpHold_take (i := 0) (v := _) (HB.out.1) rfl rfl (by kernel_rfl) (by kernel_rfl) (by kernel_rfl) (by kernel_rfl) (by kernel_rfl) (fun _ _ _ h => h) (by rfl) (fun wk hk => by have k0 := HC.out wk hk; go_simp; try rfl) ?_
  try simp only [Act.put, List.setIfInBounds_toArray, List.set_cons_zero, List.set_cons_succ]
  refine wpHold_take (i := 1) (v := _) (HB.out.1) rfl rfl (by kernel_rfl) (by kernel_rfl) (by kernel_rfl) (by kernel_rfl) (by kernel_rfl) (fun _ _ _ h => h) (by rfl) (fun wk hk => by have k0 := HC.out wk hk; go_simp; try rfl) ?_
  try simp only [Act.put, List.setIfInBounds_toArray, List.set_cons_zero, List.set_cons_succ]
  refine wpHold_take (i := 2) (v := _) (HB.out.1) rfl rfl (by kernel_rfl) (by kernel_rfl) (by kernel_rfl) (by kernel_rfl) (by kernel_rfl) (fun _ _ _ h => h) (by rfl) (fun wk hk => by have k0 := HC.out wk hk; go_simp; try rfl) ?_
  try simp only [Act.put, List.setIfInBounds_toArray, List.set_cons_zero, List.set_cons_succ]
  refine wpHold_take (i := 3) (v := _) (HB.out.1) rfl rfl (by kernel_rfl) (by kernel_rfl) (by kernel_rfl) (by kernel_rfl) (by kernel_rfl) (fun _ _ _ h => h) (by rfl) (fun wk hk => by have k0 := HC.out wk hk; go_simp; try rfl) ?_
  try simp only [Act.put, List.setIfInBounds_toArray, List.set_cons_zero, List.set_cons_succ]
  refine wpHold_take (i := 4) (v := _) (HB.out.1) rfl rfl (by kernel_rfl) (by kernel_rfl) (by kernel_rfl) (by kernel_rfl) (by kernel_rfl) (fun _ _ _ h => h) (by rfl) (fun wk hk => by have k0 := HC.out wk hk; go_simp; try rfl) ?_
  try simp only [Act.put, List.setIfInBounds_toArray, List.set_cons_zero, List.set_cons_succ]
  refine wpHold_take (i := 6) (v := _) (HB.out.1) rfl rfl (by kernel_rfl) (by kernel_rfl) (by kernel_rfl) (by kernel_rfl) (by kernel_rfl) (fun _ _ _ h => h) (by rfl) (fun wk hk => by have k0 := HC.out wk hk; go_simp; try rfl) ?_
  try simp only [Act.put, List.setIfInBounds_toArray, List.set_cons_zero, List.set_cons_succ]
  refine wpHold_take (i := 7) (v := _) (HB.out.1) rfl rfl (by kernel_rfl) (by kernel_rfl) (by kernel_rfl) (by kernel_rfl) (by kernel_rfl) (fun _ _ _ h => h) (by rfl) (fun wk hk => by have k0 := HC.out wk hk; go_simp; try rfl) ?_
  try simp only [Act.put, List.setIfInBounds_toArray, List.set_cons_zero, List.set_cons_succ]
  refine wpHold_take (i := 8) (v := _) (HB.out.1) rfl rfl (by kernel_rfl) (by kernel_rfl) (by kernel_rfl) (by kernel_rfl) (by kernel_rfl) (fun _ _ _ h => h) (by rfl) (fun wk hk => by have k0 := HC.out wk hk; go_simp; try rfl) ?_
  try simp only [Act.put, List.setIfInBounds_toArray, List.set_cons_zero, List.set_cons_succ]
  refine wpHold_one (i := 5) rfl (by kernel_rfl) (by rfl) (fun K hK => ?_)
  go_simp
  refine (dropD F _ X n _ (HB.out.2.grown (grown_drew _ _)).dq (HB.out.2.grown (grown_drew _ _)).uf HMF.out).mono ?_
  rintro e w3 ⟨rfl, F3, d3, a3, l3⟩
  have S3 : Hid (Blk w3 w.heap.size 39 #[.int .i64 4, .int .i64 n, .slice au nM cu] ∧ Mid W0 w3 F3 G d r (X.map fun S => S.drop n) X) := ⟨HB.out.1.same (a3.fr.block w.heap.size HB.out.1.lt hnw.out.1), (HB.out.2.grown (grown_drew _ _)).stepD d3 a3 l3⟩
  clear d3 a3 l3
  go_wp2_with fail
  refine hK.out _ _ (fun _ => S3.out.1) ?_
  clear hK K
  try simp only [Act.put, List.setIfInBounds_toArray, List.set_cons_zero, List.set_cons_succ]
  refine wpHold_one (i := 9) rfl (by kernel_rfl) (by rfl) (fun K hK => ?_)
  go_simp
  refine (dropR G _ X n _ S3.out.2.rq S3.out.2.ug HMF.out).mono ?_
  rintro e w4 ⟨rfl, G4, d4, a4, l4⟩
  have S4 : Hid (Blk w4 w.heap.size 39 #[.int .i64 4, .int .i64 n, .slice au nM cu] ∧ DoneQ W0 w4 d r X (m + 1)) := ⟨S3.out.1.same (a4.fr.block w.heap.size S3.out.1.lt hnw.out.2), X.map fun S => S.drop n, ⟨F3, G4, S3.out.2.stepR d4 a4 l4⟩, HM.out.map (fun S => steps_drop S n), map_none⟩
  clear d4 a4 l4 S3
  go_wp2_with fail
  refine hK.out _ _ (fun _ => S4.out.1) ?_
  clear hK K
  try simp only [Act.put, List.setIfInBounds_toArray, List.set_cons_zero, List.set_cons_succ]
  refine wpHold_take (i := 10) (v := _) (S4.out.1) rfl rfl (by kernel_rfl) (by kernel_rfl) (by kernel_rfl) (by kernel_rfl) (by kernel_rfl) (fun _ _ _ h => h) (by rfl) (fun wk hk => by have k0 := HC.out wk hk; go_simp; try rfl) ?_
  try simp only [Act.put, List.setIfInBounds_toArray, List.set_cons_zero, List.set_cons_succ]
  refine wpHold_take (i := 11) (v := _) (S4.out.1) rfl rfl (by kernel_rfl) (by kernel_rfl) (by kernel_rfl) (by kernel_rfl) (by kernel_rfl) (fun _ _ _ h => h) (by rfl) (fun wk hk => by have k0 := HC.out wk hk; go_simp; try rfl) ?_
  try simp only [Act.put, List.setIfInBounds_toArray, List.set_cons_zero, List.set_cons_succ]
  refine wpHold_take (i := 12) (v := _) (S4.out.1) rfl rfl (by kernel_rfl) (by kernel_rfl) (by kernel_rfl) (by kernel_rfl) (by kernel_rfl) (fun _ _ _ h => h) (by rfl) (fun wk hk => by have k0 := HC.out wk hk; go_simp; try rfl) ?_
  try simp only [Act.put, List.setIfInBounds_toArray, List.set_cons_zero, List.set_cons_succ]
  refine wpHold_take (i := 13) (v := _) (S4.out.1) rfl rfl (by kernel_rfl) (by kernel_rfl) (by kernel_rfl) (by kernel_rfl) (by kernel_rfl) (fun _ _ _ h => h) (by rfl) (fun wk hk => by have k0 := HC.out wk hk; go_simp; try rfl) ?_
  try simp only [Act.put, List.setIfInBounds_toArray, List.set_cons_zero, List.set_cons_succ]
  refine wpHold_done (by kernel_rfl) ?_
  refine (‹∀ (a : Act) (w : World), Code.wp Try.prog _ _ a w → _› _ _ ?_)
  go_wp2_with fail
  exact bodyPost_ret (v := .tuple #[d, r, .bool true]) (by simp [results, Try.results11]) rfl ⟨_, _, rfl, S4.out.2⟩

theorem DQ.eqNil {w : World} {F : Nat → Prop} {v : Value} {X : Option St} (h : DQ w F v X) (x : World) : (binOp .eql 28 v (.pointer none)).run Try.prog x = .ok (.bool X.isNone) x := by
  rcases h.isNil with ⟨rfl, rfl⟩ | ⟨S, b, rfl, rfl⟩
  · simp [go_sem]
  · simp [go_sem]
theorem RQ.eqNil {w : World} {F : Nat → Prop} {v : Value} {X : Option St} (h : RQ w F v X) (x : World) : (binOp .eql 32 v (.pointer none)).run Try.prog x = .ok (.bool X.isNone) x := by
  rcases h.isNil with ⟨rfl, rfl⟩ | ⟨S, b, rfl, rfl⟩
  · simp [go_sem]
  · simp [go_sem]
theorem eqGuard_ptr (t : TypeId) (x y : Operand) (v : Value) : eqGuard .eql t x y v (.pointer none) = pure () := by cases v <;> rfl
theorem isNone_map (X : Option St) (f : St → St) : (X.map f).isNone = X.isNone := by cases X <;> rfl
/-- Two new ones, made one behind the other. -/
theorem mid_new {W0 w w1 w2 : World} {F G : Nat → Prop} {e f : Value} {X Y : Option St} (h0 : W0.grownBy w none) (g1 : w.grownBy w1 none) (d1 : DQ w1 F e X) (l1 : ∀ k, F k → w.heap.size ≤ k) (u1 : ∀ k, F k → k < w1.heap.size) (g2 : w1.grownBy w2 none) (d2 : RQ w2 G f Y) (l2 : ∀ k, G k → w1.heap.size ≤ k) (u2 : ∀ k, G k → k < w2.heap.size) : Mid W0 w2 F G e f X Y :=
  ⟨grown_trans h0 (grown_trans g1 g2), d1.same g2.size (grown_same g2 u1), d2, fun k hf hg => (by have := u1 k hf; have := l2 k hg; omega), fun k hk => Nat.le_trans h0.size (l1 k hk), fun k hk => Nat.le_trans h0.size (Nat.le_trans g1.size (l2 k hk)), fun k hk => Nat.lt_of_lt_of_le (u1 k hk) g2.size, u2⟩
/-- What is written lies in neither. -/
theorem Mid.far {W0 w w' : World} {F G P : Nat → Prop} {d r : Value} {X Y : Option St} (h : Mid W0 w F G d r X Y) (hf : Fr w w' P) (hw : W0.grownBy w' none) (h1 : ∀ k, F k → ¬ P k) (h2 : ∀ k, G k → ¬ P k) : Mid W0 w' F G d r X Y :=
  ⟨hw, h.dq.same hf.size (hf.same h.uf h1), h.rq.same hf.size (hf.same h.ug h2), h.dis, h.lf, h.lg, fun k hk => Nat.lt_of_lt_of_le (h.uf k hk) hf.size, fun k hk => Nat.lt_of_lt_of_le (h.ug k hk) hf.size⟩

set_option maxRecDepth 100000 in
set_option maxHeartbeats 1000000 in
theorem does11_7 (W0 w : World) (d r : Value) (X : Option St) (m : Nat) (n : Int) (u : Value) (M : List UInt8) (h : PairQ W0 w d r X) (hm : Few m X) (hm2 : m ≤ 9223372036854775800) (hu : Seg W0 u M) (_hM : M.length ≤ 140737488351232) (hn1 : -9223372036854775808 ≤ n) (hn2 : n ≤ 9223372036854775807) :
    Calls Try.prog 11 #[d, r, .agg #[.int .i64 7, .int .i64 n, u]] w fun e w' => ∃ d' r', e = .returned (.tuple #[d', r', .bool true]) ∧ DoneQ W0 w' d' r' X (m + 1) := by
  obtain ⟨F, G, hp⟩ := h
  obtain ⟨au, cu, huv⟩ := hu.shape
  subst huv
  have hmf : Few 9223372036854775806 X := hm.mono (by omega)
  have HB : Hid (Blk (w.alloc (.cells #[.int .i64 7, .int .i64 n, .slice au M.length cu] 39)) w.heap.size 39 #[.int .i64 7, .int .i64 n, .slice au M.length cu] ∧ Mid W0 (w.alloc (.cells #[.int .i64 7, .int .i64 n, .slice au M.length cu] 39)) F G d r X X) := ⟨heap_alloc_new _ _, hp.grown (World.grownBy_alloc _ _ _)⟩
  have HU : Hid (Seg W0 (.slice au M.length cu) M) := hu
  have HF : Hid (∀ k, F k ∨ G k → k < w.heap.size) := fun k hk => by
    rcases hk with hk | hk
    · exact hp.uf k hk
    · exact hp.ug k hk
  have HM : Hid (Few m X) := hm
  have HMF : Hid (Few 9223372036854775806 X) := hmf
  clear hu hp hm hmf
  obtain ⟨nM, hnM⟩ : ∃ n, M.length = n := ⟨_, rfl⟩
  have HNM : Hid (M.length = nM) := hnM
  rw [hnM] at HB HU ⊢
  clear hnM
  go_enter Try.func11, Try.ntmps11
  go_wp2_with fail
  generalize w.alloc (.cells #[.int .i64 7, .int .i64 n, .slice au nM cu] 39) = w1 at HB ⊢
  have HC : Hid (∀ x : World, w1.grownBy x none → x.cell? ⟨w.heap.size, 1, none⟩ = some (.int .i64 n)) := fun x hx => (HB.out.1.grown hx (by simp)).cell 1
  clear HU HNM
  refine wp_region_noPanic ?_
  refine wp_region_hold 1000 (fun x => w1.grownBy x none) (by kernel_rfl) ?_
  refine wpHold_take (i := 0) (v := _) (grown_drew _ _) rfl rfl (by kernel_rfl) (by kernel_rfl) (by kernel_rfl) (by kernel_rfl) (by kernel_rfl) (fun _ _ _ h => h) (by rfl) (fun wk hk => by have k0 := HC.out wk hk; go_simp; try rfl) ?_
  try simp only [Act.put, List.setIfInBounds_toArray, List.set_cons_zero, List.set_cons_succ]
  refine wpHold_take (i := 1) (v := _) (grown_drew _ _) rfl rfl (by kernel_rfl) (by kernel_rfl) (by kernel_rfl) (by kernel_rfl) (by kernel_rfl) (fun _ _ _ h => h) (by rfl) (fun wk hk => by have k0 := HC.out wk hk; go_simp; try rfl) ?_
  try simp only [Act.put, List.setIfInBounds_toArray, List.set_cons_zero, List.set_cons_succ]
  refine wpHold_take (i := 2) (v := _) (grown_drew _ _) rfl rfl (by kernel_rfl) (by kernel_rfl) (by kernel_rfl) (by kernel_rfl) (by kernel_rfl) (fun _ _ _ h => h) (by rfl) (fun wk hk => by have k0 := HC.out wk hk; go_simp; try rfl) ?_
  try simp only [Act.put, List.setIfInBounds_toArray, List.set_cons_zero, List.set_cons_succ]
  refine wpHold_take (i := 4) (v := _) (grown_drew _ _) rfl rfl (by kernel_rfl) (by kernel_rfl) (by kernel_rfl) (by kernel_rfl) (by kernel_rfl) (fun _ _ _ h => h) (by rfl) (fun wk hk => by have k0 := HC.out wk hk; go_simp; try rfl) ?_
  try simp only [Act.put, List.setIfInBounds_toArray, List.set_cons_zero, List.set_cons_succ]
  refine wpHold_take (i := 5) (v := _) (grown_drew _ _) rfl rfl (by kernel_rfl) (by kernel_rfl) (by kernel_rfl) (by kernel_rfl) (by kernel_rfl) (fun _ _ _ h => h) (by rfl) (fun wk hk => by have k0 := HC.out wk hk; go_simp; try rfl) ?_
  try simp only [Act.put, List.setIfInBounds_toArray, List.set_cons_zero, List.set_cons_succ]
  refine wpHold_take (i := 6) (v := _) (grown_drew _ _) rfl rfl (by kernel_rfl) (by kernel_rfl) (by kernel_rfl) (by kernel_rfl) (by kernel_rfl) (fun _ _ _ h => h) (by rfl) (fun wk hk => by have k0 := HC.out wk hk; go_simp; try rfl) ?_
  try simp only [Act.put, List.setIfInBounds_toArray, List.set_cons_zero, List.set_cons_succ]
  refine wpHold_one (i := 3) rfl (by kernel_rfl) (by rfl) (fun K hK => ?_)
  go_simp
  refine (stopD F _ X n _ (HB.out.2.grown (grown_drew _ _)).dq hn1 hn2).mono ?_
  rintro e w2 ⟨pe, rfl, g2, F2, d2, l2, u2⟩
  have S2 : Hid (w1.grownBy w2 none ∧ DQ w2 F2 pe (X.map fun S => S.stop n) ∧ (∀ k, F2 k → w1.heap.size ≤ k) ∧ ∀ k, F2 k → k < w2.heap.size) := ⟨grown_trans (grown_drew _ _) g2, d2, l2, u2⟩
  clear g2 d2 l2 u2
  go_wp2_with fail
  refine hK.out _ _ (fun _ => S2.out.1) ?_
  clear hK K
  try simp only [Act.put, List.setIfInBounds_toArray, List.set_cons_zero, List.set_cons_succ]
  refine wpHold_one (i := 7) rfl (by kernel_rfl) (by rfl) (fun K hK => ?_)
  go_simp
  refine (stopR G _ X n _ (HB.out.2.grown S2.out.1).rq hn1 hn2).mono ?_
  rintro e w3 ⟨pf, rfl, g3, G3, d3, l3, u3⟩
  have S3 : Hid (w1.grownBy w3 none ∧ Mid W0 w3 F2 G3 pe pf (X.map fun S => S.stop n) (X.map fun S => S.stop n) ∧ Mid W0 w3 F G d r X X) := ⟨grown_trans S2.out.1 g3, mid_new HB.out.2.gr S2.out.1 S2.out.2.1 S2.out.2.2.1 S2.out.2.2.2 g3 d3 l3 u3, HB.out.2.grown (grown_trans S2.out.1 g3)⟩
  clear g3 d3 l3 u3 S2
  go_wp2_with fail
  refine hK.out _ _ (fun _ => S3.out.1) ?_
  clear hK K
  try simp only [Act.put, List.setIfInBounds_toArray, List.set_cons_zero, List.set_cons_succ]
  refine wpHold_take (i := 8) (v := _) (S3.out.1) rfl rfl (by kernel_rfl) (by kernel_rfl) (by kernel_rfl) (by kernel_rfl) (by kernel_rfl) (fun _ _ _ h => h) (by rfl) (fun wk hk => by have k0 := HC.out wk hk; go_simp; try rfl) ?_
  try simp only [Act.put, List.setIfInBounds_toArray, List.set_cons_zero, List.set_cons_succ]
  refine wpHold_take (i := 9) (v := _) (S3.out.1) rfl rfl (by kernel_rfl) (by kernel_rfl) (by kernel_rfl) (by kernel_rfl) (by kernel_rfl) (fun _ _ _ h => h) (by rfl) (fun wk hk => by have k0 := HC.out wk hk; go_simp; try rfl) ?_
  try simp only [Act.put, List.setIfInBounds_toArray, List.set_cons_zero, List.set_cons_succ]
  refine wpHold_done (by kernel_rfl) ?_
  refine (‹∀ (a : Act) (w : World), Code.wp Try.prog _ _ a w → _› _ _ ?_)
  have q28 := S3.out.2.1.dq.eqNil
  have q32 := S3.out.2.1.rq.eqNil
  rw [isNone_map] at q28 q32
  have gp := eqGuard_ptr
  go_wp2_with fail
  refine (tellsQ F G _ _ X _ S3.out.2.2.dq S3.out.2.2.rq).mono ?_
  rintro e w4 ⟨rfl, g4⟩
  have S5 : Hid (DoneQ W0 w4 pe pf X (m + 1)) := ⟨X.map fun S => S.stop n, ⟨F2, G3, S3.out.2.1.grown g4⟩, HM.out.map (fun S => steps_stop S n), map_none⟩
  clear g4 S3 q28 q32 gp
  go_wp2_with fail
  exact bodyPost_ret (v := .tuple #[pe, pf, .bool true]) (by simp [results, Try.results11]) rfl ⟨_, _, rfl, S5.out⟩

set_option maxRecDepth 100000 in
set_option maxHeartbeats 1000000 in
theorem does11_8 (W0 w : World) (d r : Value) (X : Option St) (m : Nat) (n : Int) (u : Value) (M : List UInt8) (h : PairQ W0 w d r X) (hm : Few m X) (hm2 : m ≤ 9223372036854775800) (hu : Seg W0 u M) (_hM : M.length ≤ 140737488351232) (_hn1 : -9223372036854775808 ≤ n) (_hn2 : n ≤ 9223372036854775807) :
    Calls Try.prog 11 #[d, r, .agg #[.int .i64 8, .int .i64 n, u]] w fun e w' => ∃ d' r', e = .returned (.tuple #[d', r', .bool true]) ∧ DoneQ W0 w' d' r' X (m + 1) := by
  obtain ⟨F, G, hp⟩ := h
  obtain ⟨au, cu, huv⟩ := hu.shape
  subst huv
  have hmf : Few 9223372036854775806 X := hm.mono (by omega)
  have HB : Hid (Blk (w.alloc (.cells #[.int .i64 8, .int .i64 n, .slice au M.length cu] 39)) w.heap.size 39 #[.int .i64 8, .int .i64 n, .slice au M.length cu] ∧ Mid W0 (w.alloc (.cells #[.int .i64 8, .int .i64 n, .slice au M.length cu] 39)) F G d r X X) := ⟨heap_alloc_new _ _, hp.grown (World.grownBy_alloc _ _ _)⟩
  have HU : Hid (Seg W0 (.slice au M.length cu) M) := hu
  have HF : Hid (∀ k, F k ∨ G k → k < w.heap.size) := fun k hk => by
    rcases hk with hk | hk
    · exact hp.uf k hk
    · exact hp.ug k hk
  have HM : Hid (Few m X) := hm
  have HMF : Hid (Few 9223372036854775806 X) := hmf
  clear hu hp hm hmf
  obtain ⟨nM, hnM⟩ : ∃ n, M.length = n := ⟨_, rfl⟩
  have HNM : Hid (M.length = nM) := hnM
  rw [hnM] at HB HU ⊢
  clear hnM
  go_enter Try.func11, Try.ntmps11
  go_wp2_with fail
  generalize w.alloc (.cells #[.int .i64 8, .int .i64 n, .slice au nM cu] 39) = w1 at HB ⊢
  clear HU HNM
  refine (copyD F _ X _ HB.out.2.dq).mono ?_
  rintro e w2 ⟨pe, rfl, g2, F2, d2, l2, u2⟩
  have S2 : Hid (w1.grownBy w2 none ∧ DQ w2 F2 pe (X.map fun S => S) ∧ (∀ k, F2 k → w1.heap.size ≤ k) ∧ ∀ k, F2 k → k < w2.heap.size) := ⟨g2, d2, l2, u2⟩
  clear g2 d2 l2 u2
  go_wp2_with fail
  refine (copyR G _ X _ (HB.out.2.grown S2.out.1).rq).mono ?_
  rintro e w3 ⟨pf, rfl, g3, G3, d3, l3, u3⟩
  have S3 : Hid (Mid W0 w3 F2 G3 pe pf (X.map fun S => S) (X.map fun S => S) ∧ Mid W0 w3 F G d r X X ∧ (∀ k, F2 k → ¬ F k) ∧ (∀ k, G3 k → ¬ F k)) := by
    refine ⟨mid_new HB.out.2.gr S2.out.1 S2.out.2.1 S2.out.2.2.1 S2.out.2.2.2 g3 d3 l3 u3, HB.out.2.grown (grown_trans S2.out.1 g3), fun k hk hf => ?_, fun k hk hf => ?_⟩
    · have h1 := S2.out.2.2.1 k hk
      have h2 := HB.out.2.uf k hf
      omega
    · have h1 := l3 k hk
      have h2 := HB.out.2.uf k hf
      have h3 := S2.out.1.size
      omega
  clear g3 d3 l3 u3 S2 HB
  have q28 := S3.out.1.dq.eqNil
  have q32 := S3.out.1.rq.eqNil
  rw [isNone_map] at q28 q32
  have gp := eqGuard_ptr
  go_wp2_with fail
  clear q28 q32 gp
  have A4 : Hid (Mid W0 (w3.alloc (.cells #[.int .u8 1] 5)) F2 G3 pe pf (X.map fun S => S) (X.map fun S => S) ∧ Mid W0 (w3.alloc (.cells #[.int .u8 1] 5)) F G d r X X ∧ Seg (w3.alloc (.cells #[.int .u8 1] 5)) (.slice (some ⟨w3.heap.size, 0, none⟩) 1 1) [1] ∧ ¬ F w3.heap.size) := ⟨S3.out.1.grown (World.grownBy_alloc _ _ _), S3.out.2.1.grown (World.grownBy_alloc _ _ _), seg_lit _ _ _ [1] rfl (by simp), fun hf => by have := S3.out.2.1.uf _ hf; omega⟩
  generalize w3.alloc (.cells #[.int .u8 1] 5) = w4 at A4 ⊢
  refine (writeD F _ X _ [1] _ A4.out.2.1.dq A4.out.2.1.uf HMF.out A4.out.2.2.1 (fun _ k hk hf => by simp [Value.ownBlock] at hk; subst hk; exact A4.out.2.2.2 hf)).mono ?_
  rintro e w5 ⟨rfl, F5, d5, a5, l5⟩
  have S5 : Hid (Mid W0 w5 F2 G3 pe pf (X.map fun S => S) (X.map fun S => S) ∧ Mid W0 w5 F5 G d r (X.map fun S => S.write [1]) X ∧ (∀ k, F2 k → ¬ F5 k) ∧ (∀ k, G3 k → ¬ F5 k)) := by
    have hm5 := A4.out.2.1.stepD d5 a5 l5
    refine ⟨A4.out.1.far a5.fr hm5.gr S3.out.2.2.1 S3.out.2.2.2, hm5, fun k hk hf => ?_, fun k hk hf => ?_⟩
    · exact a5.disj A4.out.1.uf (fun k hk hg => S3.out.2.2.1 k hg hk) k hf hk
    · exact a5.disj A4.out.1.ug (fun k hk hg => S3.out.2.2.2 k hg hk) k hf hk
  clear d5 a5 l5 A4
  go_wp2_with fail
  have A6 : Hid (Mid W0 (w5.alloc (.cells #[.int .u8 2] 5)) F2 G3 pe pf (X.map fun S => S) (X.map fun S => S) ∧ Mid W0 (w5.alloc (.cells #[.int .u8 2] 5)) F5 G d r (X.map fun S => S.write [1]) X ∧ Seg (w5.alloc (.cells #[.int .u8 2] 5)) (.slice (some ⟨w5.heap.size, 0, none⟩) 1 1) [2] ∧ ¬ F5 w5.heap.size) := ⟨S5.out.1.grown (World.grownBy_alloc _ _ _), S5.out.2.1.grown (World.grownBy_alloc _ _ _), seg_lit _ _ _ [2] rfl (by simp), fun hf => by have := S5.out.2.1.uf _ hf; omega⟩
  generalize w5.alloc (.cells #[.int .u8 2] 5) = w6 at A6 ⊢
  refine (putD F5 _ (X.map fun S => S.write [1]) _ [2] _ A6.out.2.1.dq A6.out.2.1.uf ((HM.out.map (fun S => steps_write S [1])).mono (by omega)) A6.out.2.2.1 (fun _ k hk hf => by simp [Value.ownBlock] at hk; subst hk; exact A6.out.2.2.2 hf) (by simp)).mono ?_
  rintro e w7 ⟨rfl, F7, d7, a7, l7⟩
  have S7 : Hid (DoneQ W0 w7 pe pf X (m + 1)) := ⟨X.map fun S => S, ⟨F2, G3, A6.out.1.far a7.fr (A6.out.2.1.stepD d7 a7 l7).gr S5.out.2.2.1 S5.out.2.2.2⟩, HM.out.map (fun S => Nat.le_succ _), map_none⟩
  clear d7 a7 l7 A6 S5
  go_wp2_with fail
  exact bodyPost_ret (v := .tuple #[pe, pf, .bool true]) (by simp [results, Try.results11]) rfl ⟨_, _, rfl, S7.out⟩

set_option maxRecDepth 100000 in
set_option maxHeartbeats 1000000 in
theorem does11_o (W0 w : World) (d r : Value) (X : Option St) (m : Nat) (k n : Int) (u : Value) (M : List UInt8) (h : PairQ W0 w d r X) (hm : Few m X) (hm2 : m ≤ 9223372036854775800) (hu : Seg W0 u M) (_hM : M.length ≤ 140737488351232) (_hn1 : -9223372036854775808 ≤ n) (_hn2 : n ≤ 9223372036854775807) (h1 : k ≠ 1) (h2 : k ≠ 2) (h3 : k ≠ 3) (h4 : k ≠ 4) (h5 : k ≠ 5) (h6 : k ≠ 6) (h7 : k ≠ 7) (h8 : k ≠ 8) :
    Calls Try.prog 11 #[d, r, .agg #[.int .i64 k, .int .i64 n, u]] w fun e w' => ∃ d' r', e = .returned (.tuple #[d', r', .bool true]) ∧ DoneQ W0 w' d' r' X (m + 1) := by
  obtain ⟨F, G, hp⟩ := h
  obtain ⟨au, cu, huv⟩ := hu.shape
  subst huv
  have hmf : Few 9223372036854775806 X := hm.mono (by omega)
  have HB : Hid (Blk (w.alloc (.cells #[.int .i64 k, .int .i64 n, .slice au M.length cu] 39)) w.heap.size 39 #[.int .i64 k, .int .i64 n, .slice au M.length cu] ∧ Mid W0 (w.alloc (.cells #[.int .i64 k, .int .i64 n, .slice au M.length cu] 39)) F G d r X X) := ⟨heap_alloc_new _ _, hp.grown (World.grownBy_alloc _ _ _)⟩
  have HU : Hid (Seg W0 (.slice au M.length cu) M) := hu
  have HF : Hid (∀ k, F k ∨ G k → k < w.heap.size) := fun k hk => by
    rcases hk with hk | hk
    · exact hp.uf k hk
    · exact hp.ug k hk
  have HM : Hid (Few m X) := hm
  have HMF : Hid (Few 9223372036854775806 X) := hmf
  clear hu hp hm hmf
  obtain ⟨nM, hnM⟩ : ∃ n, M.length = n := ⟨_, rfl⟩
  have HNM : Hid (M.length = nM) := hnM
  rw [hnM] at HB HU ⊢
  clear hnM
  go_enter Try.func11, Try.ntmps11
  go_wp2_with fail
  generalize w.alloc (.cells #[.int .i64 k, .int .i64 n, .slice au nM cu] 39) = w1 at HB ⊢
  exact bodyPost_ret (v := .tuple #[d, r, .bool true]) (by simp [results, Try.results11]) rfl ⟨_, _, rfl, X, ⟨F, G, HB.out.2⟩, HM.out.mono (by omega), Iff.rfl⟩

theorem does11 (W0 w : World) (d r : Value) (X : Option St) (m : Nat) (k n : Int) (u : Value) (M : List UInt8) (h : PairQ W0 w d r X) (hm : Few m X) (hm2 : m ≤ 9223372036854775800) (hu : Seg W0 u M) (hM : M.length ≤ 140737488351232) (hn1 : -9223372036854775808 ≤ n) (hn2 : n ≤ 9223372036854775807) :
    Calls Try.prog 11 #[d, r, .agg #[.int .i64 k, .int .i64 n, u]] w fun e w' => ∃ d' r', e = .returned (.tuple #[d', r', .bool true]) ∧ DoneQ W0 w' d' r' X (m + 1) := by
  by_cases h1 : k = 1
  · subst h1; exact does11_1 W0 w d r X m n u M h hm hm2 hu hM hn1 hn2
  by_cases h2 : k = 2
  · subst h2; exact does11_2 W0 w d r X m n u M h hm hm2 hu hM hn1 hn2
  by_cases h3 : k = 3
  · subst h3; exact does11_3 W0 w d r X m n u M h hm hm2 hu hM hn1 hn2
  by_cases h4 : k = 4
  · subst h4; exact does11_4 W0 w d r X m n u M h hm hm2 hu hM hn1 hn2
  by_cases h5 : k = 5
  · subst h5; exact does11_5 W0 w d r X m n u M h hm hm2 hu hM hn1 hn2
  by_cases h6 : k = 6
  · subst h6; exact does11_6 W0 w d r X m n u M h hm hm2 hu hM hn1 hn2
  by_cases h7 : k = 7
  · subst h7; exact does11_7 W0 w d r X m n u M h hm hm2 hu hM hn1 hn2
  by_cases h8 : k = 8
  · subst h8; exact does11_8 W0 w d r X m n u M h hm hm2 hu hM hn1 hn2
  exact does11_o W0 w d r X m k n u M h hm hm2 hu hM hn1 hn2 h1 h2 h3 h4 h5 h6 h7 h8
end Go.Proofs.Ytegacmcekladfaa
