/-
  The law's full calls.
-/
import Derived.Test.YtfocmbnhkldnfaaGreatDoorPa
import Derived.Laws.OwnMore
namespace Go.Proofs.YtfocmbnhkldnfaaGreatDoor
open Go.RowKit Disk
open Names (Str)

theorem flatten_set {c : Nat} : ∀ (vs : List (List Value)) (j i : Nat) (u : Value) (_h3 : ∀ x ∈ vs, x.length = c) (hj : j < vs.length) (_hi : i < c), (vs.set j (vs[j].set i u)).flatten = vs.flatten.set (j * c + i) u
  | [], j, i, _, _, hj, _ => absurd hj (by simp)
  | x :: vs, 0, i, u, h3, _, hi => by
    have hx := h3 x (by simp)
    simp only [List.set_cons_zero, List.getElem_cons_zero, List.flatten_cons, Nat.zero_mul, Nat.zero_add]
    rw [List.set_append_left _ _ (by omega)]
  | x :: vs, j + 1, i, u, h3, hj, hi => by
    have hx := h3 x (by simp)
    simp only [List.set_cons_succ, List.getElem_cons_succ, List.flatten_cons]
    rw [List.set_append_right _ _ (by rw [hx, Nat.add_mul]; omega), flatten_set vs j i u (fun y hy => h3 y (by simp [hy])) (by simpa using hj) hi]
    congr 2
    rw [hx, Nat.add_mul]; omega

/-- The value of an op is put in its place. -/
theorem opsOwn_setValue {w : World} {B g n cap : Nat} {l : List POp} (h : OpsOwn w B (.slice (some ⟨g, 0, none⟩) n cap) l) (j : Nat) (hj : j < l.length) (u : Value) (M : Bs) (hu : Names.Cut w B u M) :
    OpsOwn (w.setCell ⟨g, j * 8 + 3, none⟩ u) B (.slice (some ⟨g, 0, none⟩) n cap) (l.set j { l[j] with value := M }) := by
  obtain ⟨⟨vs, h1, h2, h3, h4⟩, hl⟩ := h
  have hn : n = l.length := by
    rcases h1.2 with ⟨e, _⟩ | ⟨g', cap', cur, e, _⟩
    · simp at e
    · simp at e; exact e.2.1
  subst hn
  obtain ⟨cur, hb⟩ := owns_blk h1 (k := g) rfl
  have hg : w.grownBy (w.setCell ⟨g, j * 8 + 3, none⟩ u) (some g) := grown_setCell _ _ _ _
  have hst := opR_stab B
  refine ⟨⟨vs.set j (vs[j].set 3 u), ?_, by simp [h2], ?_, ?_⟩, by simpa using hl⟩
  · rw [flatten_set vs j 3 u h3 (by omega) (by decide), List.length_set]
    exact (World.ownsRow.stored h1 (j * 8 + 3) u).1
  · intro x hx
    rcases List.mem_or_eq_of_mem_set hx with hx | rfl
    · exact h3 x hx
    · rw [List.length_set]; exact h3 _ (List.getElem_mem _)
  · intro i hi hi'
    rw [List.getElem_set, List.getElem_set]
    by_cases e : j = i
    · subst e
      rw [if_pos rfl, if_pos rfl]
      obtain ⟨k, v, ol, t, e, ho⟩ := h4 j (by omega) hj
      rw [e]
      exact ⟨k, u, ol, t, rfl, ⟨cut_set ho.key hb (by decide) hg, cut_set hu hb (by decide) hg, cut_set ho.old hb (by decide) hg, cut_set ho.tos hb (by decide) hg, ⟨ho.fits.k0, ho.fits.k1, ho.fits.m0, ho.fits.m1, ho.fits.tl⟩⟩⟩
    · rw [if_neg e, if_neg e]
      exact hst.2 _ _ _ _ _ _ _ (h4 i (by simpa using hi) (by simpa using hi')) hb (by decide) hg

theorem made_cells : (madeCells (Value.int .u8 0).cells (248 * 1)).toList = BV (List.replicate 248 0) ∧ (madeCells (Value.int .u8 0).cells (249 * 1)).toList = BV (List.replicate 249 0) := ⟨by kernel_rfl, by kernel_rfl⟩
theorem make29 (n : Nat) (x : Int) (hx : x = (n : Int)) (hn : n = 248 ∨ n = 249) (w : World) : ∃ w', (Instr.makeSlice 29 (.int .i64 x) (.int .i64 x)).run Tryz.prog w = .ok (.slice (some ⟨w.heap.size, 0, none⟩) n n) w' ∧ Hid (Own w' w.heap.size (.slice (some ⟨w.heap.size, 0, none⟩) n n) (List.replicate n 0) ∧ w.grownBy w' none) := by
  subst hx
  obtain ⟨i0, hi, hz0, hz1, hz2⟩ := info_parts Tryz.info5
  obtain ⟨w', h1, h2, h3⟩ := run_makeSlice_full (P := Tryz.prog) (w := w) w.heap.size 29 5 i0 (.int .u8 0) 1 Tryz.underlying29 hi hz0 hz1 .i64 .i64 n (by omega) (by rw [hz2]; omega) (by unfold maxLen; omega) (Nat.le_refl _)
  refine ⟨w', h1, ?_, h3⟩
  unfold Own
  rw [List.length_replicate]
  rcases hn with rfl | rfl
  · rw [← made_cells.1]; exact h2
  · rw [← made_cells.2]; exact h2

def opE (i : Nat) : POp := ⟨2, [116], [UInt8.ofNat i], List.replicate 248 0, false, [], [], 0⟩
def opF (m i : Nat) : POp := if i < m then { opE i with value := List.replicate 249 0 } else opE i
def fullL (m k : Nat) : List POp := (List.range k).map (opF m)
theorem fullL_succ (m k : Nat) : fullL m (k + 1) = fullL m k ++ [opF m k] := by simp [fullL, List.range_succ]
theorem fullL_len (m k : Nat) : (fullL m k).length = k := by simp [fullL]
theorem opE_in (i : Nat) : OpIn (opE i) := ⟨(by decide : (-9223372036854775808 : Int) ≤ 2), (by decide : (2 : Int) ≤ 9223372036854775807), (by decide : (-9223372036854775808 : Int) ≤ 0), (by decide : (0 : Int) ≤ 9223372036854775807), (by decide : 1 ≤ 9223372036854775807)⟩
theorem cut_own {w : World} {B : Nat} {v : Value} {L : Bs} (h : Own w B v L) : Names.Cut w B v L := .inl h
theorem own_nil (w : World) (B : Nat) : Own w B (.slice none 0 0) [] := World.ownsRow_nil _ _ _ _

theorem opsOwn_cell3 {w : World} {B g n cap : Nat} {l : List POp} (h : OpsOwn w B (.slice (some ⟨g, 0, none⟩) n cap) l) (j : Nat) (hj : j < l.length) : (∃ x, w.cell? ⟨g, j * 8 + 3, none⟩ = some x) ∧ w.frozen? ⟨g, j * 8 + 3, none⟩ = false := by
  obtain ⟨g', cap', x, e, hlen, ⟨k, v, ol, t, rfl, ho⟩, _, hb, hc⟩ := h.1.cell j hj
  simp at e
  obtain ⟨rfl, _⟩ := e
  exact ⟨⟨v, hc 3 (by omega)⟩, hb.free _⟩
theorem set_last {α : Type} (l : List α) (a b : α) : (l ++ [a]).set l.length b = l ++ [b] := by simp

theorem full_step {w w6 w7 : World} {g cap n m : Nat} {u : Value} (H6 : Hid (Blk w6 (w.heap.size + 1) 24 #[.slice (some ⟨g, 0, none⟩) (n + 1) cap] ∧ Blk w6 w.heap.size 24 #[.slice none 0 0] ∧ OpsOwn w6 (w.heap.size + 2) (.slice (some ⟨g, 0, none⟩) (n + 1) cap) (fullL m n ++ [opE n]) ∧ w.grownBy w6 none))
    (H8 : Hid (Own w7 (w.heap.size + 2) u (List.replicate 249 0) ∧ w6.grownBy w7 none)) (hm : n < m) :
    Hid (Blk (w7.setCell ⟨g, n * 8 + 3, none⟩ u) (w.heap.size + 1) 24 #[.slice (some ⟨g, 0, none⟩) (n + 1) cap] ∧ Blk (w7.setCell ⟨g, n * 8 + 3, none⟩ u) w.heap.size 24 #[.slice none 0 0] ∧ OpsOwn (w7.setCell ⟨g, n * 8 + 3, none⟩ u) (w.heap.size + 2) (.slice (some ⟨g, 0, none⟩) (n + 1) cap) (fullL m (n + 1)) ∧ w.grownBy (w7.setCell ⟨g, n * 8 + 3, none⟩ u) none) := by
  obtain ⟨h1, h2, h3, h4⟩ := H6.out
  obtain ⟨i1, i2⟩ := H8.out
  have hB : w.heap.size + 2 ≤ g := (h3.1.lt g rfl).1
  have hg : w7.grownBy (w7.setCell ⟨g, n * 8 + 3, none⟩ u) (some g) := grown_setCell _ _ _ _
  have h5 := opsOwn_setValue (h3.grown i2) n (by simp [fullL_len]) u (List.replicate 249 0) (cut_own i1)
  refine ⟨(h1.grown i2 (by simp)).grown hg (fun e => by simp at e; omega), (h2.grown i2 (by simp)).grown hg (fun e => by simp at e; omega), ?_, grown_new (grown_trans h4 i2) hg (fun y hy => by simp at hy; omega)⟩
  have e1 : (fullL m n ++ [opE n])[n]'(by simp [fullL_len]) = opE n := by
    rw [List.getElem_append_right (by rw [fullL_len]; omega)]; simp [fullL_len]
  rw [e1] at h5
  have e2 : (fullL m n ++ [opE n]).set n { opE n with value := List.replicate 249 0 } = fullL m (n + 1) := by
    have := set_last (fullL m n) (opE n) { opE n with value := List.replicate 249 0 }
    rw [fullL_len] at this
    rw [this, fullL_succ]; unfold opF; rw [if_pos hm]
  rw [e2] at h5
  exact h5

set_option maxRecDepth 100000 in
set_option maxHeartbeats 4000000 in
theorem full35 (m : Nat) (w : World) (_hm : m ≤ 16) : Calls Tryz.prog 35 #[.int .i64 m] w fun e w' => ∃ u, e = .returned (.agg #[u]) ∧ Ops w' u (fullL m 16) ∧ w.grownBy w' none := by
  go_enter Tryz.func35, Tryz.ntmps35
  go_wp2_with fail
  go_loopw [4] (fun i wr => ∃ (k : Nat) (v : Value), k ≤ 16 ∧ i = .int .i64 k ∧ Hid (Blk wr (w.heap.size + 1) 24 #[v] ∧ Blk wr w.heap.size 24 #[.slice none 0 0] ∧ OpsOwn wr (w.heap.size + 2) v (fullL m k) ∧ w.grownBy wr none)) (fun i _ => 16 - (intOf i).toNat)
  case atStart =>
    refine ⟨0, .slice none 0 0, by omega, rfl, ?_, ?_, ⟨lrow_nil _ _, by simp [fullL]⟩, grown_trans (World.grownBy_alloc _ _ none) (World.grownBy_alloc _ _ none)⟩
    · have := heap_alloc_new (w.alloc (.cells #[.slice none 0 0] 24)) (.cells #[.slice none 0 0] 24)
      simpa [Blk] using this
    · exact Blk.grown (heap_alloc_new w _) (World.grownBy_alloc _ _ none) (by simp)
  case round =>
    obtain ⟨k, v, hk, rfl, HR⟩ := hrel
    by_cases hlt : k < 16
    · have i1 : (k : Int) < 16 := by omega
      have wk8 : IntKind.u8.wrap (k : Int) = (k : Int) := by rw [IntKind.wrap_u8]; omega
      have hc0 : (k : Int) = ((UInt8.ofNat k).toNat : Int) := by rw [UInt8.toNat_ofNat']; omega
      obtain ⟨x0, n0, y0, rfl, hn0⟩ := HR.out.2.2.1.slice
      rw [fullL_len] at hn0
      subst hn0
      have HS : Hid (w.heap.size + 2 ≤ wr.heap.size) := HR.out.1.lt
      have HC : Hid ((n0 : Int) = ((UInt8.ofNat n0).toNat : Int)) := hc0
      clear hc0
      go_wp2_with fail
      refine wp_region_noPanic ?_
      refine wp_region_hold 10 (fun x => x.cell? ⟨w.heap.size + 1, 0, none⟩ = some (.slice x0 n0 y0)) (by kernel_rfl) ?_
      have HD : Hid (wr.grownBy wr.drew none) := grown_drew _ _
      generalize wr.drew = wd at HD ⊢
      obtain ⟨wb, mkb, Hb⟩ := make29 248 248 rfl (.inl rfl) wd
      refine wpHold_take (i := 0) (v := _) (HD.out.cell (HR.out.1.cell 0) (by simp)) rfl rfl (by kernel_rfl) (by kernel_rfl) (by kernel_rfl) (by kernel_rfl) (by kernel_rfl) (fun _ _ _ h => h) (by rfl) (fun wk hk => by skip; go_simp; try rfl) ?_
      try simp only [Act.put, List.setIfInBounds_toArray, List.set_cons_zero, List.set_cons_succ]
      refine wpHold_take (i := 1) (v := _) (HD.out.cell (HR.out.1.cell 0) (by simp)) rfl rfl (by kernel_rfl) (by kernel_rfl) (by kernel_rfl) (by kernel_rfl) (by kernel_rfl) (fun _ _ _ h => h) (by rfl) (fun wk hk => by skip; go_simp; try rfl) ?_
      try simp only [Act.put, List.setIfInBounds_toArray, List.set_cons_zero, List.set_cons_succ]
      refine wpHold_take (i := 2) (v := _) (HD.out.cell (HR.out.1.cell 0) (by simp)) rfl rfl (by kernel_rfl) (by kernel_rfl) (by kernel_rfl) (by kernel_rfl) (by kernel_rfl) (fun _ _ _ h => h) (by rfl) (fun wk hk => by skip; go_simp; try rfl) ?_
      try simp only [Act.put, List.setIfInBounds_toArray, List.set_cons_zero, List.set_cons_succ]
      refine wpHold_take (i := 3) (v := _) (HD.out.cell (HR.out.1.cell 0) (by simp)) rfl rfl (by kernel_rfl) (by kernel_rfl) (by kernel_rfl) (by kernel_rfl) (by kernel_rfl) (fun _ _ _ h => h) (by rfl) (fun wk hk => by skip; go_simp; try rfl) ?_
      try simp only [Act.put, List.setIfInBounds_toArray, List.set_cons_zero, List.set_cons_succ]
      refine wpHold_two (i := 4) (j := 5) rfl rfl (by kernel_rfl) (by rfl) (by rfl) (fun K hK => ?_) (fun K hK => ?_)
      · go_wp2_with fail
        have ho1 : Own (wd.alloc (.cells #[.int .u8 (n0 : Int)] 5)) wd.heap.size (.slice (some ⟨wd.heap.size, 0, none⟩) 1 1) [UInt8.ofNat n0] := Wire.own_lit wd _ _ HC.out
        have hg1 := World.grownBy_alloc wd (.cells #[.int .u8 (n0 : Int)] 5) none
        generalize wd.alloc (.cells #[.int .u8 (n0 : Int)] 5) = w2 at ho1 hg1 ⊢
        have H2 : Hid (Own w2 (w.heap.size + 2) (.slice (some ⟨wd.heap.size, 0, none⟩) 1 1) [UInt8.ofNat n0] ∧ wr.grownBy w2 none) := ⟨ho1.mono (Nat.le_trans HS.out HD.out.size), grown_trans HD.out hg1⟩
        clear ho1 hg1 mkb Hb
        refine hK.out _ _ (fun _ => H2.out.2.cell (HR.out.1.cell 0) (by simp)) ?_
        clear hK K
        try simp only [Act.put, List.setIfInBounds_toArray, List.set_cons_zero, List.set_cons_succ]
        refine wpHold_one (i := 5) rfl (by kernel_rfl) (by rfl) (fun K hK => ?_)
        obtain ⟨w3, mk3, H3'⟩ := make29 248 248 rfl (.inl rfl) w2
        go_wp2_with fail
        have H3 : Hid (Own w3 (w.heap.size + 2) (.slice (some ⟨wd.heap.size, 0, none⟩) 1 1) [UInt8.ofNat n0] ∧ Own w3 (w.heap.size + 2) (.slice (some ⟨w2.heap.size, 0, none⟩) 248 248) (List.replicate 248 0) ∧ wr.grownBy w3 none) := ⟨H2.out.1.grown H3'.out.2, H3'.out.1.mono (Nat.le_trans HS.out H2.out.2.size), grown_trans H2.out.2 H3'.out.2⟩
        generalize (⟨wd.heap.size, 0, none⟩ : Addr) = a1 at H3 ⊢
        generalize (⟨w2.heap.size, 0, none⟩ : Addr) = a2 at H3 ⊢
        clear mk3 H3' H2
        refine hK.out _ _ (fun _ => H3.out.2.2.cell (HR.out.1.cell 0) (by simp)) ?_
        clear hK K
        try simp only [Act.put, List.setIfInBounds_toArray, List.set_cons_zero, List.set_cons_succ]
        refine wpHold_take (i := 6) (v := _) (H3.out.2.2.cell (HR.out.1.cell 0) (by simp)) rfl rfl (by kernel_rfl) (by kernel_rfl) (by kernel_rfl) (by kernel_rfl) (by kernel_rfl) (fun _ _ _ h => h) (by rfl) (fun wk hk => by skip; go_simp; try rfl) ?_
        try simp only [Act.put, List.setIfInBounds_toArray, List.set_cons_zero, List.set_cons_succ]
        refine wpHold_one (i := 7) rfl (by kernel_rfl) (by rfl) (fun K hK => ?_)
        go_wp2_with fail
        have hg1 := World.grownBy_alloc w3 (.cells #[.int .i64 2, .string ⟨#[116]⟩, .slice (some a1) 1 1, .slice (some a2) 248 248, .bool false, .slice none 0 0, .slice none 0 0, .int .i64 0] 71) none
        have H4 : Hid (OpsOwn (w3.alloc (.cells #[.int .i64 2, .string ⟨#[116]⟩, .slice (some a1) 1 1, .slice (some a2) 248 248, .bool false, .slice none 0 0, .slice none 0 0, .int .i64 0] 71)) (w.heap.size + 2) (.slice x0 n0 y0) (fullL m n0) ∧ Blk (w3.alloc (.cells #[.int .i64 2, .string ⟨#[116]⟩, .slice (some a1) 1 1, .slice (some a2) 248 248, .bool false, .slice none 0 0, .slice none 0 0, .int .i64 0] 71)) w3.heap.size 71 #[.int .i64 2, .string ⟨#[116]⟩, .slice (some a1) 1 1, .slice (some a2) 248 248, .bool false, .slice none 0 0, .slice none 0 0, .int .i64 0] ∧ OpOwn (w3.alloc (.cells #[.int .i64 2, .string ⟨#[116]⟩, .slice (some a1) 1 1, .slice (some a2) 248 248, .bool false, .slice none 0 0, .slice none 0 0, .int .i64 0] 71)) (w.heap.size + 2) (.slice (some a1) 1 1) (.slice (some a2) 248 248) (.slice none 0 0) (.slice none 0 0) (opE n0) ∧ wr.grownBy (w3.alloc (.cells #[.int .i64 2, .string ⟨#[116]⟩, .slice (some a1) 1 1, .slice (some a2) 248 248, .bool false, .slice none 0 0, .slice none 0 0, .int .i64 0] 71)) none) :=
          ⟨HR.out.2.2.1.grown (grown_trans H3.out.2.2 hg1), heap_alloc_new w3 _, ⟨cut_own (H3.out.1.grown hg1), cut_own (H3.out.2.1.grown hg1), cut_own (own_nil _ _), cut_own (own_nil _ _), opE_in _⟩, grown_trans H3.out.2.2 hg1⟩
        generalize (w3.alloc (.cells #[.int .i64 2, .string ⟨#[116]⟩, .slice (some a1) 1 1, .slice (some a2) 248 248, .bool false, .slice none 0 0, .slice none 0 0, .int .i64 0] 71)) = w4 at H4 ⊢
        clear hg1 H3
        refine hK.out _ _ (fun _ => H4.out.2.2.2.cell (HR.out.1.cell 0) (by simp)) ?_
        clear hK K
        try simp only [Act.put, List.setIfInBounds_toArray, List.set_cons_zero, List.set_cons_succ]
        refine wpHold_one (i := 8) rfl (by kernel_rfl) (by rfl) (fun K hK => ?_)
        refine app71_wp _ (.tmp 10) (.tmp 16) rfl (w.heap.size + 2) (.slice x0 n0 y0) (fullL m n0) (opE n0) w3.heap.size (.slice (some a1) 1 1) (.slice (some a2) 248 248) (.slice none 0 0) (.slice none 0 0) rfl rfl H4.out.1 H4.out.2.1 H4.out.2.2.1 (by rw [fullL_len]; omega) (Nat.le_trans HS.out H4.out.2.2.2.size) ?_
        intro g' cap' w5 o5 g5 l5
        rw [fullL_len] at o5 ⊢
        have H5 : Hid (OpsOwn w5 (w.heap.size + 2) (.slice (some ⟨g', 0, none⟩) (n0 + 1) cap') (fullL m n0 ++ [opE n0]) ∧ Blk w5 (w.heap.size + 1) 24 #[.slice x0 n0 y0] ∧ Blk w5 w.heap.size 24 #[.slice none 0 0] ∧ w.grownBy w5 none) := by
          have ht := H4.out.1.1.lt
          refine ⟨o5, (HR.out.1.grown H4.out.2.2.2 (by simp)).grown g5 (fun e => ?_), (HR.out.2.1.grown H4.out.2.2.2 (by simp)).grown g5 (fun e => ?_), grown_new (grown_trans HR.out.2.2.2 H4.out.2.2.2) g5 (fun y hy => by have := (ht y hy).1; omega)⟩
          · have := (ht _ e).1; omega
          · have := (ht _ e).1; omega
        clear o5 g5 l5 H4
        refine hK.out _ _ (fun _ => H5.out.2.1.cell 0) ?_
        clear hK K
        try simp only [Act.put, List.setIfInBounds_toArray, List.set_cons_zero, List.set_cons_succ]
        refine wpHold_take (i := 9) (v := _) (H5.out.2.1.cell 0) rfl rfl (by kernel_rfl) (by kernel_rfl) (by kernel_rfl) (by kernel_rfl) (by kernel_rfl) (fun _ _ _ h => h) (by rfl) (fun wk hk => by skip; go_simp; try rfl) ?_
        try simp only [Act.put, List.setIfInBounds_toArray, List.set_cons_zero, List.set_cons_succ]
        refine wpHold_one (i := 10) rfl (by kernel_rfl) (by rfl) (fun K hK => ?_)
        have c5 := H5.out.2.1.cell 0
        have z5 := H5.out.2.1.free 0
        go_wp2_with fail
        refine hK.out _ _ (fun h => absurd rfl h) ?_
        clear hK K c5 z5
        try simp only [Act.put, List.setIfInBounds_toArray, List.set_cons_zero, List.set_cons_succ]
        refine wpHold_done (by kernel_rfl) ?_
        refine (‹∀ (a : Act) (w : World), Code.wp Tryz.prog _ _ a w → _› _ _ ?_)
        have H6 : Hid (Blk (w5.setCell ⟨w.heap.size + 1, 0, none⟩ (.slice (some ⟨g', 0, none⟩) (n0 + 1) cap')) (w.heap.size + 1) 24 #[.slice (some ⟨g', 0, none⟩) (n0 + 1) cap'] ∧ Blk (w5.setCell ⟨w.heap.size + 1, 0, none⟩ (.slice (some ⟨g', 0, none⟩) (n0 + 1) cap')) w.heap.size 24 #[.slice none 0 0] ∧ OpsOwn (w5.setCell ⟨w.heap.size + 1, 0, none⟩ (.slice (some ⟨g', 0, none⟩) (n0 + 1) cap')) (w.heap.size + 2) (.slice (some ⟨g', 0, none⟩) (n0 + 1) cap') (fullL m n0 ++ [opE n0]) ∧ w.grownBy (w5.setCell ⟨w.heap.size + 1, 0, none⟩ (.slice (some ⟨g', 0, none⟩) (n0 + 1) cap')) none) := by
          have hg := grown_setCell w5 (w.heap.size + 1) 0 (.slice (some ⟨g', 0, none⟩) (n0 + 1) cap')
          exact ⟨H5.out.2.1.store 0 _, H5.out.2.2.1.grown hg (fun e => by simp at e), H5.out.1.set H5.out.2.1 (by decide) (by decide) hg, grown_new H5.out.2.2.2 hg (fun y hy => by simp at hy; omega)⟩
        generalize (w5.setCell ⟨w.heap.size + 1, 0, none⟩ (.slice (some ⟨g', 0, none⟩) (n0 + 1) cap')) = w6 at H6 ⊢
        clear H5 HR HS HC
        by_cases hm2 : n0 < m
        · have i3 : (n0 : Int) < (m : Int) := by omega
          have i4 : (n0 : Int) < (n0 : Int) + 1 := by omega
          go_wp2_with fail
          refine wp_region_noPanic ?_
          refine wp_region_hold 6 (fun x => x.cell? ⟨w.heap.size + 1, 0, none⟩ = some (.slice (some ⟨g', 0, none⟩) (n0 + 1) cap')) (by kernel_rfl) ?_
          have HE : Hid (w6.grownBy w6.drew none) := grown_drew _ _
          generalize w6.drew = we at HE ⊢
          obtain ⟨w7, mk7, H7⟩ := make29 249 249 rfl (.inr rfl) we
          refine wpHold_take (i := 0) (v := _) (HE.out.cell (H6.out.1.cell 0) (by simp)) rfl rfl (by kernel_rfl) (by kernel_rfl) (by kernel_rfl) (by kernel_rfl) (by kernel_rfl) (fun _ _ _ h => h) (by rfl) (fun wk hk => by skip; go_simp; try rfl) ?_
          try simp only [Act.put, List.setIfInBounds_toArray, List.set_cons_zero, List.set_cons_succ]
          refine wpHold_take (i := 1) (v := _) (HE.out.cell (H6.out.1.cell 0) (by simp)) rfl rfl (by kernel_rfl) (by kernel_rfl) (by kernel_rfl) (by kernel_rfl) (by kernel_rfl) (fun _ _ _ h => h) (by rfl) (fun wk hk => by skip; go_simp; try rfl) ?_
          try simp only [Act.put, List.setIfInBounds_toArray, List.set_cons_zero, List.set_cons_succ]
          refine wpHold_take (i := 2) (v := _) (HE.out.cell (H6.out.1.cell 0) (by simp)) rfl rfl (by kernel_rfl) (by kernel_rfl) (by kernel_rfl) (by kernel_rfl) (by kernel_rfl) (fun _ _ _ h => h) (by rfl) (fun wk hk => by skip; go_simp; try rfl) ?_
          try simp only [Act.put, List.setIfInBounds_toArray, List.set_cons_zero, List.set_cons_succ]
          refine wpHold_one (i := 3) rfl (by kernel_rfl) (by rfl) (fun K hK => ?_)
          go_wp2_with fail
          have H8 : Hid (Own w7 (w.heap.size + 2) (.slice (some ⟨we.heap.size, 0, none⟩) 249 249) (List.replicate 249 0) ∧ w6.grownBy w7 none) := ⟨H7.out.1.mono (Nat.le_trans H6.out.1.lt HE.out.size), grown_trans HE.out H7.out.2⟩
          clear mk7 H7
          refine hK.out _ _ (fun _ => H8.out.2.cell (H6.out.1.cell 0) (by simp)) ?_
          clear hK K
          try simp only [Act.put, List.setIfInBounds_toArray, List.set_cons_zero, List.set_cons_succ]
          refine wpHold_take (i := 4) (v := _) (H8.out.2.cell (H6.out.1.cell 0) (by simp)) rfl rfl (by kernel_rfl) (by kernel_rfl) (by kernel_rfl) (by kernel_rfl) (by kernel_rfl) (fun _ _ _ h => h) (by rfl) (fun wk hk => by skip; go_simp; try rfl) ?_
          try simp only [Act.put, List.setIfInBounds_toArray, List.set_cons_zero, List.set_cons_succ]
          refine wpHold_take (i := 5) (v := _) (H8.out.2.cell (H6.out.1.cell 0) (by simp)) rfl rfl (by kernel_rfl) (by kernel_rfl) (by kernel_rfl) (by kernel_rfl) (by kernel_rfl) (fun _ _ _ h => h) (by rfl) (fun wk hk => by skip; go_simp; try rfl) ?_
          try simp only [Act.put, List.setIfInBounds_toArray, List.set_cons_zero, List.set_cons_succ]
          refine wpHold_one (i := 6) rfl (by kernel_rfl) (by rfl) (fun K hK => ?_)
          obtain ⟨⟨x8, z8⟩, y8⟩ := opsOwn_cell3 (H6.out.2.2.1.grown H8.out.2) n0 (by simp [fullL_len])
          go_wp2_with fail
          refine hK.out _ _ (fun h => absurd rfl h) ?_
          clear hK K z8 y8
          try simp only [Act.put, List.setIfInBounds_toArray, List.set_cons_zero, List.set_cons_succ]
          refine wpHold_done (by kernel_rfl) ?_
          refine (‹∀ (a : Act) (w : World), Code.wp Tryz.prog _ _ a w → _› _ _ ?_)
          have H9 := full_step H6 H8 hm2
          go_wp2_with fail
          go_roundw
          case rel => exact ⟨n0 + 1, _, by omega, by go_num, H9⟩
          case measure => simp [intOf]; omega
        · have i3 : ((n0 : Int) < (m : Int)) = False := eq_false (by omega)
          have HF : Hid (fullL m (n0 + 1) = fullL m n0 ++ [opE n0]) := by unfold Hid; rw [fullL_succ]; unfold opF; rw [if_neg hm2]
          go_wp2_with fail
          go_roundw
          case rel => exact ⟨n0 + 1, _, by omega, by go_num, by unfold Hid; rw [HF.out]; exact H6.out⟩
          case measure => simp [intOf]; omega
      · go_wp2_with fail
        have H2 : Hid (Own wb (w.heap.size + 2) (.slice (some ⟨wd.heap.size, 0, none⟩) 248 248) (List.replicate 248 0) ∧ wr.grownBy wb none) := ⟨Hb.out.1.mono (Nat.le_trans HS.out HD.out.size), grown_trans HD.out Hb.out.2⟩
        clear mkb Hb
        refine hK.out _ _ (fun _ => H2.out.2.cell (HR.out.1.cell 0) (by simp)) ?_
        clear hK K
        try simp only [Act.put, List.setIfInBounds_toArray, List.set_cons_zero, List.set_cons_succ]
        refine wpHold_one (i := 4) rfl (by kernel_rfl) (by rfl) (fun K hK => ?_)
        go_wp2_with fail
        have ho1 : Own (wb.alloc (.cells #[.int .u8 (n0 : Int)] 5)) wb.heap.size (.slice (some ⟨wb.heap.size, 0, none⟩) 1 1) [UInt8.ofNat n0] := Wire.own_lit wb _ _ HC.out
        have hg1 := World.grownBy_alloc wb (.cells #[.int .u8 (n0 : Int)] 5) none
        generalize wb.alloc (.cells #[.int .u8 (n0 : Int)] 5) = w3 at ho1 hg1 ⊢
        have H3 : Hid (Own w3 (w.heap.size + 2) (.slice (some ⟨wb.heap.size, 0, none⟩) 1 1) [UInt8.ofNat n0] ∧ Own w3 (w.heap.size + 2) (.slice (some ⟨wd.heap.size, 0, none⟩) 248 248) (List.replicate 248 0) ∧ wr.grownBy w3 none) := ⟨ho1.mono (Nat.le_trans HS.out H2.out.2.size), H2.out.1.grown hg1, grown_trans H2.out.2 hg1⟩
        clear ho1 hg1 H2
        generalize (⟨wb.heap.size, 0, none⟩ : Addr) = a1 at H3 ⊢
        generalize (⟨wd.heap.size, 0, none⟩ : Addr) = a2 at H3 ⊢
        refine hK.out _ _ (fun _ => H3.out.2.2.cell (HR.out.1.cell 0) (by simp)) ?_
        clear hK K
        try simp only [Act.put, List.setIfInBounds_toArray, List.set_cons_zero, List.set_cons_succ]
        refine wpHold_take (i := 6) (v := _) (H3.out.2.2.cell (HR.out.1.cell 0) (by simp)) rfl rfl (by kernel_rfl) (by kernel_rfl) (by kernel_rfl) (by kernel_rfl) (by kernel_rfl) (fun _ _ _ h => h) (by rfl) (fun wk hk => by skip; go_simp; try rfl) ?_
        try simp only [Act.put, List.setIfInBounds_toArray, List.set_cons_zero, List.set_cons_succ]
        refine wpHold_one (i := 7) rfl (by kernel_rfl) (by rfl) (fun K hK => ?_)
        go_wp2_with fail
        have hg1 := World.grownBy_alloc w3 (.cells #[.int .i64 2, .string ⟨#[116]⟩, .slice (some a1) 1 1, .slice (some a2) 248 248, .bool false, .slice none 0 0, .slice none 0 0, .int .i64 0] 71) none
        have H4 : Hid (OpsOwn (w3.alloc (.cells #[.int .i64 2, .string ⟨#[116]⟩, .slice (some a1) 1 1, .slice (some a2) 248 248, .bool false, .slice none 0 0, .slice none 0 0, .int .i64 0] 71)) (w.heap.size + 2) (.slice x0 n0 y0) (fullL m n0) ∧ Blk (w3.alloc (.cells #[.int .i64 2, .string ⟨#[116]⟩, .slice (some a1) 1 1, .slice (some a2) 248 248, .bool false, .slice none 0 0, .slice none 0 0, .int .i64 0] 71)) w3.heap.size 71 #[.int .i64 2, .string ⟨#[116]⟩, .slice (some a1) 1 1, .slice (some a2) 248 248, .bool false, .slice none 0 0, .slice none 0 0, .int .i64 0] ∧ OpOwn (w3.alloc (.cells #[.int .i64 2, .string ⟨#[116]⟩, .slice (some a1) 1 1, .slice (some a2) 248 248, .bool false, .slice none 0 0, .slice none 0 0, .int .i64 0] 71)) (w.heap.size + 2) (.slice (some a1) 1 1) (.slice (some a2) 248 248) (.slice none 0 0) (.slice none 0 0) (opE n0) ∧ wr.grownBy (w3.alloc (.cells #[.int .i64 2, .string ⟨#[116]⟩, .slice (some a1) 1 1, .slice (some a2) 248 248, .bool false, .slice none 0 0, .slice none 0 0, .int .i64 0] 71)) none) :=
          ⟨HR.out.2.2.1.grown (grown_trans H3.out.2.2 hg1), heap_alloc_new w3 _, ⟨cut_own (H3.out.1.grown hg1), cut_own (H3.out.2.1.grown hg1), cut_own (own_nil _ _), cut_own (own_nil _ _), opE_in _⟩, grown_trans H3.out.2.2 hg1⟩
        generalize (w3.alloc (.cells #[.int .i64 2, .string ⟨#[116]⟩, .slice (some a1) 1 1, .slice (some a2) 248 248, .bool false, .slice none 0 0, .slice none 0 0, .int .i64 0] 71)) = w4 at H4 ⊢
        clear hg1 H3
        refine hK.out _ _ (fun _ => H4.out.2.2.2.cell (HR.out.1.cell 0) (by simp)) ?_
        clear hK K
        try simp only [Act.put, List.setIfInBounds_toArray, List.set_cons_zero, List.set_cons_succ]
        refine wpHold_one (i := 8) rfl (by kernel_rfl) (by rfl) (fun K hK => ?_)
        refine app71_wp _ (.tmp 10) (.tmp 16) rfl (w.heap.size + 2) (.slice x0 n0 y0) (fullL m n0) (opE n0) w3.heap.size (.slice (some a1) 1 1) (.slice (some a2) 248 248) (.slice none 0 0) (.slice none 0 0) rfl rfl H4.out.1 H4.out.2.1 H4.out.2.2.1 (by rw [fullL_len]; omega) (Nat.le_trans HS.out H4.out.2.2.2.size) ?_
        intro g' cap' w5 o5 g5 l5
        rw [fullL_len] at o5 ⊢
        have H5 : Hid (OpsOwn w5 (w.heap.size + 2) (.slice (some ⟨g', 0, none⟩) (n0 + 1) cap') (fullL m n0 ++ [opE n0]) ∧ Blk w5 (w.heap.size + 1) 24 #[.slice x0 n0 y0] ∧ Blk w5 w.heap.size 24 #[.slice none 0 0] ∧ w.grownBy w5 none) := by
          have ht := H4.out.1.1.lt
          refine ⟨o5, (HR.out.1.grown H4.out.2.2.2 (by simp)).grown g5 (fun e => ?_), (HR.out.2.1.grown H4.out.2.2.2 (by simp)).grown g5 (fun e => ?_), grown_new (grown_trans HR.out.2.2.2 H4.out.2.2.2) g5 (fun y hy => by have := (ht y hy).1; omega)⟩
          · have := (ht _ e).1; omega
          · have := (ht _ e).1; omega
        clear o5 g5 l5 H4
        refine hK.out _ _ (fun _ => H5.out.2.1.cell 0) ?_
        clear hK K
        try simp only [Act.put, List.setIfInBounds_toArray, List.set_cons_zero, List.set_cons_succ]
        refine wpHold_take (i := 9) (v := _) (H5.out.2.1.cell 0) rfl rfl (by kernel_rfl) (by kernel_rfl) (by kernel_rfl) (by kernel_rfl) (by kernel_rfl) (fun _ _ _ h => h) (by rfl) (fun wk hk => by skip; go_simp; try rfl) ?_
        try simp only [Act.put, List.setIfInBounds_toArray, List.set_cons_zero, List.set_cons_succ]
        refine wpHold_one (i := 10) rfl (by kernel_rfl) (by rfl) (fun K hK => ?_)
        have c5 := H5.out.2.1.cell 0
        have z5 := H5.out.2.1.free 0
        go_wp2_with fail
        refine hK.out _ _ (fun h => absurd rfl h) ?_
        clear hK K c5 z5
        try simp only [Act.put, List.setIfInBounds_toArray, List.set_cons_zero, List.set_cons_succ]
        refine wpHold_done (by kernel_rfl) ?_
        refine (‹∀ (a : Act) (w : World), Code.wp Tryz.prog _ _ a w → _› _ _ ?_)
        have H6 : Hid (Blk (w5.setCell ⟨w.heap.size + 1, 0, none⟩ (.slice (some ⟨g', 0, none⟩) (n0 + 1) cap')) (w.heap.size + 1) 24 #[.slice (some ⟨g', 0, none⟩) (n0 + 1) cap'] ∧ Blk (w5.setCell ⟨w.heap.size + 1, 0, none⟩ (.slice (some ⟨g', 0, none⟩) (n0 + 1) cap')) w.heap.size 24 #[.slice none 0 0] ∧ OpsOwn (w5.setCell ⟨w.heap.size + 1, 0, none⟩ (.slice (some ⟨g', 0, none⟩) (n0 + 1) cap')) (w.heap.size + 2) (.slice (some ⟨g', 0, none⟩) (n0 + 1) cap') (fullL m n0 ++ [opE n0]) ∧ w.grownBy (w5.setCell ⟨w.heap.size + 1, 0, none⟩ (.slice (some ⟨g', 0, none⟩) (n0 + 1) cap')) none) := by
          have hg := grown_setCell w5 (w.heap.size + 1) 0 (.slice (some ⟨g', 0, none⟩) (n0 + 1) cap')
          exact ⟨H5.out.2.1.store 0 _, H5.out.2.2.1.grown hg (fun e => by simp at e), H5.out.1.set H5.out.2.1 (by decide) (by decide) hg, grown_new H5.out.2.2.2 hg (fun y hy => by simp at hy; omega)⟩
        generalize (w5.setCell ⟨w.heap.size + 1, 0, none⟩ (.slice (some ⟨g', 0, none⟩) (n0 + 1) cap')) = w6 at H6 ⊢
        clear H5 HR HS HC
        by_cases hm2 : n0 < m
        · have i3 : (n0 : Int) < (m : Int) := by omega
          have i4 : (n0 : Int) < (n0 : Int) + 1 := by omega
          go_wp2_with fail
          refine wp_region_noPanic ?_
          refine wp_region_hold 6 (fun x => x.cell? ⟨w.heap.size + 1, 0, none⟩ = some (.slice (some ⟨g', 0, none⟩) (n0 + 1) cap')) (by kernel_rfl) ?_
          have HE : Hid (w6.grownBy w6.drew none) := grown_drew _ _
          generalize w6.drew = we at HE ⊢
          obtain ⟨w7, mk7, H7⟩ := make29 249 249 rfl (.inr rfl) we
          refine wpHold_take (i := 0) (v := _) (HE.out.cell (H6.out.1.cell 0) (by simp)) rfl rfl (by kernel_rfl) (by kernel_rfl) (by kernel_rfl) (by kernel_rfl) (by kernel_rfl) (fun _ _ _ h => h) (by rfl) (fun wk hk => by skip; go_simp; try rfl) ?_
          try simp only [Act.put, List.setIfInBounds_toArray, List.set_cons_zero, List.set_cons_succ]
          refine wpHold_take (i := 1) (v := _) (HE.out.cell (H6.out.1.cell 0) (by simp)) rfl rfl (by kernel_rfl) (by kernel_rfl) (by kernel_rfl) (by kernel_rfl) (by kernel_rfl) (fun _ _ _ h => h) (by rfl) (fun wk hk => by skip; go_simp; try rfl) ?_
          try simp only [Act.put, List.setIfInBounds_toArray, List.set_cons_zero, List.set_cons_succ]
          refine wpHold_take (i := 2) (v := _) (HE.out.cell (H6.out.1.cell 0) (by simp)) rfl rfl (by kernel_rfl) (by kernel_rfl) (by kernel_rfl) (by kernel_rfl) (by kernel_rfl) (fun _ _ _ h => h) (by rfl) (fun wk hk => by skip; go_simp; try rfl) ?_
          try simp only [Act.put, List.setIfInBounds_toArray, List.set_cons_zero, List.set_cons_succ]
          refine wpHold_one (i := 3) rfl (by kernel_rfl) (by rfl) (fun K hK => ?_)
          go_wp2_with fail
          have H8 : Hid (Own w7 (w.heap.size + 2) (.slice (some ⟨we.heap.size, 0, none⟩) 249 249) (List.replicate 249 0) ∧ w6.grownBy w7 none) := ⟨H7.out.1.mono (Nat.le_trans H6.out.1.lt HE.out.size), grown_trans HE.out H7.out.2⟩
          clear mk7 H7
          refine hK.out _ _ (fun _ => H8.out.2.cell (H6.out.1.cell 0) (by simp)) ?_
          clear hK K
          try simp only [Act.put, List.setIfInBounds_toArray, List.set_cons_zero, List.set_cons_succ]
          refine wpHold_take (i := 4) (v := _) (H8.out.2.cell (H6.out.1.cell 0) (by simp)) rfl rfl (by kernel_rfl) (by kernel_rfl) (by kernel_rfl) (by kernel_rfl) (by kernel_rfl) (fun _ _ _ h => h) (by rfl) (fun wk hk => by skip; go_simp; try rfl) ?_
          try simp only [Act.put, List.setIfInBounds_toArray, List.set_cons_zero, List.set_cons_succ]
          refine wpHold_take (i := 5) (v := _) (H8.out.2.cell (H6.out.1.cell 0) (by simp)) rfl rfl (by kernel_rfl) (by kernel_rfl) (by kernel_rfl) (by kernel_rfl) (by kernel_rfl) (fun _ _ _ h => h) (by rfl) (fun wk hk => by skip; go_simp; try rfl) ?_
          try simp only [Act.put, List.setIfInBounds_toArray, List.set_cons_zero, List.set_cons_succ]
          refine wpHold_one (i := 6) rfl (by kernel_rfl) (by rfl) (fun K hK => ?_)
          obtain ⟨⟨x8, z8⟩, y8⟩ := opsOwn_cell3 (H6.out.2.2.1.grown H8.out.2) n0 (by simp [fullL_len])
          go_wp2_with fail
          refine hK.out _ _ (fun h => absurd rfl h) ?_
          clear hK K z8 y8
          try simp only [Act.put, List.setIfInBounds_toArray, List.set_cons_zero, List.set_cons_succ]
          refine wpHold_done (by kernel_rfl) ?_
          refine (‹∀ (a : Act) (w : World), Code.wp Tryz.prog _ _ a w → _› _ _ ?_)
          have H9 := full_step H6 H8 hm2
          go_wp2_with fail
          go_roundw
          case rel => exact ⟨n0 + 1, _, by omega, by go_num, H9⟩
          case measure => simp [intOf]; omega
        · have i3 : ((n0 : Int) < (m : Int)) = False := eq_false (by omega)
          have HF : Hid (fullL m (n0 + 1) = fullL m n0 ++ [opE n0]) := by unfold Hid; rw [fullL_succ]; unfold opF; rw [if_neg hm2]
          go_wp2_with fail
          go_roundw
          case rel => exact ⟨n0 + 1, _, by omega, by go_num, by unfold Hid; rw [HF.out]; exact H6.out⟩
          case measure => simp [intOf]; omega

    · have e : k = 16 := by omega
      subst e
      obtain ⟨x0, n0, y0, rfl, hn0⟩ := HR.out.2.2.1.slice
      rw [fullL_len] at hn0
      subst hn0
      have c0 := HR.out.1.cell 0
      have c1 := HR.out.2.1.cell 0
      have z1 := HR.out.2.1.free 0
      go_wp2_with fail
      have hg := grown_setCell wr w.heap.size 0 (.slice x0 16 y0)
      refine bodyPost_ret (v := _) (results_cell_row rfl _ _ w.heap.size 24 _ (0, 0) _ rfl (HR.out.2.1.store 0 (.slice x0 16 y0)) Tryz.underlying24 rfl (by kernel_rfl)) rfl ?_
      exact ⟨_, rfl, (HR.out.2.2.1.set HR.out.2.1 (by decide) (by decide) hg).ops, grown_new HR.out.2.2.2 hg (fun y hy => by simp at hy; omega)⟩
end Go.Proofs.YtfocmbnhkldnfaaGreatDoor
