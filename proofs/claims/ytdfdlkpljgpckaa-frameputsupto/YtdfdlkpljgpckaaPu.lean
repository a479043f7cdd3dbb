/-
  Frames put one behind the other.
-/
import Derived.Test.YtdfdlkpljgpckaaHd
import Derived.Test.YtdfdlkpljgpckaaWireAll
namespace Go.Proofs.Ytdfdlkpljgpckaa
open Go.RowKit Disk

/-- All kinds may be. -/
def Kinds (l : Frs) : Prop := ∀ f ∈ l, 0 ≤ f.1 ∧ f.1 ≤ 255
def Bodies (l : Frs) : Prop := ∀ f ∈ l, f.2.length ≤ 2147483647

set_option maxRecDepth 100000 in
set_option maxHeartbeats 4000000 in
theorem refusal22 (v : Value) (l : Frs) (w : World) (h : FSeg w v l) (hl : Bodies l) : Calls Try.prog 22 #[v] w fun e w' => ((Kinds l ∧ e = .returned (.int .i64 0)) ∨ (¬ Kinds l ∧ e = .returned (.int .i64 2))) ∧ w.grownBy w' none := by
  have HF : Hid _ := h
  obtain ⟨ao, cap, rfl, hlen, hcells⟩ := h
  have HC : Hid _ := hcells
  have HL : Hid (Bodies l) := hl
  clear hcells hl HF
  go_enter Try.func22, Try.ntmps22
  go_wp2_with fail
  go_loopw [3, 8] (fun e i wr => ∃ k : Nat, k ≤ l.length ∧ e = .int .i64 0 ∧ i = .int .i64 k ∧ w.grownBy wr none ∧ ∀ j (hj : j < l.length), j < k → 0 ≤ l[j].1 ∧ l[j].1 ≤ 255) (fun _ i _ => l.length - (intOf i).toNat)
  case atStart => exact ⟨0, Nat.zero_le _, rfl, rfl, grown_refl _ _, fun j hj h => absurd h (by omega)⟩
  case round =>
    obtain ⟨k, hk, rfl, rfl, hg, hok⟩ := hrel
    by_cases hlt : k < l.length
    · obtain ⟨b, off, u, rfl, c0, c1, hs⟩ := HC.out k hlt
      have d0 := hg.cell c0 (by simp)
      have d1 := hg.cell c1 (by simp)
      obtain ⟨au, cu, hu⟩ := hs.shape
      subst hu
      have hbl := HL.out l[k] (List.getElem_mem hlt)
      have HG : Hid (w.grownBy wr none) := hg
      have HOK : Hid _ := hok
      obtain ⟨m, hm⟩ : ∃ m, l[k].2.length = m := ⟨_, rfl⟩
      obtain ⟨kd, hkd⟩ : ∃ kd, l[k].1 = kd := ⟨_, rfl⟩
      have HKD : Hid _ := hkd
      rw [hm] at d1 hbl
      rw [hkd] at d0
      have i1 : (0 : Int) ≤ (k : Int) := by omega
      have i2 : (k : Int) < (l.length : Int) := by omega
      have i3 : ¬ (2147483647 : Int) < (m : Int) := by omega
      clear hg hok c0 c1 hs hm hkd
      by_cases hk0 : kd < 0
      · go_wp2_with fail
        go_ret
        refine ⟨.inr ⟨fun hh => ?_, rfl⟩, grown_trans HG.out (World.grownBy_alloc _ _ _)⟩
        have := hh l[k] (List.getElem_mem hlt)
        rw [HKD.out] at this
        omega
      · by_cases hk1 : 255 < kd
        · go_wp2_with fail
          go_ret
          refine ⟨.inr ⟨fun hh => ?_, rfl⟩, grown_trans HG.out (World.grownBy_alloc _ _ _)⟩
          have := hh l[k] (List.getElem_mem hlt)
          rw [HKD.out] at this
          omega
        · go_wp2_with fail
          go_roundw
          case rel =>
            refine ⟨k + 1, by omega, rfl, by go_num, grown_trans HG.out (World.grownBy_alloc _ _ _), fun j hj hjk => ?_⟩
            by_cases hjk2 : j < k
            · exact HOK.out j hj hjk2
            · obtain rfl : j = k := by omega
              rw [HKD.out]
              omega
          case measure => simp [intOf]; omega
    · have e : k = l.length := by omega
      subst e
      have HG : Hid (w.grownBy wr none) := hg
      have HOK : Hid _ := hok
      clear hg hok
      go_wp2_with fail
      go_ret
      refine ⟨.inl ⟨fun f hf => ?_, rfl⟩, HG.out⟩
      obtain ⟨j, hj, rfl⟩ := List.getElem_of_mem hf
      exact HOK.out j hj hj

/-- The pieces. -/
def pcs : Frs → List (List UInt8)
  | [] => []
  | f :: t => hdr f.1.toNat f.2 :: f.2 :: pcs t
theorem pcs_len : ∀ l : Frs, (pcs l).length = l.length * 2
  | [] => rfl
  | f :: t => by simp [pcs, pcs_len t]; omega
theorem pcs_flat : ∀ l : Frs, (pcs l).flatten = flat l
  | [] => rfl
  | f :: t => by rw [flat_cons, ← pcs_flat t]; simp [pcs, frm]
theorem pcs_get : ∀ (l : Frs) (j : Nat) (h : j < l.length), (pcs l)[j * 2]? = some (hdr l[j].1.toNat l[j].2) ∧ (pcs l)[j * 2 + 1]? = some l[j].2
  | [], j, h => absurd h (by simp)
  | f :: t, 0, _ => ⟨rfl, rfl⟩
  | f :: t, j + 1, h => by
    have := pcs_get t j (by simpa using h)
    rw [show (j + 1) * 2 = j * 2 + 1 + 1 from by omega]
    simpa [pcs] using this

/-- The pieces of the first k frames lie in a row. -/
structure Pcs (w wr : World) (l : Frs) (k : Nat) (v : Value) (ps : List Value) : Prop where
  row : wr.ownsRow w.heap.size 22 1 v (2 * k) ps
  len : ps.length = 2 * k
  gr : w.grownBy wr none
  each : ∀ j (hj : j < l.length), j < k → ∃ b u, ps[j * 2]? = some (.slice (some ⟨b, 0, none⟩) 9 9) ∧ Blk wr b 54 (BV (hdr l[j].1.toNat l[j].2)).toArray ∧ ps[j * 2 + 1]? = some u ∧ Seg w u l[j].2

theorem row22_other {w : World} {B : Nat} {v : Value} {n : Nat} {xs : List Value} {b t : Nat} {c : Array Value} (h : w.ownsRow B 22 1 v n xs) (hb : Blk w b t c) (ht : t ≠ 22) : v.ownBlock ≠ some b := by
  rcases h.2 with ⟨rfl, _⟩ | ⟨g, cap, cur, rfl, _, hg, _⟩
  · simp [Value.ownBlock]
  · intro e
    simp [Value.ownBlock] at e
    subst e
    unfold Blk at hb
    rw [hg] at hb
    simp at hb
    exact ht hb.2.symm

theorem Pcs.grown {w wr wr' : World} {l : Frs} {k : Nat} {v : Value} {ps : List Value} (h : Pcs w wr l k v ps) (hg : wr.grownBy wr' none) : Pcs w wr' l k v ps := by
  refine ⟨World.ownsRow.kept h.row hg (by cases v.ownBlock <;> simp), h.len, grown_trans h.gr hg, fun j hj hjk => ?_⟩
  obtain ⟨b, u, h1, h2, h3, h4⟩ := h.each j hj hjk
  exact ⟨b, u, h1, h2.grown hg (by simp), h3, h4⟩
theorem Pcs.shape {w wr : World} {l : Frs} {k : Nat} {v : Value} {ps : List Value} (h : Pcs w wr l k v ps) : ∃ ao cap, v = .slice ao (2 * k) cap := by
  rcases h.row.2 with ⟨rfl, h0⟩ | ⟨g, cap, cur, rfl, _⟩
  · exact ⟨none, 0, by rw [h0]⟩
  · exact ⟨_, _, rfl⟩
theorem Pcs.snoc {w wr wr' : World} {l : Frs} {k : Nat} {v v' : Value} {ps : List Value} (h : Pcs w wr l k v ps) (hk : k < l.length) {b : Nat} {u : Value} (hb : Blk wr b 54 (BV (hdr l[k].1.toNat l[k].2)).toArray) (hu : Seg w u l[k].2) (hg : wr.grownBy wr' v.ownBlock) (hr : wr'.ownsRow w.heap.size 22 1 v' (2 * k + 2) (ps ++ [.slice (some ⟨b, 0, none⟩) 9 9, u])) : Pcs w wr' l (k + 1) v' (ps ++ [.slice (some ⟨b, 0, none⟩) 9 9, u]) := by
  have hl := h.len
  refine ⟨hr, by simp [hl]; omega, grown_new h.gr hg (fun x hx => (World.ownsRow.lt h.row x hx).1), fun j hj hjk => ?_⟩
  by_cases hjk2 : j < k
  · obtain ⟨b', u', h1, h2, h3, h4⟩ := h.each j hj hjk2
    refine ⟨b', u', ?_, h2.grown hg (row22_other h.row h2 (by decide)), ?_, h4⟩
    · rw [List.getElem?_append_left (by omega)]; exact h1
    · rw [List.getElem?_append_left (by omega)]; exact h3
  · obtain rfl : j = k := by omega
    refine ⟨b, u, ?_, hb.grown hg (row22_other h.row hb (by decide)), ?_, hu⟩
    · rw [List.getElem?_append_right (by omega), show j * 2 - ps.length = 0 from by omega]; rfl
    · rw [List.getElem?_append_right (by omega), show j * 2 + 1 - ps.length = 1 from by omega]; rfl

theorem Pcs.segs {w wr : World} {l : Frs} {v : Value} {ps : List Value} (h : Pcs w wr l l.length v ps) (hl : l.length ≤ 4398046511104) : Wire.Segs wr v (pcs l) := by
  obtain ⟨ao, cap, e⟩ := h.shape
  have hlen : (pcs l).length = 2 * l.length := by rw [pcs_len]; omega
  refine ⟨ao, cap, by rw [e, hlen], by omega, fun j hj => ?_⟩
  rw [hlen] at hj
  obtain ⟨b, u, h1, h2, h3, h4⟩ := h.each (j / 2) (by omega) (by omega)
  obtain ⟨q1, q2⟩ := pcs_get l (j / 2) (by omega)
  rcases h.row.2 with ⟨_, h0⟩ | ⟨g, c, cur, e2, hb, hg, h5, h6, h7, h8⟩
  · omega
  · rw [e] at e2
    simp at e2
    have hr : wr.ownsRow w.heap.size 22 1 (.slice (some ⟨g, 0, none⟩) (2 * l.length) cap) (2 * l.length) ps := by
      have := h.row
      rw [e, e2.1] at this
      exact this
    by_cases hp : j % 2 = 0
    · have ej : j / 2 * 2 = j := by omega
      rw [ej] at h1 q1
      refine ⟨g, 0, .slice (some ⟨b, 0, none⟩) 9 9, e2.1, ?_, ?_⟩
      · rw [Nat.zero_add, hr.cellAt j (by omega)]
        exact h1
      · have eq : (pcs l)[j] = hdr l[j / 2].1.toNat l[j / 2].2 := by
          have := List.getElem?_eq_getElem (l := pcs l) (i := j) (by rw [hlen]; exact hj)
          rw [this] at q1
          simpa using q1
        rw [eq]
        exact seg_part h2 _ 9 9 (by rw [List.take_of_length_le (by simp [BV_len, hdr_len])]) (hdr_len _ _) (by omega) (by omega)
    · have ej : j / 2 * 2 + 1 = j := by omega
      rw [ej] at h3 q2
      refine ⟨g, 0, u, e2.1, ?_, ?_⟩
      · rw [Nat.zero_add, hr.cellAt j (by omega)]
        exact h3
      · have eq : (pcs l)[j] = l[j / 2].2 := by
          have := List.getElem?_eq_getElem (l := pcs l) (i := j) (by rw [hlen]; exact hj)
          rw [this] at q2
          simpa using q2
        rw [eq]
        exact h4.grown h.gr

def PutPost (l : Frs) (w : World) (e : Ending) (w' : World) : Prop :=
  w.grownBy w' none ∧ (¬ Kinds l → e = .returned (.tuple #[.slice none 0 0, .int .i64 2])) ∧ (Kinds l → ∃ u, e = .returned (.tuple #[u, .int .i64 0]) ∧ Own w' w.heap.size u (flat l))

set_option maxRecDepth 100000 in
set_option maxHeartbeats 4000000 in
theorem putall12 (v : Value) (l : Frs) (w : World) (h : FSeg w v l) (hl : Bodies l) (hn : l.length ≤ 2932031007402) (hf : (flat l).length ≤ 140737488355328) : Calls Try.prog 12 #[v] w (PutPost l w) := by
  have HF : Hid (FSeg w v l) := h
  obtain ⟨ao, cap, hv⟩ := h.shape
  subst hv
  have HL : Hid (Bodies l) := hl
  have HFL : Hid _ := hf
  clear h hl hf
  go_enter Try.func12, Try.ntmps12
  go_wp2_with fail
  refine (refusal22 _ l _ HF.out HL.out).mono ?_
  rintro e w1 ⟨(⟨hK, rfl⟩ | ⟨hK, rfl⟩), g1⟩
  · have HK : Hid (Kinds l) := hK
    have G1 : Hid (w.grownBy w1 none) := g1
    clear hK g1
    go_wp2_with fail
    go_loopw [5, 16] (fun p i wr => ∃ (k : Nat) (ps : List Value), k ≤ l.length ∧ i = .int .i64 k ∧ Pcs w wr l k p ps) (fun _ i _ => l.length - (intOf i).toNat)
    case atStart => exact ⟨0, [], Nat.zero_le _, rfl, World.ownsRow_nil _ _ _ _, rfl, G1.out, fun j _ h => absurd h (by omega)⟩
    case round =>
      obtain ⟨k, ps, hk, rfl, hP⟩ := hrel
      obtain ⟨ap, cp, hp⟩ := hP.shape
      subst hp
      have HP : Hid _ := hP
      clear hP
      by_cases hlt : k < l.length
      · obtain ⟨ao', cap', hv, _, hcells⟩ := HF.out
        simp at hv
        obtain ⟨rfl, rfl⟩ := hv
        obtain ⟨b, off, u, rfl, c0, c1, hs⟩ := hcells k hlt
        have d0 := HP.out.gr.cell c0 (by simp)
        have d1 := HP.out.gr.cell c1 (by simp)
        have HSB : Hid (Seg w u l[k].2) := hs
        obtain ⟨au, cu, hu⟩ := hs.shape
        subst hu
        obtain ⟨m, hm⟩ : ∃ m, l[k].2.length = m := ⟨_, rfl⟩
        have HM : Hid _ := hm
        have hkk := HK.out l[k] (List.getElem_mem hlt)
        have hml := HL.out l[k] (List.getElem_mem hlt)
        obtain ⟨q, hq⟩ : ∃ q : Nat, l[k].1 = (q : Int) := ⟨l[k].1.toNat, by omega⟩
        have HQ : Hid _ := hq
        have hq2 : q < 256 := by omega
        rw [hm] at d1 HSB hml
        rw [hq] at d0
        have i1 : (0 : Int) ≤ (k : Int) := by omega
        have i2 : (k : Int) < (l.length : Int) := by omega
        clear hcells c0 c1 hs hm hq hkk
        go_wp2_with fail
        refine (header23 q _ l[k].2 _ hq2 ((HSB.out.grown HP.out.gr).grown (World.grownBy_alloc _ _ _)) (by rw [HM.out]; exact hml)).mono ?_
        rintro e w2 ⟨rfl, g2⟩
        have G2 : Hid (wr.grownBy w2 none ∧ Blk w2 wr.heap.size 25 #[.int .i64 (q : Int), .slice au m cu]) := ⟨grown_trans (World.grownBy_alloc _ _ _) g2, Blk.grown (heap_alloc_new _ _) g2 (by simp)⟩
        clear g2
        obtain ⟨C, hC⟩ : ∃ C, (BV (hdr q l[k].2)).toArray = C := ⟨_, rfl⟩
        have HC : Hid (C.all (·.oneCell') = true ∧ C.size = 9 ∧ (BV (hdr q l[k].2)).toArray = C) := by
          refine ⟨?_, ?_, hC⟩
          · rw [← hC, List.all_toArray]
            exact List.all_eq_true.2 fun u hu => BV_one _ u hu
          · rw [← hC]
            simp [BV_len, hdr_len]
        rw [hC]
        clear hC
        go_wp2_with (refine Crc.wpList_store_row _ rfl rfl (.tmp 8) (.tmp 24) 54 rfl w2.heap.size C #[.int .u8 0, .int .u8 0, .int .u8 0, .int .u8 0, .int .u8 0, .int .u8 0, .int .u8 0, .int .u8 0, .int .u8 0] (by rw [HC.out.2.1]; exact Try.size54) (by rw [HC.out.2.1]; rfl) HC.out.1 rfl rfl (heap_alloc_new w2 _) ?_; rw [World.setRow_alloc_new])
        have H3 : Hid (Pcs w (w2.alloc (.cells C 54)) l k (.slice ap (2 * k) cp) ps ∧ Blk (w2.alloc (.cells C 54)) wr.heap.size 25 #[.int .i64 (q : Int), .slice au m cu] ∧ Blk (w2.alloc (.cells C 54)) w2.heap.size 54 C) := ⟨HP.out.grown (grown_trans G2.out.1 (World.grownBy_alloc _ _ _)), G2.out.2.grown (World.grownBy_alloc _ _ none) (by simp), heap_alloc_new _ _⟩
        generalize w2.alloc (.cells C 54) = w3 at H3 ⊢
        have HQQ : Hid (∀ x : World, w3.grownBy x none → x.cell? ⟨wr.heap.size, 1, none⟩ = some (.slice au m cu)) := fun x hx => (H3.out.2.1.grown hx (by simp)).cell 1
        refine wp_region_noPanic ?_
        refine wp_region_hold 1000 (fun x => x.cell? ⟨wr.heap.size, 1, none⟩ = some (.slice au m cu)) (by kernel_rfl) ?_
        refine wpHold_take (i := 0) (v := _) (HQQ.out _ (grown_drew _ _)) rfl rfl (by kernel_rfl) (by kernel_rfl) (by kernel_rfl) (by kernel_rfl) (by kernel_rfl) (fun _ _ _ h => h) (by rfl) (fun wk hk => by have k0 := hk; go_simp; try rfl) ?_
        try simp only [Act.put, List.setIfInBounds_toArray, List.set_cons_zero, List.set_cons_succ]
        refine wpHold_take (i := 1) (v := _) (HQQ.out _ (grown_drew _ _)) rfl rfl (by kernel_rfl) (by kernel_rfl) (by kernel_rfl) (by kernel_rfl) (by kernel_rfl) (fun _ _ _ h => h) (by rfl) (fun wk hk => by have k0 := hk; go_simp; try rfl) ?_
        try simp only [Act.put, List.setIfInBounds_toArray, List.set_cons_zero, List.set_cons_succ]
        refine wpHold_take (i := 2) (v := _) (HQQ.out _ (grown_drew _ _)) rfl rfl (by kernel_rfl) (by kernel_rfl) (by kernel_rfl) (by kernel_rfl) (by kernel_rfl) (fun _ _ _ h => h) (by rfl) (fun wk hk => by have k0 := hk; go_simp; try rfl) ?_
        try simp only [Act.put, List.setIfInBounds_toArray, List.set_cons_zero, List.set_cons_succ]
        refine wpHold_take (i := 3) (v := _) (HQQ.out _ (grown_drew _ _)) rfl rfl (by kernel_rfl) (by kernel_rfl) (by kernel_rfl) (by kernel_rfl) (by kernel_rfl) (fun _ _ _ h => h) (by rfl) (fun wk hk => by have k0 := hk; go_simp; try rfl) ?_
        try simp only [Act.put, List.setIfInBounds_toArray, List.set_cons_zero, List.set_cons_succ]
        refine wpHold_one (i := 4) rfl (by kernel_rfl) (by rfl) (fun K hK => ?_)
        go_wp2_with fail
        have G4 : Hid (w3.grownBy (w3.drew.alloc (.cells #[.slice (some ⟨w2.heap.size, 0, none⟩) 9 9, .slice au m cu] 22)) none ∧ Blk (w3.drew.alloc (.cells #[.slice (some ⟨w2.heap.size, 0, none⟩) 9 9, .slice au m cu] 22)) w3.heap.size 22 #[.slice (some ⟨w2.heap.size, 0, none⟩) 9 9, .slice au m cu]) := ⟨grown_trans (grown_drew _ _) (World.grownBy_alloc _ _ _), heap_alloc_new w3.drew _⟩
        refine hK.out _ _ (fun _ => HQQ.out _ G4.out.1) ?_
        clear hK K
        try simp only [Act.put, List.setIfInBounds_toArray, List.set_cons_zero, List.set_cons_succ]
        refine wpHold_one (i := 5) rfl (by kernel_rfl) (by rfl) (fun K hK => ?_)
        refine app2_wp _ (.tmp 25) (.tmp 29) rfl w.heap.size (.slice ap (2 * k) cp) ps (2 * k) HP.out.len (.slice (some ⟨w2.heap.size, 0, none⟩) 9 9) (.slice au m cu) w3.heap.size rfl rfl (H3.out.1.grown G4.out.1).row (G4.out.2.cell 0) (G4.out.2.cell 1) rfl rfl (by omega) (Nat.le_trans H3.out.1.gr.size G4.out.1.size) ?_
        intro g' cap' w5 hrow hg5 _
        have H5 : Hid (Pcs w w5 l (k + 1) (.slice (some ⟨g', 0, none⟩) (2 * k + 2) cap') (ps ++ [.slice (some ⟨w2.heap.size, 0, none⟩) 9 9, .slice au m cu])) := by
          refine (H3.out.1.grown G4.out.1).snoc hlt ?_ HSB.out hg5 hrow
          have := H3.out.2.2.grown G4.out.1 (by simp)
          rw [HQ.out, Int.toNat_natCast, HC.out.2.2]
          exact this
        have HB5 : Hid (w5.cell? ⟨wr.heap.size, 1, none⟩ = some (.slice au m cu)) := by
          have hb := H3.out.2.1.grown G4.out.1 (by simp)
          exact (hb.grown hg5 (row22_other (H3.out.1.grown G4.out.1).row hb (by decide))).cell 1
        clear hrow hg5
        refine hK.out _ _ (fun _ => HB5.out) ?_
        clear hK K
        try simp only [Act.put, List.setIfInBounds_toArray, List.set_cons_zero, List.set_cons_succ]
        refine wpHold_take (i := 6) (v := _) (HB5.out) rfl rfl (by kernel_rfl) (by kernel_rfl) (by kernel_rfl) (by kernel_rfl) (by kernel_rfl) (fun _ _ _ h => h) (by rfl) (fun wk hk => by have k0 := hk; go_simp; try rfl) ?_
        try simp only [Act.put, List.setIfInBounds_toArray, List.set_cons_zero, List.set_cons_succ]
        refine wpHold_done (by kernel_rfl) ?_
        refine (‹∀ (a : Act) (w : World), Code.wp Try.prog _ _ a w → _› _ _ ?_)
        go_wp2_with fail
        go_roundw
        case rel => exact ⟨k + 1, _, by omega, by go_num, H5.out⟩
        case measure => simp [intOf]; omega
      · obtain rfl : k = l.length := by omega
        go_wp2_with fail
        refine (Wire.join10 _ (pcs l) _ (HP.out.segs (by omega)) (by rw [pcs_flat]; exact HFL.out)).mono ?_
        rintro e w4 ⟨u, rfl, ou, g4⟩
        rw [pcs_flat] at ou
        have H4 : Hid (Own w4 wr.heap.size u (flat l) ∧ wr.grownBy w4 none) := ⟨ou, g4⟩
        clear ou g4
        go_wp2_with fail
        refine bodyPost_ret (v := .tuple #[u, .int .i64 0]) (by simp [results, Try.results12]) rfl ?_
        exact ⟨grown_trans HP.out.gr H4.out.2, fun h => absurd HK.out h, fun _ => ⟨u, rfl, H4.out.1.mono HP.out.gr.size⟩⟩
  · have HK : Hid (¬ Kinds l) := hK
    have G1 : Hid (w.grownBy w1 none) := g1
    clear hK g1
    go_wp2_with fail
    refine bodyPost_ret (v := .tuple #[.slice none 0 0, .int .i64 2]) (by simp [results, Try.results12]) rfl ?_
    exact ⟨G1.out, fun _ => rfl, fun h => absurd h HK.out⟩

set_option maxRecDepth 100000 in
set_option maxHeartbeats 4000000 in
theorem put8 (k : Int) (v : Value) (L : List UInt8) (w : World) (h : Seg w v L) (hl : L.length ≤ 2147483647) : Calls Try.prog 8 #[.int .i64 k, v] w (PutPost [(k, L)] w) := by
  obtain ⟨ao, cap, hv⟩ := h.shape
  subst hv
  have HS : Hid (Seg w (.slice ao L.length cap) L) := h
  have HL : Hid _ := hl
  clear h hl
  go_enter Try.func8, Try.ntmps8
  go_wp2_with fail
  refine (putall12 _ [(k, L)] _ (fseg_one HS.out) (by intro f hf; simp at hf; subst hf; exact HL.out) (by simp) (by rw [flat_cons, flat_nil, List.append_nil, frm_len]; have := HL.out; simp; omega)).mono ?_
  rintro e w1 ⟨g1, hbad, hok⟩
  have G1 : Hid (w.grownBy w1 none) := grown_trans (World.grownBy_alloc _ _ _) g1
  by_cases hK : Kinds [(k, L)]
  · obtain ⟨u, rfl, ou⟩ := hok hK
    have HU : Hid (Own w1 (w.heap.size + 1) u (flat [(k, L)])) := by unfold Hid; have := ou; simpa using this
    have HK : Hid _ := hK
    clear g1 hbad hok ou hK
    go_wp2_with fail
    refine bodyPost_ret (v := .tuple #[u, .int .i64 0]) (by simp [results, Try.results8]) rfl ?_
    exact ⟨G1.out, fun h => absurd HK.out h, fun _ => ⟨u, rfl, HU.out.mono (by omega)⟩⟩
  · have he := hbad hK
    subst he
    have HK : Hid _ := hK
    clear g1 hbad hok hK
    go_wp2_with fail
    refine bodyPost_ret (v := .tuple #[.slice none 0 0, .int .i64 2]) (by simp [results, Try.results8]) rfl ?_
    exact ⟨G1.out, fun _ => rfl, fun h => absurd h HK.out⟩
end Go.Proofs.Ytdfdlkpljgpckaa
