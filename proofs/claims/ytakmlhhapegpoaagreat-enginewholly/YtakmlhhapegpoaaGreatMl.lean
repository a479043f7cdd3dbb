/-
  Put: what a draft becomes, or that it is given up.
-/
import Derived.Test.YtakmlhhapegpoaaGreatMk
namespace Go.Proofs.YtakmlhhapegpoaaGreat
open Go.RowKit Disk Table
open Names (Str cmpL keyB valueB tabB)
open _root_.Go.Proofs.YtakmlhhapegpoaaGreat.Calls (POp POut PRes opV OpSeg)

/-- What a put comes to: its answer, or that the call is given up. -/
def PutE (X : Nat → Prop) (q : Int × Int) (D : DB) (t k v : Bs) (m : Nat) (w : World) (e : Ending) (w' : World) : Prop :=
  w.grownBy w' (some m) ∧ ((aboveD q (putD D t k v) = 0 ∧ e = .returned (.agg #[.bool (hasD D t k), .slice none 0 0, .slice none 0 0]) ∧ EM X w' m (putD D t k v)) ∨ (aboveD q (putD D t k v) ≠ 0 ∧ e = PanA (aboveD q (putD D t k v))))
theorem good_nilT : Table.Good [] := ⟨fun i j hi => absurd hi (by simp), by simp, by simp⟩
set_option maxRecDepth 100000 in
set_option maxHeartbeats 8000000 in
theorem put120 {X : Nat → Prop} (b m : Nat) (q : Int × Int) (D : DB) (hD : GoodD D) (hf : lenD D ≤ 100000) (kv vv ol tv : Value) (o : POp) (hk : okP o.key o.value = true) (ht0 : o.table.length ≤ 1000000) (w : World) (hX : ∀ g, X g → g < w.heap.size) (hb : EngB w b q m) (hm : EM X w m D) (ho : OpSeg w kv vv ol tv o) : Calls Tryz.prog 120 #[.pointer (some ⟨b, 0, none⟩), opV kv vv ol tv o] w (PutE X q D o.table o.key o.value m w) := by
  have HK0 : Hid (okP o.key o.value = true ∧ (∀ g, X g → g < w.heap.size) ∧ lenD D ≤ 100000) := ⟨hk, hX, hf⟩
  clear hk hX hf
  obtain ⟨T, hT⟩ : ∃ T, o.table = T := ⟨_, rfl⟩
  have HO : Hid (OpSeg w kv vv ol tv o ∧ o.table = T) := ⟨ho, hT⟩
  obtain ⟨a1, n1, c1, a2, n2, c2, a3, n3, c3, a4, n4, c4, rfl, rfl, rfl, rfl⟩ := op_shape ho
  have HG : Hid (GoodD D) := hD
  have HM : Hid (EngB w b q m ∧ EM X w m D) := ⟨hb, hm⟩
  unfold opV
  have HT0 : Hid (o.table.length ≤ 1000000) := ht0
  clear ht0
  rw [hT] at HT0 ⊢
  clear ho hT hD hb hm
  go_enter Tryz.func120, Tryz.ntmps120
  go_wp2_with fail
  obtain ⟨w1, hw1, H1⟩ := al w #[.int .i64 o.kind, Str T, .slice a1 n1 c1, .slice a2 n2 c2, .bool o.has, .slice a3 n3 c3, .slice a4 n4 c4, .int .i64 o.most] 67
  rw [hw1]
  clear hw1
  obtain ⟨w2, hw2, H2⟩ := al w1 #[.bool false, .slice none 0 0, .slice none 0 0] 72
  rw [hw2]
  clear hw2
  obtain ⟨ob, hob⟩ : ∃ ob, w1.heap.size = ob := ⟨_, rfl⟩
  have hsz : w1.heap.size = w.heap.size + 1 := H1.out.2.2
  have hob2 : w.heap.size + 1 = ob := by omega
  have G2 : Hid (w.grownBy w2 none ∧ Blk w2 ob 72 #[.bool false, .slice none 0 0, .slice none 0 0] ∧ w.heap.size < ob) := ⟨grown_trans H1.out.2.1 H2.out.2.1, by rw [← hob]; exact H2.out.1, by omega⟩
  have hem := em_at HM.out.2 T
  have HC : Hid (∀ y, w2.grownBy y none → y.cell? ⟨b, 2, none⟩ = some (.map (some m)) ∧ y.cell? ⟨w.heap.size, 1, none⟩ = some (Str T) ∧ y.cell? ⟨w.heap.size, 2, none⟩ = some (.slice a1 n1 c1) ∧ y.cell? ⟨w.heap.size, 3, none⟩ = some (.slice a2 n2 c2) ∧ y.cell? ⟨w.heap.size, 6, none⟩ = some (.slice a4 n4 c4) ∧ y.cell? ⟨w.heap.size, 7, none⟩ = some (.int .i64 o.most)) := fun y hy => by
    have h1 := Blk.grown HM.out.1 (grown_trans G2.out.1 hy) (by simp)
    have h2 := (H1.out.1.grown H2.out.2.1 (by simp)).grown hy (by simp)
    exact ⟨h1.cell 2, h2.cell 1, h2.cell 2, h2.cell 3, h2.cell 6, h2.cell 7⟩
  try rw [hob]
  try rw [hob2]
  clear hob hob2 hsz
  rcases hem with ⟨p, hl, htb, hin⟩ | ⟨hl, hrn, hin⟩
  · have HL : Hid ((∀ y, w.grownBy y none → (Instr.lookup 62 (.map (some m)) (Str T) false).run Tryz.prog y = .ok (.pointer (some ⟨p, 0, none⟩)) y) ∧ Tbz X w p (rowsOf D T) ∧ T ∈ namesD D) := ⟨hl, htb, hin⟩
    clear hl htb hin
    refine wp_region_noPanic ?_
    refine wp_region_hold 1000 (fun y => w2.grownBy y none) (by kernel_rfl) ?_
    have G0 : Hid (w2.grownBy w2.drew none) := grown_drew _ _
    generalize w2.drew = wd at G0 ⊢
    refine wpHold_take (i := 0) (v := _) (G0.out) rfl rfl (by kernel_rfl) (by kernel_rfl) (by kernel_rfl) (by kernel_rfl) (by kernel_rfl) (fun _ _ _ h => h) (by rfl) (fun wk hk => by obtain ⟨m0, m1, m2, m3, m6, m7⟩ := HC.out wk hk; have ml := HL.out.1 wk (grown_trans G2.out.1 hk); go_simp; try rfl) ?_
    try simp only [Act.put, List.setIfInBounds_toArray, List.set_cons_zero, List.set_cons_succ]
    refine wpHold_take (i := 1) (v := _) (G0.out) rfl rfl (by kernel_rfl) (by kernel_rfl) (by kernel_rfl) (by kernel_rfl) (by kernel_rfl) (fun _ _ _ h => h) (by rfl) (fun wk hk => by obtain ⟨m0, m1, m2, m3, m6, m7⟩ := HC.out wk hk; have ml := HL.out.1 wk (grown_trans G2.out.1 hk); go_simp; try rfl) ?_
    try simp only [Act.put, List.setIfInBounds_toArray, List.set_cons_zero, List.set_cons_succ]
    refine wpHold_take (i := 2) (v := _) (G0.out) rfl rfl (by kernel_rfl) (by kernel_rfl) (by kernel_rfl) (by kernel_rfl) (by kernel_rfl) (fun _ _ _ h => h) (by rfl) (fun wk hk => by obtain ⟨m0, m1, m2, m3, m6, m7⟩ := HC.out wk hk; have ml := HL.out.1 wk (grown_trans G2.out.1 hk); go_simp; try rfl) ?_
    try simp only [Act.put, List.setIfInBounds_toArray, List.set_cons_zero, List.set_cons_succ]
    refine wpHold_take (i := 3) (v := _) (G0.out) rfl rfl (by kernel_rfl) (by kernel_rfl) (by kernel_rfl) (by kernel_rfl) (by kernel_rfl) (fun _ _ _ h => h) (by rfl) (fun wk hk => by obtain ⟨m0, m1, m2, m3, m6, m7⟩ := HC.out wk hk; have ml := HL.out.1 wk (grown_trans G2.out.1 hk); go_simp; try rfl) ?_
    try simp only [Act.put, List.setIfInBounds_toArray, List.set_cons_zero, List.set_cons_succ]
    refine wpHold_take (i := 4) (v := _) (G0.out) rfl rfl (by kernel_rfl) (by kernel_rfl) (by kernel_rfl) (by kernel_rfl) (by kernel_rfl) (fun _ _ _ h => h) (by rfl) (fun wk hk => by obtain ⟨m0, m1, m2, m3, m6, m7⟩ := HC.out wk hk; have ml := HL.out.1 wk (grown_trans G2.out.1 hk); go_simp; try rfl) ?_
    try simp only [Act.put, List.setIfInBounds_toArray, List.set_cons_zero, List.set_cons_succ]
    refine wpHold_take (i := 5) (v := _) (G0.out) rfl rfl (by kernel_rfl) (by kernel_rfl) (by kernel_rfl) (by kernel_rfl) (by kernel_rfl) (fun _ _ _ h => h) (by rfl) (fun wk hk => by obtain ⟨m0, m1, m2, m3, m6, m7⟩ := HC.out wk hk; have ml := HL.out.1 wk (grown_trans G2.out.1 hk); go_simp; try rfl) ?_
    try simp only [Act.put, List.setIfInBounds_toArray, List.set_cons_zero, List.set_cons_succ]
    refine wpHold_take (i := 6) (v := _) (G0.out) rfl rfl (by kernel_rfl) (by kernel_rfl) (by kernel_rfl) (by kernel_rfl) (by kernel_rfl) (fun _ _ _ h => h) (by rfl) (fun wk hk => by obtain ⟨m0, m1, m2, m3, m6, m7⟩ := HC.out wk hk; have ml := HL.out.1 wk (grown_trans G2.out.1 hk); go_simp; try rfl) ?_
    try simp only [Act.put, List.setIfInBounds_toArray, List.set_cons_zero, List.set_cons_succ]
    refine wpHold_one (i := 7) rfl (by kernel_rfl) (by rfl) (fun K hK => ?_)
    go_wp2_with (go_at_call 146; refine (copy10z p (rowsOf D T) wd (HL.out.2.1.grown (grown_trans G2.out.1 G0.out))).mono ?_)
    rintro e w3 ⟨rfl, ht3, g3⟩
    obtain ⟨tb, htb⟩ : ∃ tb, wd.heap.size = tb := ⟨_, rfl⟩
    have H3 : Hid (Tbz X w3 tb (rowsOf D T) ∧ w2.grownBy w3 none ∧ w2.heap.size ≤ tb) := ⟨by rw [← htb]; exact ht3, grown_trans G0.out g3, by rw [← htb]; exact G0.out.size⟩
    rw [htb]
    clear ht3 g3 htb
    go_wp2_with fail
    refine hK.out _ _ (fun _ => H3.out.2.1) ?_
    clear hK K
    try simp only [Act.put, List.setIfInBounds_toArray, List.set_cons_zero, List.set_cons_succ]
    refine wpHold_take (i := 8) (v := _) (H3.out.2.1) rfl rfl (by kernel_rfl) (by kernel_rfl) (by kernel_rfl) (by kernel_rfl) (by kernel_rfl) (fun _ _ _ h => h) (by rfl) (fun wk hk => by obtain ⟨m0, m1, m2, m3, m6, m7⟩ := HC.out wk hk; have ml := HL.out.1 wk (grown_trans G2.out.1 hk); go_simp; try rfl) ?_
    try simp only [Act.put, List.setIfInBounds_toArray, List.set_cons_zero, List.set_cons_succ]
    refine wpHold_done (by kernel_rfl) ?_
    refine (‹∀ (a : Act) (w : World), Code.wp Tryz.prog _ _ a w → _› _ _ ?_)
    obtain ⟨_, z1, z2, z3, _, _⟩ := HC.out w3 H3.out.2.1
    go_wp2_with fail
    refine (put17z (X := X) tb _ _ (rowsOf D T) o.key o.value (good_any HG.out T).1 (good_any HG.out T).2.2 w3 (fun g hg => by have := HK0.out.2.1 g hg; have := (grown_trans G2.out.1 H3.out.2.1).size; omega) H3.out.1 (HO.out.1.key.grown (grown_trans G2.out.1 H3.out.2.1)) (HO.out.1.value.grown (grown_trans G2.out.1 H3.out.2.1))).mono ?_
    rintro e w4 ⟨rfl, ht4, g4⟩
    have G4 : Hid (w2.grownBy w4 none) := grown_new H3.out.2.1 g4 (fun x hx => by simp at hx; have := H3.out.2.2; omega)
    have hpa : putA (rowsOf D T) o.key o.value = putL (rowsOf D T) o.key o.value := by unfold putA; rw [HK0.out.1, if_pos rfl]
    rw [hpa] at ht4
    have hkb : keyB o.key = true := by have := HK0.out.1; unfold okP at this; simp at this; exact this.1
    have H4 : Hid (Tbz X w4 tb (putL (rowsOf D T) o.key o.value) ∧ putB (rowsOf D T) o.key o.value = hasD D T o.key) := ⟨ht4, by unfold putB hasD; rw [HK0.out.1, hkb]⟩
    rw [H4.out.2]
    clear ht4 g4 z1 z2 z3 hpa hkb
    obtain ⟨_, z1, z2, z3, _, _⟩ := HC.out w4 G4.out
    go_wp2_with fail
    refine (stand48 b m q D HG.out.rise T HT0.out (.pointer (some ⟨tb, 0, none⟩)) true (putL (rowsOf D T) o.key o.value) w4 (Blk.grown HM.out.1 (grown_trans G2.out.1 G4.out) (by simp)) (HM.out.2.grown (grown_trans G2.out.1 G4.out)) H4.out.1.old.tl (fun _ => ⟨tb, rfl, H4.out.1⟩)).mono ?_
    rintro e w5 ⟨rfl, hem5, g5⟩
    have hE5 : EngB w5 b q m := Blk.grown (Blk.grown HM.out.1 (grown_trans G2.out.1 G4.out) (by simp)) g5 (by intro e; simp at e; subst e; exact Blk.notMap HM.out.1 HM.out.2.choose_spec.1)
    have hB5 : Blk w5 ob 72 #[.bool false, .slice none 0 0, .slice none 0 0] := (G2.out.2.1.grown G4.out (by simp)).grown g5 (by intro e; simp at e; subst e; exact Blk.notMap G2.out.2.1 (HM.out.2.grown G2.out.1).choose_spec.1)
    have H5 : Hid (EngB w5 b q m ∧ EM X w5 m (putD D T o.key o.value) ∧ w.grownBy w5 (some m) ∧ Blk w5 ob 72 #[.bool false, .slice none 0 0, .slice none 0 0]) := ⟨hE5, hem5, grown_trans (grown_weak (grown_trans G2.out.1 G4.out) _) g5, hB5⟩
    clear hE5 hem5 g5
    clear hB5
    obtain ⟨A, hA⟩ : ∃ A, aboveD q (putD D T o.key o.value) = A := ⟨_, rfl⟩
    have HA : Hid (Calls Tryz.prog 49 #[.pointer (some ⟨b, 0, none⟩)] w5 fun e w' => e = .returned (.int .i64 A) ∧ w5.grownBy w' none) := by rw [← hA]; exact above49 b q _ (good_putD HG.out HK0.out.1 HK0.out.2.2) w5 ⟨m, H5.out.1, H5.out.2.1⟩
    have HA0 : Hid (aboveD q (putD D T o.key o.value) = A) := hA
    clear hA
    by_cases hz : A = 0
    · subst hz
      go_wp2_with fail
      refine HA.out.mono ?_
      rintro e w6 ⟨rfl, g6⟩
      have hB6 := H5.out.2.2.2.grown g6 (by simp)
      have H6 : Hid (EM X w6 m (putD D T o.key o.value) ∧ w.grownBy w6 (some m) ∧ Blk w6 ob 72 #[.bool false, .slice none 0 0, .slice none 0 0]) := ⟨H5.out.2.1.grown g6, grown_trans H5.out.2.2.1 (grown_weak g6 _), hB6⟩
      have f0 := hB6.free 0
      have f1 := hB6.free 1
      have f2 := hB6.free 2
      have b0 := hB6.cell 0
      have b1 := hB6.cell 1
      have b2 := hB6.cell 2
      simp at b0 b1 b2
      clear hB6 g6
      go_wp2_with (go_at_call 118; refine (sure118 0 w6).mono ?_; rintro e w7 ⟨rfl, hw⟩; rw [hw]; clear hw)
      refine bodyPost_ret (v := _) (results_cell_row rfl _ _ ob 72 _ (0, 0) _ rfl (((H6.out.2.2.store 0 (.bool (hasD D T o.key))).store 1 (.slice none 0 0)).store 2 (.slice none 0 0)) Tryz.underlying72 rfl (by kernel_rfl)) rfl ?_
      exact ⟨grown_new3 H6.out.2.1 (by have := G2.out.2.2; omega), .inl ⟨HA0.out, rfl, em_set3 H6.out.1 H6.out.2.2⟩⟩
    · have HZ : Hid (A ≠ 0) := hz
      have a0 : (A == 0) = false := by simpa using hz
      have a1 : (A = 0) = False := by simpa using hz
      clear hz
      go_wp2_with fail
      refine HA.out.mono ?_
      rintro e w6 ⟨rfl, g6⟩
      have H6 : Hid (w.grownBy w6 (some m)) := grown_trans H5.out.2.2.1 (grown_weak g6 _)
      clear g6
      go_wp2_with (go_at_call 118; refine (sure118_no A w6).mono ?_; unfold PanA; rintro e w7 ⟨rfl, hw⟩; rw [hw]; clear hw)
      refine ⟨rfl, H6.out, .inr ⟨by rw [HA0.out]; exact HZ.out, by rw [HA0.out]; rfl⟩⟩
  · have HL : Hid ((∀ y, w.grownBy y none → (Instr.lookup 62 (.map (some m)) (Str T) false).run Tryz.prog y = .ok (.pointer none) y) ∧ rowsOf D T = [] ∧ T ∉ namesD D) := ⟨hl, hrn, hin⟩
    clear hl hrn hin
    refine wp_region_noPanic ?_
    refine wp_region_hold 1000 (fun y => w2.grownBy y none) (by kernel_rfl) ?_
    have G0 : Hid (w2.grownBy w2.drew none) := grown_drew _ _
    generalize w2.drew = wd at G0 ⊢
    refine wpHold_take (i := 0) (v := _) (G0.out) rfl rfl (by kernel_rfl) (by kernel_rfl) (by kernel_rfl) (by kernel_rfl) (by kernel_rfl) (fun _ _ _ h => h) (by rfl) (fun wk hk => by obtain ⟨m0, m1, m2, m3, m6, m7⟩ := HC.out wk hk; have ml := HL.out.1 wk (grown_trans G2.out.1 hk); go_simp; try rfl) ?_
    try simp only [Act.put, List.setIfInBounds_toArray, List.set_cons_zero, List.set_cons_succ]
    refine wpHold_take (i := 1) (v := _) (G0.out) rfl rfl (by kernel_rfl) (by kernel_rfl) (by kernel_rfl) (by kernel_rfl) (by kernel_rfl) (fun _ _ _ h => h) (by rfl) (fun wk hk => by obtain ⟨m0, m1, m2, m3, m6, m7⟩ := HC.out wk hk; have ml := HL.out.1 wk (grown_trans G2.out.1 hk); go_simp; try rfl) ?_
    try simp only [Act.put, List.setIfInBounds_toArray, List.set_cons_zero, List.set_cons_succ]
    refine wpHold_take (i := 2) (v := _) (G0.out) rfl rfl (by kernel_rfl) (by kernel_rfl) (by kernel_rfl) (by kernel_rfl) (by kernel_rfl) (fun _ _ _ h => h) (by rfl) (fun wk hk => by obtain ⟨m0, m1, m2, m3, m6, m7⟩ := HC.out wk hk; have ml := HL.out.1 wk (grown_trans G2.out.1 hk); go_simp; try rfl) ?_
    try simp only [Act.put, List.setIfInBounds_toArray, List.set_cons_zero, List.set_cons_succ]
    refine wpHold_take (i := 3) (v := _) (G0.out) rfl rfl (by kernel_rfl) (by kernel_rfl) (by kernel_rfl) (by kernel_rfl) (by kernel_rfl) (fun _ _ _ h => h) (by rfl) (fun wk hk => by obtain ⟨m0, m1, m2, m3, m6, m7⟩ := HC.out wk hk; have ml := HL.out.1 wk (grown_trans G2.out.1 hk); go_simp; try rfl) ?_
    try simp only [Act.put, List.setIfInBounds_toArray, List.set_cons_zero, List.set_cons_succ]
    refine wpHold_take (i := 4) (v := _) (G0.out) rfl rfl (by kernel_rfl) (by kernel_rfl) (by kernel_rfl) (by kernel_rfl) (by kernel_rfl) (fun _ _ _ h => h) (by rfl) (fun wk hk => by obtain ⟨m0, m1, m2, m3, m6, m7⟩ := HC.out wk hk; have ml := HL.out.1 wk (grown_trans G2.out.1 hk); go_simp; try rfl) ?_
    try simp only [Act.put, List.setIfInBounds_toArray, List.set_cons_zero, List.set_cons_succ]
    refine wpHold_take (i := 5) (v := _) (G0.out) rfl rfl (by kernel_rfl) (by kernel_rfl) (by kernel_rfl) (by kernel_rfl) (by kernel_rfl) (fun _ _ _ h => h) (by rfl) (fun wk hk => by obtain ⟨m0, m1, m2, m3, m6, m7⟩ := HC.out wk hk; have ml := HL.out.1 wk (grown_trans G2.out.1 hk); go_simp; try rfl) ?_
    try simp only [Act.put, List.setIfInBounds_toArray, List.set_cons_zero, List.set_cons_succ]
    refine wpHold_take (i := 6) (v := _) (G0.out) rfl rfl (by kernel_rfl) (by kernel_rfl) (by kernel_rfl) (by kernel_rfl) (by kernel_rfl) (fun _ _ _ h => h) (by rfl) (fun wk hk => by obtain ⟨m0, m1, m2, m3, m6, m7⟩ := HC.out wk hk; have ml := HL.out.1 wk (grown_trans G2.out.1 hk); go_simp; try rfl) ?_
    try simp only [Act.put, List.setIfInBounds_toArray, List.set_cons_zero, List.set_cons_succ]
    refine wpHold_one (i := 7) rfl (by kernel_rfl) (by rfl) (fun K hK => ?_)
    go_wp2_with (go_at_call 146; refine (copy10_no _ [] wd (NoTb.tl (.inl rfl))).mono ?_; rintro e w3 ⟨rfl, hw⟩; rw [hw]; clear hw)
    refine hK.out _ _ (fun _ => G0.out) ?_
    clear hK K
    try simp only [Act.put, List.setIfInBounds_toArray, List.set_cons_zero, List.set_cons_succ]
    refine wpHold_take (i := 8) (v := _) (G0.out) rfl rfl (by kernel_rfl) (by kernel_rfl) (by kernel_rfl) (by kernel_rfl) (by kernel_rfl) (fun _ _ _ h => h) (by rfl) (fun wk hk => by obtain ⟨m0, m1, m2, m3, m6, m7⟩ := HC.out wk hk; have ml := HL.out.1 wk (grown_trans G2.out.1 hk); go_simp; try rfl) ?_
    try simp only [Act.put, List.setIfInBounds_toArray, List.set_cons_zero, List.set_cons_succ]
    refine wpHold_done (by kernel_rfl) ?_
    refine (‹∀ (a : Act) (w : World), Code.wp Tryz.prog _ _ a w → _› _ _ ?_)
    go_wp2_with fail
    refine (new22z (X := X) _ [] (by simp) wd (fun g hg => by have := HK0.out.2.1 g hg; have := (grown_trans G2.out.1 G0.out).size; omega) (rws_nil wd)).mono ?_
    rintro e w3 (⟨_, tb, rfl, htb, ht3, g3⟩ | ⟨hbad, _, _⟩)
    case inr => exact absurd good_nilT hbad
    have H3 : Hid (Tbz X w3 tb (rowsOf D T) ∧ w2.grownBy w3 none ∧ w2.heap.size ≤ tb) := ⟨by rw [HL.out.2.1]; exact ht3, grown_trans G0.out g3, Nat.le_trans G0.out.size htb⟩
    clear ht3 g3 htb
    obtain ⟨_, z1, z2, z3, _, _⟩ := HC.out w3 H3.out.2.1
    go_wp2_with fail
    refine (put17z (X := X) tb _ _ (rowsOf D T) o.key o.value (good_any HG.out T).1 (good_any HG.out T).2.2 w3 (fun g hg => by have := HK0.out.2.1 g hg; have := (grown_trans G2.out.1 H3.out.2.1).size; omega) H3.out.1 (HO.out.1.key.grown (grown_trans G2.out.1 H3.out.2.1)) (HO.out.1.value.grown (grown_trans G2.out.1 H3.out.2.1))).mono ?_
    rintro e w4 ⟨rfl, ht4, g4⟩
    have G4 : Hid (w2.grownBy w4 none) := grown_new H3.out.2.1 g4 (fun x hx => by simp at hx; have := H3.out.2.2; omega)
    have hpa : putA (rowsOf D T) o.key o.value = putL (rowsOf D T) o.key o.value := by unfold putA; rw [HK0.out.1, if_pos rfl]
    rw [hpa] at ht4
    have hkb : keyB o.key = true := by have := HK0.out.1; unfold okP at this; simp at this; exact this.1
    have H4 : Hid (Tbz X w4 tb (putL (rowsOf D T) o.key o.value) ∧ putB (rowsOf D T) o.key o.value = hasD D T o.key) := ⟨ht4, by unfold putB hasD; rw [HK0.out.1, hkb]⟩
    rw [H4.out.2]
    clear ht4 g4 z1 z2 z3 hpa hkb
    obtain ⟨_, z1, z2, z3, _, _⟩ := HC.out w4 G4.out
    go_wp2_with fail
    refine (stand48 b m q D HG.out.rise T HT0.out (.pointer (some ⟨tb, 0, none⟩)) true (putL (rowsOf D T) o.key o.value) w4 (Blk.grown HM.out.1 (grown_trans G2.out.1 G4.out) (by simp)) (HM.out.2.grown (grown_trans G2.out.1 G4.out)) H4.out.1.old.tl (fun _ => ⟨tb, rfl, H4.out.1⟩)).mono ?_
    rintro e w5 ⟨rfl, hem5, g5⟩
    have hE5 : EngB w5 b q m := Blk.grown (Blk.grown HM.out.1 (grown_trans G2.out.1 G4.out) (by simp)) g5 (by intro e; simp at e; subst e; exact Blk.notMap HM.out.1 HM.out.2.choose_spec.1)
    have hB5 : Blk w5 ob 72 #[.bool false, .slice none 0 0, .slice none 0 0] := (G2.out.2.1.grown G4.out (by simp)).grown g5 (by intro e; simp at e; subst e; exact Blk.notMap G2.out.2.1 (HM.out.2.grown G2.out.1).choose_spec.1)
    have H5 : Hid (EngB w5 b q m ∧ EM X w5 m (putD D T o.key o.value) ∧ w.grownBy w5 (some m) ∧ Blk w5 ob 72 #[.bool false, .slice none 0 0, .slice none 0 0]) := ⟨hE5, hem5, grown_trans (grown_weak (grown_trans G2.out.1 G4.out) _) g5, hB5⟩
    clear hE5 hem5 g5
    clear hB5
    obtain ⟨A, hA⟩ : ∃ A, aboveD q (putD D T o.key o.value) = A := ⟨_, rfl⟩
    have HA : Hid (Calls Tryz.prog 49 #[.pointer (some ⟨b, 0, none⟩)] w5 fun e w' => e = .returned (.int .i64 A) ∧ w5.grownBy w' none) := by rw [← hA]; exact above49 b q _ (good_putD HG.out HK0.out.1 HK0.out.2.2) w5 ⟨m, H5.out.1, H5.out.2.1⟩
    have HA0 : Hid (aboveD q (putD D T o.key o.value) = A) := hA
    clear hA
    by_cases hz : A = 0
    · subst hz
      go_wp2_with fail
      refine HA.out.mono ?_
      rintro e w6 ⟨rfl, g6⟩
      have hB6 := H5.out.2.2.2.grown g6 (by simp)
      have H6 : Hid (EM X w6 m (putD D T o.key o.value) ∧ w.grownBy w6 (some m) ∧ Blk w6 ob 72 #[.bool false, .slice none 0 0, .slice none 0 0]) := ⟨H5.out.2.1.grown g6, grown_trans H5.out.2.2.1 (grown_weak g6 _), hB6⟩
      have f0 := hB6.free 0
      have f1 := hB6.free 1
      have f2 := hB6.free 2
      have b0 := hB6.cell 0
      have b1 := hB6.cell 1
      have b2 := hB6.cell 2
      simp at b0 b1 b2
      clear hB6 g6
      go_wp2_with (go_at_call 118; refine (sure118 0 w6).mono ?_; rintro e w7 ⟨rfl, hw⟩; rw [hw]; clear hw)
      refine bodyPost_ret (v := _) (results_cell_row rfl _ _ ob 72 _ (0, 0) _ rfl (((H6.out.2.2.store 0 (.bool (hasD D T o.key))).store 1 (.slice none 0 0)).store 2 (.slice none 0 0)) Tryz.underlying72 rfl (by kernel_rfl)) rfl ?_
      exact ⟨grown_new3 H6.out.2.1 (by have := G2.out.2.2; omega), .inl ⟨HA0.out, rfl, em_set3 H6.out.1 H6.out.2.2⟩⟩
    · have HZ : Hid (A ≠ 0) := hz
      have a0 : (A == 0) = false := by simpa using hz
      have a1 : (A = 0) = False := by simpa using hz
      clear hz
      go_wp2_with fail
      refine HA.out.mono ?_
      rintro e w6 ⟨rfl, g6⟩
      have H6 : Hid (w.grownBy w6 (some m)) := grown_trans H5.out.2.2.1 (grown_weak g6 _)
      clear g6
      go_wp2_with (go_at_call 118; refine (sure118_no A w6).mono ?_; unfold PanA; rintro e w7 ⟨rfl, hw⟩; rw [hw]; clear hw)
      refine ⟨rfl, H6.out, .inr ⟨by rw [HA0.out]; exact HZ.out, by rw [HA0.out]; rfl⟩⟩
end Go.Proofs.YtakmlhhapegpoaaGreat
