/-
  What a get, a scan of a database answers; sure, meets.
-/
import Derived.Test.YtakmlhhapegpoaaGreatMi
import Derived.Test.YtakmlhhapegpoaaGreatCpwAll
import Derived.Test.YtakmlhhapegpoaaGreatTableAll
namespace Go.Proofs.YtakmlhhapegpoaaGreat
open Go.RowKit Disk Table
open Names (Str cmpL keyB valueB tabB)
open _root_.Go.Proofs.YtakmlhhapegpoaaGreat.Calls (POp POut PRes opV OpSeg)

set_option maxHeartbeats 400000 in
theorem get27_no (kv : Value) (hk : ∃ a n c, kv = .slice a n c) (w : World) : Calls Tryz.prog 145 #[.pointer none, kv] w fun e w' => e = .returned (.tuple #[.slice none 0 0, .int .i64 1]) ∧ w' = w := by
  obtain ⟨a, n, c, rfl⟩ := hk
  go_enter Tryz.func145, Tryz.ntmps145
  go_wp2_with (go_at_call 69; refine (there34_nil w).mono ?_; rintro e w1 ⟨rfl, hw⟩; rw [hw]; clear hw)
  go_ret2
  exact ⟨rfl, rfl⟩
set_option maxHeartbeats 400000 in
theorem delete19_no (kv : Value) (hk : ∃ a n c, kv = .slice a n c) (w : World) : Calls Tryz.prog 148 #[.pointer none, kv] w fun e w' => e = .returned (.tuple #[.bool false, .int .i64 1]) ∧ w' = w := by
  obtain ⟨a, n, c, rfl⟩ := hk
  go_enter Tryz.func148, Tryz.ntmps148
  go_wp2_with (go_at_call 69; refine (there34_nil w).mono ?_; rintro e w1 ⟨rfl, hw⟩; rw [hw]; clear hw)
  go_ret2
  exact ⟨rfl, rfl⟩
/-- A call is given up. -/
def PanA (why : Int) : Ending := .panicked [{ v := .iface 46 (.int .i64 why), recovered := false }]
set_option maxHeartbeats 400000 in
theorem sure118 (why : Int) (w : World) : Calls Tryz.prog 118 #[.bool true, .int .i64 why] w fun e w' => e = .returned (.tuple #[]) ∧ w' = w := by
  go_enter Tryz.func118, Tryz.ntmps118
  go_wp2
  go_end0
  exact ⟨rfl, rfl⟩
set_option maxHeartbeats 400000 in
theorem sure118_no (why : Int) (w : World) : Calls Tryz.prog 118 #[.bool false, .int .i64 why] w fun e w' => e = PanA why ∧ w' = w := by
  go_enter Tryz.func118, Tryz.ntmps118
  go_wp2
  exact ⟨rfl, rfl, rfl⟩
/-- Is the row there? Its value. -/
def hasD (D : DB) (t k : Bs) : Bool := keyB k && hasL (rowsOf D t) k
def gotD (D : DB) (t k : Bs) : Bs := gotL (rowsOf D t) k
theorem got_nil (k : Bs) : gotL [] k = [] := by unfold gotL hasL; simp
theorem has_nil (k : Bs) : hasL [] k = false := by unfold hasL; simp
theorem getC_has (l : List PRow) (k : Bs) : decide (getC l k = 0) = (keyB k && hasL l k) := by
  unfold getC
  cases keyB k <;> cases hasL l k <;> simp
theorem good_val {D : DB} (h : GoodD D) {n : Bs} (hn : n ∈ namesD D) : ∀ r ∈ rowsOf D n, r.2.length ≤ 256 := fun r hr => (okP_len ((good_rows h hn).2.1 r hr)).2.2
theorem good_any {D : DB} (h : GoodD D) (n : Bs) : Table.Good (rowsOf D n) := by
  by_cases hn : n ∈ namesD D
  · exact good_rows h hn
  · rw [rows_none hn]
    exact ⟨fun i j hi => absurd hi (by simp), by simp, by simp⟩
/-- An op's shapes. -/
theorem op_shape {w : World} {k v ol t : Value} {o : POp} (h : OpSeg w k v ol t o) : ∃ a1 n1 c1 a2 n2 c2 a3 n3 c3 a4 n4 c4, k = .slice a1 n1 c1 ∧ v = .slice a2 n2 c2 ∧ ol = .slice a3 n3 c3 ∧ t = .slice a4 n4 c4 := by
  obtain ⟨a1, c1, rfl, _⟩ := h.key
  obtain ⟨a2, c2, rfl, _⟩ := h.value
  obtain ⟨a3, c3, rfl, _⟩ := h.old
  obtain ⟨a4, c4, rfl, _⟩ := h.to
  exact ⟨_, _, _, _, _, _, _, _, _, _, _, _, rfl, rfl, rfl, rfl⟩
/-- What a look for a name comes to. -/
theorem em_at {X : Nat → Prop} {w : World} {m : Nat} {D : DB} (h : EM X w m D) (n : Bs) : (∃ p, (∀ y, w.grownBy y none → (Instr.lookup 62 (.map (some m)) (Str n) false).run Tryz.prog y = .ok (.pointer (some ⟨p, 0, none⟩)) y) ∧ Tbz X w p (rowsOf D n) ∧ n ∈ namesD D) ∨
    ((∀ y, w.grownBy y none → (Instr.lookup 62 (.map (some m)) (Str n) false).run Tryz.prog y = .ok (.pointer none) y) ∧ rowsOf D n = [] ∧ n ∉ namesD D) := by
  obtain ⟨E, h1, h2, h3⟩ := h
  rcases em_look h2 n with ⟨p, e, hp⟩ | ⟨e, hn, hr⟩
  · refine .inl ⟨p, fun y hy => ?_, h3 _ hp, (h2 n).1 (List.mem_map.2 ⟨_, hp, rfl⟩)⟩
    rw [run_look (h1.grown hy (by simp)) n false, e]
    rfl
  · refine .inr ⟨fun y hy => ?_, hr, hn⟩
    rw [run_look (h1.grown hy (by simp)) n false, e]
    rfl
theorem trws_off {w w' : World} {B : Nat} {v : Value} {l : List PRow} (h : TRws w B v l) {g t : Nat} {c : Array Value} (hg : w.grownBy w' (some g)) (hb : Blk w g t c) (h86 : t ≠ 86) (h5 : t ≠ 5) : TRws w' B v l := by
  obtain ⟨ks, h1, h2⟩ := h
  refine ⟨ks, World.ownsRow.kept h1 hg ?_, h2.same fun k ⟨c', hk⟩ => hg.block k hk.lt ?_⟩
  · refine .inr fun e => ?_
    rcases h1.2 with ⟨e2, _⟩ | ⟨g2, cap2, cur2, e2, _, hg2, _⟩
    · rw [e2] at e; simp [Value.ownBlock] at e
    · rw [e2] at e
      simp [Value.ownBlock] at e
      subst e
      unfold Blk at hb
      rw [hg2] at hb
      simp at hb
      exact h86 hb.2.symm
  · intro e
    simp at e
    subst e
    unfold Blk at hb hk
    rw [hk] at hb
    simp at hb
    exact h5 hb.2.symm
theorem trws_set3 {w : World} {B C t : Nat} {c : Array Value} {v : Value} {l : List PRow} (h : TRws w B v l) (hb : Blk w C t c) (h86 : t ≠ 86) (h5 : t ≠ 5) {a0 a1 a2 : Nat} {u x y : Value} : TRws (((w.setCell ⟨C, a0, none⟩ u).setCell ⟨C, a1, none⟩ x).setCell ⟨C, a2, none⟩ y) B v l :=
  trws_off (trws_off (trws_off h (grown_setCell _ _ _ _) hb h86 h5) (grown_setCell _ _ _ _) (hb.store _ _) h86 h5) (grown_setCell _ _ _ _) ((hb.store _ _).store _ _) h86 h5
theorem grown_set3 {w w1 : World} {B i j k : Nat} {u v x : Value} (h : w.grownBy w1 none) (hB : w.heap.size ≤ B) : w.grownBy (((w1.setCell ⟨B, i, none⟩ u).setCell ⟨B, j, none⟩ v).setCell ⟨B, k, none⟩ x) none :=
  grown_new (grown_set2 h hB) (grown_setCell _ _ _ _) (fun x hx => by simp at hx; omega)
theorem own_set3 {w : World} {B C t : Nat} {c : Array Value} {v : Value} {L : Bs} (h : Disk.Own w B v L) (hb : Blk w C t c) (h5 : t ≠ 5) {a0 a1 a2 : Nat} {u x y : Value} : Disk.Own (((w.setCell ⟨C, a0, none⟩ u).setCell ⟨C, a1, none⟩ x).setCell ⟨C, a2, none⟩ y) B v L :=
  own_off (own_off (own_off h (grown_setCell _ _ _ _) hb h5) (grown_setCell _ _ _ _) (hb.store _ _) h5) (grown_setCell _ _ _ _) ((hb.store _ _).store _ _) h5
set_option maxRecDepth 100000 in
set_option maxHeartbeats 4000000 in
theorem get117 {X : Nat → Prop} (b : Nat) (q : Int × Int) (D : DB) (hD : GoodD D) (kv vv ol tv : Value) (o : POp) (w : World) (h : Eng X w b q D) (ho : OpSeg w kv vv ol tv o) : Calls Tryz.prog 117 #[.pointer (some ⟨b, 0, none⟩), opV kv vv ol tv o] w fun e w' => ∃ x, e = .returned (.agg #[.bool (hasD D o.table o.key), x, .slice none 0 0]) ∧ Disk.Own w' w.heap.size x (gotD D o.table o.key) ∧ w.grownBy w' none := by
  obtain ⟨m, hb, hm⟩ := h
  obtain ⟨T, hT⟩ : ∃ T, o.table = T := ⟨_, rfl⟩
  have HO : Hid (OpSeg w kv vv ol tv o ∧ o.table = T) := ⟨ho, hT⟩
  obtain ⟨a1, n1, c1, a2, n2, c2, a3, n3, c3, a4, n4, c4, rfl, rfl, rfl, rfl⟩ := op_shape ho
  have HG : Hid (GoodD D) := hD
  have HM : Hid (EngB w b q m ∧ EM X w m D) := ⟨hb, hm⟩
  unfold opV
  rw [hT]
  clear ho hT hD hb hm
  go_enter Tryz.func117, Tryz.ntmps117
  go_wp2_with fail
  obtain ⟨w1, hw1, H1⟩ := al w #[.int .i64 o.kind, Str T, .slice a1 n1 c1, .slice a2 n2 c2, .bool o.has, .slice a3 n3 c3, .slice a4 n4 c4, .int .i64 o.most] 67
  rw [hw1]
  clear hw1
  obtain ⟨w2, hw2, H2⟩ := al w1 #[.bool false, .slice none 0 0, .slice none 0 0] 72
  rw [hw2]
  clear hw2
  obtain ⟨ob, hob⟩ : ∃ ob, w1.heap.size = ob := ⟨_, rfl⟩
  have hsz : w1.heap.size = w.heap.size + 1 := H1.out.2.2
  have hob2 : w.heap.size + 1 = ob := by omega
  have G2 : Hid (w.grownBy w2 none ∧ Blk w2 ob 72 #[.bool false, .slice none 0 0, .slice none 0 0] ∧ w.heap.size < ob) := ⟨grown_trans H1.out.2.1 H2.out.2.1, by rw [← hob]; exact H2.out.1, by omega⟩
  have hem := em_at HM.out.2 T
  have HC : Hid (∀ y, w2.grownBy y none → y.cell? ⟨b, 2, none⟩ = some (.map (some m)) ∧ y.cell? ⟨w.heap.size, 1, none⟩ = some (Str T) ∧ y.cell? ⟨w.heap.size, 2, none⟩ = some (.slice a1 n1 c1) ∧ y.cell? ⟨w.heap.size, 3, none⟩ = some (.slice a2 n2 c2) ∧ y.cell? ⟨w.heap.size, 6, none⟩ = some (.slice a4 n4 c4) ∧ y.cell? ⟨w.heap.size, 7, none⟩ = some (.int .i64 o.most)) := fun y hy => by
    have h1 := Blk.grown HM.out.1 (grown_trans G2.out.1 hy) (by simp)
    have h2 := (H1.out.1.grown H2.out.2.1 (by simp)).grown hy (by simp)
    exact ⟨h1.cell 2, h2.cell 1, h2.cell 2, h2.cell 3, h2.cell 6, h2.cell 7⟩
  try rw [hob]
  try rw [hob2]
  clear hob hob2 hsz
  rcases hem with ⟨p, hl, htb, hin⟩ | ⟨hl, hrn, hin⟩
  · have HL : Hid ((∀ y, w.grownBy y none → (Instr.lookup 62 (.map (some m)) (Str T) false).run Tryz.prog y = .ok (.pointer (some ⟨p, 0, none⟩)) y) ∧ Tbz X w p (rowsOf D T) ∧ T ∈ namesD D) := ⟨hl, htb, hin⟩
    clear hl htb hin
    refine wp_region_noPanic ?_
    refine wp_region_hold 1000 (fun y => w2.grownBy y none) (by kernel_rfl) ?_
    have G0 : Hid (w2.grownBy w2.drew none) := grown_drew _ _
    generalize w2.drew = wd at G0 ⊢
    refine wpHold_take (i := 0) (v := _) (G0.out) rfl rfl (by kernel_rfl) (by kernel_rfl) (by kernel_rfl) (by kernel_rfl) (by kernel_rfl) (fun _ _ _ h => h) (by rfl) (fun wk hk => by obtain ⟨m0, m1, m2, m3, m6, m7⟩ := HC.out wk hk; have ml := HL.out.1 wk (grown_trans G2.out.1 hk); go_simp; try rfl) ?_
    try simp only [Act.put, List.setIfInBounds_toArray, List.set_cons_zero, List.set_cons_succ]
    refine wpHold_take (i := 1) (v := _) (G0.out) rfl rfl (by kernel_rfl) (by kernel_rfl) (by kernel_rfl) (by kernel_rfl) (by kernel_rfl) (fun _ _ _ h => h) (by rfl) (fun wk hk => by obtain ⟨m0, m1, m2, m3, m6, m7⟩ := HC.out wk hk; have ml := HL.out.1 wk (grown_trans G2.out.1 hk); go_simp; try rfl) ?_
    try simp only [Act.put, List.setIfInBounds_toArray, List.set_cons_zero, List.set_cons_succ]
    refine wpHold_take (i := 2) (v := _) (G0.out) rfl rfl (by kernel_rfl) (by kernel_rfl) (by kernel_rfl) (by kernel_rfl) (by kernel_rfl) (fun _ _ _ h => h) (by rfl) (fun wk hk => by obtain ⟨m0, m1, m2, m3, m6, m7⟩ := HC.out wk hk; have ml := HL.out.1 wk (grown_trans G2.out.1 hk); go_simp; try rfl) ?_
    try simp only [Act.put, List.setIfInBounds_toArray, List.set_cons_zero, List.set_cons_succ]
    refine wpHold_take (i := 3) (v := _) (G0.out) rfl rfl (by kernel_rfl) (by kernel_rfl) (by kernel_rfl) (by kernel_rfl) (by kernel_rfl) (fun _ _ _ h => h) (by rfl) (fun wk hk => by obtain ⟨m0, m1, m2, m3, m6, m7⟩ := HC.out wk hk; have ml := HL.out.1 wk (grown_trans G2.out.1 hk); go_simp; try rfl) ?_
    try simp only [Act.put, List.setIfInBounds_toArray, List.set_cons_zero, List.set_cons_succ]
    refine wpHold_take (i := 4) (v := _) (G0.out) rfl rfl (by kernel_rfl) (by kernel_rfl) (by kernel_rfl) (by kernel_rfl) (by kernel_rfl) (fun _ _ _ h => h) (by rfl) (fun wk hk => by obtain ⟨m0, m1, m2, m3, m6, m7⟩ := HC.out wk hk; have ml := HL.out.1 wk (grown_trans G2.out.1 hk); go_simp; try rfl) ?_
    try simp only [Act.put, List.setIfInBounds_toArray, List.set_cons_zero, List.set_cons_succ]
    refine wpHold_take (i := 5) (v := _) (G0.out) rfl rfl (by kernel_rfl) (by kernel_rfl) (by kernel_rfl) (by kernel_rfl) (by kernel_rfl) (fun _ _ _ h => h) (by rfl) (fun wk hk => by obtain ⟨m0, m1, m2, m3, m6, m7⟩ := HC.out wk hk; have ml := HL.out.1 wk (grown_trans G2.out.1 hk); go_simp; try rfl) ?_
    try simp only [Act.put, List.setIfInBounds_toArray, List.set_cons_zero, List.set_cons_succ]
    refine wpHold_take (i := 6) (v := _) (G0.out) rfl rfl (by kernel_rfl) (by kernel_rfl) (by kernel_rfl) (by kernel_rfl) (by kernel_rfl) (fun _ _ _ h => h) (by rfl) (fun wk hk => by obtain ⟨m0, m1, m2, m3, m6, m7⟩ := HC.out wk hk; have ml := HL.out.1 wk (grown_trans G2.out.1 hk); go_simp; try rfl) ?_
    try simp only [Act.put, List.setIfInBounds_toArray, List.set_cons_zero, List.set_cons_succ]
    refine wpHold_take (i := 7) (v := _) (G0.out) rfl rfl (by kernel_rfl) (by kernel_rfl) (by kernel_rfl) (by kernel_rfl) (by kernel_rfl) (fun _ _ _ h => h) (by rfl) (fun wk hk => by obtain ⟨m0, m1, m2, m3, m6, m7⟩ := HC.out wk hk; have ml := HL.out.1 wk (grown_trans G2.out.1 hk); go_simp; try rfl) ?_
    try simp only [Act.put, List.setIfInBounds_toArray, List.set_cons_zero, List.set_cons_succ]
    refine wpHold_take (i := 8) (v := _) (G0.out) rfl rfl (by kernel_rfl) (by kernel_rfl) (by kernel_rfl) (by kernel_rfl) (by kernel_rfl) (fun _ _ _ h => h) (by rfl) (fun wk hk => by obtain ⟨m0, m1, m2, m3, m6, m7⟩ := HC.out wk hk; have ml := HL.out.1 wk (grown_trans G2.out.1 hk); go_simp; try rfl) ?_
    try simp only [Act.put, List.setIfInBounds_toArray, List.set_cons_zero, List.set_cons_succ]
    refine wpHold_one (i := 9) rfl (by kernel_rfl) (by rfl) (fun K hK => ?_)
    go_wp2_with (go_at_call 145; refine (get27 p _ (rowsOf D T) o.key (good_any HG.out T).1 (good_any HG.out T).2.2 (good_val HG.out HL.out.2.2) wd ((HL.out.2.1.grown (grown_trans G2.out.1 G0.out)).old) (HO.out.1.key.grown (grown_trans G2.out.1 G0.out))).mono ?_)
    rintro e w3 ⟨x, rfl, hx, g3⟩
    obtain ⟨ax, cx, ex⟩ := hx.seg.shape
    obtain ⟨nx, hnx⟩ : ∃ nx, (gotL (rowsOf D T) o.key).length = nx := ⟨_, rfl⟩
    rw [hnx] at ex
    subst ex
    have H3 : Hid (Disk.Own w3 w.heap.size (.slice ax nx cx) (gotL (rowsOf D T) o.key) ∧ w2.grownBy w3 none) := ⟨hx.mono (Nat.le_trans G2.out.1.size G0.out.size), grown_trans G0.out g3⟩
    clear hx g3 hnx
    go_wp2_with fail
    refine hK.out _ _ (fun _ => H3.out.2) ?_
    clear hK K
    try simp only [Act.put, List.setIfInBounds_toArray, List.set_cons_zero, List.set_cons_succ]
    refine wpHold_take (i := 10) (v := _) (H3.out.2) rfl rfl (by kernel_rfl) (by kernel_rfl) (by kernel_rfl) (by kernel_rfl) (by kernel_rfl) (fun _ _ _ h => h) (by rfl) (fun wk hk => by obtain ⟨m0, m1, m2, m3, m6, m7⟩ := HC.out wk hk; have ml := HL.out.1 wk (grown_trans G2.out.1 hk); go_simp; try rfl) ?_
    try simp only [Act.put, List.setIfInBounds_toArray, List.set_cons_zero, List.set_cons_succ]
    refine wpHold_take (i := 11) (v := _) (H3.out.2) rfl rfl (by kernel_rfl) (by kernel_rfl) (by kernel_rfl) (by kernel_rfl) (by kernel_rfl) (fun _ _ _ h => h) (by rfl) (fun wk hk => by obtain ⟨m0, m1, m2, m3, m6, m7⟩ := HC.out wk hk; have ml := HL.out.1 wk (grown_trans G2.out.1 hk); go_simp; try rfl) ?_
    try simp only [Act.put, List.setIfInBounds_toArray, List.set_cons_zero, List.set_cons_succ]
    refine wpHold_take (i := 12) (v := _) (H3.out.2) rfl rfl (by kernel_rfl) (by kernel_rfl) (by kernel_rfl) (by kernel_rfl) (by kernel_rfl) (fun _ _ _ h => h) (by rfl) (fun wk hk => by obtain ⟨m0, m1, m2, m3, m6, m7⟩ := HC.out wk hk; have ml := HL.out.1 wk (grown_trans G2.out.1 hk); go_simp; try rfl) ?_
    try simp only [Act.put, List.setIfInBounds_toArray, List.set_cons_zero, List.set_cons_succ]
    refine wpHold_take (i := 13) (v := _) (H3.out.2) rfl rfl (by kernel_rfl) (by kernel_rfl) (by kernel_rfl) (by kernel_rfl) (by kernel_rfl) (fun _ _ _ h => h) (by rfl) (fun wk hk => by obtain ⟨m0, m1, m2, m3, m6, m7⟩ := HC.out wk hk; have ml := HL.out.1 wk (grown_trans G2.out.1 hk); go_simp; try rfl) ?_
    try simp only [Act.put, List.setIfInBounds_toArray, List.set_cons_zero, List.set_cons_succ]
    refine wpHold_take (i := 14) (v := _) (H3.out.2) rfl rfl (by kernel_rfl) (by kernel_rfl) (by kernel_rfl) (by kernel_rfl) (by kernel_rfl) (fun _ _ _ h => h) (by rfl) (fun wk hk => by obtain ⟨m0, m1, m2, m3, m6, m7⟩ := HC.out wk hk; have ml := HL.out.1 wk (grown_trans G2.out.1 hk); go_simp; try rfl) ?_
    try simp only [Act.put, List.setIfInBounds_toArray, List.set_cons_zero, List.set_cons_succ]
    refine wpHold_done (by kernel_rfl) ?_
    refine (‹∀ (a : Act) (w : World), Code.wp Tryz.prog _ _ a w → _› _ _ ?_)
    have hB := G2.out.2.1.grown H3.out.2 (by simp)
    have HB : Hid (Blk w3 ob 72 #[.bool false, .slice none 0 0, .slice none 0 0]) := hB
    have f0 := hB.free 0
    have f1 := hB.free 1
    have f2 := hB.free 2
    have b0 := hB.cell 0
    have b1 := hB.cell 1
    have b2 := hB.cell 2
    simp at b0 b1 b2
    have hgc := getC_has (rowsOf D T) o.key
    obtain ⟨gc, hgc0⟩ : ∃ gc, getC (rowsOf D T) o.key = gc := ⟨_, rfl⟩
    rw [hgc0] at hgc
    try rw [hgc0]
    clear hgc0 hB
    by_cases hz : gc = 0
    · subst hz
      have HH : Hid (hasD D T o.key = true) := by rw [Hid, hasD, ← hgc]; rfl
      clear hgc
      go_wp2_with fail
      refine bodyPost_ret (v := _) (results_cell_row rfl _ _ ob 72 _ (0, 0) _ rfl (((HB.out.store 0 (.bool true)).store 1 (.slice ax nx cx)).store 2 (.slice none 0 0)) Tryz.underlying72 rfl (by kernel_rfl)) rfl ?_
      refine ⟨_, by rw [HH.out]; rfl, ?_, ?_⟩
      · rw [gotD]
        exact own_set3 H3.out.1 HB.out (by decide)
      · exact grown_set3 (grown_trans G2.out.1 H3.out.2) (by have := G2.out.2.2; omega)
    · have HH : Hid (hasD D T o.key = false) := by rw [Hid, hasD, ← hgc]; simpa using hz
      have z0 : (gc == 0) = false := by simpa using hz
      have z1 : (gc = 0) = False := by simpa using hz
      clear hgc hz
      go_wp2_with fail
      refine bodyPost_ret (v := _) (results_cell_row rfl _ _ ob 72 _ (0, 0) _ rfl (((HB.out.store 0 (.bool false)).store 1 (.slice ax nx cx)).store 2 (.slice none 0 0)) Tryz.underlying72 rfl (by kernel_rfl)) rfl ?_
      refine ⟨_, by rw [HH.out]; rfl, ?_, ?_⟩
      · rw [gotD]
        exact own_set3 H3.out.1 HB.out (by decide)
      · exact grown_set3 (grown_trans G2.out.1 H3.out.2) (by have := G2.out.2.2; omega)
  · have HL : Hid ((∀ y, w.grownBy y none → (Instr.lookup 62 (.map (some m)) (Str T) false).run Tryz.prog y = .ok (.pointer none) y) ∧ rowsOf D T = [] ∧ T ∉ namesD D) := ⟨hl, hrn, hin⟩
    clear hl hrn hin
    refine wp_region_noPanic ?_
    refine wp_region_hold 1000 (fun y => w2.grownBy y none) (by kernel_rfl) ?_
    have G0 : Hid (w2.grownBy w2.drew none) := grown_drew _ _
    generalize w2.drew = wd at G0 ⊢
    refine wpHold_take (i := 0) (v := _) (G0.out) rfl rfl (by kernel_rfl) (by kernel_rfl) (by kernel_rfl) (by kernel_rfl) (by kernel_rfl) (fun _ _ _ h => h) (by rfl) (fun wk hk => by obtain ⟨m0, m1, m2, m3, m6, m7⟩ := HC.out wk hk; have ml := HL.out.1 wk (grown_trans G2.out.1 hk); go_simp; try rfl) ?_
    try simp only [Act.put, List.setIfInBounds_toArray, List.set_cons_zero, List.set_cons_succ]
    refine wpHold_take (i := 1) (v := _) (G0.out) rfl rfl (by kernel_rfl) (by kernel_rfl) (by kernel_rfl) (by kernel_rfl) (by kernel_rfl) (fun _ _ _ h => h) (by rfl) (fun wk hk => by obtain ⟨m0, m1, m2, m3, m6, m7⟩ := HC.out wk hk; have ml := HL.out.1 wk (grown_trans G2.out.1 hk); go_simp; try rfl) ?_
    try simp only [Act.put, List.setIfInBounds_toArray, List.set_cons_zero, List.set_cons_succ]
    refine wpHold_take (i := 2) (v := _) (G0.out) rfl rfl (by kernel_rfl) (by kernel_rfl) (by kernel_rfl) (by kernel_rfl) (by kernel_rfl) (fun _ _ _ h => h) (by rfl) (fun wk hk => by obtain ⟨m0, m1, m2, m3, m6, m7⟩ := HC.out wk hk; have ml := HL.out.1 wk (grown_trans G2.out.1 hk); go_simp; try rfl) ?_
    try simp only [Act.put, List.setIfInBounds_toArray, List.set_cons_zero, List.set_cons_succ]
    refine wpHold_take (i := 3) (v := _) (G0.out) rfl rfl (by kernel_rfl) (by kernel_rfl) (by kernel_rfl) (by kernel_rfl) (by kernel_rfl) (fun _ _ _ h => h) (by rfl) (fun wk hk => by obtain ⟨m0, m1, m2, m3, m6, m7⟩ := HC.out wk hk; have ml := HL.out.1 wk (grown_trans G2.out.1 hk); go_simp; try rfl) ?_
    try simp only [Act.put, List.setIfInBounds_toArray, List.set_cons_zero, List.set_cons_succ]
    refine wpHold_take (i := 4) (v := _) (G0.out) rfl rfl (by kernel_rfl) (by kernel_rfl) (by kernel_rfl) (by kernel_rfl) (by kernel_rfl) (fun _ _ _ h => h) (by rfl) (fun wk hk => by obtain ⟨m0, m1, m2, m3, m6, m7⟩ := HC.out wk hk; have ml := HL.out.1 wk (grown_trans G2.out.1 hk); go_simp; try rfl) ?_
    try simp only [Act.put, List.setIfInBounds_toArray, List.set_cons_zero, List.set_cons_succ]
    refine wpHold_take (i := 5) (v := _) (G0.out) rfl rfl (by kernel_rfl) (by kernel_rfl) (by kernel_rfl) (by kernel_rfl) (by kernel_rfl) (fun _ _ _ h => h) (by rfl) (fun wk hk => by obtain ⟨m0, m1, m2, m3, m6, m7⟩ := HC.out wk hk; have ml := HL.out.1 wk (grown_trans G2.out.1 hk); go_simp; try rfl) ?_
    try simp only [Act.put, List.setIfInBounds_toArray, List.set_cons_zero, List.set_cons_succ]
    refine wpHold_take (i := 6) (v := _) (G0.out) rfl rfl (by kernel_rfl) (by kernel_rfl) (by kernel_rfl) (by kernel_rfl) (by kernel_rfl) (fun _ _ _ h => h) (by rfl) (fun wk hk => by obtain ⟨m0, m1, m2, m3, m6, m7⟩ := HC.out wk hk; have ml := HL.out.1 wk (grown_trans G2.out.1 hk); go_simp; try rfl) ?_
    try simp only [Act.put, List.setIfInBounds_toArray, List.set_cons_zero, List.set_cons_succ]
    refine wpHold_take (i := 7) (v := _) (G0.out) rfl rfl (by kernel_rfl) (by kernel_rfl) (by kernel_rfl) (by kernel_rfl) (by kernel_rfl) (fun _ _ _ h => h) (by rfl) (fun wk hk => by obtain ⟨m0, m1, m2, m3, m6, m7⟩ := HC.out wk hk; have ml := HL.out.1 wk (grown_trans G2.out.1 hk); go_simp; try rfl) ?_
    try simp only [Act.put, List.setIfInBounds_toArray, List.set_cons_zero, List.set_cons_succ]
    refine wpHold_take (i := 8) (v := _) (G0.out) rfl rfl (by kernel_rfl) (by kernel_rfl) (by kernel_rfl) (by kernel_rfl) (by kernel_rfl) (fun _ _ _ h => h) (by rfl) (fun wk hk => by obtain ⟨m0, m1, m2, m3, m6, m7⟩ := HC.out wk hk; have ml := HL.out.1 wk (grown_trans G2.out.1 hk); go_simp; try rfl) ?_
    try simp only [Act.put, List.setIfInBounds_toArray, List.set_cons_zero, List.set_cons_succ]
    refine wpHold_one (i := 9) rfl (by kernel_rfl) (by rfl) (fun K hK => ?_)
    go_wp2_with (go_at_call 145; refine (get27_no _ ⟨_, _, _, rfl⟩ wd).mono ?_; rintro e w3 ⟨rfl, hw⟩; rw [hw]; clear hw)
    refine hK.out _ _ (fun _ => G0.out) ?_
    clear hK K
    try simp only [Act.put, List.setIfInBounds_toArray, List.set_cons_zero, List.set_cons_succ]
    refine wpHold_take (i := 10) (v := _) (G0.out) rfl rfl (by kernel_rfl) (by kernel_rfl) (by kernel_rfl) (by kernel_rfl) (by kernel_rfl) (fun _ _ _ h => h) (by rfl) (fun wk hk => by obtain ⟨m0, m1, m2, m3, m6, m7⟩ := HC.out wk hk; have ml := HL.out.1 wk (grown_trans G2.out.1 hk); go_simp; try rfl) ?_
    try simp only [Act.put, List.setIfInBounds_toArray, List.set_cons_zero, List.set_cons_succ]
    refine wpHold_take (i := 11) (v := _) (G0.out) rfl rfl (by kernel_rfl) (by kernel_rfl) (by kernel_rfl) (by kernel_rfl) (by kernel_rfl) (fun _ _ _ h => h) (by rfl) (fun wk hk => by obtain ⟨m0, m1, m2, m3, m6, m7⟩ := HC.out wk hk; have ml := HL.out.1 wk (grown_trans G2.out.1 hk); go_simp; try rfl) ?_
    try simp only [Act.put, List.setIfInBounds_toArray, List.set_cons_zero, List.set_cons_succ]
    refine wpHold_take (i := 12) (v := _) (G0.out) rfl rfl (by kernel_rfl) (by kernel_rfl) (by kernel_rfl) (by kernel_rfl) (by kernel_rfl) (fun _ _ _ h => h) (by rfl) (fun wk hk => by obtain ⟨m0, m1, m2, m3, m6, m7⟩ := HC.out wk hk; have ml := HL.out.1 wk (grown_trans G2.out.1 hk); go_simp; try rfl) ?_
    try simp only [Act.put, List.setIfInBounds_toArray, List.set_cons_zero, List.set_cons_succ]
    refine wpHold_take (i := 13) (v := _) (G0.out) rfl rfl (by kernel_rfl) (by kernel_rfl) (by kernel_rfl) (by kernel_rfl) (by kernel_rfl) (fun _ _ _ h => h) (by rfl) (fun wk hk => by obtain ⟨m0, m1, m2, m3, m6, m7⟩ := HC.out wk hk; have ml := HL.out.1 wk (grown_trans G2.out.1 hk); go_simp; try rfl) ?_
    try simp only [Act.put, List.setIfInBounds_toArray, List.set_cons_zero, List.set_cons_succ]
    refine wpHold_take (i := 14) (v := _) (G0.out) rfl rfl (by kernel_rfl) (by kernel_rfl) (by kernel_rfl) (by kernel_rfl) (by kernel_rfl) (fun _ _ _ h => h) (by rfl) (fun wk hk => by obtain ⟨m0, m1, m2, m3, m6, m7⟩ := HC.out wk hk; have ml := HL.out.1 wk (grown_trans G2.out.1 hk); go_simp; try rfl) ?_
    try simp only [Act.put, List.setIfInBounds_toArray, List.set_cons_zero, List.set_cons_succ]
    refine wpHold_done (by kernel_rfl) ?_
    refine (‹∀ (a : Act) (w : World), Code.wp Tryz.prog _ _ a w → _› _ _ ?_)
    have hB := G2.out.2.1.grown G0.out (by simp)
    have HB : Hid (Blk wd ob 72 #[.bool false, .slice none 0 0, .slice none 0 0]) := hB
    have f0 := hB.free 0
    have f1 := hB.free 1
    have f2 := hB.free 2
    have b0 := hB.cell 0
    have b1 := hB.cell 1
    have b2 := hB.cell 2
    simp at b0 b1 b2
    clear hB
    go_wp2_with fail
    refine bodyPost_ret (v := _) (results_cell_row rfl _ _ ob 72 _ (0, 0) _ rfl (((HB.out.store 0 (.bool false)).store 1 (.slice none 0 0)).store 2 (.slice none 0 0)) Tryz.underlying72 rfl (by kernel_rfl)) rfl ?_
    refine ⟨_, by rw [hasD, HL.out.2.1, has_nil, Bool.and_false]; rfl, ?_, ?_⟩
    · rw [gotD, HL.out.2.1, got_nil]
      exact World.ownsRow_nil _ _ _ _
    · exact grown_set3 (grown_trans G2.out.1 G0.out) (by have := G2.out.2.2; omega)
set_option maxRecDepth 100000 in
set_option maxHeartbeats 4000000 in
theorem scan122 {X : Nat → Prop} (b : Nat) (q : Int × Int) (D : DB) (hD : GoodD D) (kv vv ol tv : Value) (o : POp) (w : World) (h : Eng X w b q D) (ho : OpSeg w kv vv ol tv o) : Calls Tryz.prog 122 #[.pointer (some ⟨b, 0, none⟩), opV kv vv ol tv o] w fun e w' => ∃ y, e = .returned (.agg #[.bool false, .slice none 0 0, y]) ∧ TRws w' w.heap.size y (scanL (rowsOf D o.table) o.key o.to o.most) ∧ w.grownBy w' none := by
  obtain ⟨m, hb, hm⟩ := h
  obtain ⟨T, hT⟩ : ∃ T, o.table = T := ⟨_, rfl⟩
  have HO : Hid (OpSeg w kv vv ol tv o ∧ o.table = T) := ⟨ho, hT⟩
  obtain ⟨a1, n1, c1, a2, n2, c2, a3, n3, c3, a4, n4, c4, rfl, rfl, rfl, rfl⟩ := op_shape ho
  have HG : Hid (GoodD D) := hD
  have HM : Hid (EngB w b q m ∧ EM X w m D) := ⟨hb, hm⟩
  unfold opV
  rw [hT]
  clear ho hT hD hb hm
  go_enter Tryz.func122, Tryz.ntmps122
  go_wp2_with fail
  obtain ⟨w1, hw1, H1⟩ := al w #[.int .i64 o.kind, Str T, .slice a1 n1 c1, .slice a2 n2 c2, .bool o.has, .slice a3 n3 c3, .slice a4 n4 c4, .int .i64 o.most] 67
  rw [hw1]
  clear hw1
  obtain ⟨w2, hw2, H2⟩ := al w1 #[.bool false, .slice none 0 0, .slice none 0 0] 72
  rw [hw2]
  clear hw2
  obtain ⟨ob, hob⟩ : ∃ ob, w1.heap.size = ob := ⟨_, rfl⟩
  have hsz : w1.heap.size = w.heap.size + 1 := H1.out.2.2
  have hob2 : w.heap.size + 1 = ob := by omega
  have G2 : Hid (w.grownBy w2 none ∧ Blk w2 ob 72 #[.bool false, .slice none 0 0, .slice none 0 0] ∧ w.heap.size < ob) := ⟨grown_trans H1.out.2.1 H2.out.2.1, by rw [← hob]; exact H2.out.1, by omega⟩
  have hem := em_at HM.out.2 T
  have HC : Hid (∀ y, w2.grownBy y none → y.cell? ⟨b, 2, none⟩ = some (.map (some m)) ∧ y.cell? ⟨w.heap.size, 1, none⟩ = some (Str T) ∧ y.cell? ⟨w.heap.size, 2, none⟩ = some (.slice a1 n1 c1) ∧ y.cell? ⟨w.heap.size, 3, none⟩ = some (.slice a2 n2 c2) ∧ y.cell? ⟨w.heap.size, 6, none⟩ = some (.slice a4 n4 c4) ∧ y.cell? ⟨w.heap.size, 7, none⟩ = some (.int .i64 o.most)) := fun y hy => by
    have h1 := Blk.grown HM.out.1 (grown_trans G2.out.1 hy) (by simp)
    have h2 := (H1.out.1.grown H2.out.2.1 (by simp)).grown hy (by simp)
    exact ⟨h1.cell 2, h2.cell 1, h2.cell 2, h2.cell 3, h2.cell 6, h2.cell 7⟩
  try rw [hob]
  try rw [hob2]
  clear hob hob2 hsz
  rcases hem with ⟨p, hl, htb, hin⟩ | ⟨hl, hrn, hin⟩
  · have HL : Hid ((∀ y, w.grownBy y none → (Instr.lookup 62 (.map (some m)) (Str T) false).run Tryz.prog y = .ok (.pointer (some ⟨p, 0, none⟩)) y) ∧ Tbz X w p (rowsOf D T) ∧ T ∈ namesD D) := ⟨hl, htb, hin⟩
    clear hl htb hin
    refine wp_region_noPanic ?_
    refine wp_region_hold 15 (fun y => w2.grownBy y none) (by kernel_rfl) ?_
    have G0 : Hid (w2.grownBy w2.drew none) := grown_drew _ _
    generalize w2.drew = wd at G0 ⊢
    refine wpHold_take (i := 0) (v := _) (G0.out) rfl rfl (by kernel_rfl) (by kernel_rfl) (by kernel_rfl) (by kernel_rfl) (by kernel_rfl) (fun _ _ _ h => h) (by rfl) (fun wk hk => by obtain ⟨m0, m1, m2, m3, m6, m7⟩ := HC.out wk hk; have ml := HL.out.1 wk (grown_trans G2.out.1 hk); go_simp; try rfl) ?_
    try simp only [Act.put, List.setIfInBounds_toArray, List.set_cons_zero, List.set_cons_succ]
    refine wpHold_take (i := 1) (v := _) (G0.out) rfl rfl (by kernel_rfl) (by kernel_rfl) (by kernel_rfl) (by kernel_rfl) (by kernel_rfl) (fun _ _ _ h => h) (by rfl) (fun wk hk => by obtain ⟨m0, m1, m2, m3, m6, m7⟩ := HC.out wk hk; have ml := HL.out.1 wk (grown_trans G2.out.1 hk); go_simp; try rfl) ?_
    try simp only [Act.put, List.setIfInBounds_toArray, List.set_cons_zero, List.set_cons_succ]
    refine wpHold_take (i := 2) (v := _) (G0.out) rfl rfl (by kernel_rfl) (by kernel_rfl) (by kernel_rfl) (by kernel_rfl) (by kernel_rfl) (fun _ _ _ h => h) (by rfl) (fun wk hk => by obtain ⟨m0, m1, m2, m3, m6, m7⟩ := HC.out wk hk; have ml := HL.out.1 wk (grown_trans G2.out.1 hk); go_simp; try rfl) ?_
    try simp only [Act.put, List.setIfInBounds_toArray, List.set_cons_zero, List.set_cons_succ]
    refine wpHold_take (i := 3) (v := _) (G0.out) rfl rfl (by kernel_rfl) (by kernel_rfl) (by kernel_rfl) (by kernel_rfl) (by kernel_rfl) (fun _ _ _ h => h) (by rfl) (fun wk hk => by obtain ⟨m0, m1, m2, m3, m6, m7⟩ := HC.out wk hk; have ml := HL.out.1 wk (grown_trans G2.out.1 hk); go_simp; try rfl) ?_
    try simp only [Act.put, List.setIfInBounds_toArray, List.set_cons_zero, List.set_cons_succ]
    refine wpHold_take (i := 4) (v := _) (G0.out) rfl rfl (by kernel_rfl) (by kernel_rfl) (by kernel_rfl) (by kernel_rfl) (by kernel_rfl) (fun _ _ _ h => h) (by rfl) (fun wk hk => by obtain ⟨m0, m1, m2, m3, m6, m7⟩ := HC.out wk hk; have ml := HL.out.1 wk (grown_trans G2.out.1 hk); go_simp; try rfl) ?_
    try simp only [Act.put, List.setIfInBounds_toArray, List.set_cons_zero, List.set_cons_succ]
    refine wpHold_take (i := 5) (v := _) (G0.out) rfl rfl (by kernel_rfl) (by kernel_rfl) (by kernel_rfl) (by kernel_rfl) (by kernel_rfl) (fun _ _ _ h => h) (by rfl) (fun wk hk => by obtain ⟨m0, m1, m2, m3, m6, m7⟩ := HC.out wk hk; have ml := HL.out.1 wk (grown_trans G2.out.1 hk); go_simp; try rfl) ?_
    try simp only [Act.put, List.setIfInBounds_toArray, List.set_cons_zero, List.set_cons_succ]
    refine wpHold_take (i := 6) (v := _) (G0.out) rfl rfl (by kernel_rfl) (by kernel_rfl) (by kernel_rfl) (by kernel_rfl) (by kernel_rfl) (fun _ _ _ h => h) (by rfl) (fun wk hk => by obtain ⟨m0, m1, m2, m3, m6, m7⟩ := HC.out wk hk; have ml := HL.out.1 wk (grown_trans G2.out.1 hk); go_simp; try rfl) ?_
    try simp only [Act.put, List.setIfInBounds_toArray, List.set_cons_zero, List.set_cons_succ]
    refine wpHold_take (i := 7) (v := _) (G0.out) rfl rfl (by kernel_rfl) (by kernel_rfl) (by kernel_rfl) (by kernel_rfl) (by kernel_rfl) (fun _ _ _ h => h) (by rfl) (fun wk hk => by obtain ⟨m0, m1, m2, m3, m6, m7⟩ := HC.out wk hk; have ml := HL.out.1 wk (grown_trans G2.out.1 hk); go_simp; try rfl) ?_
    try simp only [Act.put, List.setIfInBounds_toArray, List.set_cons_zero, List.set_cons_succ]
    refine wpHold_take (i := 8) (v := _) (G0.out) rfl rfl (by kernel_rfl) (by kernel_rfl) (by kernel_rfl) (by kernel_rfl) (by kernel_rfl) (fun _ _ _ h => h) (by rfl) (fun wk hk => by obtain ⟨m0, m1, m2, m3, m6, m7⟩ := HC.out wk hk; have ml := HL.out.1 wk (grown_trans G2.out.1 hk); go_simp; try rfl) ?_
    try simp only [Act.put, List.setIfInBounds_toArray, List.set_cons_zero, List.set_cons_succ]
    refine wpHold_take (i := 9) (v := _) (G0.out) rfl rfl (by kernel_rfl) (by kernel_rfl) (by kernel_rfl) (by kernel_rfl) (by kernel_rfl) (fun _ _ _ h => h) (by rfl) (fun wk hk => by obtain ⟨m0, m1, m2, m3, m6, m7⟩ := HC.out wk hk; have ml := HL.out.1 wk (grown_trans G2.out.1 hk); go_simp; try rfl) ?_
    try simp only [Act.put, List.setIfInBounds_toArray, List.set_cons_zero, List.set_cons_succ]
    refine wpHold_take (i := 10) (v := _) (G0.out) rfl rfl (by kernel_rfl) (by kernel_rfl) (by kernel_rfl) (by kernel_rfl) (by kernel_rfl) (fun _ _ _ h => h) (by rfl) (fun wk hk => by obtain ⟨m0, m1, m2, m3, m6, m7⟩ := HC.out wk hk; have ml := HL.out.1 wk (grown_trans G2.out.1 hk); go_simp; try rfl) ?_
    try simp only [Act.put, List.setIfInBounds_toArray, List.set_cons_zero, List.set_cons_succ]
    refine wpHold_take (i := 11) (v := _) (G0.out) rfl rfl (by kernel_rfl) (by kernel_rfl) (by kernel_rfl) (by kernel_rfl) (by kernel_rfl) (fun _ _ _ h => h) (by rfl) (fun wk hk => by obtain ⟨m0, m1, m2, m3, m6, m7⟩ := HC.out wk hk; have ml := HL.out.1 wk (grown_trans G2.out.1 hk); go_simp; try rfl) ?_
    try simp only [Act.put, List.setIfInBounds_toArray, List.set_cons_zero, List.set_cons_succ]
    refine wpHold_take (i := 12) (v := _) (G0.out) rfl rfl (by kernel_rfl) (by kernel_rfl) (by kernel_rfl) (by kernel_rfl) (by kernel_rfl) (fun _ _ _ h => h) (by rfl) (fun wk hk => by obtain ⟨m0, m1, m2, m3, m6, m7⟩ := HC.out wk hk; have ml := HL.out.1 wk (grown_trans G2.out.1 hk); go_simp; try rfl) ?_
    try simp only [Act.put, List.setIfInBounds_toArray, List.set_cons_zero, List.set_cons_succ]
    refine wpHold_one (i := 13) rfl (by kernel_rfl) (by rfl) (fun K hK => ?_)
    go_wp2_with (go_at_call 149; refine (scan24 _ true _ _ o.most (rowsOf D T) o.key o.to (good_any HG.out T) wd ((HL.out.2.1.grown (grown_trans G2.out.1 G0.out)).old.tl) (HO.out.1.key.grown (grown_trans G2.out.1 G0.out)) (HO.out.1.to.grown (grown_trans G2.out.1 G0.out))).mono ?_)
    rintro e w3 ⟨y, rfl, hy, g3⟩
    obtain ⟨ay, ny, cy, ey, _, _, _, _⟩ := rws_open hy.rws
    subst ey
    have H3 : Hid (TRws w3 w.heap.size (.slice ay ny cy) (scanL (rowsOf D T) o.key o.to o.most) ∧ w2.grownBy w3 none) := ⟨hy.mono (Nat.le_trans G2.out.1.size G0.out.size), grown_trans G0.out g3⟩
    clear hy g3
    go_wp2_with fail
    refine hK.out _ _ (fun _ => H3.out.2) ?_
    clear hK K
    try simp only [Act.put, List.setIfInBounds_toArray, List.set_cons_zero, List.set_cons_succ]
    refine wpHold_take (i := 14) (v := _) (H3.out.2) rfl rfl (by kernel_rfl) (by kernel_rfl) (by kernel_rfl) (by kernel_rfl) (by kernel_rfl) (fun _ _ _ h => h) (by rfl) (fun wk hk => by obtain ⟨m0, m1, m2, m3, m6, m7⟩ := HC.out wk hk; have ml := HL.out.1 wk (grown_trans G2.out.1 hk); go_simp; try rfl) ?_
    try simp only [Act.put, List.setIfInBounds_toArray, List.set_cons_zero, List.set_cons_succ]
    refine wpHold_one (i := 15) rfl (by kernel_rfl) (by rfl) (fun K hK => ?_)
    have hB := G2.out.2.1.grown H3.out.2 (by simp)
    have HB : Hid (Blk w3 ob 72 #[.bool false, .slice none 0 0, .slice none 0 0]) := hB
    have f0 := hB.free 0
    have f1 := hB.free 1
    have f2 := hB.free 2
    have b0 := hB.cell 0
    have b1 := hB.cell 1
    have b2 := hB.cell 2
    simp at b0 b1 b2
    clear hB
    go_wp2_with fail
    refine hK.out _ _ (fun h => absurd rfl h) ?_
    clear hK K
    try simp only [Act.put, List.setIfInBounds_toArray, List.set_cons_zero, List.set_cons_succ]
    refine wpHold_done (by kernel_rfl) ?_
    refine (‹∀ (a : Act) (w : World), Code.wp Tryz.prog _ _ a w → _› _ _ ?_)
    go_wp2_with fail
    refine bodyPost_ret (v := _) (results_cell_row rfl _ _ ob 72 _ (0, 0) _ rfl (((HB.out.store 0 (.bool false)).store 1 (.slice none 0 0)).store 2 (.slice ay ny cy)) Tryz.underlying72 rfl (by kernel_rfl)) rfl ?_
    refine ⟨_, rfl, ?_, ?_⟩
    · exact trws_set3 H3.out.1 HB.out (by decide) (by decide)
    · exact grown_set3 (grown_trans G2.out.1 H3.out.2) (by have := G2.out.2.2; omega)
  · have HL : Hid ((∀ y, w.grownBy y none → (Instr.lookup 62 (.map (some m)) (Str T) false).run Tryz.prog y = .ok (.pointer none) y) ∧ rowsOf D T = [] ∧ T ∉ namesD D) := ⟨hl, hrn, hin⟩
    clear hl hrn hin
    refine wp_region_noPanic ?_
    refine wp_region_hold 15 (fun y => w2.grownBy y none) (by kernel_rfl) ?_
    have G0 : Hid (w2.grownBy w2.drew none) := grown_drew _ _
    generalize w2.drew = wd at G0 ⊢
    refine wpHold_take (i := 0) (v := _) (G0.out) rfl rfl (by kernel_rfl) (by kernel_rfl) (by kernel_rfl) (by kernel_rfl) (by kernel_rfl) (fun _ _ _ h => h) (by rfl) (fun wk hk => by obtain ⟨m0, m1, m2, m3, m6, m7⟩ := HC.out wk hk; have ml := HL.out.1 wk (grown_trans G2.out.1 hk); go_simp; try rfl) ?_
    try simp only [Act.put, List.setIfInBounds_toArray, List.set_cons_zero, List.set_cons_succ]
    refine wpHold_take (i := 1) (v := _) (G0.out) rfl rfl (by kernel_rfl) (by kernel_rfl) (by kernel_rfl) (by kernel_rfl) (by kernel_rfl) (fun _ _ _ h => h) (by rfl) (fun wk hk => by obtain ⟨m0, m1, m2, m3, m6, m7⟩ := HC.out wk hk; have ml := HL.out.1 wk (grown_trans G2.out.1 hk); go_simp; try rfl) ?_
    try simp only [Act.put, List.setIfInBounds_toArray, List.set_cons_zero, List.set_cons_succ]
    refine wpHold_take (i := 2) (v := _) (G0.out) rfl rfl (by kernel_rfl) (by kernel_rfl) (by kernel_rfl) (by kernel_rfl) (by kernel_rfl) (fun _ _ _ h => h) (by rfl) (fun wk hk => by obtain ⟨m0, m1, m2, m3, m6, m7⟩ := HC.out wk hk; have ml := HL.out.1 wk (grown_trans G2.out.1 hk); go_simp; try rfl) ?_
    try simp only [Act.put, List.setIfInBounds_toArray, List.set_cons_zero, List.set_cons_succ]
    refine wpHold_take (i := 3) (v := _) (G0.out) rfl rfl (by kernel_rfl) (by kernel_rfl) (by kernel_rfl) (by kernel_rfl) (by kernel_rfl) (fun _ _ _ h => h) (by rfl) (fun wk hk => by obtain ⟨m0, m1, m2, m3, m6, m7⟩ := HC.out wk hk; have ml := HL.out.1 wk (grown_trans G2.out.1 hk); go_simp; try rfl) ?_
    try simp only [Act.put, List.setIfInBounds_toArray, List.set_cons_zero, List.set_cons_succ]
    refine wpHold_take (i := 4) (v := _) (G0.out) rfl rfl (by kernel_rfl) (by kernel_rfl) (by kernel_rfl) (by kernel_rfl) (by kernel_rfl) (fun _ _ _ h => h) (by rfl) (fun wk hk => by obtain ⟨m0, m1, m2, m3, m6, m7⟩ := HC.out wk hk; have ml := HL.out.1 wk (grown_trans G2.out.1 hk); go_simp; try rfl) ?_
    try simp only [Act.put, List.setIfInBounds_toArray, List.set_cons_zero, List.set_cons_succ]
    refine wpHold_take (i := 5) (v := _) (G0.out) rfl rfl (by kernel_rfl) (by kernel_rfl) (by kernel_rfl) (by kernel_rfl) (by kernel_rfl) (fun _ _ _ h => h) (by rfl) (fun wk hk => by obtain ⟨m0, m1, m2, m3, m6, m7⟩ := HC.out wk hk; have ml := HL.out.1 wk (grown_trans G2.out.1 hk); go_simp; try rfl) ?_
    try simp only [Act.put, List.setIfInBounds_toArray, List.set_cons_zero, List.set_cons_succ]
    refine wpHold_take (i := 6) (v := _) (G0.out) rfl rfl (by kernel_rfl) (by kernel_rfl) (by kernel_rfl) (by kernel_rfl) (by kernel_rfl) (fun _ _ _ h => h) (by rfl) (fun wk hk => by obtain ⟨m0, m1, m2, m3, m6, m7⟩ := HC.out wk hk; have ml := HL.out.1 wk (grown_trans G2.out.1 hk); go_simp; try rfl) ?_
    try simp only [Act.put, List.setIfInBounds_toArray, List.set_cons_zero, List.set_cons_succ]
    refine wpHold_take (i := 7) (v := _) (G0.out) rfl rfl (by kernel_rfl) (by kernel_rfl) (by kernel_rfl) (by kernel_rfl) (by kernel_rfl) (fun _ _ _ h => h) (by rfl) (fun wk hk => by obtain ⟨m0, m1, m2, m3, m6, m7⟩ := HC.out wk hk; have ml := HL.out.1 wk (grown_trans G2.out.1 hk); go_simp; try rfl) ?_
    try simp only [Act.put, List.setIfInBounds_toArray, List.set_cons_zero, List.set_cons_succ]
    refine wpHold_take (i := 8) (v := _) (G0.out) rfl rfl (by kernel_rfl) (by kernel_rfl) (by kernel_rfl) (by kernel_rfl) (by kernel_rfl) (fun _ _ _ h => h) (by rfl) (fun wk hk => by obtain ⟨m0, m1, m2, m3, m6, m7⟩ := HC.out wk hk; have ml := HL.out.1 wk (grown_trans G2.out.1 hk); go_simp; try rfl) ?_
    try simp only [Act.put, List.setIfInBounds_toArray, List.set_cons_zero, List.set_cons_succ]
    refine wpHold_take (i := 9) (v := _) (G0.out) rfl rfl (by kernel_rfl) (by kernel_rfl) (by kernel_rfl) (by kernel_rfl) (by kernel_rfl) (fun _ _ _ h => h) (by rfl) (fun wk hk => by obtain ⟨m0, m1, m2, m3, m6, m7⟩ := HC.out wk hk; have ml := HL.out.1 wk (grown_trans G2.out.1 hk); go_simp; try rfl) ?_
    try simp only [Act.put, List.setIfInBounds_toArray, List.set_cons_zero, List.set_cons_succ]
    refine wpHold_take (i := 10) (v := _) (G0.out) rfl rfl (by kernel_rfl) (by kernel_rfl) (by kernel_rfl) (by kernel_rfl) (by kernel_rfl) (fun _ _ _ h => h) (by rfl) (fun wk hk => by obtain ⟨m0, m1, m2, m3, m6, m7⟩ := HC.out wk hk; have ml := HL.out.1 wk (grown_trans G2.out.1 hk); go_simp; try rfl) ?_
    try simp only [Act.put, List.setIfInBounds_toArray, List.set_cons_zero, List.set_cons_succ]
    refine wpHold_take (i := 11) (v := _) (G0.out) rfl rfl (by kernel_rfl) (by kernel_rfl) (by kernel_rfl) (by kernel_rfl) (by kernel_rfl) (fun _ _ _ h => h) (by rfl) (fun wk hk => by obtain ⟨m0, m1, m2, m3, m6, m7⟩ := HC.out wk hk; have ml := HL.out.1 wk (grown_trans G2.out.1 hk); go_simp; try rfl) ?_
    try simp only [Act.put, List.setIfInBounds_toArray, List.set_cons_zero, List.set_cons_succ]
    refine wpHold_take (i := 12) (v := _) (G0.out) rfl rfl (by kernel_rfl) (by kernel_rfl) (by kernel_rfl) (by kernel_rfl) (by kernel_rfl) (fun _ _ _ h => h) (by rfl) (fun wk hk => by obtain ⟨m0, m1, m2, m3, m6, m7⟩ := HC.out wk hk; have ml := HL.out.1 wk (grown_trans G2.out.1 hk); go_simp; try rfl) ?_
    try simp only [Act.put, List.setIfInBounds_toArray, List.set_cons_zero, List.set_cons_succ]
    refine wpHold_one (i := 13) rfl (by kernel_rfl) (by rfl) (fun K hK => ?_)
    go_wp2_with (go_at_call 149; refine (scan24 _ false _ _ o.most (rowsOf D T) o.key o.to (good_any HG.out T) wd (by rw [HL.out.2.1]; exact NoTb.tl (.inl rfl)) (HO.out.1.key.grown (grown_trans G2.out.1 G0.out)) (HO.out.1.to.grown (grown_trans G2.out.1 G0.out))).mono ?_)
    rintro e w3 ⟨y, rfl, hy, g3⟩
    obtain ⟨ay, ny, cy, ey, _, _, _, _⟩ := rws_open hy.rws
    subst ey
    have H3 : Hid (TRws w3 w.heap.size (.slice ay ny cy) (scanL (rowsOf D T) o.key o.to o.most) ∧ w2.grownBy w3 none) := ⟨hy.mono (Nat.le_trans G2.out.1.size G0.out.size), grown_trans G0.out g3⟩
    clear hy g3
    go_wp2_with fail
    refine hK.out _ _ (fun _ => H3.out.2) ?_
    clear hK K
    try simp only [Act.put, List.setIfInBounds_toArray, List.set_cons_zero, List.set_cons_succ]
    refine wpHold_take (i := 14) (v := _) (H3.out.2) rfl rfl (by kernel_rfl) (by kernel_rfl) (by kernel_rfl) (by kernel_rfl) (by kernel_rfl) (fun _ _ _ h => h) (by rfl) (fun wk hk => by obtain ⟨m0, m1, m2, m3, m6, m7⟩ := HC.out wk hk; have ml := HL.out.1 wk (grown_trans G2.out.1 hk); go_simp; try rfl) ?_
    try simp only [Act.put, List.setIfInBounds_toArray, List.set_cons_zero, List.set_cons_succ]
    refine wpHold_one (i := 15) rfl (by kernel_rfl) (by rfl) (fun K hK => ?_)
    have hB := G2.out.2.1.grown H3.out.2 (by simp)
    have HB : Hid (Blk w3 ob 72 #[.bool false, .slice none 0 0, .slice none 0 0]) := hB
    have f0 := hB.free 0
    have f1 := hB.free 1
    have f2 := hB.free 2
    have b0 := hB.cell 0
    have b1 := hB.cell 1
    have b2 := hB.cell 2
    simp at b0 b1 b2
    clear hB
    go_wp2_with fail
    refine hK.out _ _ (fun h => absurd rfl h) ?_
    clear hK K
    try simp only [Act.put, List.setIfInBounds_toArray, List.set_cons_zero, List.set_cons_succ]
    refine wpHold_done (by kernel_rfl) ?_
    refine (‹∀ (a : Act) (w : World), Code.wp Tryz.prog _ _ a w → _› _ _ ?_)
    go_wp2_with fail
    refine bodyPost_ret (v := _) (results_cell_row rfl _ _ ob 72 _ (0, 0) _ rfl (((HB.out.store 0 (.bool false)).store 1 (.slice none 0 0)).store 2 (.slice ay ny cy)) Tryz.underlying72 rfl (by kernel_rfl)) rfl ?_
    refine ⟨_, rfl, ?_, ?_⟩
    · exact trws_set3 H3.out.1 HB.out (by decide) (by decide)
    · exact grown_set3 (grown_trans G2.out.1 H3.out.2) (by have := G2.out.2.2; omega)
end Go.Proofs.YtakmlhhapegpoaaGreat
