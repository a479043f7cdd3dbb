/-
  CallsBack's walk.
-/
import Derived.Test.YtfocmbnhkldnfaaGreatDoorCw
import Derived.Test.YtfocmbnhkldnfaaGreatDoorBp
import Derived.Test.YtfocmbnhkldnfaaGreatDoorKn
import Derived.Deep.DeepCutAuto
namespace Go.Proofs.YtfocmbnhkldnfaaGreatDoor
open Go.RowKit Disk
open Names (Str)

theorem bytes13_ok (v : Value) (l : List POp) (w : World) (hv : Ops w v l) (h : chk l = 0) : Calls Tryz.prog 13 #[.agg #[v]] w fun e w' => ∃ u, e = .returned (.tuple #[u, .int .i64 0]) ∧ Own w' w.heap.size u (callForm l) ∧ w.grownBy w' none := by
  have := bytes13 v l w hv
  unfold BytesPost at this
  rwa [h, if_pos rfl] at this
theorem text14_ok (v : Value) (l : List POp) (w : World) (hv : Ops w v l) (hk : KW w) (h : chk l = 0) : Calls Tryz.prog 14 #[.agg #[v]] w fun e w' => e = .returned (.tuple #[Str (callTxt l), .int .i64 0]) ∧ w.grownBy w' none := by
  have := text14 v l w hv hk
  unfold TextPost at this
  rwa [h, if_pos rfl] at this
theorem read22_of (v : Value) (L : Bs) (w : World) (hz : L.length ≤ 5000) (hs : Seg w v L) (l : List POp) (c : Int) (h : readC L = (l, c)) : Calls Tryz.prog 22 #[v] w fun e w' => ∃ ao n ca, e = .returned (.tuple #[.agg #[.slice ao n ca], .int .i64 c]) ∧ Ops w' (.slice ao n ca) l ∧ w.grownBy w' none := by
  have := read22 v L w (by omega) hs
  rw [h] at this
  refine this.mono fun e w' => ?_
  rintro ⟨u, he, ho, hg⟩
  obtain ⟨x, k, y, rfl, _⟩ := ho.slice
  exact ⟨x, k, y, he, ho.ops, hg⟩
theorem parse25_of (s : Bs) (w : World) (hz : s.length ≤ 20000) (hE : EnvF w) (l : List POp) (c : Int) (h : parseC s = (l, c)) : Calls Tryz.prog 25 #[.string ⟨s.toArray⟩] w fun e w' => ∃ ao n ca, e = .returned (.tuple #[.agg #[.slice ao n ca], .int .i64 c]) ∧ Ops w' (.slice ao n ca) l ∧ w.grownBy w' none := by
  have := parse25 s w hz hE
  rw [h] at this
  refine this.mono fun e w' => ?_
  rintro ⟨u, he, ho, hg⟩
  obtain ⟨x, k, y, rfl, _⟩ := ho.slice
  exact ⟨x, k, y, he, ho.ops, hg⟩
theorem same34_self (a b : Value) (A : List POp) (w : World) (ha : Ops w a A) (hb : Ops w b A) : Calls Tryz.prog 34 #[.agg #[a], .agg #[b]] w fun e w' => e = .returned (.bool true) ∧ w.grownBy w' none := by simpa using same34 a b A A w ha hb
set_option maxRecDepth 100000 in
set_option maxHeartbeats 16000000 in
theorem back8 (a b : Value) (A B : List POp) (w : World) (ha : Ops w a A) (hb : Ops w b B) (hE : EnvF w) :
    Calls Tryz.prog 8 #[.agg #[a], .agg #[b]] w fun e w' => e = .returned (.bool true) ∧ w.grownBy w' none := by
  obtain ⟨ao, n, ca, rfl, _, _, HA⟩ := ops_open ha
  obtain ⟨bo, m, cb, rfl, _, _, HB⟩ := ops_open hb
  have HE : Hid (EnvF w) := hE
  clear ha hb hE
  go_enter Tryz.func8, Tryz.ntmps8
  go_upto_region 1 with fail
  have S0 : Hid (Blk ((w.alloc (.cells #[.slice ao n ca] 24)).alloc (.cells #[.slice bo m cb] 24)) w.heap.size 24 #[.slice ao n ca] ∧ Blk ((w.alloc (.cells #[.slice ao n ca] 24)).alloc (.cells #[.slice bo m cb] 24)) (w.heap.size + 1) 24 #[.slice bo m cb] ∧ w.grownBy ((w.alloc (.cells #[.slice ao n ca] 24)).alloc (.cells #[.slice bo m cb] 24)) none) := by
    have g0 := World.grownBy_alloc w (.cells #[.slice ao n ca] 24) none
    have g1 := World.grownBy_alloc (w.alloc (.cells #[.slice ao n ca] 24)) (.cells #[.slice bo m cb] 24) none
    have b1 := heap_alloc_new (w.alloc (.cells #[.slice ao n ca] 24)) (.cells #[.slice bo m cb] 24)
    refine ⟨Blk.grown (heap_alloc_new w _) g1 (by simp), ?_, grown_trans g0 g1⟩
    simpa [Blk] using b1
  generalize ((w.alloc (.cells #[.slice ao n ca] 24)).alloc (.cells #[.slice bo m cb] 24)) = W0 at S0 ⊢
  go_wp2_with (go_at_call 10; refine (known10 _ (HE.out.grown S0.out.2.2)).mono ?_)
  rintro e w1 ⟨rfl, hg1⟩
  have S1 : Hid (Blk w1 w.heap.size 24 #[.slice ao n ca] ∧ Blk w1 (w.heap.size + 1) 24 #[.slice bo m cb] ∧ w.grownBy w1 none) := ⟨S0.out.1.grown hg1 (by simp), S0.out.2.1.grown hg1 (by simp), grown_trans S0.out.2.2 hg1⟩
  clear hg1 S0
  go_wp2_with fail
  have HC : Hid (∀ x : World, w1.grownBy x none → x.cell? ⟨w.heap.size, 0, none⟩ = some (.slice ao n ca) ∧ x.cell? ⟨w.heap.size + 1, 0, none⟩ = some (.slice bo m cb)) := fun x hx => ⟨(S1.out.1.grown hx (by simp)).cell 0, (S1.out.2.1.grown hx (by simp)).cell 0⟩
  refine wp_region_noPanic ?_
  refine wp_region_hold 1000 (fun x => w1.grownBy x none) (by kernel_rfl) ?_
  have G0 : Hid (w1.grownBy w1.drew none) := grown_drew _ _
  generalize w1.drew = w2 at G0 ⊢
  by_cases s1 : smallB A = true
  case neg =>
    have HS1 : Hid (smallB A = false) := by unfold Hid; simpa using s1
    clear s1
    refine wpHold_take (i := 0) (v := _) (G0.out) rfl rfl (by kernel_rfl) (by kernel_rfl) (by kernel_rfl) (by kernel_rfl) (by kernel_rfl) (fun _ _ _ h => h) (by rfl) (fun wk hk => by obtain ⟨m0, m1⟩ := HC.out wk hk; go_simp; try rfl) ?_
    try simp only [Act.put, List.setIfInBounds_toArray, List.set_cons_zero, List.set_cons_succ]
    refine wpHold_one (i := 1) rfl (by kernel_rfl) (by rfl) (fun K hK => ?_)
    go_wp2_with (go_at_call 9; refine (small9e _ A _ (HA.out.grown (grown_trans S1.out.2.2 G0.out))).mono ?_)
    rintro e w3 ⟨rfl, hg⟩
    rw [HS1.out]
    have G1 : Hid (w1.grownBy w3 none) := grown_trans G0.out hg
    clear hg
    go_wp2_with fail
    refine hK.out _ _ (fun _ => G1.out) ?_
    clear hK K
    try simp only [Act.put, List.setIfInBounds_toArray, List.set_cons_zero, List.set_cons_succ]
    refine wpHold_take (i := 2) (v := _) (G1.out) rfl rfl (by kernel_rfl) (by kernel_rfl) (by kernel_rfl) (by kernel_rfl) (by kernel_rfl) (fun _ _ _ h => h) (by rfl) (fun wk hk => by obtain ⟨m0, m1⟩ := HC.out wk hk; go_simp; try rfl) ?_
    try simp only [Act.put, List.setIfInBounds_toArray, List.set_cons_zero, List.set_cons_succ]
    refine wpHold_take (i := 3) (v := _) (G1.out) rfl rfl (by kernel_rfl) (by kernel_rfl) (by kernel_rfl) (by kernel_rfl) (by kernel_rfl) (fun _ _ _ h => h) (by rfl) (fun wk hk => by obtain ⟨m0, m1⟩ := HC.out wk hk; go_simp; try rfl) ?_
    try simp only [Act.put, List.setIfInBounds_toArray, List.set_cons_zero, List.set_cons_succ]
    refine wpHold_skip (i := 4) (G1.out) rfl rfl (by kernel_rfl) (by kernel_rfl) (by kernel_rfl) (by kernel_rfl) (by kernel_rfl) (fun _ _ _ h => h) (by rfl) ?_
    try simp only [Act.put, List.setIfInBounds_toArray, List.set_cons_zero, List.set_cons_succ]
    refine wpHold_skip (i := 5) (G1.out) rfl rfl (by kernel_rfl) (by kernel_rfl) (by kernel_rfl) (by kernel_rfl) (by kernel_rfl) (fun _ _ _ h => h) (by rfl) ?_
    try simp only [Act.put, List.setIfInBounds_toArray, List.set_cons_zero, List.set_cons_succ]
    refine wpHold_skip (i := 6) (G1.out) rfl rfl (by kernel_rfl) (by kernel_rfl) (by kernel_rfl) (by kernel_rfl) (by kernel_rfl) (fun _ _ _ h => h) (by rfl) ?_
    try simp only [Act.put, List.setIfInBounds_toArray, List.set_cons_zero, List.set_cons_succ]
    refine wpHold_take (i := 7) (v := _) (G1.out) rfl rfl (by kernel_rfl) (by kernel_rfl) (by kernel_rfl) (by kernel_rfl) (by kernel_rfl) (fun _ _ _ h => h) (by rfl) (fun wk hk => by obtain ⟨m0, m1⟩ := HC.out wk hk; go_simp; try rfl) ?_
    try simp only [Act.put, List.setIfInBounds_toArray, List.set_cons_zero, List.set_cons_succ]
    refine wpHold_take (i := 8) (v := _) (G1.out) rfl rfl (by kernel_rfl) (by kernel_rfl) (by kernel_rfl) (by kernel_rfl) (by kernel_rfl) (fun _ _ _ h => h) (by rfl) (fun wk hk => by obtain ⟨m0, m1⟩ := HC.out wk hk; go_simp; try rfl) ?_
    try simp only [Act.put, List.setIfInBounds_toArray, List.set_cons_zero, List.set_cons_succ]
    refine wpHold_skip (i := 9) (G1.out) rfl rfl (by kernel_rfl) (by kernel_rfl) (by kernel_rfl) (by kernel_rfl) (by kernel_rfl) (fun _ _ _ h => h) (by rfl) ?_
    try simp only [Act.put, List.setIfInBounds_toArray, List.set_cons_zero, List.set_cons_succ]
    refine wpHold_skip (i := 10) (G1.out) rfl rfl (by kernel_rfl) (by kernel_rfl) (by kernel_rfl) (by kernel_rfl) (by kernel_rfl) (fun _ _ _ h => h) (by rfl) ?_
    try simp only [Act.put, List.setIfInBounds_toArray, List.set_cons_zero, List.set_cons_succ]
    refine wpHold_skip (i := 11) (G1.out) rfl rfl (by kernel_rfl) (by kernel_rfl) (by kernel_rfl) (by kernel_rfl) (by kernel_rfl) (fun _ _ _ h => h) (by rfl) ?_
    try simp only [Act.put, List.setIfInBounds_toArray, List.set_cons_zero, List.set_cons_succ]
    refine wpHold_skip (i := 12) (G1.out) rfl rfl (by kernel_rfl) (by kernel_rfl) (by kernel_rfl) (by kernel_rfl) (by kernel_rfl) (fun _ _ _ h => h) (by rfl) ?_
    try simp only [Act.put, List.setIfInBounds_toArray, List.set_cons_zero, List.set_cons_succ]
    refine wpHold_skip (i := 13) (G1.out) rfl rfl (by kernel_rfl) (by kernel_rfl) (by kernel_rfl) (by kernel_rfl) (by kernel_rfl) (fun _ _ _ h => h) (by rfl) ?_
    try simp only [Act.put, List.setIfInBounds_toArray, List.set_cons_zero, List.set_cons_succ]
    refine wpHold_skip (i := 14) (G1.out) rfl rfl (by kernel_rfl) (by kernel_rfl) (by kernel_rfl) (by kernel_rfl) (by kernel_rfl) (fun _ _ _ h => h) (by rfl) ?_
    try simp only [Act.put, List.setIfInBounds_toArray, List.set_cons_zero, List.set_cons_succ]
    refine wpHold_skip (i := 15) (G1.out) rfl rfl (by kernel_rfl) (by kernel_rfl) (by kernel_rfl) (by kernel_rfl) (by kernel_rfl) (fun _ _ _ h => h) (by rfl) ?_
    try simp only [Act.put, List.setIfInBounds_toArray, List.set_cons_zero, List.set_cons_succ]
    refine wpHold_skip (i := 16) (G1.out) rfl rfl (by kernel_rfl) (by kernel_rfl) (by kernel_rfl) (by kernel_rfl) (by kernel_rfl) (fun _ _ _ h => h) (by rfl) ?_
    try simp only [Act.put, List.setIfInBounds_toArray, List.set_cons_zero, List.set_cons_succ]
    refine wpHold_take (i := 17) (v := _) (G1.out) rfl rfl (by kernel_rfl) (by kernel_rfl) (by kernel_rfl) (by kernel_rfl) (by kernel_rfl) (fun _ _ _ h => h) (by rfl) (fun wk hk => by obtain ⟨m0, m1⟩ := HC.out wk hk; go_simp; try rfl) ?_
    try simp only [Act.put, List.setIfInBounds_toArray, List.set_cons_zero, List.set_cons_succ]
    refine wpHold_done (by kernel_rfl) ?_
    refine (‹∀ (a : Act) (w : World), Code.wp Tryz.prog _ _ a w → _› _ _ ?_)
    go_wp2_with fail
    go_ret
    exact ⟨rfl, grown_trans S1.out.2.2 G1.out⟩
  have HS1 : Hid (smallB A = true) := s1
  clear s1
  by_cases s2 : smallB B = true
  case neg =>
    have HS2 : Hid (smallB B = false) := by unfold Hid; simpa using s2
    clear s2
    refine wpHold_take (i := 0) (v := _) (G0.out) rfl rfl (by kernel_rfl) (by kernel_rfl) (by kernel_rfl) (by kernel_rfl) (by kernel_rfl) (fun _ _ _ h => h) (by rfl) (fun wk hk => by obtain ⟨m0, m1⟩ := HC.out wk hk; go_simp; try rfl) ?_
    try simp only [Act.put, List.setIfInBounds_toArray, List.set_cons_zero, List.set_cons_succ]
    refine wpHold_one (i := 1) rfl (by kernel_rfl) (by rfl) (fun K hK => ?_)
    go_wp2_with (go_at_call 9; refine (small9e _ A _ (HA.out.grown (grown_trans S1.out.2.2 G0.out))).mono ?_)
    rintro e w3 ⟨rfl, hg⟩
    rw [HS1.out]
    have G1 : Hid (w1.grownBy w3 none) := grown_trans G0.out hg
    clear hg
    go_wp2_with fail
    refine hK.out _ _ (fun _ => G1.out) ?_
    clear hK K
    try simp only [Act.put, List.setIfInBounds_toArray, List.set_cons_zero, List.set_cons_succ]
    refine wpHold_take (i := 2) (v := _) (G1.out) rfl rfl (by kernel_rfl) (by kernel_rfl) (by kernel_rfl) (by kernel_rfl) (by kernel_rfl) (fun _ _ _ h => h) (by rfl) (fun wk hk => by obtain ⟨m0, m1⟩ := HC.out wk hk; go_simp; try rfl) ?_
    try simp only [Act.put, List.setIfInBounds_toArray, List.set_cons_zero, List.set_cons_succ]
    refine wpHold_take (i := 3) (v := _) (G1.out) rfl rfl (by kernel_rfl) (by kernel_rfl) (by kernel_rfl) (by kernel_rfl) (by kernel_rfl) (fun _ _ _ h => h) (by rfl) (fun wk hk => by obtain ⟨m0, m1⟩ := HC.out wk hk; go_simp; try rfl) ?_
    try simp only [Act.put, List.setIfInBounds_toArray, List.set_cons_zero, List.set_cons_succ]
    refine wpHold_take (i := 4) (v := _) (G1.out) rfl rfl (by kernel_rfl) (by kernel_rfl) (by kernel_rfl) (by kernel_rfl) (by kernel_rfl) (fun _ _ _ h => h) (by rfl) (fun wk hk => by obtain ⟨m0, m1⟩ := HC.out wk hk; go_simp; try rfl) ?_
    try simp only [Act.put, List.setIfInBounds_toArray, List.set_cons_zero, List.set_cons_succ]
    refine wpHold_one (i := 5) rfl (by kernel_rfl) (by rfl) (fun K hK => ?_)
    go_wp2_with (go_at_call 9; refine (small9e _ B _ (HB.out.grown (grown_trans S1.out.2.2 G1.out))).mono ?_)
    rintro e w4 ⟨rfl, hg⟩
    rw [HS2.out]
    have G2 : Hid (w1.grownBy w4 none) := grown_trans G1.out hg
    clear hg
    go_wp2_with fail
    refine hK.out _ _ (fun _ => G2.out) ?_
    clear hK K
    try simp only [Act.put, List.setIfInBounds_toArray, List.set_cons_zero, List.set_cons_succ]
    refine wpHold_take (i := 6) (v := _) (G2.out) rfl rfl (by kernel_rfl) (by kernel_rfl) (by kernel_rfl) (by kernel_rfl) (by kernel_rfl) (fun _ _ _ h => h) (by rfl) (fun wk hk => by obtain ⟨m0, m1⟩ := HC.out wk hk; go_simp; try rfl) ?_
    try simp only [Act.put, List.setIfInBounds_toArray, List.set_cons_zero, List.set_cons_succ]
    refine wpHold_take (i := 7) (v := _) (G2.out) rfl rfl (by kernel_rfl) (by kernel_rfl) (by kernel_rfl) (by kernel_rfl) (by kernel_rfl) (fun _ _ _ h => h) (by rfl) (fun wk hk => by obtain ⟨m0, m1⟩ := HC.out wk hk; go_simp; try rfl) ?_
    try simp only [Act.put, List.setIfInBounds_toArray, List.set_cons_zero, List.set_cons_succ]
    refine wpHold_take (i := 8) (v := _) (G2.out) rfl rfl (by kernel_rfl) (by kernel_rfl) (by kernel_rfl) (by kernel_rfl) (by kernel_rfl) (fun _ _ _ h => h) (by rfl) (fun wk hk => by obtain ⟨m0, m1⟩ := HC.out wk hk; go_simp; try rfl) ?_
    try simp only [Act.put, List.setIfInBounds_toArray, List.set_cons_zero, List.set_cons_succ]
    refine wpHold_skip (i := 9) (G2.out) rfl rfl (by kernel_rfl) (by kernel_rfl) (by kernel_rfl) (by kernel_rfl) (by kernel_rfl) (fun _ _ _ h => h) (by rfl) ?_
    try simp only [Act.put, List.setIfInBounds_toArray, List.set_cons_zero, List.set_cons_succ]
    refine wpHold_skip (i := 10) (G2.out) rfl rfl (by kernel_rfl) (by kernel_rfl) (by kernel_rfl) (by kernel_rfl) (by kernel_rfl) (fun _ _ _ h => h) (by rfl) ?_
    try simp only [Act.put, List.setIfInBounds_toArray, List.set_cons_zero, List.set_cons_succ]
    refine wpHold_skip (i := 11) (G2.out) rfl rfl (by kernel_rfl) (by kernel_rfl) (by kernel_rfl) (by kernel_rfl) (by kernel_rfl) (fun _ _ _ h => h) (by rfl) ?_
    try simp only [Act.put, List.setIfInBounds_toArray, List.set_cons_zero, List.set_cons_succ]
    refine wpHold_skip (i := 12) (G2.out) rfl rfl (by kernel_rfl) (by kernel_rfl) (by kernel_rfl) (by kernel_rfl) (by kernel_rfl) (fun _ _ _ h => h) (by rfl) ?_
    try simp only [Act.put, List.setIfInBounds_toArray, List.set_cons_zero, List.set_cons_succ]
    refine wpHold_skip (i := 13) (G2.out) rfl rfl (by kernel_rfl) (by kernel_rfl) (by kernel_rfl) (by kernel_rfl) (by kernel_rfl) (fun _ _ _ h => h) (by rfl) ?_
    try simp only [Act.put, List.setIfInBounds_toArray, List.set_cons_zero, List.set_cons_succ]
    refine wpHold_skip (i := 14) (G2.out) rfl rfl (by kernel_rfl) (by kernel_rfl) (by kernel_rfl) (by kernel_rfl) (by kernel_rfl) (fun _ _ _ h => h) (by rfl) ?_
    try simp only [Act.put, List.setIfInBounds_toArray, List.set_cons_zero, List.set_cons_succ]
    refine wpHold_skip (i := 15) (G2.out) rfl rfl (by kernel_rfl) (by kernel_rfl) (by kernel_rfl) (by kernel_rfl) (by kernel_rfl) (fun _ _ _ h => h) (by rfl) ?_
    try simp only [Act.put, List.setIfInBounds_toArray, List.set_cons_zero, List.set_cons_succ]
    refine wpHold_skip (i := 16) (G2.out) rfl rfl (by kernel_rfl) (by kernel_rfl) (by kernel_rfl) (by kernel_rfl) (by kernel_rfl) (fun _ _ _ h => h) (by rfl) ?_
    try simp only [Act.put, List.setIfInBounds_toArray, List.set_cons_zero, List.set_cons_succ]
    refine wpHold_take (i := 17) (v := _) (G2.out) rfl rfl (by kernel_rfl) (by kernel_rfl) (by kernel_rfl) (by kernel_rfl) (by kernel_rfl) (fun _ _ _ h => h) (by rfl) (fun wk hk => by obtain ⟨m0, m1⟩ := HC.out wk hk; go_simp; try rfl) ?_
    try simp only [Act.put, List.setIfInBounds_toArray, List.set_cons_zero, List.set_cons_succ]
    refine wpHold_done (by kernel_rfl) ?_
    refine (‹∀ (a : Act) (w : World), Code.wp Tryz.prog _ _ a w → _› _ _ ?_)
    go_wp2_with fail
    go_ret
    exact ⟨rfl, grown_trans S1.out.2.2 G2.out⟩
  have HS2 : Hid (smallB B = true) := s2
  clear s2
  by_cases hz : chk A = 0 ∧ chk B = 0
  case neg =>
    have hA := chk_cases A
    have hB := chk_cases B
    obtain ⟨x, hx⟩ : ∃ x, chk A = x := ⟨_, rfl⟩
    obtain ⟨y, hy⟩ : ∃ y, chk B = y := ⟨_, rfl⟩
    rw [hx] at hA hz
    rw [hy] at hB hz
    have HX : Hid (chk A = x ∧ chk B = y) := ⟨hx, hy⟩
    have x0 : 0 ≤ x ∧ x ≤ 3 := by omega
    have y0 : 0 ≤ y ∧ y ≤ 3 := by omega
    have xy : (x + y = 0) = False := eq_false (by omega)
    have xz : (x + y != 0) = true := by rw [bne_iff_ne]; omega
    have ew : IntKind.i64.wrap (x + y) = x + y := by rw [IntKind.wrap_i64]; omega
    clear hx hy hA hB hz
    refine wpHold_take (i := 0) (v := _) (G0.out) rfl rfl (by kernel_rfl) (by kernel_rfl) (by kernel_rfl) (by kernel_rfl) (by kernel_rfl) (fun _ _ _ h => h) (by rfl) (fun wk hk => by obtain ⟨m0, m1⟩ := HC.out wk hk; go_simp; try rfl) ?_
    try simp only [Act.put, List.setIfInBounds_toArray, List.set_cons_zero, List.set_cons_succ]
    refine wpHold_one (i := 1) rfl (by kernel_rfl) (by rfl) (fun K hK => ?_)
    go_wp2_with (go_at_call 9; refine (small9e _ A _ (HA.out.grown (grown_trans S1.out.2.2 G0.out))).mono ?_)
    rintro e w3 ⟨rfl, hg⟩
    rw [HS1.out]
    have G1 : Hid (w1.grownBy w3 none) := grown_trans G0.out hg
    clear hg
    go_wp2_with fail
    refine hK.out _ _ (fun _ => G1.out) ?_
    clear hK K
    try simp only [Act.put, List.setIfInBounds_toArray, List.set_cons_zero, List.set_cons_succ]
    refine wpHold_take (i := 2) (v := _) (G1.out) rfl rfl (by kernel_rfl) (by kernel_rfl) (by kernel_rfl) (by kernel_rfl) (by kernel_rfl) (fun _ _ _ h => h) (by rfl) (fun wk hk => by obtain ⟨m0, m1⟩ := HC.out wk hk; go_simp; try rfl) ?_
    try simp only [Act.put, List.setIfInBounds_toArray, List.set_cons_zero, List.set_cons_succ]
    refine wpHold_take (i := 3) (v := _) (G1.out) rfl rfl (by kernel_rfl) (by kernel_rfl) (by kernel_rfl) (by kernel_rfl) (by kernel_rfl) (fun _ _ _ h => h) (by rfl) (fun wk hk => by obtain ⟨m0, m1⟩ := HC.out wk hk; go_simp; try rfl) ?_
    try simp only [Act.put, List.setIfInBounds_toArray, List.set_cons_zero, List.set_cons_succ]
    refine wpHold_take (i := 4) (v := _) (G1.out) rfl rfl (by kernel_rfl) (by kernel_rfl) (by kernel_rfl) (by kernel_rfl) (by kernel_rfl) (fun _ _ _ h => h) (by rfl) (fun wk hk => by obtain ⟨m0, m1⟩ := HC.out wk hk; go_simp; try rfl) ?_
    try simp only [Act.put, List.setIfInBounds_toArray, List.set_cons_zero, List.set_cons_succ]
    refine wpHold_one (i := 5) rfl (by kernel_rfl) (by rfl) (fun K hK => ?_)
    go_wp2_with (go_at_call 9; refine (small9e _ B _ (HB.out.grown (grown_trans S1.out.2.2 G1.out))).mono ?_)
    rintro e w4 ⟨rfl, hg⟩
    rw [HS2.out]
    have G2 : Hid (w1.grownBy w4 none) := grown_trans G1.out hg
    clear hg
    go_wp2_with fail
    refine hK.out _ _ (fun _ => G2.out) ?_
    clear hK K
    try simp only [Act.put, List.setIfInBounds_toArray, List.set_cons_zero, List.set_cons_succ]
    refine wpHold_take (i := 6) (v := _) (G2.out) rfl rfl (by kernel_rfl) (by kernel_rfl) (by kernel_rfl) (by kernel_rfl) (by kernel_rfl) (fun _ _ _ h => h) (by rfl) (fun wk hk => by obtain ⟨m0, m1⟩ := HC.out wk hk; go_simp; try rfl) ?_
    try simp only [Act.put, List.setIfInBounds_toArray, List.set_cons_zero, List.set_cons_succ]
    refine wpHold_take (i := 7) (v := _) (G2.out) rfl rfl (by kernel_rfl) (by kernel_rfl) (by kernel_rfl) (by kernel_rfl) (by kernel_rfl) (fun _ _ _ h => h) (by rfl) (fun wk hk => by obtain ⟨m0, m1⟩ := HC.out wk hk; go_simp; try rfl) ?_
    try simp only [Act.put, List.setIfInBounds_toArray, List.set_cons_zero, List.set_cons_succ]
    refine wpHold_take (i := 8) (v := _) (G2.out) rfl rfl (by kernel_rfl) (by kernel_rfl) (by kernel_rfl) (by kernel_rfl) (by kernel_rfl) (fun _ _ _ h => h) (by rfl) (fun wk hk => by obtain ⟨m0, m1⟩ := HC.out wk hk; go_simp; try rfl) ?_
    try simp only [Act.put, List.setIfInBounds_toArray, List.set_cons_zero, List.set_cons_succ]
    refine wpHold_take (i := 9) (v := _) (G2.out) rfl rfl (by kernel_rfl) (by kernel_rfl) (by kernel_rfl) (by kernel_rfl) (by kernel_rfl) (fun _ _ _ h => h) (by rfl) (fun wk hk => by obtain ⟨m0, m1⟩ := HC.out wk hk; go_simp; try rfl) ?_
    try simp only [Act.put, List.setIfInBounds_toArray, List.set_cons_zero, List.set_cons_succ]
    refine wpHold_take (i := 12) (v := _) (G2.out) rfl rfl (by kernel_rfl) (by kernel_rfl) (by kernel_rfl) (by kernel_rfl) (by kernel_rfl) (fun _ _ _ h => h) (by rfl) (fun wk hk => by obtain ⟨m0, m1⟩ := HC.out wk hk; go_simp; try rfl) ?_
    try simp only [Act.put, List.setIfInBounds_toArray, List.set_cons_zero, List.set_cons_succ]
    refine wpHold_one (i := 10) rfl (by kernel_rfl) (by rfl) (fun K hK => ?_)
    go_wp2_with (go_at_call 16; refine (check16 _ A _ (HA.out.grown (grown_trans S1.out.2.2 G2.out))).mono ?_)
    rintro e w5 ⟨rfl, hg⟩
    rw [HX.out.1]
    have G3 : Hid (w1.grownBy w5 none) := grown_trans G2.out hg
    clear hg
    go_wp2_with fail
    refine hK.out _ _ (fun _ => G3.out) ?_
    clear hK K
    try simp only [Act.put, List.setIfInBounds_toArray, List.set_cons_zero, List.set_cons_succ]
    refine wpHold_one (i := 11) rfl (by kernel_rfl) (by rfl) (fun K hK => ?_)
    go_wp2_with (go_at_call 15; refine (num15 _ _).mono ?_; rintro e wn ⟨rfl, hw⟩; rw [hw]; clear hw)
    refine hK.out _ _ (fun _ => G3.out) ?_
    clear hK K
    try simp only [Act.put, List.setIfInBounds_toArray, List.set_cons_zero, List.set_cons_succ]
    refine wpHold_one (i := 13) rfl (by kernel_rfl) (by rfl) (fun K hK => ?_)
    go_wp2_with (go_at_call 16; refine (check16 _ B _ (HB.out.grown (grown_trans S1.out.2.2 G3.out))).mono ?_)
    rintro e w6 ⟨rfl, hg⟩
    rw [HX.out.2]
    have G4 : Hid (w1.grownBy w6 none) := grown_trans G3.out hg
    clear hg
    go_wp2_with fail
    refine hK.out _ _ (fun _ => G4.out) ?_
    clear hK K
    try simp only [Act.put, List.setIfInBounds_toArray, List.set_cons_zero, List.set_cons_succ]
    refine wpHold_one (i := 14) rfl (by kernel_rfl) (by rfl) (fun K hK => ?_)
    go_wp2_with (go_at_call 15; refine (num15 _ _).mono ?_; rintro e wn ⟨rfl, hw⟩; rw [hw]; clear hw)
    refine hK.out _ _ (fun _ => G4.out) ?_
    clear hK K
    try simp only [Act.put, List.setIfInBounds_toArray, List.set_cons_zero, List.set_cons_succ]
    refine wpHold_take (i := 15) (v := _) (G4.out) rfl rfl (by kernel_rfl) (by kernel_rfl) (by kernel_rfl) (by kernel_rfl) (by kernel_rfl) (fun _ _ _ h => h) (by rfl) (fun wk hk => by obtain ⟨m0, m1⟩ := HC.out wk hk; go_simp; try rfl) ?_
    try simp only [Act.put, List.setIfInBounds_toArray, List.set_cons_zero, List.set_cons_succ]
    refine wpHold_take (i := 16) (v := _) (G4.out) rfl rfl (by kernel_rfl) (by kernel_rfl) (by kernel_rfl) (by kernel_rfl) (by kernel_rfl) (fun _ _ _ h => h) (by rfl) (fun wk hk => by obtain ⟨m0, m1⟩ := HC.out wk hk; go_simp; try rfl) ?_
    try simp only [Act.put, List.setIfInBounds_toArray, List.set_cons_zero, List.set_cons_succ]
    refine wpHold_take (i := 17) (v := _) (G4.out) rfl rfl (by kernel_rfl) (by kernel_rfl) (by kernel_rfl) (by kernel_rfl) (by kernel_rfl) (fun _ _ _ h => h) (by rfl) (fun wk hk => by obtain ⟨m0, m1⟩ := HC.out wk hk; go_simp; try rfl) ?_
    try simp only [Act.put, List.setIfInBounds_toArray, List.set_cons_zero, List.set_cons_succ]
    refine wpHold_done (by kernel_rfl) ?_
    refine (‹∀ (a : Act) (w : World), Code.wp Tryz.prog _ _ a w → _› _ _ ?_)
    go_wp2_with fail
    go_ret
    exact ⟨rfl, grown_trans S1.out.2.2 G4.out⟩
  have HZ : Hid (chk A = 0 ∧ chk B = 0) := hz
  clear hz
  refine wpHold_take (i := 0) (v := _) (G0.out) rfl rfl (by kernel_rfl) (by kernel_rfl) (by kernel_rfl) (by kernel_rfl) (by kernel_rfl) (fun _ _ _ h => h) (by rfl) (fun wk hk => by obtain ⟨m0, m1⟩ := HC.out wk hk; go_simp; try rfl) ?_
  try simp only [Act.put, List.setIfInBounds_toArray, List.set_cons_zero, List.set_cons_succ]
  refine wpHold_one (i := 1) rfl (by kernel_rfl) (by rfl) (fun K hK => ?_)
  go_wp2_with (go_at_call 9; refine (small9e _ A _ (HA.out.grown (grown_trans S1.out.2.2 G0.out))).mono ?_)
  rintro e w3 ⟨rfl, hg⟩
  rw [HS1.out]
  have G1 : Hid (w1.grownBy w3 none) := grown_trans G0.out hg
  clear hg
  go_wp2_with fail
  refine hK.out _ _ (fun _ => G1.out) ?_
  clear hK K
  try simp only [Act.put, List.setIfInBounds_toArray, List.set_cons_zero, List.set_cons_succ]
  refine wpHold_take (i := 2) (v := _) (G1.out) rfl rfl (by kernel_rfl) (by kernel_rfl) (by kernel_rfl) (by kernel_rfl) (by kernel_rfl) (fun _ _ _ h => h) (by rfl) (fun wk hk => by obtain ⟨m0, m1⟩ := HC.out wk hk; go_simp; try rfl) ?_
  try simp only [Act.put, List.setIfInBounds_toArray, List.set_cons_zero, List.set_cons_succ]
  refine wpHold_take (i := 3) (v := _) (G1.out) rfl rfl (by kernel_rfl) (by kernel_rfl) (by kernel_rfl) (by kernel_rfl) (by kernel_rfl) (fun _ _ _ h => h) (by rfl) (fun wk hk => by obtain ⟨m0, m1⟩ := HC.out wk hk; go_simp; try rfl) ?_
  try simp only [Act.put, List.setIfInBounds_toArray, List.set_cons_zero, List.set_cons_succ]
  refine wpHold_take (i := 4) (v := _) (G1.out) rfl rfl (by kernel_rfl) (by kernel_rfl) (by kernel_rfl) (by kernel_rfl) (by kernel_rfl) (fun _ _ _ h => h) (by rfl) (fun wk hk => by obtain ⟨m0, m1⟩ := HC.out wk hk; go_simp; try rfl) ?_
  try simp only [Act.put, List.setIfInBounds_toArray, List.set_cons_zero, List.set_cons_succ]
  refine wpHold_one (i := 5) rfl (by kernel_rfl) (by rfl) (fun K hK => ?_)
  go_wp2_with (go_at_call 9; refine (small9e _ B _ (HB.out.grown (grown_trans S1.out.2.2 G1.out))).mono ?_)
  rintro e w4 ⟨rfl, hg⟩
  rw [HS2.out]
  have G2 : Hid (w1.grownBy w4 none) := grown_trans G1.out hg
  clear hg
  go_wp2_with fail
  refine hK.out _ _ (fun _ => G2.out) ?_
  clear hK K
  try simp only [Act.put, List.setIfInBounds_toArray, List.set_cons_zero, List.set_cons_succ]
  refine wpHold_take (i := 6) (v := _) (G2.out) rfl rfl (by kernel_rfl) (by kernel_rfl) (by kernel_rfl) (by kernel_rfl) (by kernel_rfl) (fun _ _ _ h => h) (by rfl) (fun wk hk => by obtain ⟨m0, m1⟩ := HC.out wk hk; go_simp; try rfl) ?_
  try simp only [Act.put, List.setIfInBounds_toArray, List.set_cons_zero, List.set_cons_succ]
  refine wpHold_take (i := 7) (v := _) (G2.out) rfl rfl (by kernel_rfl) (by kernel_rfl) (by kernel_rfl) (by kernel_rfl) (by kernel_rfl) (fun _ _ _ h => h) (by rfl) (fun wk hk => by obtain ⟨m0, m1⟩ := HC.out wk hk; go_simp; try rfl) ?_
  try simp only [Act.put, List.setIfInBounds_toArray, List.set_cons_zero, List.set_cons_succ]
  refine wpHold_take (i := 8) (v := _) (G2.out) rfl rfl (by kernel_rfl) (by kernel_rfl) (by kernel_rfl) (by kernel_rfl) (by kernel_rfl) (fun _ _ _ h => h) (by rfl) (fun wk hk => by obtain ⟨m0, m1⟩ := HC.out wk hk; go_simp; try rfl) ?_
  try simp only [Act.put, List.setIfInBounds_toArray, List.set_cons_zero, List.set_cons_succ]
  refine wpHold_take (i := 9) (v := _) (G2.out) rfl rfl (by kernel_rfl) (by kernel_rfl) (by kernel_rfl) (by kernel_rfl) (by kernel_rfl) (fun _ _ _ h => h) (by rfl) (fun wk hk => by obtain ⟨m0, m1⟩ := HC.out wk hk; go_simp; try rfl) ?_
  try simp only [Act.put, List.setIfInBounds_toArray, List.set_cons_zero, List.set_cons_succ]
  refine wpHold_take (i := 12) (v := _) (G2.out) rfl rfl (by kernel_rfl) (by kernel_rfl) (by kernel_rfl) (by kernel_rfl) (by kernel_rfl) (fun _ _ _ h => h) (by rfl) (fun wk hk => by obtain ⟨m0, m1⟩ := HC.out wk hk; go_simp; try rfl) ?_
  try simp only [Act.put, List.setIfInBounds_toArray, List.set_cons_zero, List.set_cons_succ]
  refine wpHold_one (i := 10) rfl (by kernel_rfl) (by rfl) (fun K hK => ?_)
  go_wp2_with (go_at_call 16; refine (check16 _ A _ (HA.out.grown (grown_trans S1.out.2.2 G2.out))).mono ?_)
  rintro e w5 ⟨rfl, hg⟩
  rw [HZ.out.1]
  have G3 : Hid (w1.grownBy w5 none) := grown_trans G2.out hg
  clear hg
  go_wp2_with fail
  refine hK.out _ _ (fun _ => G3.out) ?_
  clear hK K
  try simp only [Act.put, List.setIfInBounds_toArray, List.set_cons_zero, List.set_cons_succ]
  refine wpHold_one (i := 11) rfl (by kernel_rfl) (by rfl) (fun K hK => ?_)
  go_wp2_with (go_at_call 15; refine (num15 _ _).mono ?_; rintro e wn ⟨rfl, hw⟩; rw [hw]; clear hw)
  refine hK.out _ _ (fun _ => G3.out) ?_
  clear hK K
  try simp only [Act.put, List.setIfInBounds_toArray, List.set_cons_zero, List.set_cons_succ]
  refine wpHold_one (i := 13) rfl (by kernel_rfl) (by rfl) (fun K hK => ?_)
  go_wp2_with (go_at_call 16; refine (check16 _ B _ (HB.out.grown (grown_trans S1.out.2.2 G3.out))).mono ?_)
  rintro e w6 ⟨rfl, hg⟩
  rw [HZ.out.2]
  have G4 : Hid (w1.grownBy w6 none) := grown_trans G3.out hg
  clear hg
  go_wp2_with fail
  refine hK.out _ _ (fun _ => G4.out) ?_
  clear hK K
  try simp only [Act.put, List.setIfInBounds_toArray, List.set_cons_zero, List.set_cons_succ]
  refine wpHold_one (i := 14) rfl (by kernel_rfl) (by rfl) (fun K hK => ?_)
  go_wp2_with (go_at_call 15; refine (num15 _ _).mono ?_; rintro e wn ⟨rfl, hw⟩; rw [hw]; clear hw)
  refine hK.out _ _ (fun _ => G4.out) ?_
  clear hK K
  try simp only [Act.put, List.setIfInBounds_toArray, List.set_cons_zero, List.set_cons_succ]
  refine wpHold_take (i := 15) (v := _) (G4.out) rfl rfl (by kernel_rfl) (by kernel_rfl) (by kernel_rfl) (by kernel_rfl) (by kernel_rfl) (fun _ _ _ h => h) (by rfl) (fun wk hk => by obtain ⟨m0, m1⟩ := HC.out wk hk; go_simp; try rfl) ?_
  try simp only [Act.put, List.setIfInBounds_toArray, List.set_cons_zero, List.set_cons_succ]
  refine wpHold_take (i := 16) (v := _) (G4.out) rfl rfl (by kernel_rfl) (by kernel_rfl) (by kernel_rfl) (by kernel_rfl) (by kernel_rfl) (fun _ _ _ h => h) (by rfl) (fun wk hk => by obtain ⟨m0, m1⟩ := HC.out wk hk; go_simp; try rfl) ?_
  try simp only [Act.put, List.setIfInBounds_toArray, List.set_cons_zero, List.set_cons_succ]
  refine wpHold_take (i := 17) (v := _) (G4.out) rfl rfl (by kernel_rfl) (by kernel_rfl) (by kernel_rfl) (by kernel_rfl) (by kernel_rfl) (fun _ _ _ h => h) (by rfl) (fun wk hk => by obtain ⟨m0, m1⟩ := HC.out wk hk; go_simp; try rfl) ?_
  try simp only [Act.put, List.setIfInBounds_toArray, List.set_cons_zero, List.set_cons_succ]
  refine wpHold_done (by kernel_rfl) ?_
  refine (‹∀ (a : Act) (w : World), Code.wp Tryz.prog _ _ a w → _› _ _ ?_)
  have P0 : Hid (Blk w6 w.heap.size 24 #[.slice ao n ca] ∧ Blk w6 (w.heap.size + 1) 24 #[.slice bo m cb] ∧ w.grownBy w6 none) := ⟨S1.out.1.grown G4.out (by simp), S1.out.2.1.grown G4.out (by simp), grown_trans S1.out.2.2 G4.out⟩
  clear G0 G1 G2 G3 G4 HC S1
  have c0 := P0.out.1.cell 0
  go_wp2_with (go_at_call 13; refine (bytes13_ok _ A _ (HA.out.grown P0.out.2.2) HZ.out.1).mono ?_)
  rintro e w7 ⟨u1, rfl, ho1, hg⟩
  obtain ⟨f1, q1, rfl⟩ := ho1.seg.shape
  have P1 : Hid ((Blk w7 w.heap.size 24 #[.slice ao n ca] ∧ Blk w7 (w.heap.size + 1) 24 #[.slice bo m cb] ∧ w.grownBy w7 none) ∧ Own w7 w6.heap.size (.slice f1 (callForm A).length q1) (callForm A)) := ⟨⟨P0.out.1.grown hg (by simp), P0.out.2.1.grown hg (by simp), grown_trans P0.out.2.2 hg⟩, ho1⟩
  clear c0 hg ho1 P0
  obtain ⟨LA, hLA⟩ : ∃ L, callForm A = L := ⟨_, rfl⟩
  have HLA : Hid (callForm A = LA) := hLA
  rw [hLA] at P1 ⊢
  clear hLA
  obtain ⟨la, hla⟩ : ∃ k, LA.length = k := ⟨_, rfl⟩
  have la1 : 1 ≤ la := by rw [← hla, ← HLA.out]; exact form_pos A
  have la2 : la ≤ 4096 := by rw [← hla, ← HLA.out]; exact chk_len HZ.out.1
  have HL : Hid (LA.length = la) := hla
  rw [hla] at P1 ⊢
  clear hla
  have c0 := P1.out.1.2.1.cell 0
  go_wp2_with (go_at_call 13; refine (bytes13_ok _ B _ (HB.out.grown P1.out.1.2.2) HZ.out.2).mono ?_)
  rintro e w8 ⟨u2, rfl, ho2, hg⟩
  obtain ⟨f2, q2, rfl⟩ := ho2.seg.shape
  have P2 : Hid ((Blk w8 w.heap.size 24 #[.slice ao n ca] ∧ Blk w8 (w.heap.size + 1) 24 #[.slice bo m cb] ∧ w.grownBy w8 none) ∧ Own w8 w6.heap.size (.slice f1 la q1) LA ∧ Seg w8 (.slice f2 (callForm B).length q2) (callForm B)) := ⟨⟨P1.out.1.1.grown hg (by simp), P1.out.1.2.1.grown hg (by simp), grown_trans P1.out.1.2.2 hg⟩, P1.out.2.grown hg, ho2.seg⟩
  clear c0 hg ho2 P1
  obtain ⟨LB, hLB⟩ : ∃ L, callForm B = L := ⟨_, rfl⟩
  have HLB : Hid (callForm B = LB) := hLB
  rw [hLB] at P2 ⊢
  clear hLB
  obtain ⟨lb, hlb⟩ : ∃ k, LB.length = k := ⟨_, rfl⟩
  rw [hlb] at P2 ⊢
  clear hlb
  go_wp2_with (go_at_call 22; refine (read22_of _ LA _ (by rw [HL.out]; omega) P2.out.2.1.seg A 0 (by rw [← HLA.out]; exact readC_form HZ.out.1)).mono ?_)
  rintro e w9 ⟨xo, xn, xc, rfl, hx9, hg⟩
  have P3 : Hid ((Blk w9 w.heap.size 24 #[.slice ao n ca] ∧ Blk w9 (w.heap.size + 1) 24 #[.slice bo m cb] ∧ w.grownBy w9 none) ∧ Own w9 w6.heap.size (.slice f1 la q1) LA ∧ Seg w9 (.slice f2 lb q2) LB ∧ Ops w9 (.slice xo xn xc) A) := ⟨⟨P2.out.1.1.grown hg (by simp), P2.out.1.2.1.grown hg (by simp), grown_trans P2.out.1.2.2 hg⟩, P2.out.2.1.grown hg, P2.out.2.2.grown hg, hx9⟩
  clear hg hx9 P2
  go_upto_region 8 with fail
  have P4 : Hid ((Blk (w9.alloc (.cells #[.slice xo xn xc] 24)) w.heap.size 24 #[.slice ao n ca] ∧ Blk (w9.alloc (.cells #[.slice xo xn xc] 24)) (w.heap.size + 1) 24 #[.slice bo m cb] ∧ w.grownBy (w9.alloc (.cells #[.slice xo xn xc] 24)) none) ∧ Own (w9.alloc (.cells #[.slice xo xn xc] 24)) w6.heap.size (.slice f1 la q1) LA ∧ Seg (w9.alloc (.cells #[.slice xo xn xc] 24)) (.slice f2 lb q2) LB ∧ Ops (w9.alloc (.cells #[.slice xo xn xc] 24)) (.slice xo xn xc) A ∧ Blk (w9.alloc (.cells #[.slice xo xn xc] 24)) w9.heap.size 24 #[.slice xo xn xc]) := by
    have hg := World.grownBy_alloc w9 (.cells #[.slice xo xn xc] 24) none
    exact ⟨⟨P3.out.1.1.grown hg (by simp), P3.out.1.2.1.grown hg (by simp), grown_trans P3.out.1.2.2 hg⟩, P3.out.2.1.grown hg, P3.out.2.2.1.grown hg, P3.out.2.2.2.grown hg, heap_alloc_new w9 _⟩
  clear P3
  obtain ⟨b3, hb3⟩ : ∃ k, w9.heap.size = k := ⟨_, rfl⟩
  rw [hb3] at P4 ⊢
  clear hb3
  generalize (w9.alloc (.cells #[.slice xo xn xc] 24)) = w10 at P4 ⊢
  have c0 := P4.out.1.1.cell 0
  go_wp2_with (go_at_call 14; refine (text14_ok _ A _ (HA.out.grown P4.out.1.2.2) (HE.out.grown P4.out.1.2.2).kw HZ.out.1).mono ?_)
  rintro e w11 ⟨rfl, hg⟩
  clear c0
  have P5 : Hid ((Blk w11 w.heap.size 24 #[.slice ao n ca] ∧ Blk w11 (w.heap.size + 1) 24 #[.slice bo m cb] ∧ w.grownBy w11 none) ∧ Own w11 w6.heap.size (.slice f1 la q1) LA ∧ Seg w11 (.slice f2 lb q2) LB ∧ Ops w11 (.slice xo xn xc) A ∧ Blk w11 b3 24 #[.slice xo xn xc]) := ⟨⟨P4.out.1.1.grown hg (by simp), P4.out.1.2.1.grown hg (by simp), grown_trans P4.out.1.2.2 hg⟩, P4.out.2.1.grown hg, P4.out.2.2.1.grown hg, P4.out.2.2.2.1.grown hg, P4.out.2.2.2.2.grown hg (by simp)⟩
  clear hg P4
  have c0 := P5.out.1.2.1.cell 0
  go_wp2_with (go_at_call 14; refine (text14_ok _ B _ (HB.out.grown P5.out.1.2.2) (HE.out.grown P5.out.1.2.2).kw HZ.out.2).mono ?_)
  rintro e w12 ⟨rfl, hg⟩
  clear c0
  have P6 : Hid ((Blk w12 w.heap.size 24 #[.slice ao n ca] ∧ Blk w12 (w.heap.size + 1) 24 #[.slice bo m cb] ∧ w.grownBy w12 none) ∧ Own w12 w6.heap.size (.slice f1 la q1) LA ∧ Seg w12 (.slice f2 lb q2) LB ∧ Ops w12 (.slice xo xn xc) A ∧ Blk w12 b3 24 #[.slice xo xn xc]) := ⟨⟨P5.out.1.1.grown hg (by simp), P5.out.1.2.1.grown hg (by simp), grown_trans P5.out.1.2.2 hg⟩, P5.out.2.1.grown hg, P5.out.2.2.1.grown hg, P5.out.2.2.2.1.grown hg, P5.out.2.2.2.2.grown hg (by simp)⟩
  clear hg P5
  unfold Str
  obtain ⟨TA, hTA⟩ : ∃ L, callTxt A = L := ⟨_, rfl⟩
  obtain ⟨TB, hTB⟩ : ∃ L, callTxt B = L := ⟨_, rfl⟩
  have HT : Hid (callTxt A = TA ∧ callTxt B = TB) := ⟨hTA, hTB⟩
  rw [hTA, hTB]
  clear hTA hTB
  go_wp2_with (go_at_call 25; refine (parse25_of TA _ (by rw [← HT.out.1]; have := callTxt_three HZ.out.1; omega) (HE.out.grown P6.out.1.2.2) A 0 (by rw [← HT.out.1]; exact parseC_txt HZ.out.1)).mono ?_)
  rintro e w13 ⟨yo, yn, yc, rfl, hy9, hg⟩
  have P7 : Hid ((Blk w13 w.heap.size 24 #[.slice ao n ca] ∧ Blk w13 (w.heap.size + 1) 24 #[.slice bo m cb] ∧ w.grownBy w13 none) ∧ Own w13 w6.heap.size (.slice f1 la q1) LA ∧ Seg w13 (.slice f2 lb q2) LB ∧ Ops w13 (.slice xo xn xc) A ∧ Blk w13 b3 24 #[.slice xo xn xc] ∧ Ops w13 (.slice yo yn yc) A) := ⟨⟨P6.out.1.1.grown hg (by simp), P6.out.1.2.1.grown hg (by simp), grown_trans P6.out.1.2.2 hg⟩, P6.out.2.1.grown hg, P6.out.2.2.1.grown hg, P6.out.2.2.2.1.grown hg, P6.out.2.2.2.2.grown hg (by simp), hy9⟩
  clear hg hy9 P6
  go_upto_region 11 with fail
  have P8 : Hid ((Blk (w13.alloc (.cells #[.slice yo yn yc] 24)) w.heap.size 24 #[.slice ao n ca] ∧ Blk (w13.alloc (.cells #[.slice yo yn yc] 24)) (w.heap.size + 1) 24 #[.slice bo m cb] ∧ w.grownBy (w13.alloc (.cells #[.slice yo yn yc] 24)) none) ∧ Own (w13.alloc (.cells #[.slice yo yn yc] 24)) w6.heap.size (.slice f1 la q1) LA ∧ Seg (w13.alloc (.cells #[.slice yo yn yc] 24)) (.slice f2 lb q2) LB ∧ Ops (w13.alloc (.cells #[.slice yo yn yc] 24)) (.slice xo xn xc) A ∧ Blk (w13.alloc (.cells #[.slice yo yn yc] 24)) b3 24 #[.slice xo xn xc] ∧ Ops (w13.alloc (.cells #[.slice yo yn yc] 24)) (.slice yo yn yc) A ∧ Blk (w13.alloc (.cells #[.slice yo yn yc] 24)) w13.heap.size 24 #[.slice yo yn yc]) := by
    have hg := World.grownBy_alloc w13 (.cells #[.slice yo yn yc] 24) none
    exact ⟨⟨P7.out.1.1.grown hg (by simp), P7.out.1.2.1.grown hg (by simp), grown_trans P7.out.1.2.2 hg⟩, P7.out.2.1.grown hg, P7.out.2.2.1.grown hg, P7.out.2.2.2.1.grown hg, P7.out.2.2.2.2.1.grown hg (by simp), P7.out.2.2.2.2.2.grown hg, heap_alloc_new w13 _⟩
  clear P7
  obtain ⟨b4, hb4⟩ : ∃ k, w13.heap.size = k := ⟨_, rfl⟩
  rw [hb4] at P8 ⊢
  clear hb4
  generalize (w13.alloc (.cells #[.slice yo yn yc] 24)) = w14 at P8 ⊢
  have c0 := P8.out.1.1.cell 0
  have c1 := P8.out.2.2.2.2.1.cell 0
  have c2 := P8.out.2.2.2.2.2.2.cell 0
  go_wp2_with (first | (go_at_call 15; refine (num15 _ _).mono ?_; rintro e wn ⟨rfl, hw⟩; rw [hw]; clear hw) | (go_at_call 34; refine (same34_self _ _ A _ P8.out.2.2.2.1 (HA.out.grown P8.out.1.2.2)).mono ?_))
  rintro e w15 ⟨rfl, hg⟩
  clear c0 c1 c2
  have P9 : Hid ((Blk w15 w.heap.size 24 #[.slice ao n ca] ∧ Blk w15 (w.heap.size + 1) 24 #[.slice bo m cb] ∧ w.grownBy w15 none) ∧ Own w15 w6.heap.size (.slice f1 la q1) LA ∧ Seg w15 (.slice f2 lb q2) LB ∧ Ops w15 (.slice yo yn yc) A ∧ Blk w15 b4 24 #[.slice yo yn yc]) := ⟨⟨P8.out.1.1.grown hg (by simp), P8.out.1.2.1.grown hg (by simp), grown_trans P8.out.1.2.2 hg⟩, P8.out.2.1.grown hg, P8.out.2.2.1.grown hg, P8.out.2.2.2.2.2.1.grown hg, P8.out.2.2.2.2.2.2.grown hg (by simp)⟩
  clear hg P8
  have c0 := P9.out.1.1.cell 0
  have c2 := P9.out.2.2.2.2.cell 0
  go_wp2_with (go_at_call 34; refine (same34_self _ _ A _ P9.out.2.2.2.1 (HA.out.grown P9.out.1.2.2)).mono ?_)
  rintro e w16 ⟨rfl, hg⟩
  clear c0 c2
  have Q0 : Hid ((Blk w16 w.heap.size 24 #[.slice ao n ca] ∧ Blk w16 (w.heap.size + 1) 24 #[.slice bo m cb] ∧ w.grownBy w16 none) ∧ Own w16 w6.heap.size (.slice f1 la q1) LA ∧ Seg w16 (.slice f2 lb q2) LB) := ⟨⟨P9.out.1.1.grown hg (by simp), P9.out.1.2.1.grown hg (by simp), grown_trans P9.out.1.2.2 hg⟩, P9.out.2.1.grown hg, P9.out.2.2.1.grown hg⟩
  clear hg P9
  have z0 : ((la : Int) = 0) = False := eq_false (by omega)
  have z1 : (0 : Int) ≤ (la : Int) - 1 := by omega
  have z2 : (la : Int) - 1 ≤ (la : Int) := by omega
  have zc : la ≤ q1 := by have := Q0.out.2.1.seg; obtain ⟨_, _, h1, h2, h3, _⟩ := this; simp at h1; omega
  go_upto_region 13 with fail
  go_wp2_with fail
  go_simp
  refine (read22_of _ (LA.take (la - 1)) _ (by rw [List.length_take, HL.out]; omega) (by have h := Q0.out.2.1.seg; have h2 := h; rw [← HL.out] at h2; have h3 := seg_take (la - 1) (by rw [HL.out]; omega) h2; exact h3) [] 4 (by have := readC_less HZ.out.1; rw [HLA.out, HL.out] at this; exact this)).mono ?_
  rintro e w17 ⟨zo, zn, zc2, rfl, _, hg⟩
  have Q1 : Hid ((Blk w17 w.heap.size 24 #[.slice ao n ca] ∧ Blk w17 (w.heap.size + 1) 24 #[.slice bo m cb] ∧ w.grownBy w17 none) ∧ Own w17 w6.heap.size (.slice f1 la q1) LA ∧ Seg w17 (.slice f2 lb q2) LB) := ⟨⟨Q0.out.1.1.grown hg (by simp), Q0.out.1.2.1.grown hg (by simp), grown_trans Q0.out.1.2.2 hg⟩, Q0.out.2.1.grown hg, Q0.out.2.2.grown hg⟩
  clear hg Q0
  go_simp
  go_upto_region 14 with fail
  have Q2 : Hid ((Blk (w17.alloc (.cells #[.slice zo zn zc2] 24)) w.heap.size 24 #[.slice ao n ca] ∧ Blk (w17.alloc (.cells #[.slice zo zn zc2] 24)) (w.heap.size + 1) 24 #[.slice bo m cb] ∧ w.grownBy (w17.alloc (.cells #[.slice zo zn zc2] 24)) none) ∧ Own (w17.alloc (.cells #[.slice zo zn zc2] 24)) w6.heap.size (.slice f1 la q1) LA ∧ Seg (w17.alloc (.cells #[.slice zo zn zc2] 24)) (.slice f2 lb q2) LB) := by
    have hg := World.grownBy_alloc w17 (.cells #[.slice zo zn zc2] 24) none
    exact ⟨⟨Q1.out.1.1.grown hg (by simp), Q1.out.1.2.1.grown hg (by simp), grown_trans Q1.out.1.2.2 hg⟩, Q1.out.2.1.grown hg, Q1.out.2.2.grown hg⟩
  clear Q1
  generalize (w17.alloc (.cells #[.slice zo zn zc2] 24)) = w18 at Q2 ⊢
  go_wp2_with (at_builtin; refine app22 _ rfl _ _ rfl w18.heap.size _ [] _ LA rfl rfl (own_empty w18) (seg_alloc Q2.out.2.1.seg _) ?c0 ?c1 ?_)
  case c0 => rw [HL.out]; simp; omega
  case c1 => simp
  intro v1 w19 ho hg _
  have Q3 : Hid (w18.grownBy w19 none ∧ Own w19 w18.heap.size v1 LA) := ⟨grown_new (World.grownBy_alloc w18 _ none) hg (fun x hx => by simp [Value.ownBlock] at hx; omega), ho⟩
  clear ho hg
  go_wp2_with (at_builtin; refine app22 _ rfl _ _ rfl w18.heap.size _ LA _ [0] rfl rfl (Q3.out.2.alloc _) (Wire.own_lit w19 0 0 rfl).seg ?c0 ?c1 ?_)
  case c0 => rw [HL.out]; simp; omega
  case c1 => have := Q3.out.1.size; simp; omega
  intro v2 w20 ho hg _
  have Q4 : Hid (w18.grownBy w20 none ∧ Own w20 w18.heap.size v2 (LA ++ [0])) := ⟨grown_new (grown_trans Q3.out.1 (World.grownBy_alloc w19 _ none)) hg (fun x hx => (Q3.out.2.lt x hx).1), ho⟩
  clear ho hg Q3
  obtain ⟨cc, hcc⟩ : ∃ c : Int, c = if (callForm A).length = 4096 then 3 else 4 := ⟨_, rfl⟩
  have HCC : Hid (readC (LA ++ [0]) = ([], cc)) := by
    have := readC_more HZ.out.1
    rw [← hcc, HLA.out] at this
    exact this
  rw [HLA.out, HL.out] at hcc
  have HQ6 : Hid (cc = if la = 4096 then 3 else 4) := hcc
  clear hcc
  go_wp2_with (go_at_call 22; refine (read22_of _ (LA ++ [0]) _ (by rw [List.length_append, HL.out]; simp; omega) Q4.out.2.seg [] cc HCC.out).mono ?_)
  rintro e w21 ⟨xto, tn, tc, rfl, _, hg⟩
  have Q5 : Hid (w18.grownBy w21 none) := grown_trans Q4.out.1 hg
  clear hg Q4 HCC
  go_upto_region 15 with fail
  have Q6 : Hid ((Blk (w21.alloc (.cells #[.slice xto tn tc] 24)) w.heap.size 24 #[.slice ao n ca] ∧ Blk (w21.alloc (.cells #[.slice xto tn tc] 24)) (w.heap.size + 1) 24 #[.slice bo m cb] ∧ w.grownBy (w21.alloc (.cells #[.slice xto tn tc] 24)) none) ∧ Own (w21.alloc (.cells #[.slice xto tn tc] 24)) w6.heap.size (.slice f1 la q1) LA ∧ Seg (w21.alloc (.cells #[.slice xto tn tc] 24)) (.slice f2 lb q2) LB) := by
    have hg := grown_trans Q5.out (World.grownBy_alloc w21 (.cells #[.slice xto tn tc] 24) none)
    exact ⟨⟨Q2.out.1.1.grown hg (by simp), Q2.out.1.2.1.grown hg (by simp), grown_trans Q2.out.1.2.2 hg⟩, Q2.out.2.1.grown hg, Q2.out.2.2.grown hg⟩
  clear Q5 Q2
  generalize (w21.alloc (.cells #[.slice xto tn tc] 24)) = w22 at Q6 ⊢
  have HC : Hid (∀ x : World, w22.grownBy x none → x.cell? ⟨w.heap.size, 0, none⟩ = some (.slice ao n ca) ∧ x.cell? ⟨w.heap.size + 1, 0, none⟩ = some (.slice bo m cb) ∧ (convert 29 9 (.slice f1 la q1)).run Tryz.prog x = .ok (.string ⟨LA.toArray⟩) x ∧ (convert 29 9 (.slice f2 lb q2)).run Tryz.prog x = .ok (.string ⟨LB.toArray⟩) x) := fun x hx => ⟨(Q6.out.1.1.grown hx (by simp)).cell 0, (Q6.out.1.2.1.grown hx (by simp)).cell 0, seg_str (Q6.out.2.1.seg.grown hx), seg_str (Q6.out.2.2.grown hx)⟩
  obtain ⟨d, hd⟩ : ∃ d, decide (A = B) = d := ⟨_, rfl⟩
  have HD : Hid (decide (A = B) = d) := hd
  have e1 : (LA == LB) = d := by rw [beq_dec, ← hd, ← HLA.out, ← HLB.out]; exact decide_eq_decide.2 (form_inj HZ.out.1 HZ.out.2)
  have e2 : (TA == TB) = d := by rw [beq_dec, ← hd, ← HT.out.1, ← HT.out.2]; exact decide_eq_decide.2 (txt_inj HZ.out.1 HZ.out.2)
  clear hd
  by_cases h6 : la = 4096
  case pos =>
    have hcc := HQ6.out
    clear HQ6
    rw [if_pos h6] at hcc
    subst hcc
    subst h6
    go_wp2_with fail
    refine wp_region_noPanic ?_
    refine wp_region_hold 1000 (fun x => w22.grownBy x none) (by kernel_rfl) ?_
    have G0 : Hid (w22.grownBy w22.drew none) := grown_drew _ _
    generalize w22.drew = w23 at G0 ⊢
    refine wpHold_take (i := 0) (v := _) (G0.out) rfl rfl (by kernel_rfl) (by kernel_rfl) (by kernel_rfl) (by kernel_rfl) (by kernel_rfl) (fun _ _ _ h => h) (by rfl) (fun wk hk => by obtain ⟨m0, m1, m2, m3⟩ := HC.out wk hk; go_simp; try rfl) ?_
    try simp only [Act.put, List.setIfInBounds_toArray, List.set_cons_zero, List.set_cons_succ]
    refine wpHold_one (i := 1) rfl (by kernel_rfl) (by rfl) (fun K hK => ?_)
    go_wp2_with (go_at_call 15; refine (num15 _ _).mono ?_; rintro e wn ⟨rfl, hw⟩; rw [hw]; clear hw)
    refine hK.out _ _ (fun _ => G0.out) ?_
    clear hK K
    try simp only [Act.put, List.setIfInBounds_toArray, List.set_cons_zero, List.set_cons_succ]
    refine wpHold_take (i := 2) (v := _) (G0.out) rfl rfl (by kernel_rfl) (by kernel_rfl) (by kernel_rfl) (by kernel_rfl) (by kernel_rfl) (fun _ _ _ h => h) (by rfl) (fun wk hk => by obtain ⟨m0, m1, m2, m3⟩ := HC.out wk hk; go_simp; try rfl) ?_
    try simp only [Act.put, List.setIfInBounds_toArray, List.set_cons_zero, List.set_cons_succ]
    refine wpHold_take (i := 3) (v := _) (G0.out) rfl rfl (by kernel_rfl) (by kernel_rfl) (by kernel_rfl) (by kernel_rfl) (by kernel_rfl) (fun _ _ _ h => h) (by rfl) (fun wk hk => by obtain ⟨m0, m1, m2, m3⟩ := HC.out wk hk; go_simp; try rfl) ?_
    try simp only [Act.put, List.setIfInBounds_toArray, List.set_cons_zero, List.set_cons_succ]
    refine wpHold_take (i := 4) (v := _) (G0.out) rfl rfl (by kernel_rfl) (by kernel_rfl) (by kernel_rfl) (by kernel_rfl) (by kernel_rfl) (fun _ _ _ h => h) (by rfl) (fun wk hk => by obtain ⟨m0, m1, m2, m3⟩ := HC.out wk hk; go_simp; try rfl) ?_
    try simp only [Act.put, List.setIfInBounds_toArray, List.set_cons_zero, List.set_cons_succ]
    refine wpHold_one (i := 5) rfl (by kernel_rfl) (by rfl) (fun K hK => ?_)
    go_wp2_with (go_at_call 15; refine (num15 _ _).mono ?_; rintro e wn ⟨rfl, hw⟩; rw [hw]; clear hw)
    refine hK.out _ _ (fun _ => G0.out) ?_
    clear hK K
    try simp only [Act.put, List.setIfInBounds_toArray, List.set_cons_zero, List.set_cons_succ]
    refine wpHold_take (i := 6) (v := _) (G0.out) rfl rfl (by kernel_rfl) (by kernel_rfl) (by kernel_rfl) (by kernel_rfl) (by kernel_rfl) (fun _ _ _ h => h) (by rfl) (fun wk hk => by obtain ⟨m0, m1, m2, m3⟩ := HC.out wk hk; go_simp; try rfl) ?_
    try simp only [Act.put, List.setIfInBounds_toArray, List.set_cons_zero, List.set_cons_succ]
    refine wpHold_take (i := 7) (v := _) (G0.out) rfl rfl (by kernel_rfl) (by kernel_rfl) (by kernel_rfl) (by kernel_rfl) (by kernel_rfl) (fun _ _ _ h => h) (by rfl) (fun wk hk => by obtain ⟨m0, m1, m2, m3⟩ := HC.out wk hk; go_simp; try rfl) ?_
    try simp only [Act.put, List.setIfInBounds_toArray, List.set_cons_zero, List.set_cons_succ]
    refine wpHold_take (i := 8) (v := _) (G0.out) rfl rfl (by kernel_rfl) (by kernel_rfl) (by kernel_rfl) (by kernel_rfl) (by kernel_rfl) (fun _ _ _ h => h) (by rfl) (fun wk hk => by obtain ⟨m0, m1, m2, m3⟩ := HC.out wk hk; go_simp; try rfl) ?_
    try simp only [Act.put, List.setIfInBounds_toArray, List.set_cons_zero, List.set_cons_succ]
    refine wpHold_one (i := 9) rfl (by kernel_rfl) (by rfl) (fun K hK => ?_)
    go_wp2_with (go_at_call 15; refine (num15 _ _).mono ?_; rintro e wn ⟨rfl, hw⟩; rw [hw]; clear hw)
    refine hK.out _ _ (fun _ => G0.out) ?_
    clear hK K
    try simp only [Act.put, List.setIfInBounds_toArray, List.set_cons_zero, List.set_cons_succ]
    refine wpHold_take (i := 10) (v := _) (G0.out) rfl rfl (by kernel_rfl) (by kernel_rfl) (by kernel_rfl) (by kernel_rfl) (by kernel_rfl) (fun _ _ _ h => h) (by rfl) (fun wk hk => by obtain ⟨m0, m1, m2, m3⟩ := HC.out wk hk; go_simp; try rfl) ?_
    try simp only [Act.put, List.setIfInBounds_toArray, List.set_cons_zero, List.set_cons_succ]
    refine wpHold_take (i := 11) (v := _) (G0.out) rfl rfl (by kernel_rfl) (by kernel_rfl) (by kernel_rfl) (by kernel_rfl) (by kernel_rfl) (fun _ _ _ h => h) (by rfl) (fun wk hk => by obtain ⟨m0, m1, m2, m3⟩ := HC.out wk hk; go_simp; try rfl) ?_
    try simp only [Act.put, List.setIfInBounds_toArray, List.set_cons_zero, List.set_cons_succ]
    refine wpHold_take (i := 12) (v := _) (G0.out) rfl rfl (by kernel_rfl) (by kernel_rfl) (by kernel_rfl) (by kernel_rfl) (by kernel_rfl) (fun _ _ _ h => h) (by rfl) (fun wk hk => by obtain ⟨m0, m1, m2, m3⟩ := HC.out wk hk; go_simp; try rfl) ?_
    try simp only [Act.put, List.setIfInBounds_toArray, List.set_cons_zero, List.set_cons_succ]
    refine wpHold_take (i := 13) (v := _) (G0.out) rfl rfl (by kernel_rfl) (by kernel_rfl) (by kernel_rfl) (by kernel_rfl) (by kernel_rfl) (fun _ _ _ h => h) (by rfl) (fun wk hk => by obtain ⟨m0, m1, m2, m3⟩ := HC.out wk hk; go_simp; try rfl) ?_
    try simp only [Act.put, List.setIfInBounds_toArray, List.set_cons_zero, List.set_cons_succ]
    refine wpHold_take (i := 14) (v := _) (G0.out) rfl rfl (by kernel_rfl) (by kernel_rfl) (by kernel_rfl) (by kernel_rfl) (by kernel_rfl) (fun _ _ _ h => h) (by rfl) (fun wk hk => by obtain ⟨m0, m1, m2, m3⟩ := HC.out wk hk; go_simp; try rfl) ?_
    try simp only [Act.put, List.setIfInBounds_toArray, List.set_cons_zero, List.set_cons_succ]
    refine wpHold_take (i := 15) (v := _) (G0.out) rfl rfl (by kernel_rfl) (by kernel_rfl) (by kernel_rfl) (by kernel_rfl) (by kernel_rfl) (fun _ _ _ h => h) (by rfl) (fun wk hk => by obtain ⟨m0, m1, m2, m3⟩ := HC.out wk hk; go_simp; try rfl) ?_
    try simp only [Act.put, List.setIfInBounds_toArray, List.set_cons_zero, List.set_cons_succ]
    refine wpHold_take (i := 16) (v := _) (G0.out) rfl rfl (by kernel_rfl) (by kernel_rfl) (by kernel_rfl) (by kernel_rfl) (by kernel_rfl) (fun _ _ _ h => h) (by rfl) (fun wk hk => by obtain ⟨m0, m1, m2, m3⟩ := HC.out wk hk; go_simp; try rfl) ?_
    try simp only [Act.put, List.setIfInBounds_toArray, List.set_cons_zero, List.set_cons_succ]
    refine wpHold_take (i := 17) (v := _) (G0.out) rfl rfl (by kernel_rfl) (by kernel_rfl) (by kernel_rfl) (by kernel_rfl) (by kernel_rfl) (fun _ _ _ h => h) (by rfl) (fun wk hk => by obtain ⟨m0, m1, m2, m3⟩ := HC.out wk hk; go_simp; try rfl) ?_
    try simp only [Act.put, List.setIfInBounds_toArray, List.set_cons_zero, List.set_cons_succ]
    refine wpHold_take (i := 18) (v := _) (G0.out) rfl rfl (by kernel_rfl) (by kernel_rfl) (by kernel_rfl) (by kernel_rfl) (by kernel_rfl) (fun _ _ _ h => h) (by rfl) (fun wk hk => by obtain ⟨m0, m1, m2, m3⟩ := HC.out wk hk; go_simp; try rfl) ?_
    try simp only [Act.put, List.setIfInBounds_toArray, List.set_cons_zero, List.set_cons_succ]
    refine wpHold_take (i := 19) (v := _) (G0.out) rfl rfl (by kernel_rfl) (by kernel_rfl) (by kernel_rfl) (by kernel_rfl) (by kernel_rfl) (fun _ _ _ h => h) (by rfl) (fun wk hk => by obtain ⟨m0, m1, m2, m3⟩ := HC.out wk hk; go_simp; try rfl) ?_
    try simp only [Act.put, List.setIfInBounds_toArray, List.set_cons_zero, List.set_cons_succ]
    refine wpHold_take (i := 20) (v := _) (G0.out) rfl rfl (by kernel_rfl) (by kernel_rfl) (by kernel_rfl) (by kernel_rfl) (by kernel_rfl) (fun _ _ _ h => h) (by rfl) (fun wk hk => by obtain ⟨m0, m1, m2, m3⟩ := HC.out wk hk; go_simp; try rfl) ?_
    try simp only [Act.put, List.setIfInBounds_toArray, List.set_cons_zero, List.set_cons_succ]
    refine wpHold_take (i := 21) (v := _) (G0.out) rfl rfl (by kernel_rfl) (by kernel_rfl) (by kernel_rfl) (by kernel_rfl) (by kernel_rfl) (fun _ _ _ h => h) (by rfl) (fun wk hk => by obtain ⟨m0, m1, m2, m3⟩ := HC.out wk hk; go_simp; try rfl) ?_
    try simp only [Act.put, List.setIfInBounds_toArray, List.set_cons_zero, List.set_cons_succ]
    refine wpHold_take (i := 22) (v := _) (G0.out) rfl rfl (by kernel_rfl) (by kernel_rfl) (by kernel_rfl) (by kernel_rfl) (by kernel_rfl) (fun _ _ _ h => h) (by rfl) (fun wk hk => by obtain ⟨m0, m1, m2, m3⟩ := HC.out wk hk; go_simp; try rfl) ?_
    try simp only [Act.put, List.setIfInBounds_toArray, List.set_cons_zero, List.set_cons_succ]
    refine wpHold_take (i := 23) (v := _) (G0.out) rfl rfl (by kernel_rfl) (by kernel_rfl) (by kernel_rfl) (by kernel_rfl) (by kernel_rfl) (fun _ _ _ h => h) (by rfl) (fun wk hk => by obtain ⟨m0, m1, m2, m3⟩ := HC.out wk hk; go_simp; try rfl) ?_
    try simp only [Act.put, List.setIfInBounds_toArray, List.set_cons_zero, List.set_cons_succ]
    refine wpHold_take (i := 24) (v := _) (G0.out) rfl rfl (by kernel_rfl) (by kernel_rfl) (by kernel_rfl) (by kernel_rfl) (by kernel_rfl) (fun _ _ _ h => h) (by rfl) (fun wk hk => by obtain ⟨m0, m1, m2, m3⟩ := HC.out wk hk; go_simp; try rfl) ?_
    try simp only [Act.put, List.setIfInBounds_toArray, List.set_cons_zero, List.set_cons_succ]
    refine wpHold_take (i := 25) (v := _) (G0.out) rfl rfl (by kernel_rfl) (by kernel_rfl) (by kernel_rfl) (by kernel_rfl) (by kernel_rfl) (fun _ _ _ h => h) (by rfl) (fun wk hk => by obtain ⟨m0, m1, m2, m3⟩ := HC.out wk hk; go_simp; try rfl) ?_
    try simp only [Act.put, List.setIfInBounds_toArray, List.set_cons_zero, List.set_cons_succ]
    refine wpHold_one (i := 26) rfl (by kernel_rfl) (by rfl) (fun K hK => ?_)
    go_wp2_with (go_at_call 34; refine (same34 _ _ A B _ (HA.out.grown (grown_trans Q6.out.1.2.2 G0.out)) (HB.out.grown (grown_trans Q6.out.1.2.2 G0.out))).mono ?_)
    rintro e w24 ⟨rfl, hg⟩
    rw [HD.out]
    have G1 : Hid (w22.grownBy w24 none) := grown_trans G0.out hg
    clear hg
    go_wp2_with fail
    refine hK.out _ _ (fun _ => G1.out) ?_
    clear hK K
    try simp only [Act.put, List.setIfInBounds_toArray, List.set_cons_zero, List.set_cons_succ]
    refine wpHold_take (i := 27) (v := _) (G1.out) rfl rfl (by kernel_rfl) (by kernel_rfl) (by kernel_rfl) (by kernel_rfl) (by kernel_rfl) (fun _ _ _ h => h) (by rfl) (fun wk hk => by obtain ⟨m0, m1, m2, m3⟩ := HC.out wk hk; go_simp; try rfl) ?_
    try simp only [Act.put, List.setIfInBounds_toArray, List.set_cons_zero, List.set_cons_succ]
    refine wpHold_take (i := 28) (v := _) (G1.out) rfl rfl (by kernel_rfl) (by kernel_rfl) (by kernel_rfl) (by kernel_rfl) (by kernel_rfl) (fun _ _ _ h => h) (by rfl) (fun wk hk => by obtain ⟨m0, m1, m2, m3⟩ := HC.out wk hk; go_simp; try rfl) ?_
    try simp only [Act.put, List.setIfInBounds_toArray, List.set_cons_zero, List.set_cons_succ]
    refine wpHold_take (i := 29) (v := _) (G1.out) rfl rfl (by kernel_rfl) (by kernel_rfl) (by kernel_rfl) (by kernel_rfl) (by kernel_rfl) (fun _ _ _ h => h) (by rfl) (fun wk hk => by obtain ⟨m0, m1, m2, m3⟩ := HC.out wk hk; go_simp; try rfl) ?_
    try simp only [Act.put, List.setIfInBounds_toArray, List.set_cons_zero, List.set_cons_succ]
    refine wpHold_take (i := 30) (v := _) (G1.out) rfl rfl (by kernel_rfl) (by kernel_rfl) (by kernel_rfl) (by kernel_rfl) (by kernel_rfl) (fun _ _ _ h => h) (by rfl) (fun wk hk => by obtain ⟨m0, m1, m2, m3⟩ := HC.out wk hk; go_simp; try rfl) ?_
    try simp only [Act.put, List.setIfInBounds_toArray, List.set_cons_zero, List.set_cons_succ]
    refine wpHold_take (i := 31) (v := _) (G1.out) rfl rfl (by kernel_rfl) (by kernel_rfl) (by kernel_rfl) (by kernel_rfl) (by kernel_rfl) (fun _ _ _ h => h) (by rfl) (fun wk hk => by obtain ⟨m0, m1, m2, m3⟩ := HC.out wk hk; go_simp; try rfl) ?_
    try simp only [Act.put, List.setIfInBounds_toArray, List.set_cons_zero, List.set_cons_succ]
    refine wpHold_take (i := 32) (v := _) (G1.out) rfl rfl (by kernel_rfl) (by kernel_rfl) (by kernel_rfl) (by kernel_rfl) (by kernel_rfl) (fun _ _ _ h => h) (by rfl) (fun wk hk => by obtain ⟨m0, m1, m2, m3⟩ := HC.out wk hk; go_simp; try rfl) ?_
    try simp only [Act.put, List.setIfInBounds_toArray, List.set_cons_zero, List.set_cons_succ]
    refine wpHold_take (i := 33) (v := _) (G1.out) rfl rfl (by kernel_rfl) (by kernel_rfl) (by kernel_rfl) (by kernel_rfl) (by kernel_rfl) (fun _ _ _ h => h) (by rfl) (fun wk hk => by obtain ⟨m0, m1, m2, m3⟩ := HC.out wk hk; go_simp; try rfl) ?_
    try simp only [Act.put, List.setIfInBounds_toArray, List.set_cons_zero, List.set_cons_succ]
    refine wpHold_take (i := 34) (v := _) (G1.out) rfl rfl (by kernel_rfl) (by kernel_rfl) (by kernel_rfl) (by kernel_rfl) (by kernel_rfl) (fun _ _ _ h => h) (by rfl) (fun wk hk => by obtain ⟨m0, m1, m2, m3⟩ := HC.out wk hk; go_simp; try rfl) ?_
    try simp only [Act.put, List.setIfInBounds_toArray, List.set_cons_zero, List.set_cons_succ]
    refine wpHold_one (i := 35) rfl (by kernel_rfl) (by rfl) (fun K hK => ?_)
    go_wp2_with (go_at_call 34; refine (same34 _ _ A B _ (HA.out.grown (grown_trans Q6.out.1.2.2 G1.out)) (HB.out.grown (grown_trans Q6.out.1.2.2 G1.out))).mono ?_)
    rintro e w25 ⟨rfl, hg⟩
    rw [HD.out]
    have G2 : Hid (w22.grownBy w25 none) := grown_trans G1.out hg
    clear hg
    go_wp2_with fail
    refine hK.out _ _ (fun _ => G2.out) ?_
    clear hK K
    try simp only [Act.put, List.setIfInBounds_toArray, List.set_cons_zero, List.set_cons_succ]
    refine wpHold_take (i := 36) (v := _) (G2.out) rfl rfl (by kernel_rfl) (by kernel_rfl) (by kernel_rfl) (by kernel_rfl) (by kernel_rfl) (fun _ _ _ h => h) (by rfl) (fun wk hk => by obtain ⟨m0, m1, m2, m3⟩ := HC.out wk hk; go_simp; try rfl) ?_
    try simp only [Act.put, List.setIfInBounds_toArray, List.set_cons_zero, List.set_cons_succ]
    refine wpHold_take (i := 37) (v := _) (G2.out) rfl rfl (by kernel_rfl) (by kernel_rfl) (by kernel_rfl) (by kernel_rfl) (by kernel_rfl) (fun _ _ _ h => h) (by rfl) (fun wk hk => by obtain ⟨m0, m1, m2, m3⟩ := HC.out wk hk; go_simp; try rfl) ?_
    try simp only [Act.put, List.setIfInBounds_toArray, List.set_cons_zero, List.set_cons_succ]
    refine wpHold_take (i := 38) (v := _) (G2.out) rfl rfl (by kernel_rfl) (by kernel_rfl) (by kernel_rfl) (by kernel_rfl) (by kernel_rfl) (fun _ _ _ h => h) (by rfl) (fun wk hk => by obtain ⟨m0, m1, m2, m3⟩ := HC.out wk hk; go_simp; try rfl) ?_
    try simp only [Act.put, List.setIfInBounds_toArray, List.set_cons_zero, List.set_cons_succ]
    refine wpHold_done (by kernel_rfl) ?_
    refine (‹∀ (a : Act) (w : World), Code.wp Tryz.prog _ _ a w → _› _ _ ?_)
    go_wp2_with fail
    go_ret
    exact ⟨rfl, grown_trans Q6.out.1.2.2 G2.out⟩
  have hcc := HQ6.out
  clear HQ6
  rw [if_neg h6] at hcc
  subst hcc
  clear h6
  go_wp2_with fail
  refine wp_region_noPanic ?_
  refine wp_region_hold 1000 (fun x => w22.grownBy x none) (by kernel_rfl) ?_
  have G0 : Hid (w22.grownBy w22.drew none) := grown_drew _ _
  generalize w22.drew = w23 at G0 ⊢
  refine wpHold_take (i := 0) (v := _) (G0.out) rfl rfl (by kernel_rfl) (by kernel_rfl) (by kernel_rfl) (by kernel_rfl) (by kernel_rfl) (fun _ _ _ h => h) (by rfl) (fun wk hk => by obtain ⟨m0, m1, m2, m3⟩ := HC.out wk hk; go_simp; try rfl) ?_
  try simp only [Act.put, List.setIfInBounds_toArray, List.set_cons_zero, List.set_cons_succ]
  refine wpHold_one (i := 1) rfl (by kernel_rfl) (by rfl) (fun K hK => ?_)
  go_wp2_with (go_at_call 15; refine (num15 _ _).mono ?_; rintro e wn ⟨rfl, hw⟩; rw [hw]; clear hw)
  refine hK.out _ _ (fun _ => G0.out) ?_
  clear hK K
  try simp only [Act.put, List.setIfInBounds_toArray, List.set_cons_zero, List.set_cons_succ]
  refine wpHold_take (i := 2) (v := _) (G0.out) rfl rfl (by kernel_rfl) (by kernel_rfl) (by kernel_rfl) (by kernel_rfl) (by kernel_rfl) (fun _ _ _ h => h) (by rfl) (fun wk hk => by obtain ⟨m0, m1, m2, m3⟩ := HC.out wk hk; go_simp; try rfl) ?_
  try simp only [Act.put, List.setIfInBounds_toArray, List.set_cons_zero, List.set_cons_succ]
  refine wpHold_take (i := 3) (v := _) (G0.out) rfl rfl (by kernel_rfl) (by kernel_rfl) (by kernel_rfl) (by kernel_rfl) (by kernel_rfl) (fun _ _ _ h => h) (by rfl) (fun wk hk => by obtain ⟨m0, m1, m2, m3⟩ := HC.out wk hk; go_simp; try rfl) ?_
  try simp only [Act.put, List.setIfInBounds_toArray, List.set_cons_zero, List.set_cons_succ]
  refine wpHold_take (i := 4) (v := _) (G0.out) rfl rfl (by kernel_rfl) (by kernel_rfl) (by kernel_rfl) (by kernel_rfl) (by kernel_rfl) (fun _ _ _ h => h) (by rfl) (fun wk hk => by obtain ⟨m0, m1, m2, m3⟩ := HC.out wk hk; go_simp; try rfl) ?_
  try simp only [Act.put, List.setIfInBounds_toArray, List.set_cons_zero, List.set_cons_succ]
  refine wpHold_one (i := 5) rfl (by kernel_rfl) (by rfl) (fun K hK => ?_)
  go_wp2_with (go_at_call 15; refine (num15 _ _).mono ?_; rintro e wn ⟨rfl, hw⟩; rw [hw]; clear hw)
  refine hK.out _ _ (fun _ => G0.out) ?_
  clear hK K
  try simp only [Act.put, List.setIfInBounds_toArray, List.set_cons_zero, List.set_cons_succ]
  refine wpHold_take (i := 6) (v := _) (G0.out) rfl rfl (by kernel_rfl) (by kernel_rfl) (by kernel_rfl) (by kernel_rfl) (by kernel_rfl) (fun _ _ _ h => h) (by rfl) (fun wk hk => by obtain ⟨m0, m1, m2, m3⟩ := HC.out wk hk; go_simp; try rfl) ?_
  try simp only [Act.put, List.setIfInBounds_toArray, List.set_cons_zero, List.set_cons_succ]
  refine wpHold_take (i := 7) (v := _) (G0.out) rfl rfl (by kernel_rfl) (by kernel_rfl) (by kernel_rfl) (by kernel_rfl) (by kernel_rfl) (fun _ _ _ h => h) (by rfl) (fun wk hk => by obtain ⟨m0, m1, m2, m3⟩ := HC.out wk hk; go_simp; try rfl) ?_
  try simp only [Act.put, List.setIfInBounds_toArray, List.set_cons_zero, List.set_cons_succ]
  refine wpHold_skip (i := 8) (G0.out) rfl rfl (by kernel_rfl) (by kernel_rfl) (by kernel_rfl) (by kernel_rfl) (by kernel_rfl) (fun _ _ _ h => h) (by rfl) ?_
  try simp only [Act.put, List.setIfInBounds_toArray, List.set_cons_zero, List.set_cons_succ]
  refine wpHold_skip (i := 9) (G0.out) rfl rfl (by kernel_rfl) (by kernel_rfl) (by kernel_rfl) (by kernel_rfl) (by kernel_rfl) (fun _ _ _ h => h) (by rfl) ?_
  try simp only [Act.put, List.setIfInBounds_toArray, List.set_cons_zero, List.set_cons_succ]
  refine wpHold_skip (i := 10) (G0.out) rfl rfl (by kernel_rfl) (by kernel_rfl) (by kernel_rfl) (by kernel_rfl) (by kernel_rfl) (fun _ _ _ h => h) (by rfl) ?_
  try simp only [Act.put, List.setIfInBounds_toArray, List.set_cons_zero, List.set_cons_succ]
  refine wpHold_skip (i := 11) (G0.out) rfl rfl (by kernel_rfl) (by kernel_rfl) (by kernel_rfl) (by kernel_rfl) (by kernel_rfl) (fun _ _ _ h => h) (by rfl) ?_
  try simp only [Act.put, List.setIfInBounds_toArray, List.set_cons_zero, List.set_cons_succ]
  refine wpHold_skip (i := 12) (G0.out) rfl rfl (by kernel_rfl) (by kernel_rfl) (by kernel_rfl) (by kernel_rfl) (by kernel_rfl) (fun _ _ _ h => h) (by rfl) ?_
  try simp only [Act.put, List.setIfInBounds_toArray, List.set_cons_zero, List.set_cons_succ]
  refine wpHold_skip (i := 13) (G0.out) rfl rfl (by kernel_rfl) (by kernel_rfl) (by kernel_rfl) (by kernel_rfl) (by kernel_rfl) (fun _ _ _ h => h) (by rfl) ?_
  try simp only [Act.put, List.setIfInBounds_toArray, List.set_cons_zero, List.set_cons_succ]
  refine wpHold_skip (i := 14) (G0.out) rfl rfl (by kernel_rfl) (by kernel_rfl) (by kernel_rfl) (by kernel_rfl) (by kernel_rfl) (fun _ _ _ h => h) (by rfl) ?_
  try simp only [Act.put, List.setIfInBounds_toArray, List.set_cons_zero, List.set_cons_succ]
  refine wpHold_skip (i := 15) (G0.out) rfl rfl (by kernel_rfl) (by kernel_rfl) (by kernel_rfl) (by kernel_rfl) (by kernel_rfl) (fun _ _ _ h => h) (by rfl) ?_
  try simp only [Act.put, List.setIfInBounds_toArray, List.set_cons_zero, List.set_cons_succ]
  refine wpHold_take (i := 16) (v := _) (G0.out) rfl rfl (by kernel_rfl) (by kernel_rfl) (by kernel_rfl) (by kernel_rfl) (by kernel_rfl) (fun _ _ _ h => h) (by rfl) (fun wk hk => by obtain ⟨m0, m1, m2, m3⟩ := HC.out wk hk; go_simp; try rfl) ?_
  try simp only [Act.put, List.setIfInBounds_toArray, List.set_cons_zero, List.set_cons_succ]
  refine wpHold_take (i := 17) (v := _) (G0.out) rfl rfl (by kernel_rfl) (by kernel_rfl) (by kernel_rfl) (by kernel_rfl) (by kernel_rfl) (fun _ _ _ h => h) (by rfl) (fun wk hk => by obtain ⟨m0, m1, m2, m3⟩ := HC.out wk hk; go_simp; try rfl) ?_
  try simp only [Act.put, List.setIfInBounds_toArray, List.set_cons_zero, List.set_cons_succ]
  refine wpHold_take (i := 18) (v := _) (G0.out) rfl rfl (by kernel_rfl) (by kernel_rfl) (by kernel_rfl) (by kernel_rfl) (by kernel_rfl) (fun _ _ _ h => h) (by rfl) (fun wk hk => by obtain ⟨m0, m1, m2, m3⟩ := HC.out wk hk; go_simp; try rfl) ?_
  try simp only [Act.put, List.setIfInBounds_toArray, List.set_cons_zero, List.set_cons_succ]
  refine wpHold_take (i := 19) (v := _) (G0.out) rfl rfl (by kernel_rfl) (by kernel_rfl) (by kernel_rfl) (by kernel_rfl) (by kernel_rfl) (fun _ _ _ h => h) (by rfl) (fun wk hk => by obtain ⟨m0, m1, m2, m3⟩ := HC.out wk hk; go_simp; try rfl) ?_
  try simp only [Act.put, List.setIfInBounds_toArray, List.set_cons_zero, List.set_cons_succ]
  refine wpHold_take (i := 20) (v := _) (G0.out) rfl rfl (by kernel_rfl) (by kernel_rfl) (by kernel_rfl) (by kernel_rfl) (by kernel_rfl) (fun _ _ _ h => h) (by rfl) (fun wk hk => by obtain ⟨m0, m1, m2, m3⟩ := HC.out wk hk; go_simp; try rfl) ?_
  try simp only [Act.put, List.setIfInBounds_toArray, List.set_cons_zero, List.set_cons_succ]
  refine wpHold_take (i := 21) (v := _) (G0.out) rfl rfl (by kernel_rfl) (by kernel_rfl) (by kernel_rfl) (by kernel_rfl) (by kernel_rfl) (fun _ _ _ h => h) (by rfl) (fun wk hk => by obtain ⟨m0, m1, m2, m3⟩ := HC.out wk hk; go_simp; try rfl) ?_
  try simp only [Act.put, List.setIfInBounds_toArray, List.set_cons_zero, List.set_cons_succ]
  refine wpHold_take (i := 22) (v := _) (G0.out) rfl rfl (by kernel_rfl) (by kernel_rfl) (by kernel_rfl) (by kernel_rfl) (by kernel_rfl) (fun _ _ _ h => h) (by rfl) (fun wk hk => by obtain ⟨m0, m1, m2, m3⟩ := HC.out wk hk; go_simp; try rfl) ?_
  try simp only [Act.put, List.setIfInBounds_toArray, List.set_cons_zero, List.set_cons_succ]
  refine wpHold_take (i := 23) (v := _) (G0.out) rfl rfl (by kernel_rfl) (by kernel_rfl) (by kernel_rfl) (by kernel_rfl) (by kernel_rfl) (fun _ _ _ h => h) (by rfl) (fun wk hk => by obtain ⟨m0, m1, m2, m3⟩ := HC.out wk hk; go_simp; try rfl) ?_
  try simp only [Act.put, List.setIfInBounds_toArray, List.set_cons_zero, List.set_cons_succ]
  refine wpHold_take (i := 24) (v := _) (G0.out) rfl rfl (by kernel_rfl) (by kernel_rfl) (by kernel_rfl) (by kernel_rfl) (by kernel_rfl) (fun _ _ _ h => h) (by rfl) (fun wk hk => by obtain ⟨m0, m1, m2, m3⟩ := HC.out wk hk; go_simp; try rfl) ?_
  try simp only [Act.put, List.setIfInBounds_toArray, List.set_cons_zero, List.set_cons_succ]
  refine wpHold_take (i := 25) (v := _) (G0.out) rfl rfl (by kernel_rfl) (by kernel_rfl) (by kernel_rfl) (by kernel_rfl) (by kernel_rfl) (fun _ _ _ h => h) (by rfl) (fun wk hk => by obtain ⟨m0, m1, m2, m3⟩ := HC.out wk hk; go_simp; try rfl) ?_
  try simp only [Act.put, List.setIfInBounds_toArray, List.set_cons_zero, List.set_cons_succ]
  refine wpHold_one (i := 26) rfl (by kernel_rfl) (by rfl) (fun K hK => ?_)
  go_wp2_with (go_at_call 34; refine (same34 _ _ A B _ (HA.out.grown (grown_trans Q6.out.1.2.2 G0.out)) (HB.out.grown (grown_trans Q6.out.1.2.2 G0.out))).mono ?_)
  rintro e w24 ⟨rfl, hg⟩
  rw [HD.out]
  have G1 : Hid (w22.grownBy w24 none) := grown_trans G0.out hg
  clear hg
  go_wp2_with fail
  refine hK.out _ _ (fun _ => G1.out) ?_
  clear hK K
  try simp only [Act.put, List.setIfInBounds_toArray, List.set_cons_zero, List.set_cons_succ]
  refine wpHold_take (i := 27) (v := _) (G1.out) rfl rfl (by kernel_rfl) (by kernel_rfl) (by kernel_rfl) (by kernel_rfl) (by kernel_rfl) (fun _ _ _ h => h) (by rfl) (fun wk hk => by obtain ⟨m0, m1, m2, m3⟩ := HC.out wk hk; go_simp; try rfl) ?_
  try simp only [Act.put, List.setIfInBounds_toArray, List.set_cons_zero, List.set_cons_succ]
  refine wpHold_take (i := 28) (v := _) (G1.out) rfl rfl (by kernel_rfl) (by kernel_rfl) (by kernel_rfl) (by kernel_rfl) (by kernel_rfl) (fun _ _ _ h => h) (by rfl) (fun wk hk => by obtain ⟨m0, m1, m2, m3⟩ := HC.out wk hk; go_simp; try rfl) ?_
  try simp only [Act.put, List.setIfInBounds_toArray, List.set_cons_zero, List.set_cons_succ]
  refine wpHold_take (i := 29) (v := _) (G1.out) rfl rfl (by kernel_rfl) (by kernel_rfl) (by kernel_rfl) (by kernel_rfl) (by kernel_rfl) (fun _ _ _ h => h) (by rfl) (fun wk hk => by obtain ⟨m0, m1, m2, m3⟩ := HC.out wk hk; go_simp; try rfl) ?_
  try simp only [Act.put, List.setIfInBounds_toArray, List.set_cons_zero, List.set_cons_succ]
  refine wpHold_take (i := 30) (v := _) (G1.out) rfl rfl (by kernel_rfl) (by kernel_rfl) (by kernel_rfl) (by kernel_rfl) (by kernel_rfl) (fun _ _ _ h => h) (by rfl) (fun wk hk => by obtain ⟨m0, m1, m2, m3⟩ := HC.out wk hk; go_simp; try rfl) ?_
  try simp only [Act.put, List.setIfInBounds_toArray, List.set_cons_zero, List.set_cons_succ]
  refine wpHold_take (i := 31) (v := _) (G1.out) rfl rfl (by kernel_rfl) (by kernel_rfl) (by kernel_rfl) (by kernel_rfl) (by kernel_rfl) (fun _ _ _ h => h) (by rfl) (fun wk hk => by obtain ⟨m0, m1, m2, m3⟩ := HC.out wk hk; go_simp; try rfl) ?_
  try simp only [Act.put, List.setIfInBounds_toArray, List.set_cons_zero, List.set_cons_succ]
  refine wpHold_take (i := 32) (v := _) (G1.out) rfl rfl (by kernel_rfl) (by kernel_rfl) (by kernel_rfl) (by kernel_rfl) (by kernel_rfl) (fun _ _ _ h => h) (by rfl) (fun wk hk => by obtain ⟨m0, m1, m2, m3⟩ := HC.out wk hk; go_simp; try rfl) ?_
  try simp only [Act.put, List.setIfInBounds_toArray, List.set_cons_zero, List.set_cons_succ]
  refine wpHold_take (i := 33) (v := _) (G1.out) rfl rfl (by kernel_rfl) (by kernel_rfl) (by kernel_rfl) (by kernel_rfl) (by kernel_rfl) (fun _ _ _ h => h) (by rfl) (fun wk hk => by obtain ⟨m0, m1, m2, m3⟩ := HC.out wk hk; go_simp; try rfl) ?_
  try simp only [Act.put, List.setIfInBounds_toArray, List.set_cons_zero, List.set_cons_succ]
  refine wpHold_take (i := 34) (v := _) (G1.out) rfl rfl (by kernel_rfl) (by kernel_rfl) (by kernel_rfl) (by kernel_rfl) (by kernel_rfl) (fun _ _ _ h => h) (by rfl) (fun wk hk => by obtain ⟨m0, m1, m2, m3⟩ := HC.out wk hk; go_simp; try rfl) ?_
  try simp only [Act.put, List.setIfInBounds_toArray, List.set_cons_zero, List.set_cons_succ]
  refine wpHold_one (i := 35) rfl (by kernel_rfl) (by rfl) (fun K hK => ?_)
  go_wp2_with (go_at_call 34; refine (same34 _ _ A B _ (HA.out.grown (grown_trans Q6.out.1.2.2 G1.out)) (HB.out.grown (grown_trans Q6.out.1.2.2 G1.out))).mono ?_)
  rintro e w25 ⟨rfl, hg⟩
  rw [HD.out]
  have G2 : Hid (w22.grownBy w25 none) := grown_trans G1.out hg
  clear hg
  go_wp2_with fail
  refine hK.out _ _ (fun _ => G2.out) ?_
  clear hK K
  try simp only [Act.put, List.setIfInBounds_toArray, List.set_cons_zero, List.set_cons_succ]
  refine wpHold_take (i := 36) (v := _) (G2.out) rfl rfl (by kernel_rfl) (by kernel_rfl) (by kernel_rfl) (by kernel_rfl) (by kernel_rfl) (fun _ _ _ h => h) (by rfl) (fun wk hk => by obtain ⟨m0, m1, m2, m3⟩ := HC.out wk hk; go_simp; try rfl) ?_
  try simp only [Act.put, List.setIfInBounds_toArray, List.set_cons_zero, List.set_cons_succ]
  refine wpHold_take (i := 37) (v := _) (G2.out) rfl rfl (by kernel_rfl) (by kernel_rfl) (by kernel_rfl) (by kernel_rfl) (by kernel_rfl) (fun _ _ _ h => h) (by rfl) (fun wk hk => by obtain ⟨m0, m1, m2, m3⟩ := HC.out wk hk; go_simp; try rfl) ?_
  try simp only [Act.put, List.setIfInBounds_toArray, List.set_cons_zero, List.set_cons_succ]
  refine wpHold_take (i := 38) (v := _) (G2.out) rfl rfl (by kernel_rfl) (by kernel_rfl) (by kernel_rfl) (by kernel_rfl) (by kernel_rfl) (fun _ _ _ h => h) (by rfl) (fun wk hk => by obtain ⟨m0, m1, m2, m3⟩ := HC.out wk hk; go_simp; try rfl) ?_
  try simp only [Act.put, List.setIfInBounds_toArray, List.set_cons_zero, List.set_cons_succ]
  refine wpHold_done (by kernel_rfl) ?_
  refine (‹∀ (a : Act) (w : World), Code.wp Tryz.prog _ _ a w → _› _ _ ?_)
  go_wp2_with fail
  go_ret
  exact ⟨rfl, grown_trans Q6.out.1.2.2 G2.out⟩
end Go.Proofs.YtfocmbnhkldnfaaGreatDoor
