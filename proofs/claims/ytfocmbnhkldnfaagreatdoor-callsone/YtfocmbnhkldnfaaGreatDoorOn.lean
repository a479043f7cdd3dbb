/-
  CallsOne's walk.
-/
import Derived.Test.YtfocmbnhkldnfaaGreatDoorDl
import Derived.Test.YtfocmbnhkldnfaaGreatDoorCw
import Derived.Test.YtfocmbnhkldnfaaGreatDoorCq
import Derived.Test.YtfocmbnhkldnfaaGreatDoorBp
import Derived.Test.YtfocmbnhkldnfaaGreatDoorKn
import Derived.Test.YtfocmbnhkldnfaaGreatDoorNamesAll
import Derived.Deep.DeepCutAuto
namespace Go.Proofs.YtfocmbnhkldnfaaGreatDoor
open Go.RowKit Disk
open Names (Str)

theorem bytes13_any (v : Value) (l : List POp) (w : World) (hv : Ops w v l) (F : Bs) (c : Int) (h : chk l = c) (hF : (if chk l = 0 then callForm l else []) = F) : Calls Tryz.prog 13 #[.agg #[v]] w fun e w' => ∃ u, e = .returned (.tuple #[u, .int .i64 c]) ∧ Own w' w.heap.size u F ∧ w.grownBy w' none := by
  have := bytes13 v l w hv
  unfold BytesPost at this
  rw [hF, h] at this
  exact this
theorem text14_any (v : Value) (l : List POp) (w : World) (hv : Ops w v l) (hk : KW w) (T : Bs) (c : Int) (h : chk l = c) (hT : (if chk l = 0 then callTxt l else []) = T) : Calls Tryz.prog 14 #[.agg #[v]] w fun e w' => e = .returned (.tuple #[.string ⟨T.toArray⟩, .int .i64 c]) ∧ w.grownBy w' none := by
  have := text14 v l w hv hk
  unfold TextPost at this
  rw [hT, h] at this
  exact this
theorem same19_self (a b : Value) (A : List POp) (w : World) (ha : Ops w a A) (hb : Ops w b A) : Calls Tryz.prog 19 #[.agg #[a], .agg #[b]] w fun e w' => e = .returned (.bool true) ∧ w.grownBy w' none := by simpa using same19 a b A A w ha hb

set_option maxRecDepth 100000 in
set_option maxHeartbeats 16000000 in
theorem one3 (a : Value) (A : List POp) (w : World) (ha : Ops w a A) (hf : Fit A) (hE : EnvF w) :
    Calls Tryz.prog 3 #[.agg #[a]] w fun e w' => e = .returned (.bool true) ∧ w.grownBy w' none := by
  obtain ⟨ao, n, ca, rfl, _, _, HA⟩ := ops_open ha
  have HE : Hid (EnvF w ∧ Fit A) := ⟨hE, hf⟩
  clear ha hE hf
  go_enter Tryz.func3, Tryz.ntmps3
  go_upto_region 1 with fail
  have S0 : Hid (Blk (w.alloc (.cells #[.slice ao n ca] 24)) w.heap.size 24 #[.slice ao n ca] ∧ w.grownBy (w.alloc (.cells #[.slice ao n ca] 24)) none) := ⟨heap_alloc_new w _, World.grownBy_alloc _ _ none⟩
  generalize (w.alloc (.cells #[.slice ao n ca] 24)) = W0 at S0 ⊢
  have c0 := S0.out.1.cell 0
  go_wp2_with (go_at_call 9; refine (small9e _ A _ (HA.out.grown S0.out.2)).mono ?_)
  rintro e w1 ⟨rfl, hg⟩
  clear c0
  have S1 : Hid (Blk w1 w.heap.size 24 #[.slice ao n ca] ∧ w.grownBy w1 none) := ⟨S0.out.1.grown hg (by simp), grown_trans S0.out.2 hg⟩
  clear hg S0
  cases hs : smallB A
  case false =>
    go_wp2_with (go_at_call 10; refine (known10 _ (HE.out.1.grown S1.out.2)).mono ?_)
    rintro e w2 ⟨rfl, hg⟩
    go_wp2_with fail
    go_ret
    exact ⟨rfl, grown_trans S1.out.2 hg⟩
  clear hs
  have c0 := S1.out.1.cell 0
  go_wp2_with (go_at_call 11; refine (copy11 _ A _ (HA.out.grown S1.out.2) HE.out.2).mono ?_)
  rintro e w2 ⟨u, rfl, ho, hg⟩
  obtain ⟨xo, xn, xc, rfl, _, _, HX⟩ := ops_open ho.ops
  have S2 : Hid (Blk w2 w.heap.size 24 #[.slice ao n ca] ∧ w.grownBy w2 none) := ⟨S1.out.1.grown hg (by simp), grown_trans S1.out.2 hg⟩
  clear hg S1 ho c0
  go_upto_region 4 with fail
  have S3 : Hid (Blk (w2.alloc (.cells #[.slice xo xn xc] 24)) w.heap.size 24 #[.slice ao n ca] ∧ w.grownBy (w2.alloc (.cells #[.slice xo xn xc] 24)) none ∧ Ops (w2.alloc (.cells #[.slice xo xn xc] 24)) (.slice xo xn xc) A ∧ Blk (w2.alloc (.cells #[.slice xo xn xc] 24)) w2.heap.size 24 #[.slice xo xn xc]) := by
    have hg := World.grownBy_alloc w2 (.cells #[.slice xo xn xc] 24) none
    exact ⟨S2.out.1.grown hg (by simp), grown_trans S2.out.2 hg, HX.out.grown hg, heap_alloc_new w2 _⟩
  clear S2 HX
  obtain ⟨b3, hb3⟩ : ∃ k, w2.heap.size = k := ⟨_, rfl⟩
  rw [hb3] at S3 ⊢
  clear hb3
  generalize (w2.alloc (.cells #[.slice xo xn xc] 24)) = w3 at S3 ⊢
  have HC : Hid (∀ x : World, w3.grownBy x none → x.cell? ⟨w.heap.size, 0, none⟩ = some (.slice ao n ca) ∧ x.cell? ⟨b3, 0, none⟩ = some (.slice xo xn xc)) := fun x hx => ⟨(S3.out.1.grown hx (by simp)).cell 0, (S3.out.2.2.2.grown hx (by simp)).cell 0⟩
  obtain ⟨c, hc⟩ : ∃ c, chk A = c := ⟨_, rfl⟩
  obtain ⟨F, hF⟩ : ∃ F, (if chk A = 0 then callForm A else []) = F := ⟨_, rfl⟩
  obtain ⟨T, hT⟩ : ∃ T, (if chk A = 0 then callTxt A else []) = T := ⟨_, rfl⟩
  have HK : Hid (chk A = c ∧ (if chk A = 0 then callForm A else []) = F ∧ (if chk A = 0 then callTxt A else []) = T) := ⟨hc, hF, hT⟩
  clear hc hF hT
  obtain ⟨m0, m1⟩ := HC.out w3 (grown_refl _ _)
  go_wp2_with (go_at_call 12; refine (check12 _ A _ (HA.out.grown S3.out.2.1)).mono ?_)
  rintro e w4 ⟨rfl, hg⟩
  rw [HK.out.1]
  have G4 : Hid (w3.grownBy w4 none) := hg
  clear hg m0 m1
  obtain ⟨m0, m1⟩ := HC.out w4 G4.out
  go_wp2_with (go_at_call 13; refine (bytes13_any _ A _ (S3.out.2.2.1.grown G4.out) F c HK.out.1 HK.out.2.1).mono ?_)
  rintro e w5 ⟨u1, rfl, ho, hg⟩
  obtain ⟨f1, q1, e1⟩ := ho.seg.shape
  obtain ⟨lf, hlf⟩ : ∃ k, F.length = k := ⟨_, rfl⟩
  rw [hlf] at e1
  subst e1
  have HL : Hid (F.length = lf) := hlf
  have G5 : Hid (w3.grownBy w5 none ∧ Own w5 w4.heap.size (.slice f1 lf q1) F) := ⟨grown_trans G4.out hg, ho⟩
  clear hg m0 m1 ho hlf
  obtain ⟨m0, m1⟩ := HC.out w5 G5.out.1
  go_wp2_with (go_at_call 13; refine (bytes13_any _ A _ (S3.out.2.2.1.grown G5.out.1) F c HK.out.1 HK.out.2.1).mono ?_)
  rintro e w6 ⟨u2, rfl, ho, hg⟩
  obtain ⟨f2, q2, e2⟩ := ho.seg.shape
  rw [HL.out] at e2
  subst e2
  have G6 : Hid (w3.grownBy w6 none ∧ Own w6 w4.heap.size (.slice f1 lf q1) F ∧ Own w6 w5.heap.size (.slice f2 lf q2) F) := ⟨grown_trans G5.out.1 hg, G5.out.2.grown hg, ho⟩
  clear hg m0 m1 ho
  obtain ⟨m0, m1⟩ := HC.out w6 G6.out.1
  go_wp2_with (go_at_call 14; refine (text14_any _ A _ (S3.out.2.2.1.grown G6.out.1) (HE.out.1.grown (grown_trans S3.out.2.1 G6.out.1)).kw T c HK.out.1 HK.out.2.2).mono ?_)
  rintro e w7 ⟨rfl, hg⟩
  have G7 : Hid (w3.grownBy w7 none ∧ Own w7 w4.heap.size (.slice f1 lf q1) F ∧ Own w7 w5.heap.size (.slice f2 lf q2) F) := ⟨grown_trans G6.out.1 hg, G6.out.2.1.grown hg, G6.out.2.2.grown hg⟩
  have sz5 : Hid (w3.heap.size ≤ w4.heap.size ∧ (∀ k, (Value.slice f1 lf q1).ownBlock = some k → w4.heap.size ≤ k ∧ k < w5.heap.size)) := ⟨G4.out.size, fun k hk => G5.out.2.lt k hk⟩
  clear hg m0 m1 G6
  go_wp2_with fail
  refine wp_region_noPanic ?_
  refine wp_region_hold 1000 (fun x => w7.grownBy x none) (by kernel_rfl) ?_
  have H0 : Hid (w7.grownBy w7.drew none) := grown_drew _ _
  generalize w7.drew = w8 at H0 ⊢
  obtain ⟨rd, hrd⟩ : ∃ r, rds A = r := ⟨_, rfl⟩
  have HRD : Hid (rds A = rd) := hrd
  clear hrd
  refine wpHold_take (i := 0) (v := _) (H0.out) rfl rfl (by kernel_rfl) (by kernel_rfl) (by kernel_rfl) (by kernel_rfl) (by kernel_rfl) (fun _ _ _ h => h) (by rfl) (fun wk hk => by obtain ⟨m0, m1⟩ := HC.out wk (grown_trans G7.out.1 hk); go_simp; try rfl) ?_
  try simp only [Act.put, List.setIfInBounds_toArray, List.set_cons_zero, List.set_cons_succ]
  refine wpHold_take (i := 3) (v := _) (H0.out) rfl rfl (by kernel_rfl) (by kernel_rfl) (by kernel_rfl) (by kernel_rfl) (by kernel_rfl) (fun _ _ _ h => h) (by rfl) (fun wk hk => by obtain ⟨m0, m1⟩ := HC.out wk (grown_trans G7.out.1 hk); go_simp; try rfl) ?_
  try simp only [Act.put, List.setIfInBounds_toArray, List.set_cons_zero, List.set_cons_succ]
  refine wpHold_one (i := 1) rfl (by kernel_rfl) (by rfl) (fun K hK => ?_)
  go_wp2_with (go_at_call 16; refine (check16 _ A _ (S3.out.2.2.1.grown (grown_trans G7.out.1 H0.out))).mono ?_)
  rintro e w9 ⟨rfl, hg⟩
  rw [HK.out.1]
  have H1 : Hid (w7.grownBy w9 none) := grown_trans H0.out hg
  clear hg
  go_wp2_with fail
  refine hK.out _ _ (fun _ => H1.out) ?_
  clear hK K
  try simp only [Act.put, List.setIfInBounds_toArray, List.set_cons_zero, List.set_cons_succ]
  refine wpHold_one (i := 2) rfl (by kernel_rfl) (by rfl) (fun K hK => ?_)
  go_wp2_with (go_at_call 15; refine (num15 _ _).mono ?_; rintro e wn ⟨rfl, hw⟩; rw [hw]; clear hw)
  refine hK.out _ _ (fun _ => H1.out) ?_
  clear hK K
  try simp only [Act.put, List.setIfInBounds_toArray, List.set_cons_zero, List.set_cons_succ]
  refine wpHold_take (i := 4) (v := _) (H1.out) rfl rfl (by kernel_rfl) (by kernel_rfl) (by kernel_rfl) (by kernel_rfl) (by kernel_rfl) (fun _ _ _ h => h) (by rfl) (fun wk hk => by obtain ⟨m0, m1⟩ := HC.out wk (grown_trans G7.out.1 hk); go_simp; try rfl) ?_
  try simp only [Act.put, List.setIfInBounds_toArray, List.set_cons_zero, List.set_cons_succ]
  refine wpHold_take (i := 5) (v := _) (H1.out) rfl rfl (by kernel_rfl) (by kernel_rfl) (by kernel_rfl) (by kernel_rfl) (by kernel_rfl) (fun _ _ _ h => h) (by rfl) (fun wk hk => by obtain ⟨m0, m1⟩ := HC.out wk (grown_trans G7.out.1 hk); go_simp; try rfl) ?_
  try simp only [Act.put, List.setIfInBounds_toArray, List.set_cons_zero, List.set_cons_succ]
  refine wpHold_take (i := 6) (v := _) (H1.out) rfl rfl (by kernel_rfl) (by kernel_rfl) (by kernel_rfl) (by kernel_rfl) (by kernel_rfl) (fun _ _ _ h => h) (by rfl) (fun wk hk => by obtain ⟨m0, m1⟩ := HC.out wk (grown_trans G7.out.1 hk); go_simp; try rfl) ?_
  try simp only [Act.put, List.setIfInBounds_toArray, List.set_cons_zero, List.set_cons_succ]
  refine wpHold_take (i := 8) (v := _) (H1.out) rfl rfl (by kernel_rfl) (by kernel_rfl) (by kernel_rfl) (by kernel_rfl) (by kernel_rfl) (fun _ _ _ h => h) (by rfl) (fun wk hk => by obtain ⟨m0, m1⟩ := HC.out wk (grown_trans G7.out.1 hk); go_simp; try rfl) ?_
  try simp only [Act.put, List.setIfInBounds_toArray, List.set_cons_zero, List.set_cons_succ]
  refine wpHold_one (i := 7) rfl (by kernel_rfl) (by rfl) (fun K hK => ?_)
  go_wp2_with (go_at_call 17; refine (reads17 _ A _ (S3.out.2.2.1.grown (grown_trans G7.out.1 H1.out))).mono ?_)
  rintro e w10 ⟨rfl, hg⟩
  rw [HRD.out]
  have H2 : Hid (w7.grownBy w10 none) := grown_trans H1.out hg
  clear hg
  go_wp2_with fail
  refine hK.out _ _ (fun _ => H2.out) ?_
  clear hK K
  try simp only [Act.put, List.setIfInBounds_toArray, List.set_cons_zero, List.set_cons_succ]
  refine wpHold_one (i := 9) rfl (by kernel_rfl) (by rfl) (fun K hK => ?_)
  go_wp2_with (go_at_call 18; refine (reads18 _ A _ (HA.out.grown (grown_trans S3.out.2.1 (grown_trans G7.out.1 H2.out)))).mono ?_)
  rintro e w11 ⟨rfl, hg⟩
  rw [HRD.out]
  have H3 : Hid (w7.grownBy w11 none) := grown_trans H2.out hg
  clear hg
  go_wp2_with fail
  refine hK.out _ _ (fun _ => H3.out) ?_
  clear hK K
  try simp only [Act.put, List.setIfInBounds_toArray, List.set_cons_zero, List.set_cons_succ]
  refine wpHold_take (i := 10) (v := _) (H3.out) rfl rfl (by kernel_rfl) (by kernel_rfl) (by kernel_rfl) (by kernel_rfl) (by kernel_rfl) (fun _ _ _ h => h) (by rfl) (fun wk hk => by obtain ⟨m0, m1⟩ := HC.out wk (grown_trans G7.out.1 hk); go_simp; try rfl) ?_
  try simp only [Act.put, List.setIfInBounds_toArray, List.set_cons_zero, List.set_cons_succ]
  refine wpHold_take (i := 11) (v := _) (H3.out) rfl rfl (by kernel_rfl) (by kernel_rfl) (by kernel_rfl) (by kernel_rfl) (by kernel_rfl) (fun _ _ _ h => h) (by rfl) (fun wk hk => by obtain ⟨m0, m1⟩ := HC.out wk (grown_trans G7.out.1 hk); go_simp; try rfl) ?_
  try simp only [Act.put, List.setIfInBounds_toArray, List.set_cons_zero, List.set_cons_succ]
  refine wpHold_take (i := 12) (v := _) (H3.out) rfl rfl (by kernel_rfl) (by kernel_rfl) (by kernel_rfl) (by kernel_rfl) (by kernel_rfl) (fun _ _ _ h => h) (by rfl) (fun wk hk => by obtain ⟨m0, m1⟩ := HC.out wk (grown_trans G7.out.1 hk); go_simp; try rfl) ?_
  try simp only [Act.put, List.setIfInBounds_toArray, List.set_cons_zero, List.set_cons_succ]
  refine wpHold_take (i := 13) (v := _) (H3.out) rfl rfl (by kernel_rfl) (by kernel_rfl) (by kernel_rfl) (by kernel_rfl) (by kernel_rfl) (fun _ _ _ h => h) (by rfl) (fun wk hk => by obtain ⟨m0, m1⟩ := HC.out wk (grown_trans G7.out.1 hk); go_simp; try rfl) ?_
  try simp only [Act.put, List.setIfInBounds_toArray, List.set_cons_zero, List.set_cons_succ]
  refine wpHold_take (i := 15) (v := _) (H3.out) rfl rfl (by kernel_rfl) (by kernel_rfl) (by kernel_rfl) (by kernel_rfl) (by kernel_rfl) (fun _ _ _ h => h) (by rfl) (fun wk hk => by obtain ⟨m0, m1⟩ := HC.out wk (grown_trans G7.out.1 hk); go_simp; try rfl) ?_
  try simp only [Act.put, List.setIfInBounds_toArray, List.set_cons_zero, List.set_cons_succ]
  refine wpHold_one (i := 14) rfl (by kernel_rfl) (by rfl) (fun K hK => ?_)
  go_wp2_with (go_at_call 15; refine (num15 _ _).mono ?_; rintro e wn ⟨rfl, hw⟩; rw [hw]; clear hw)
  refine hK.out _ _ (fun _ => H3.out) ?_
  clear hK K
  try simp only [Act.put, List.setIfInBounds_toArray, List.set_cons_zero, List.set_cons_succ]
  refine wpHold_take (i := 16) (v := _) (H3.out) rfl rfl (by kernel_rfl) (by kernel_rfl) (by kernel_rfl) (by kernel_rfl) (by kernel_rfl) (fun _ _ _ h => h) (by rfl) (fun wk hk => by obtain ⟨m0, m1⟩ := HC.out wk (grown_trans G7.out.1 hk); go_simp; try rfl) ?_
  try simp only [Act.put, List.setIfInBounds_toArray, List.set_cons_zero, List.set_cons_succ]
  refine wpHold_take (i := 17) (v := _) (H3.out) rfl rfl (by kernel_rfl) (by kernel_rfl) (by kernel_rfl) (by kernel_rfl) (by kernel_rfl) (fun _ _ _ h => h) (by rfl) (fun wk hk => by obtain ⟨m0, m1⟩ := HC.out wk (grown_trans G7.out.1 hk); go_simp; try rfl) ?_
  try simp only [Act.put, List.setIfInBounds_toArray, List.set_cons_zero, List.set_cons_succ]
  refine wpHold_take (i := 18) (v := _) (H3.out) rfl rfl (by kernel_rfl) (by kernel_rfl) (by kernel_rfl) (by kernel_rfl) (by kernel_rfl) (fun _ _ _ h => h) (by rfl) (fun wk hk => by obtain ⟨m0, m1⟩ := HC.out wk (grown_trans G7.out.1 hk); go_simp; try rfl) ?_
  try simp only [Act.put, List.setIfInBounds_toArray, List.set_cons_zero, List.set_cons_succ]
  refine wpHold_take (i := 19) (v := _) (H3.out) rfl rfl (by kernel_rfl) (by kernel_rfl) (by kernel_rfl) (by kernel_rfl) (by kernel_rfl) (fun _ _ _ h => h) (by rfl) (fun wk hk => by obtain ⟨m0, m1⟩ := HC.out wk (grown_trans G7.out.1 hk); go_simp; try rfl) ?_
  try simp only [Act.put, List.setIfInBounds_toArray, List.set_cons_zero, List.set_cons_succ]
  refine wpHold_take (i := 21) (v := _) (H3.out) rfl rfl (by kernel_rfl) (by kernel_rfl) (by kernel_rfl) (by kernel_rfl) (by kernel_rfl) (fun _ _ _ h => h) (by rfl) (fun wk hk => by obtain ⟨m0, m1⟩ := HC.out wk (grown_trans G7.out.1 hk); go_simp; try rfl) ?_
  try simp only [Act.put, List.setIfInBounds_toArray, List.set_cons_zero, List.set_cons_succ]
  refine wpHold_one (i := 20) rfl (by kernel_rfl) (by rfl) (fun K hK => ?_)
  go_wp2_with (go_at_call 15; refine (num15 _ _).mono ?_; rintro e wn ⟨rfl, hw⟩; rw [hw]; clear hw)
  refine hK.out _ _ (fun _ => H3.out) ?_
  clear hK K
  try simp only [Act.put, List.setIfInBounds_toArray, List.set_cons_zero, List.set_cons_succ]
  refine wpHold_take (i := 22) (v := _) (H3.out) rfl rfl (by kernel_rfl) (by kernel_rfl) (by kernel_rfl) (by kernel_rfl) (by kernel_rfl) (fun _ _ _ h => h) (by rfl) (fun wk hk => by obtain ⟨m0, m1⟩ := HC.out wk (grown_trans G7.out.1 hk); go_simp; try rfl) ?_
  try simp only [Act.put, List.setIfInBounds_toArray, List.set_cons_zero, List.set_cons_succ]
  refine wpHold_take (i := 23) (v := _) (H3.out) rfl rfl (by kernel_rfl) (by kernel_rfl) (by kernel_rfl) (by kernel_rfl) (by kernel_rfl) (fun _ _ _ h => h) (by rfl) (fun wk hk => by obtain ⟨m0, m1⟩ := HC.out wk (grown_trans G7.out.1 hk); go_simp; try rfl) ?_
  try simp only [Act.put, List.setIfInBounds_toArray, List.set_cons_zero, List.set_cons_succ]
  refine wpHold_take (i := 24) (v := _) (H3.out) rfl rfl (by kernel_rfl) (by kernel_rfl) (by kernel_rfl) (by kernel_rfl) (by kernel_rfl) (fun _ _ _ h => h) (by rfl) (fun wk hk => by obtain ⟨m0, m1⟩ := HC.out wk (grown_trans G7.out.1 hk); go_simp; try rfl) ?_
  try simp only [Act.put, List.setIfInBounds_toArray, List.set_cons_zero, List.set_cons_succ]
  refine wpHold_take (i := 25) (v := _) (H3.out) rfl rfl (by kernel_rfl) (by kernel_rfl) (by kernel_rfl) (by kernel_rfl) (by kernel_rfl) (fun _ _ _ h => h) (by rfl) (fun wk hk => by obtain ⟨m0, m1⟩ := HC.out wk (grown_trans G7.out.1 hk); go_simp; try rfl) ?_
  try simp only [Act.put, List.setIfInBounds_toArray, List.set_cons_zero, List.set_cons_succ]
  refine wpHold_take (i := 26) (v := _) (H3.out) rfl rfl (by kernel_rfl) (by kernel_rfl) (by kernel_rfl) (by kernel_rfl) (by kernel_rfl) (fun _ _ _ h => h) (by rfl) (fun wk hk => by obtain ⟨m0, m1⟩ := HC.out wk (grown_trans G7.out.1 hk); go_simp; try rfl) ?_
  try simp only [Act.put, List.setIfInBounds_toArray, List.set_cons_zero, List.set_cons_succ]
  refine wpHold_one (i := 27) rfl (by kernel_rfl) (by rfl) (fun K hK => ?_)
  go_wp2_with (go_at_call 19; refine (same19_self _ _ A _ (S3.out.2.2.1.grown (grown_trans G7.out.1 H3.out)) (HA.out.grown (grown_trans S3.out.2.1 (grown_trans G7.out.1 H3.out)))).mono ?_)
  rintro e w12 ⟨rfl, hg⟩
  have H4 : Hid (w7.grownBy w12 none) := grown_trans H3.out hg
  clear hg
  go_wp2_with fail
  refine hK.out _ _ (fun _ => H4.out) ?_
  clear hK K
  try simp only [Act.put, List.setIfInBounds_toArray, List.set_cons_zero, List.set_cons_succ]
  refine wpHold_take (i := 28) (v := _) (H4.out) rfl rfl (by kernel_rfl) (by kernel_rfl) (by kernel_rfl) (by kernel_rfl) (by kernel_rfl) (fun _ _ _ h => h) (by rfl) (fun wk hk => by obtain ⟨m0, m1⟩ := HC.out wk (grown_trans G7.out.1 hk); go_simp; try rfl) ?_
  try simp only [Act.put, List.setIfInBounds_toArray, List.set_cons_zero, List.set_cons_succ]
  refine wpHold_take (i := 29) (v := _) (H4.out) rfl rfl (by kernel_rfl) (by kernel_rfl) (by kernel_rfl) (by kernel_rfl) (by kernel_rfl) (fun _ _ _ h => h) (by rfl) (fun wk hk => by obtain ⟨m0, m1⟩ := HC.out wk (grown_trans G7.out.1 hk); go_simp; try rfl) ?_
  try simp only [Act.put, List.setIfInBounds_toArray, List.set_cons_zero, List.set_cons_succ]
  refine wpHold_done (by kernel_rfl) ?_
  refine (‹∀ (a : Act) (w : World), Code.wp Tryz.prog _ _ a w → _› _ _ ?_)
  have G8 : Hid (w3.grownBy w12 none ∧ Own w12 w4.heap.size (.slice f1 lf q1) F ∧ Own w12 w5.heap.size (.slice f2 lf q2) F) := ⟨grown_trans G7.out.1 H4.out, G7.out.2.1.grown H4.out, G7.out.2.2.grown H4.out⟩
  clear H0 H1 H2 H3 H4 G7 HRD
  by_cases hc : chk A = 0
  case neg =>
    have HZ : Hid (F = [] ∧ T = []) := ⟨by rw [← HK.out.2.1, if_neg hc], by rw [← HK.out.2.2, if_neg hc]⟩
    have hc0 : c ≠ 0 := by rw [← HK.out.1]; exact hc
    have z0 : (c = 0) = False := eq_false hc0
    have z1 : (c != 0) = true := by rw [bne_iff_ne]; exact hc0
    have z2 : lf = 0 := by rw [← HL.out, HZ.out.1]; rfl
    have z3 : T = [] := HZ.out.2
    subst z2 z3
    clear hc hc0
    go_wp2_with (go_at_call 10; refine (known10 _ (HE.out.1.grown (grown_trans S3.out.2.1 G8.out.1))).mono ?_; rintro e w13 ⟨rfl, hg⟩; have G10 : Hid (w12.grownBy w13 none) := hg; clear hg)
    go_ret
    exact ⟨rfl, grown_trans S3.out.2.1 (grown_trans G8.out.1 G10.out)⟩
  have HZ : Hid (F = callForm A ∧ T = callTxt A ∧ mayCall A = true ∧ chk A = 0) := ⟨by rw [← HK.out.2.1, if_pos hc], by rw [← HK.out.2.2, if_pos hc], chk_may hc, hc⟩
  have hc0 : c = 0 := by rw [← HK.out.1]; exact hc
  subst hc0
  clear hc
  have lf1 : 1 ≤ lf := by rw [← HL.out, HZ.out.1]; exact form_pos A
  have lf2 : lf ≤ 4096 := by rw [← HL.out, HZ.out.1]; exact chk_len HZ.out.2.2.2
  go_upto_region 12 with fail
  have HC2 : Hid (∀ x : World, w12.grownBy x none → x.cell? ⟨w.heap.size, 0, none⟩ = some (.slice ao n ca) ∧ (convert 29 9 (.slice f1 lf q1)).run Tryz.prog x = .ok (.string ⟨F.toArray⟩) x) := fun x hx => ⟨(HC.out x (grown_trans G8.out.1 hx)).1, seg_str (G8.out.2.1.seg.grown hx)⟩
  go_wp2_with fail
  refine wp_region_noPanic ?_
  refine wp_region_hold 1000 (fun x => w12.grownBy x none) (by kernel_rfl) ?_
  have J0 : Hid (w12.grownBy w12.drew none) := grown_drew _ _
  generalize w12.drew = w13 at J0 ⊢
  refine wpHold_take (i := 0) (v := _) (J0.out) rfl rfl (by kernel_rfl) (by kernel_rfl) (by kernel_rfl) (by kernel_rfl) (by kernel_rfl) (fun _ _ _ h => h) (by rfl) (fun wk hk => by obtain ⟨m0, m1⟩ := HC2.out wk hk; go_simp; try rfl) ?_
  try simp only [Act.put, List.setIfInBounds_toArray, List.set_cons_zero, List.set_cons_succ]
  refine wpHold_take (i := 1) (v := _) (J0.out) rfl rfl (by kernel_rfl) (by kernel_rfl) (by kernel_rfl) (by kernel_rfl) (by kernel_rfl) (fun _ _ _ h => h) (by rfl) (fun wk hk => by obtain ⟨m0, m1⟩ := HC2.out wk hk; go_simp; try rfl) ?_
  try simp only [Act.put, List.setIfInBounds_toArray, List.set_cons_zero, List.set_cons_succ]
  refine wpHold_take (i := 2) (v := _) (J0.out) rfl rfl (by kernel_rfl) (by kernel_rfl) (by kernel_rfl) (by kernel_rfl) (by kernel_rfl) (fun _ _ _ h => h) (by rfl) (fun wk hk => by obtain ⟨m0, m1⟩ := HC2.out wk hk; go_simp; try rfl) ?_
  try simp only [Act.put, List.setIfInBounds_toArray, List.set_cons_zero, List.set_cons_succ]
  refine wpHold_one (i := 3) rfl (by kernel_rfl) (by rfl) (fun K hK => ?_)
  go_wp2_with (go_at_call 20; refine (form20 _ A _ (HA.out.grown (grown_trans S3.out.2.1 (grown_trans G8.out.1 J0.out))) HZ.out.2.2.1).mono ?_)
  rintro e w14 ⟨u3, rfl, ho, hg⟩
  rw [← HZ.out.1] at ho
  obtain ⟨f3, q3, e3⟩ := ho.seg.shape
  rw [HL.out] at e3
  subst e3
  have J1 : Hid (w12.grownBy w14 none ∧ Seg w14 (.slice f3 lf q3) F) := ⟨grown_trans J0.out hg, ho.seg⟩
  clear hg ho
  go_wp2_with fail
  refine hK.out _ _ (fun _ => J1.out.1) ?_
  clear hK K
  have m2 : (convert 29 9 (.slice f3 lf q3)).run Tryz.prog w14 = .ok (.string ⟨F.toArray⟩) w14 := seg_str J1.out.2
  try simp only [Act.put, List.setIfInBounds_toArray, List.set_cons_zero, List.set_cons_succ]
  refine wpHold_one (i := 4) rfl (by kernel_rfl) (by rfl) (fun K hK => ?_)
  go_wp2_with fail
  refine hK.out _ _ (fun _ => J1.out.1) ?_
  clear hK K
  clear m2
  try simp only [Act.put, List.setIfInBounds_toArray, List.set_cons_zero, List.set_cons_succ]
  refine wpHold_take (i := 5) (v := _) (J1.out.1) rfl rfl (by kernel_rfl) (by kernel_rfl) (by kernel_rfl) (by kernel_rfl) (by kernel_rfl) (fun _ _ _ h => h) (by rfl) (fun wk hk => by obtain ⟨m0, m1⟩ := HC2.out wk hk; go_simp; try rfl) ?_
  try simp only [Act.put, List.setIfInBounds_toArray, List.set_cons_zero, List.set_cons_succ]
  refine wpHold_take (i := 6) (v := _) (J1.out.1) rfl rfl (by kernel_rfl) (by kernel_rfl) (by kernel_rfl) (by kernel_rfl) (by kernel_rfl) (fun _ _ _ h => h) (by rfl) (fun wk hk => by obtain ⟨m0, m1⟩ := HC2.out wk hk; go_simp; try rfl) ?_
  try simp only [Act.put, List.setIfInBounds_toArray, List.set_cons_zero, List.set_cons_succ]
  refine wpHold_take (i := 7) (v := _) (J1.out.1) rfl rfl (by kernel_rfl) (by kernel_rfl) (by kernel_rfl) (by kernel_rfl) (by kernel_rfl) (fun _ _ _ h => h) (by rfl) (fun wk hk => by obtain ⟨m0, m1⟩ := HC2.out wk hk; go_simp; try rfl) ?_
  try simp only [Act.put, List.setIfInBounds_toArray, List.set_cons_zero, List.set_cons_succ]
  refine wpHold_take (i := 8) (v := _) (J1.out.1) rfl rfl (by kernel_rfl) (by kernel_rfl) (by kernel_rfl) (by kernel_rfl) (by kernel_rfl) (fun _ _ _ h => h) (by rfl) (fun wk hk => by obtain ⟨m0, m1⟩ := HC2.out wk hk; go_simp; try rfl) ?_
  try simp only [Act.put, List.setIfInBounds_toArray, List.set_cons_zero, List.set_cons_succ]
  refine wpHold_one (i := 9) rfl (by kernel_rfl) (by rfl) (fun K hK => ?_)
  go_wp2_with (go_at_call 21; refine (text21 _ A _ (HA.out.grown (grown_trans S3.out.2.1 (grown_trans G8.out.1 J1.out.1))) HZ.out.2.2.1).mono ?_)
  rintro e w15 ⟨rfl, hg⟩
  rw [← HZ.out.2.1]
  unfold Str
  have J2 : Hid (w12.grownBy w15 none) := grown_trans J1.out.1 hg
  clear hg
  go_wp2_with fail
  refine hK.out _ _ (fun _ => J2.out) ?_
  clear hK K
  try simp only [Act.put, List.setIfInBounds_toArray, List.set_cons_zero, List.set_cons_succ]
  refine wpHold_take (i := 10) (v := _) (J2.out) rfl rfl (by kernel_rfl) (by kernel_rfl) (by kernel_rfl) (by kernel_rfl) (by kernel_rfl) (fun _ _ _ h => h) (by rfl) (fun wk hk => by obtain ⟨m0, m1⟩ := HC2.out wk hk; go_simp; try rfl) ?_
  try simp only [Act.put, List.setIfInBounds_toArray, List.set_cons_zero, List.set_cons_succ]
  refine wpHold_take (i := 11) (v := _) (J2.out) rfl rfl (by kernel_rfl) (by kernel_rfl) (by kernel_rfl) (by kernel_rfl) (by kernel_rfl) (fun _ _ _ h => h) (by rfl) (fun wk hk => by obtain ⟨m0, m1⟩ := HC2.out wk hk; go_simp; try rfl) ?_
  try simp only [Act.put, List.setIfInBounds_toArray, List.set_cons_zero, List.set_cons_succ]
  refine wpHold_done (by kernel_rfl) ?_
  refine (‹∀ (a : Act) (w : World), Code.wp Tryz.prog _ _ a w → _› _ _ ?_)
  have G9 : Hid (w3.grownBy w15 none ∧ Own w15 w4.heap.size (.slice f1 lf q1) F ∧ Own w15 w5.heap.size (.slice f2 lf q2) F) := ⟨grown_trans G8.out.1 J2.out, G8.out.2.1.grown J2.out, G8.out.2.2.grown J2.out⟩
  clear J0 J1 J2 G8 HC2
  obtain ⟨g, rfl, hg1, hg2⟩ : ∃ g, f1 = some ⟨g, 0, none⟩ ∧ w4.heap.size ≤ g ∧ g < w5.heap.size := by
    rcases G9.out.2.1.shape with ⟨h1, _⟩ | ⟨g, cap, h1, h2, _⟩
    · simp at h1; omega
    · simp at h1
      obtain ⟨rfl, _, rfl⟩ := h1
      have := sz5.out.2 g (by simp [Value.ownBlock])
      exact ⟨g, rfl, this.1, this.2⟩
  have HGG : Hid (w4.heap.size ≤ g ∧ g < w5.heap.size) := ⟨hg1, hg2⟩
  clear hg1 hg2
  go_wp2_with fail
  go_loopw [11] (fun i wr => ∃ k : Nat, k ≤ lf ∧ i = .int .i64 k ∧ Hid ((∃ L, L.length = lf ∧ Own wr w4.heap.size (.slice (some ⟨g, 0, none⟩) lf q1) L) ∧ Own wr w5.heap.size (.slice f2 lf q2) F ∧ w3.grownBy wr none)) (fun i _ => lf - (intOf i).toNat)
  case atStart => exact ⟨0, by omega, rfl, ⟨F, HL.out, G9.out.2.1⟩, G9.out.2.2, G9.out.1⟩
  case round =>
    obtain ⟨k, hk, rfl, HR⟩ := hrel
    clear G9
    by_cases hlt : k < lf
    · have i0 : (0 : Int) ≤ (k : Int) := by omega
      have i1 : (k : Int) < (lf : Int) := by omega
      obtain ⟨L, hL, ho⟩ := HR.out.1
      obtain ⟨dx, d0⟩ : ∃ x, wr.cell? ⟨g, k, none⟩ = some x := ⟨_, (Names.own_cell ho k (by omega)).1⟩
      have d1 := (Names.own_cell ho k (by omega)).2
      have R2 : Hid ((∃ L, L.length = lf ∧ Own (wr.setCell ⟨g, k, none⟩ (.int .u8 90)) w4.heap.size (.slice (some ⟨g, 0, none⟩) lf q1) L) ∧ Own (wr.setCell ⟨g, k, none⟩ (.int .u8 90)) w5.heap.size (.slice f2 lf q2) F ∧ w3.grownBy (wr.setCell ⟨g, k, none⟩ (.int .u8 90)) none) := by
        refine ⟨⟨L.set k 90, by rw [List.length_set]; exact hL, Names.own_store ho k 90 90 rfl⟩, ?_, grown_new HR.out.2.2 (grown_setCell _ _ _ _) (fun x hx => ?_)⟩
        · refine Own.same HR.out.2.1 (fun q hq => heap_setCell_other wr ⟨g, k, none⟩ q _ (fun e => ?_))
          have := (HR.out.2.1.lt q hq).1
          have := HGG.out.2
          simp at e
          omega
        · simp at hx
          have := HGG.out.1
          have := sz5.out.1
          omega
      clear hL ho
      go_wp2_with fail
      go_roundw
      case rel => exact ⟨k + 1, by omega, by go_num, R2⟩
      case measure => simp [intOf]; omega
    · have i1 : ((k : Int) < (lf : Int)) = False := eq_false (by omega)
      go_upto_region 18 with fail
      have HC2 : Hid (∀ x : World, wr.grownBy x none → x.cell? ⟨w.heap.size, 0, none⟩ = some (.slice ao n ca) ∧ (convert 29 9 (.slice f2 lf q2)).run Tryz.prog x = .ok (.string ⟨F.toArray⟩) x) := fun x hx => ⟨(HC.out x (grown_trans HR.out.2.2 hx)).1, seg_str (HR.out.2.1.seg.grown hx)⟩
      go_wp2_with fail
      refine wp_region_noPanic ?_
      refine wp_region_hold 1000 (fun x => wr.grownBy x none) (by kernel_rfl) ?_
      have J0 : Hid (wr.grownBy wr.drew none) := grown_drew _ _
      generalize wr.drew = w17 at J0 ⊢
      refine wpHold_take (i := 0) (v := _) (J0.out) rfl rfl (by kernel_rfl) (by kernel_rfl) (by kernel_rfl) (by kernel_rfl) (by kernel_rfl) (fun _ _ _ h => h) (by rfl) (fun wk hk => by obtain ⟨m0, m1⟩ := HC2.out wk hk; go_simp; try rfl) ?_
      try simp only [Act.put, List.setIfInBounds_toArray, List.set_cons_zero, List.set_cons_succ]
      refine wpHold_take (i := 1) (v := _) (J0.out) rfl rfl (by kernel_rfl) (by kernel_rfl) (by kernel_rfl) (by kernel_rfl) (by kernel_rfl) (fun _ _ _ h => h) (by rfl) (fun wk hk => by obtain ⟨m0, m1⟩ := HC2.out wk hk; go_simp; try rfl) ?_
      try simp only [Act.put, List.setIfInBounds_toArray, List.set_cons_zero, List.set_cons_succ]
      refine wpHold_take (i := 2) (v := _) (J0.out) rfl rfl (by kernel_rfl) (by kernel_rfl) (by kernel_rfl) (by kernel_rfl) (by kernel_rfl) (fun _ _ _ h => h) (by rfl) (fun wk hk => by obtain ⟨m0, m1⟩ := HC2.out wk hk; go_simp; try rfl) ?_
      try simp only [Act.put, List.setIfInBounds_toArray, List.set_cons_zero, List.set_cons_succ]
      refine wpHold_one (i := 3) rfl (by kernel_rfl) (by rfl) (fun K hK => ?_)
      go_wp2_with (go_at_call 20; refine (form20 _ A _ (HA.out.grown (grown_trans S3.out.2.1 (grown_trans HR.out.2.2 J0.out))) HZ.out.2.2.1).mono ?_)
      rintro e w18 ⟨u3, rfl, ho, hg⟩
      rw [← HZ.out.1] at ho
      obtain ⟨f3, q3, e3⟩ := ho.seg.shape
      rw [HL.out] at e3
      subst e3
      have J1 : Hid (wr.grownBy w18 none ∧ Seg w18 (.slice f3 lf q3) F) := ⟨grown_trans J0.out hg, ho.seg⟩
      clear hg ho
      go_wp2_with fail
      refine hK.out _ _ (fun _ => J1.out.1) ?_
      clear hK K
      have m2 : (convert 29 9 (.slice f3 lf q3)).run Tryz.prog w18 = .ok (.string ⟨F.toArray⟩) w18 := seg_str J1.out.2
      try simp only [Act.put, List.setIfInBounds_toArray, List.set_cons_zero, List.set_cons_succ]
      refine wpHold_one (i := 4) rfl (by kernel_rfl) (by rfl) (fun K hK => ?_)
      go_wp2_with fail
      refine hK.out _ _ (fun _ => J1.out.1) ?_
      clear hK K
      clear m2
      try simp only [Act.put, List.setIfInBounds_toArray, List.set_cons_zero, List.set_cons_succ]
      refine wpHold_take (i := 5) (v := _) (J1.out.1) rfl rfl (by kernel_rfl) (by kernel_rfl) (by kernel_rfl) (by kernel_rfl) (by kernel_rfl) (fun _ _ _ h => h) (by rfl) (fun wk hk => by obtain ⟨m0, m1⟩ := HC2.out wk hk; go_simp; try rfl) ?_
      try simp only [Act.put, List.setIfInBounds_toArray, List.set_cons_zero, List.set_cons_succ]
      refine wpHold_take (i := 6) (v := _) (J1.out.1) rfl rfl (by kernel_rfl) (by kernel_rfl) (by kernel_rfl) (by kernel_rfl) (by kernel_rfl) (fun _ _ _ h => h) (by rfl) (fun wk hk => by obtain ⟨m0, m1⟩ := HC2.out wk hk; go_simp; try rfl) ?_
      try simp only [Act.put, List.setIfInBounds_toArray, List.set_cons_zero, List.set_cons_succ]
      refine wpHold_one (i := 7) rfl (by kernel_rfl) (by rfl) (fun K hK => ?_)
      go_wp2_with (go_at_call 10; refine (known10 _ (HE.out.1.grown (grown_trans S3.out.2.1 (grown_trans HR.out.2.2 J1.out.1)))).mono ?_)
      rintro e w19 ⟨rfl, hg⟩
      have J2 : Hid (wr.grownBy w19 none) := grown_trans J1.out.1 hg
      clear hg
      go_wp2_with fail
      refine hK.out _ _ (fun _ => J2.out) ?_
      clear hK K
      try simp only [Act.put, List.setIfInBounds_toArray, List.set_cons_zero, List.set_cons_succ]
      refine wpHold_take (i := 8) (v := _) (J2.out) rfl rfl (by kernel_rfl) (by kernel_rfl) (by kernel_rfl) (by kernel_rfl) (by kernel_rfl) (fun _ _ _ h => h) (by rfl) (fun wk hk => by obtain ⟨m0, m1⟩ := HC2.out wk hk; go_simp; try rfl) ?_
      try simp only [Act.put, List.setIfInBounds_toArray, List.set_cons_zero, List.set_cons_succ]
      refine wpHold_take (i := 9) (v := _) (J2.out) rfl rfl (by kernel_rfl) (by kernel_rfl) (by kernel_rfl) (by kernel_rfl) (by kernel_rfl) (fun _ _ _ h => h) (by rfl) (fun wk hk => by obtain ⟨m0, m1⟩ := HC2.out wk hk; go_simp; try rfl) ?_
      try simp only [Act.put, List.setIfInBounds_toArray, List.set_cons_zero, List.set_cons_succ]
      refine wpHold_done (by kernel_rfl) ?_
      refine (‹∀ (a : Act) (w : World), Code.wp Tryz.prog _ _ a w → _› _ _ ?_)
      go_wp2_with fail
      go_ret
      exact ⟨rfl, grown_trans S3.out.2.1 (grown_trans HR.out.2.2 J2.out)⟩
end Go.Proofs.YtfocmbnhkldnfaaGreatDoor
