/-
  Copies of a net; what goes over it.
-/
import Derived.Test.YthobfpegbnkpfaaSF
namespace Go.Proofs.Ythobfpegbnkpfaa.S
open Go.RowKit Disk Table

set_option maxRecDepth 100000 in
set_option maxHeartbeats 2000000 in
theorem copy_yes (b B : Nat) (v : Value) (q : List Pcl) (s : Int) (w : World) (h : Net w b B v q s) : Calls Try.prog 15 #[.pointer (some ⟨b, 0, none⟩)] w fun e w' => ∃ c u, e = .returned (.pointer (some ⟨c, 0, none⟩)) ∧ w.heap.size ≤ c ∧ Net w' c w.heap.size u q s ∧ w.grownBy w' none := by
  have HN : Hid (Net w b B v q s) := h
  clear h
  go_enter Try.func15, Try.ntmps15
  go_wp2_with fail
  refine (there_yes b _ _ true w HN.out.blk).mono ?_
  rintro e w1 ⟨rfl, rfl⟩
  go_upto_region 3 with fail
  refine wp_region_hold 1000 (fun y => w1.grownBy y none) (by kernel_rfl) ?_
  have HD : Hid (w1.grownBy w1.drew none) := grown_drew _ _
  generalize w1.drew = wd at HD ⊢
  have J : Idx [0, 2, 3, 4, 5] := trivial
  iterate 5 (refine tk J (HD.out) rfl rfl (fun wk hk => by have k2 := (HN.out.blk.grown hk (by simp)).cell 2; simp at k2; go_simp; try rfl) ?_; replace J := J.tl; try simp only [Act.put, List.setIfInBounds_toArray, List.set_cons_zero, List.set_cons_succ])
  clear J
  refine wpHold_one (i := 1) rfl (by kernel_rfl) (by rfl) (fun K hK => ?_)
  go_wp2_with fail
  refine (now_yes b B v q s wd (HN.out.grown HD.out)).mono ?_
  rintro e w2 ⟨u, rfl, hw, hg⟩
  obtain ⟨uo, uc, rfl⟩ := hw.sl
  have H2 : Hid (Way w2 w1.heap.size (.slice uo q.length uc) q ∧ w1.grownBy w2 none) := ⟨⟨hw.row.mono HD.out.size, hw.par⟩, grown_trans HD.out hg⟩
  clear hw hg
  obtain ⟨n, hn⟩ : ∃ n, q.length = n := ⟨_, rfl⟩
  rw [hn] at H2 ⊢
  clear hn
  go_wp2_with fail
  refine hK.out _ _ (fun _ => H2.out.2) ?_
  clear hK K
  try simp only [Act.put, List.setIfInBounds_toArray, List.set_cons_zero, List.set_cons_succ]
  have J : Idx [6] := trivial
  iterate 1 (refine tk J (H2.out.2) rfl rfl (fun wk hk => by have k2 := (HN.out.blk.grown hk (by simp)).cell 2; simp at k2; go_simp; try rfl) ?_; replace J := J.tl; try simp only [Act.put, List.setIfInBounds_toArray, List.set_cons_zero, List.set_cons_succ])
  clear J
  refine wpHold_one (i := 7) rfl (by kernel_rfl) (by rfl) (fun K hK => ?_)
  go_wp2_with fail
  obtain ⟨c, hc⟩ : ∃ c, w2.heap.size = c := ⟨_, rfl⟩
  obtain ⟨w3, hw3, H3⟩ := al1 w2 #[.bool true, .slice uo n uc, .int .i64 s] 58
  rw [hw3]
  rw [hc] at H3 ⊢
  have H4 : Hid (w1.heap.size ≤ c ∧ Net w3 c w1.heap.size (.slice uo n uc) q s ∧ w1.grownBy w3 none) := by
    have h2 := H2.out.2.size
    exact ⟨by omega, ⟨H3.out.1, H2.out.1.grown H3.out.2.1, HN.out.len, HN.out.asc, HN.out.top, HN.out.low⟩, grown_trans H2.out.2 H3.out.2.1⟩
  clear hw3 H3 H2 hc
  refine hK.out _ _ (fun _ => H4.out.2.2) ?_
  clear hK K
  try simp only [Act.put, List.setIfInBounds_toArray, List.set_cons_zero, List.set_cons_succ]
  have J : Idx [8] := trivial
  iterate 1 (refine tk J (H4.out.2.2) rfl rfl (fun wk hk => by have k2 := (HN.out.blk.grown hk (by simp)).cell 2; simp at k2; go_simp; try rfl) ?_; replace J := J.tl; try simp only [Act.put, List.setIfInBounds_toArray, List.set_cons_zero, List.set_cons_succ])
  clear J
  refine wpHold_done (by kernel_rfl) ?_
  refine (‹∀ (a : Act) (w : World), Code.wp Try.prog _ _ a w → _› _ _ ?_)
  go_wp2_with fail
  go_ret
  exact ⟨c, _, rfl, H4.out⟩
set_option maxRecDepth 100000 in
set_option maxHeartbeats 2000000 in
theorem copy_no (x : Value) (w : World) (h : NoNet w x) : Calls Try.prog 15 #[x] w fun e w' => e = .returned (.pointer none) ∧ w' = w := by
  have HN : Hid (NoNet w x) := h
  clear h
  go_enter Try.func15, Try.ntmps15
  go_wp2_with fail
  refine (there_no x w HN.out).mono ?_
  rintro e w1 ⟨rfl, rfl⟩
  go_wp2_with fail
  go_ret
  exact ⟨rfl, rfl⟩

/-- What All answers. -/
def AllP (q : List Pcl) (w : World) (e : Ending) (w' : World) : Prop := ∃ bx u, e = .returned (.func (.func 43) #[] #[.pointer (some ⟨bx, 0, none⟩)]) ∧ w.heap.size ≤ bx ∧ Blk w' bx 56 #[u] ∧ Way w' w.heap.size u q ∧ w.grownBy w' none
set_option maxRecDepth 100000 in
set_option maxHeartbeats 2000000 in
theorem all_yes (b B : Nat) (v : Value) (q : List Pcl) (s : Int) (w : World) (h : Net w b B v q s) : Calls Try.prog 36 #[.pointer (some ⟨b, 0, none⟩)] w (AllP q w) := by
  have HN : Hid (Net w b B v q s) := h
  clear h
  go_enter Try.func36, Try.ntmps36
  go_wp2_with fail
  refine (now_yes b B v q s w HN.out).mono ?_
  rintro e w1 ⟨u, rfl, hw, hg⟩
  obtain ⟨uo, uc, rfl⟩ := hw.sl
  have H1 : Hid (Way w1 w.heap.size (.slice uo q.length uc) q ∧ w.grownBy w1 none) := ⟨hw, hg⟩
  clear hw hg
  obtain ⟨n, hn⟩ : ∃ n, q.length = n := ⟨_, rfl⟩
  rw [hn] at H1 ⊢
  clear hn
  go_wp2_with fail
  refine (over_call uo n uc w1).mono ?_
  rintro e w2 ⟨rfl, hb, hg, hz⟩
  have H2 : Hid (AllP q w (.returned (.func (.func 43) #[] #[.pointer (some ⟨w1.heap.size, 0, none⟩)])) w2) := ⟨_, _, rfl, H1.out.2.size, hb, H1.out.1.grown hg, grown_trans H1.out.2 hg⟩
  clear hb hg hz
  go_wp2_with fail
  go_ret
  exact H2.out
set_option maxRecDepth 100000 in
set_option maxHeartbeats 2000000 in
theorem all_no (x : Value) (w : World) (h : NoNet w x) : Calls Try.prog 36 #[x] w (AllP [] w) := by
  have HN : Hid (NoNet w x) := h
  clear h
  go_enter Try.func36, Try.ntmps36
  go_wp2_with fail
  refine (now_no x w HN.out).mono ?_
  rintro e w1 ⟨rfl, rfl⟩
  go_wp2_with fail
  refine (over_call none 0 0 w1).mono ?_
  rintro e w2 ⟨rfl, hb, hg, hz⟩
  have H2 : Hid (AllP [] w1 (.returned (.func (.func 43) #[] #[.pointer (some ⟨w1.heap.size, 0, none⟩)])) w2) := ⟨_, _, rfl, Nat.le_refl _, hb, Way.nil _ _, hg⟩
  clear hb hg hz
  go_wp2_with fail
  go_ret
  exact H2.out
end Go.Proofs.Ythobfpegbnkpfaa.S
