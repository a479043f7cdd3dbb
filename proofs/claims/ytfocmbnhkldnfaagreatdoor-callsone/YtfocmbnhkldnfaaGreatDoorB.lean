/-
  What an op has in the fields that its kind names.
-/
import Derived.Test.YtfocmbnhkldnfaaGreatDoorA
import Derived.Test.YtfocmbnhkldnfaaGreatDoorJg
import Derived.Test.YtfocmbnhkldnfaaGreatDoorNamesAll
import Derived.Deep.DeepCutAuto
namespace Go.Proofs.YtfocmbnhkldnfaaGreatDoor
open Go.RowKit Disk
open Names (Str)

/-- An op's value was told, its lists read in the new world. -/
def NewOp (w : World) (o : POp) (e : Ending) (w' : World) : Prop := ∃ k v ol t, e = .returned (opV k v ol t o) ∧ OpSeg w' k v ol t o ∧ w.grownBy w' none

theorem newOp_of {w w' : World} {o p : POp} {k v ol t : Value} {e : Ending} (he : e = .returned (opV k v ol t p)) (hp : p = o) (hs : OpSeg w' k v ol t p) (hg : w.grownBy w' none) : NewOp w o e w' := by subst hp; exact ⟨k, v, ol, t, he, hs, hg⟩
theorem opSeg_of {w w' : World} {k v ol t : Value} {a : POp} (h : OpSeg w k v ol t a) (hg : w.grownBy w' none) {k' v' ol' t' : Value} {p : POp} (h1 : (k' = k ∧ p.key = a.key) ∨ (k' = .slice none 0 0 ∧ p.key = [])) (h2 : (v' = v ∧ p.value = a.value) ∨ (v' = .slice none 0 0 ∧ p.value = []))
    (h3 : (ol' = ol ∧ p.old = a.old) ∨ (ol' = .slice none 0 0 ∧ p.old = [])) (h4 : (t' = t ∧ p.to = a.to) ∨ (t' = .slice none 0 0 ∧ p.to = [])) (hf : OpIn p) : OpSeg w' k' v' ol' t' p := by
  have hh := h.grown hg
  refine ⟨?_, ?_, ?_, ?_, hf⟩
  · rcases h1 with ⟨rfl, e⟩ | ⟨rfl, e⟩ <;> rw [e]
    · exact hh.key
    · exact seg_nil _
  · rcases h2 with ⟨rfl, e⟩ | ⟨rfl, e⟩ <;> rw [e]
    · exact hh.value
    · exact seg_nil _
  · rcases h3 with ⟨rfl, e⟩ | ⟨rfl, e⟩ <;> rw [e]
    · exact hh.old
    · exact seg_nil _
  · rcases h4 with ⟨rfl, e⟩ | ⟨rfl, e⟩ <;> rw [e]
    · exact hh.to
    · exact seg_nil _
theorem named_in {a : POp} (h : OpIn a) : OpIn (named a) := by
  obtain ⟨h1, h2, h3, h4, h5⟩ := h
  unfold named
  split
  · exact ⟨h1, h2, by simp, by simp, h5⟩
  · split
    · exact ⟨h1, h2, by simp, by simp, h5⟩
    · split
      · exact ⟨h1, h2, by simp, by simp, h5⟩
      · split
        · exact ⟨h1, h2, h3, h4, h5⟩
        · exact ⟨by simp, by simp, by simp, by simp, by simp⟩
theorem grown3 (w : World) (a b c : Obj) : w.grownBy (((w.alloc a).alloc b).alloc c) none := grown_trans (World.grownBy_alloc _ _ none) (grown_trans (World.grownBy_alloc _ _ none) (World.grownBy_alloc _ _ none))

set_option maxRecDepth 100000 in
set_option maxHeartbeats 8000000 in
theorem named163 (k v ol t : Value) (a : POp) (w : World) (ha : OpSeg w k v ol t a) :
    Calls Tryz.prog 163 #[opV k v ol t a] w (NewOp w (named a)) := by
  have HA : Hid (OpSeg w k v ol t a) := ha
  obtain ⟨a1, a2, a3, a4, b1, b2, b3, b4, e1, e2, e3, e4⟩ := ha.shapes
  have HE : Hid (k = .slice a1 a.key.length b1 ∧ v = .slice a2 a.value.length b2 ∧ ol = .slice a3 a.old.length b3 ∧ t = .slice a4 a.to.length b4) := ⟨e1, e2, e3, e4⟩
  have HN : Hid (OpIn (named a)) := named_in ha.fits
  clear ha
  unfold opV Str
  rw [e1, e2, e3, e4]
  clear e1 e2 e3 e4
  obtain ⟨kd, hkd⟩ : ∃ x, x = a.kind := ⟨_, rfl⟩
  have HK : Hid (kd = a.kind) := hkd
  rw [← hkd]
  clear hkd
  by_cases h1 : kd = 1
  · subst h1
    have hp : named a = ⟨1, a.table, a.key, [], false, [], [], 0⟩ := by unfold named; rw [if_pos (.inl HK.out.symm), ← HK.out]
    rw [hp] at HN
    rw [hp]
    clear hp
    go_enter Tryz.func163, Tryz.ntmps163
    go_wp2_with fail
    refine bodyPost_ret (v := _) (by simp [results, Tryz.results163, go_sem]; rfl) rfl ?_
    exact newOp_of (p := ⟨1, a.table, a.key, [], false, [], [], 0⟩) rfl rfl (opSeg_of HA.out (grown3 _ _ _ _) (.inl ⟨HE.out.1.symm, rfl⟩) (.inr ⟨rfl, rfl⟩) (.inr ⟨rfl, rfl⟩) (.inr ⟨rfl, rfl⟩) HN.out) (grown3 _ _ _ _)
  by_cases h3 : kd = 3
  · subst h3
    have hp : named a = ⟨3, a.table, a.key, [], false, [], [], 0⟩ := by unfold named; rw [if_pos (.inr HK.out.symm), ← HK.out]
    rw [hp] at HN
    rw [hp]
    clear hp
    go_enter Tryz.func163, Tryz.ntmps163
    go_wp2_with fail
    refine bodyPost_ret (v := _) (by simp [results, Tryz.results163, go_sem]; rfl) rfl ?_
    exact newOp_of (p := ⟨3, a.table, a.key, [], false, [], [], 0⟩) rfl rfl (opSeg_of HA.out (grown3 _ _ _ _) (.inl ⟨HE.out.1.symm, rfl⟩) (.inr ⟨rfl, rfl⟩) (.inr ⟨rfl, rfl⟩) (.inr ⟨rfl, rfl⟩) HN.out) (grown3 _ _ _ _)
  by_cases h2 : kd = 2
  · subst h2
    have hp : named a = ⟨2, a.table, a.key, a.value, false, [], [], 0⟩ := by unfold named; rw [if_neg (by rw [← HK.out]; omega), if_pos HK.out.symm, ← HK.out]
    rw [hp] at HN
    rw [hp]
    clear hp
    go_enter Tryz.func163, Tryz.ntmps163
    go_wp2_with fail
    refine bodyPost_ret (v := _) (by simp [results, Tryz.results163, go_sem]; rfl) rfl ?_
    exact newOp_of (p := ⟨2, a.table, a.key, a.value, false, [], [], 0⟩) rfl rfl (opSeg_of HA.out (grown3 _ _ _ _) (.inl ⟨HE.out.1.symm, rfl⟩) (.inl ⟨HE.out.2.1.symm, rfl⟩) (.inr ⟨rfl, rfl⟩) (.inr ⟨rfl, rfl⟩) HN.out) (grown3 _ _ _ _)
  by_cases h4 : kd = 4
  · subst h4
    have hp : named a = ⟨4, a.table, a.key, a.value, a.has, a.old, [], 0⟩ := by unfold named; rw [if_neg (by rw [← HK.out]; omega), if_neg (by rw [← HK.out]; omega), if_pos HK.out.symm, ← HK.out]
    rw [hp] at HN
    rw [hp]
    clear hp
    go_enter Tryz.func163, Tryz.ntmps163
    go_wp2_with fail
    refine wp_region_noPanic ?_
    refine wp_region_hold 1000 (fun x => x.cell? ⟨w.heap.size, 3, none⟩ = some (.slice a2 a.value.length b2) ∧ x.cell? ⟨w.heap.size, 4, none⟩ = some (.bool a.has) ∧ x.cell? ⟨w.heap.size, 5, none⟩ = some (.slice a3 a.old.length b3)) (by kernel_rfl) ?_
    refine wpHold_take (i := 0) (v := _) (by simp [go_sem]) rfl rfl (by kernel_rfl) (by kernel_rfl) (by kernel_rfl) (by kernel_rfl) (by kernel_rfl) (fun _ _ _ h => h) (by rfl) (fun wk hk => by obtain ⟨q1, q2, q3⟩ := hk; go_simp; try rfl) ?_
    try simp only [Act.put, List.setIfInBounds_toArray, List.set_cons_zero, List.set_cons_succ]
    refine wpHold_take (i := 1) (v := _) (by simp [go_sem]) rfl rfl (by kernel_rfl) (by kernel_rfl) (by kernel_rfl) (by kernel_rfl) (by kernel_rfl) (fun _ _ _ h => h) (by rfl) (fun wk hk => by obtain ⟨q1, q2, q3⟩ := hk; go_simp; try rfl) ?_
    try simp only [Act.put, List.setIfInBounds_toArray, List.set_cons_zero, List.set_cons_succ]
    refine wpHold_take (i := 2) (v := _) (by simp [go_sem]) rfl rfl (by kernel_rfl) (by kernel_rfl) (by kernel_rfl) (by kernel_rfl) (by kernel_rfl) (fun _ _ _ h => h) (by rfl) (fun wk hk => by obtain ⟨q1, q2, q3⟩ := hk; go_simp; try rfl) ?_
    try simp only [Act.put, List.setIfInBounds_toArray, List.set_cons_zero, List.set_cons_succ]
    refine wpHold_take (i := 3) (v := _) (by simp [go_sem]) rfl rfl (by kernel_rfl) (by kernel_rfl) (by kernel_rfl) (by kernel_rfl) (by kernel_rfl) (fun _ _ _ h => h) (by rfl) (fun wk hk => by obtain ⟨q1, q2, q3⟩ := hk; go_simp; try rfl) ?_
    try simp only [Act.put, List.setIfInBounds_toArray, List.set_cons_zero, List.set_cons_succ]
    refine wpHold_take (i := 4) (v := _) (by simp [go_sem]) rfl rfl (by kernel_rfl) (by kernel_rfl) (by kernel_rfl) (by kernel_rfl) (by kernel_rfl) (fun _ _ _ h => h) (by rfl) (fun wk hk => by obtain ⟨q1, q2, q3⟩ := hk; go_simp; try rfl) ?_
    try simp only [Act.put, List.setIfInBounds_toArray, List.set_cons_zero, List.set_cons_succ]
    refine wpHold_take (i := 5) (v := _) (by simp [go_sem]) rfl rfl (by kernel_rfl) (by kernel_rfl) (by kernel_rfl) (by kernel_rfl) (by kernel_rfl) (fun _ _ _ h => h) (by rfl) (fun wk hk => by obtain ⟨q1, q2, q3⟩ := hk; go_simp; try rfl) ?_
    try simp only [Act.put, List.setIfInBounds_toArray, List.set_cons_zero, List.set_cons_succ]
    refine wpHold_take (i := 6) (v := _) (by simp [go_sem]) rfl rfl (by kernel_rfl) (by kernel_rfl) (by kernel_rfl) (by kernel_rfl) (by kernel_rfl) (fun _ _ _ h => h) (by rfl) (fun wk hk => by obtain ⟨q1, q2, q3⟩ := hk; go_simp; try rfl) ?_
    try simp only [Act.put, List.setIfInBounds_toArray, List.set_cons_zero, List.set_cons_succ]
    refine wpHold_one (i := 7) rfl (by kernel_rfl) (by rfl) (fun K hK => ?_)
    go_wp2_with fail
    refine hK.out _ _ (fun _ => by simp [go_sem]) ?_
    clear hK K
    try simp only [Act.put, List.setIfInBounds_toArray, List.set_cons_zero, List.set_cons_succ]
    refine wpHold_take (i := 8) (v := _) (by simp [go_sem]) rfl rfl (by kernel_rfl) (by kernel_rfl) (by kernel_rfl) (by kernel_rfl) (by kernel_rfl) (fun _ _ _ h => h) (by rfl) (fun wk hk => by obtain ⟨q1, q2, q3⟩ := hk; go_simp; try rfl) ?_
    try simp only [Act.put, List.setIfInBounds_toArray, List.set_cons_zero, List.set_cons_succ]
    refine wpHold_one (i := 9) rfl (by kernel_rfl) (by rfl) (fun K hK => ?_)
    go_wp2_with fail
    refine hK.out _ _ (fun _ => by simp [go_sem]) ?_
    clear hK K
    try simp only [Act.put, List.setIfInBounds_toArray, List.set_cons_zero, List.set_cons_succ]
    refine wpHold_take (i := 10) (v := _) (by simp [go_sem]) rfl rfl (by kernel_rfl) (by kernel_rfl) (by kernel_rfl) (by kernel_rfl) (by kernel_rfl) (fun _ _ _ h => h) (by rfl) (fun wk hk => by obtain ⟨q1, q2, q3⟩ := hk; go_simp; try rfl) ?_
    try simp only [Act.put, List.setIfInBounds_toArray, List.set_cons_zero, List.set_cons_succ]
    refine wpHold_one (i := 11) rfl (by kernel_rfl) (by rfl) (fun K hK => ?_)
    go_wp2_with fail
    refine hK.out _ _ (fun _ => by simp [go_sem]) ?_
    clear hK K
    try simp only [Act.put, List.setIfInBounds_toArray, List.set_cons_zero, List.set_cons_succ]
    refine wpHold_done (by kernel_rfl) ?_
    refine (‹∀ (a : Act) (w : World), Code.wp Tryz.prog _ _ a w → _› _ _ ?_)
    go_wp2_with fail
    refine bodyPost_ret (v := _) (by simp [results, Tryz.results163, go_sem]; rfl) rfl ?_
    exact newOp_of (p := ⟨4, a.table, a.key, a.value, a.has, a.old, [], 0⟩) rfl rfl (opSeg_of HA.out (grown_trans (grown3 _ _ _ _) (grown_drew _ _)) (.inl ⟨HE.out.1.symm, rfl⟩) (.inl ⟨HE.out.2.1.symm, rfl⟩) (.inl ⟨HE.out.2.2.1.symm, rfl⟩) (.inr ⟨rfl, rfl⟩) HN.out) (grown_trans (grown3 _ _ _ _) (grown_drew _ _))
  by_cases h5 : kd = 5
  · subst h5
    have hp : named a = ⟨5, a.table, a.key, [], false, [], a.to, a.most⟩ := by unfold named; rw [if_neg (by rw [← HK.out]; omega), if_neg (by rw [← HK.out]; omega), if_neg (by rw [← HK.out]; omega), if_pos HK.out.symm, ← HK.out]
    rw [hp] at HN
    rw [hp]
    clear hp
    go_enter Tryz.func163, Tryz.ntmps163
    go_wp2_with fail
    refine wp_region_noPanic ?_
    refine wp_region_hold 1000 (fun x => x.cell? ⟨w.heap.size, 6, none⟩ = some (.slice a4 a.to.length b4) ∧ x.cell? ⟨w.heap.size, 7, none⟩ = some (.int .i64 a.most)) (by kernel_rfl) ?_
    refine wpHold_take (i := 0) (v := _) (by simp [go_sem]) rfl rfl (by kernel_rfl) (by kernel_rfl) (by kernel_rfl) (by kernel_rfl) (by kernel_rfl) (fun _ _ _ h => h) (by rfl) (fun wk hk => by obtain ⟨q1, q2⟩ := hk; go_simp; try rfl) ?_
    try simp only [Act.put, List.setIfInBounds_toArray, List.set_cons_zero, List.set_cons_succ]
    refine wpHold_take (i := 1) (v := _) (by simp [go_sem]) rfl rfl (by kernel_rfl) (by kernel_rfl) (by kernel_rfl) (by kernel_rfl) (by kernel_rfl) (fun _ _ _ h => h) (by rfl) (fun wk hk => by obtain ⟨q1, q2⟩ := hk; go_simp; try rfl) ?_
    try simp only [Act.put, List.setIfInBounds_toArray, List.set_cons_zero, List.set_cons_succ]
    refine wpHold_take (i := 2) (v := _) (by simp [go_sem]) rfl rfl (by kernel_rfl) (by kernel_rfl) (by kernel_rfl) (by kernel_rfl) (by kernel_rfl) (fun _ _ _ h => h) (by rfl) (fun wk hk => by obtain ⟨q1, q2⟩ := hk; go_simp; try rfl) ?_
    try simp only [Act.put, List.setIfInBounds_toArray, List.set_cons_zero, List.set_cons_succ]
    refine wpHold_take (i := 3) (v := _) (by simp [go_sem]) rfl rfl (by kernel_rfl) (by kernel_rfl) (by kernel_rfl) (by kernel_rfl) (by kernel_rfl) (fun _ _ _ h => h) (by rfl) (fun wk hk => by obtain ⟨q1, q2⟩ := hk; go_simp; try rfl) ?_
    try simp only [Act.put, List.setIfInBounds_toArray, List.set_cons_zero, List.set_cons_succ]
    refine wpHold_take (i := 4) (v := _) (by simp [go_sem]) rfl rfl (by kernel_rfl) (by kernel_rfl) (by kernel_rfl) (by kernel_rfl) (by kernel_rfl) (fun _ _ _ h => h) (by rfl) (fun wk hk => by obtain ⟨q1, q2⟩ := hk; go_simp; try rfl) ?_
    try simp only [Act.put, List.setIfInBounds_toArray, List.set_cons_zero, List.set_cons_succ]
    refine wpHold_one (i := 5) rfl (by kernel_rfl) (by rfl) (fun K hK => ?_)
    go_wp2_with fail
    refine hK.out _ _ (fun _ => by simp [go_sem]) ?_
    clear hK K
    try simp only [Act.put, List.setIfInBounds_toArray, List.set_cons_zero, List.set_cons_succ]
    refine wpHold_take (i := 6) (v := _) (by simp [go_sem]) rfl rfl (by kernel_rfl) (by kernel_rfl) (by kernel_rfl) (by kernel_rfl) (by kernel_rfl) (fun _ _ _ h => h) (by rfl) (fun wk hk => by obtain ⟨q1, q2⟩ := hk; go_simp; try rfl) ?_
    try simp only [Act.put, List.setIfInBounds_toArray, List.set_cons_zero, List.set_cons_succ]
    refine wpHold_one (i := 7) rfl (by kernel_rfl) (by rfl) (fun K hK => ?_)
    go_wp2_with fail
    refine hK.out _ _ (fun _ => by simp [go_sem]) ?_
    clear hK K
    try simp only [Act.put, List.setIfInBounds_toArray, List.set_cons_zero, List.set_cons_succ]
    refine wpHold_done (by kernel_rfl) ?_
    refine (‹∀ (a : Act) (w : World), Code.wp Tryz.prog _ _ a w → _› _ _ ?_)
    go_wp2_with fail
    refine bodyPost_ret (v := _) (by simp [results, Tryz.results163, go_sem]; rfl) rfl ?_
    exact newOp_of (p := ⟨5, a.table, a.key, [], false, [], a.to, a.most⟩) rfl rfl (opSeg_of HA.out (grown_trans (grown3 _ _ _ _) (grown_drew _ _)) (.inl ⟨HE.out.1.symm, rfl⟩) (.inr ⟨rfl, rfl⟩) (.inr ⟨rfl, rfl⟩) (.inl ⟨HE.out.2.2.2.symm, rfl⟩) HN.out) (grown_trans (grown3 _ _ _ _) (grown_drew _ _))
  · have hp : named a = ⟨0, [], [], [], false, [], [], 0⟩ := by unfold named; rw [if_neg (by rw [← HK.out]; omega), if_neg (by rw [← HK.out]; omega), if_neg (by rw [← HK.out]; omega), if_neg (by rw [← HK.out]; omega)]
    rw [hp] at HN
    rw [hp]
    clear hp
    go_enter Tryz.func163, Tryz.ntmps163
    go_wp2_with fail
    refine bodyPost_ret (v := _) (by simp [results, Tryz.results163, go_sem]; rfl) rfl ?_
    exact newOp_of (p := ⟨0, [], [], [], false, [], [], 0⟩) rfl rfl (opSeg_of HA.out (grown3 _ _ _ _) (.inr ⟨rfl, rfl⟩) (.inr ⟨rfl, rfl⟩) (.inr ⟨rfl, rfl⟩) (.inr ⟨rfl, rfl⟩) HN.out) (grown3 _ _ _ _)
end Go.Proofs.YtfocmbnhkldnfaaGreatDoor
