/-
  The document's May and New.
-/
import Derived.Test.YtlehikdlkdbacaaRb
namespace Go.Proofs.Ytlehikdlkdbacaa
open Go.RowKit Disk
open Names (cmpL keyB valueB inB)

def MayPost (l : List PRow) (w : World) (e : Ending) (w' : World) : Prop := ∃ d : Bool, e = .returned (.bool d) ∧ (d = true ↔ Good l) ∧ ∃ m, w' = w.drewN m
def ThinR (l : List PRow) : Prop := l.length ≤ 1000000 ∧ ∀ r ∈ l, r.1.length ≤ 100000 ∧ r.2.length ≤ 100000

def NwPost (l : List PRow) (w : World) (e : Ending) (w' : World) : Prop := ∃ b v, e = .returned (.pointer (some ⟨b, 0, none⟩)) ∧ w.heap.size ≤ b ∧ Blk w' b 34 #[v] ∧ TRws w' w.heap.size v l ∧ w.grownBy w' none

set_option maxRecDepth 100000 in
set_option maxHeartbeats 8000000 in
theorem new31 (v : Value) (l : List PRow) (hz : ThinR l) (w : World) (hv : Rws w v l) : Calls Try.prog 31 #[v] w fun e w' => NwPost l w e w' := by
  obtain ⟨ao, n, cap, rfl, hn, h1, h2, HV⟩ := rws_open hv
  have HN : Hid (l.length = n ∧ ThinR l) := ⟨hn, hz⟩
  have hn6 : n ≤ 1000000 := by rw [← hn]; exact hz.1
  clear hv hn hz
  go_enter Try.func31, Try.ntmps31
  go_wp2_with fail
  obtain ⟨w1, hw1, H1⟩ := al w #[.slice none 0 0] 34
  rw [hw1]
  clear hw1
  obtain ⟨tb, htb⟩ : ∃ b, w.heap.size = b := ⟨_, rfl⟩
  rw [htb] at H1 ⊢
  have HTB : Hid (w.heap.size = tb) := htb
  clear htb
  go_wp2_with fail
  go_loopw [4] (fun i wr => ∃ (k : Nat) (tv : Value), k ≤ n ∧ i = .int .i64 (k : Int) ∧ Blk wr tb 34 #[tv] ∧ TRws wr (tb + 1) tv (l.take k) ∧ w.grownBy wr none) (fun i _ => n - (intOf i).toNat)
  case atStart => exact ⟨0, .slice none 0 0, Nat.zero_le _, rfl, H1.out.1, TRws.nil _ _, H1.out.2.1⟩
  case round =>
    obtain ⟨k, tv, hk, rfl, hblk, htr, hgr⟩ := hrel
    have HR : Hid (Blk wr tb 34 #[tv] ∧ TRws wr (tb + 1) tv (l.take k) ∧ w.grownBy wr none) := ⟨hblk, htr, hgr⟩
    obtain ⟨at', nt, ct, rfl, hnt, _, _, _⟩ := rws_open htr.rws
    clear hblk htr hgr
    rcases Nat.lt_or_ge k n with hlt | hge
    · have ka : k < l.length := by rw [HN.out.1]; exact hlt
      have hkt : nt = k := by rw [← hnt, List.length_take]; omega
      subst hkt
      clear hnt
      obtain ⟨bb, off, x, y, rfl, c0, c1, sx, sy⟩ := rws_at HV.out nt ka
      have hrl := HN.out.2.2 _ (List.getElem_mem ka)
      have i0 : (0 : Int) ≤ (nt : Int) := by omega
      have i1 : (nt : Int) < (n : Int) := by omega
      obtain ⟨r, hr⟩ : ∃ r, l[nt] = r := ⟨_, rfl⟩
      rw [hr] at sx sy hrl
      have HX : Hid (Seg w x r.1 ∧ Seg w y r.2 ∧ r.1.length ≤ 100000 ∧ r.2.length ≤ 100000 ∧ l.take (nt + 1) = l.take nt ++ [r]) := ⟨sx, sy, hrl.1, hrl.2, by rw [List.take_add_one, List.getElem?_eq_getElem ka, hr]; rfl⟩
      clear sx sy hrl hr
      have HM : Hid (∀ z : World, w.grownBy z none ∧ Blk z tb 34 #[.slice at' nt ct] → z.cell? ⟨bb, off + nt * 2, none⟩ = some x ∧ z.cell? ⟨bb, off + nt * 2 + 1, none⟩ = some y ∧ z.cell? ⟨tb, 0, none⟩ = some (.slice at' nt ct)) := fun z hz => ⟨hz.1.cell c0 (by simp), hz.1.cell c1 (by simp), hz.2.cell 0⟩
      have HW : Hid (∀ z : World, wr.grownBy z none → w.grownBy z none ∧ Blk z tb 34 #[.slice at' nt ct]) := fun z hz => ⟨grown_trans HR.out.2.2 hz, HR.out.1.grown hz (by simp)⟩
      clear c0 c1
      go_upto_region 5 with fail
      refine wp_region_noPanic ?_
      refine wp_region_hold 22 (fun y => w.grownBy y none ∧ Blk y tb 34 #[.slice at' nt ct]) (by kernel_rfl) ?_
      have G0 : Hid (wr.grownBy wr.drew none) := grown_drew _ _
      generalize wr.drew = wd at G0 ⊢
      refine wpHold_take (i := 0) (v := _) (HW.out _ G0.out) rfl rfl (by kernel_rfl) (by kernel_rfl) (by kernel_rfl) (by kernel_rfl) (by kernel_rfl) (fun _ _ _ h => h) (by rfl) (fun wk hk => by obtain ⟨z0, z1, z2⟩ := HM.out wk hk; go_simp; try rfl) ?_
      try simp only [Act.put, List.setIfInBounds_toArray, List.set_cons_zero, List.set_cons_succ]
      refine wpHold_take (i := 1) (v := _) (HW.out _ G0.out) rfl rfl (by kernel_rfl) (by kernel_rfl) (by kernel_rfl) (by kernel_rfl) (by kernel_rfl) (fun _ _ _ h => h) (by rfl) (fun wk hk => by obtain ⟨z0, z1, z2⟩ := HM.out wk hk; go_simp; try rfl) ?_
      try simp only [Act.put, List.setIfInBounds_toArray, List.set_cons_zero, List.set_cons_succ]
      refine wpHold_take (i := 2) (v := _) (HW.out _ G0.out) rfl rfl (by kernel_rfl) (by kernel_rfl) (by kernel_rfl) (by kernel_rfl) (by kernel_rfl) (fun _ _ _ h => h) (by rfl) (fun wk hk => by obtain ⟨z0, z1, z2⟩ := HM.out wk hk; go_simp; try rfl) ?_
      try simp only [Act.put, List.setIfInBounds_toArray, List.set_cons_zero, List.set_cons_succ]
      refine wpHold_take (i := 3) (v := _) (HW.out _ G0.out) rfl rfl (by kernel_rfl) (by kernel_rfl) (by kernel_rfl) (by kernel_rfl) (by kernel_rfl) (fun _ _ _ h => h) (by rfl) (fun wk hk => by obtain ⟨z0, z1, z2⟩ := HM.out wk hk; go_simp; try rfl) ?_
      try simp only [Act.put, List.setIfInBounds_toArray, List.set_cons_zero, List.set_cons_succ]
      refine wpHold_take (i := 4) (v := _) (HW.out _ G0.out) rfl rfl (by kernel_rfl) (by kernel_rfl) (by kernel_rfl) (by kernel_rfl) (by kernel_rfl) (fun _ _ _ h => h) (by rfl) (fun wk hk => by obtain ⟨z0, z1, z2⟩ := HM.out wk hk; go_simp; try rfl) ?_
      try simp only [Act.put, List.setIfInBounds_toArray, List.set_cons_zero, List.set_cons_succ]
      refine wpHold_take (i := 5) (v := _) (HW.out _ G0.out) rfl rfl (by kernel_rfl) (by kernel_rfl) (by kernel_rfl) (by kernel_rfl) (by kernel_rfl) (fun _ _ _ h => h) (by rfl) (fun wk hk => by obtain ⟨z0, z1, z2⟩ := HM.out wk hk; go_simp; try rfl) ?_
      try simp only [Act.put, List.setIfInBounds_toArray, List.set_cons_zero, List.set_cons_succ]
      refine wpHold_take (i := 6) (v := _) (HW.out _ G0.out) rfl rfl (by kernel_rfl) (by kernel_rfl) (by kernel_rfl) (by kernel_rfl) (by kernel_rfl) (fun _ _ _ h => h) (by rfl) (fun wk hk => by obtain ⟨z0, z1, z2⟩ := HM.out wk hk; go_simp; try rfl) ?_
      try simp only [Act.put, List.setIfInBounds_toArray, List.set_cons_zero, List.set_cons_succ]
      refine wpHold_take (i := 7) (v := _) (HW.out _ G0.out) rfl rfl (by kernel_rfl) (by kernel_rfl) (by kernel_rfl) (by kernel_rfl) (by kernel_rfl) (fun _ _ _ h => h) (by rfl) (fun wk hk => by obtain ⟨z0, z1, z2⟩ := HM.out wk hk; go_simp; try rfl) ?_
      try simp only [Act.put, List.setIfInBounds_toArray, List.set_cons_zero, List.set_cons_succ]
      refine wpHold_take (i := 8) (v := _) (HW.out _ G0.out) rfl rfl (by kernel_rfl) (by kernel_rfl) (by kernel_rfl) (by kernel_rfl) (by kernel_rfl) (fun _ _ _ h => h) (by rfl) (fun wk hk => by obtain ⟨z0, z1, z2⟩ := HM.out wk hk; go_simp; try rfl) ?_
      try simp only [Act.put, List.setIfInBounds_toArray, List.set_cons_zero, List.set_cons_succ]
      refine wpHold_take (i := 9) (v := _) (HW.out _ G0.out) rfl rfl (by kernel_rfl) (by kernel_rfl) (by kernel_rfl) (by kernel_rfl) (by kernel_rfl) (fun _ _ _ h => h) (by rfl) (fun wk hk => by obtain ⟨z0, z1, z2⟩ := HM.out wk hk; go_simp; try rfl) ?_
      try simp only [Act.put, List.setIfInBounds_toArray, List.set_cons_zero, List.set_cons_succ]
      refine wpHold_take (i := 11) (v := _) (HW.out _ G0.out) rfl rfl (by kernel_rfl) (by kernel_rfl) (by kernel_rfl) (by kernel_rfl) (by kernel_rfl) (fun _ _ _ h => h) (by rfl) (fun wk hk => by obtain ⟨z0, z1, z2⟩ := HM.out wk hk; go_simp; try rfl) ?_
      try simp only [Act.put, List.setIfInBounds_toArray, List.set_cons_zero, List.set_cons_succ]
      refine wpHold_take (i := 12) (v := _) (HW.out _ G0.out) rfl rfl (by kernel_rfl) (by kernel_rfl) (by kernel_rfl) (by kernel_rfl) (by kernel_rfl) (fun _ _ _ h => h) (by rfl) (fun wk hk => by obtain ⟨z0, z1, z2⟩ := HM.out wk hk; go_simp; try rfl) ?_
      try simp only [Act.put, List.setIfInBounds_toArray, List.set_cons_zero, List.set_cons_succ]
      refine wpHold_take (i := 13) (v := _) (HW.out _ G0.out) rfl rfl (by kernel_rfl) (by kernel_rfl) (by kernel_rfl) (by kernel_rfl) (by kernel_rfl) (fun _ _ _ h => h) (by rfl) (fun wk hk => by obtain ⟨z0, z1, z2⟩ := HM.out wk hk; go_simp; try rfl) ?_
      try simp only [Act.put, List.setIfInBounds_toArray, List.set_cons_zero, List.set_cons_succ]
      refine wpHold_take (i := 14) (v := _) (HW.out _ G0.out) rfl rfl (by kernel_rfl) (by kernel_rfl) (by kernel_rfl) (by kernel_rfl) (by kernel_rfl) (fun _ _ _ h => h) (by rfl) (fun wk hk => by obtain ⟨z0, z1, z2⟩ := HM.out wk hk; go_simp; try rfl) ?_
      try simp only [Act.put, List.setIfInBounds_toArray, List.set_cons_zero, List.set_cons_succ]
      refine wpHold_take (i := 15) (v := _) (HW.out _ G0.out) rfl rfl (by kernel_rfl) (by kernel_rfl) (by kernel_rfl) (by kernel_rfl) (by kernel_rfl) (fun _ _ _ h => h) (by rfl) (fun wk hk => by obtain ⟨z0, z1, z2⟩ := HM.out wk hk; go_simp; try rfl) ?_
      try simp only [Act.put, List.setIfInBounds_toArray, List.set_cons_zero, List.set_cons_succ]
      refine wpHold_one (i := 10) rfl (by kernel_rfl) (by rfl) (fun K hK => ?_)
      go_wp2_with (go_at_call 59; refine (copied59 x r.1 wd (HX.out.1.grown (grown_trans HR.out.2.2 G0.out)) (by have := HX.out.2.2.1; omega)).mono ?_)
      rintro e w2 ⟨u2, rfl, hu2, hg2⟩
      have H2 : Hid (Disk.Own w2 (tb + 1) u2 r.1 ∧ wr.grownBy w2 none) := ⟨hu2.mono (by have := (HW.out _ G0.out).2.lt; omega), grown_trans G0.out hg2⟩
      clear hu2 hg2
      refine hK.out _ _ (fun _ => HW.out _ H2.out.2) ?_
      clear hK K
      try simp only [Act.put, List.setIfInBounds_toArray, List.set_cons_zero, List.set_cons_succ]
      refine wpHold_one (i := 16) rfl (by kernel_rfl) (by rfl) (fun K hK => ?_)
      go_wp2_with (go_at_call 59; refine (copied59 y r.2 w2 (HX.out.2.1.grown (grown_trans HR.out.2.2 H2.out.2)) (by have := HX.out.2.2.2.1; omega)).mono ?_)
      rintro e w3 ⟨u3, rfl, hu3, hg3⟩
      have H3 : Hid (Disk.Own w3 (tb + 1) u2 r.1 ∧ Disk.Own w3 (tb + 1) u3 r.2 ∧ wr.grownBy w3 none) := ⟨H2.out.1.grown hg3, hu3.mono (by have := (HW.out _ H2.out.2).2.lt; omega), grown_trans H2.out.2 hg3⟩
      clear hu3 hg3
      obtain ⟨ax, cx, ex⟩ := H3.out.1.seg.shape
      obtain ⟨ay, cy, ey⟩ := H3.out.2.1.seg.shape
      obtain ⟨nx, hnx⟩ : ∃ nx, r.1.length = nx := ⟨_, rfl⟩
      obtain ⟨ny, hny⟩ : ∃ ny, r.2.length = ny := ⟨_, rfl⟩
      rw [hnx] at ex
      rw [hny] at ey
      subst ex ey
      clear hnx hny
      refine hK.out _ _ (fun _ => HW.out _ H3.out.2.2) ?_
      clear hK K
      try simp only [Act.put, List.setIfInBounds_toArray, List.set_cons_zero, List.set_cons_succ]
      refine wpHold_take (i := 17) (v := _) (HW.out _ H3.out.2.2) rfl rfl (by kernel_rfl) (by kernel_rfl) (by kernel_rfl) (by kernel_rfl) (by kernel_rfl) (fun _ _ _ h => h) (by rfl) (fun wk hk => by obtain ⟨z0, z1, z2⟩ := HM.out wk hk; go_simp; try rfl) ?_
      try simp only [Act.put, List.setIfInBounds_toArray, List.set_cons_zero, List.set_cons_succ]
      refine wpHold_one (i := 18) rfl (by kernel_rfl) (by rfl) (fun K hK => ?_)
      go_wp2_with fail
      obtain ⟨w4, hw4, H4⟩ := al w3 #[.slice ax nx cx, .slice ay ny cy] 45
      rw [hw4]
      clear hw4
      have G4 : Hid (wr.grownBy w4 none) := grown_trans H3.out.2.2 H4.out.2.1
      refine hK.out _ _ (fun _ => HW.out _ G4.out) ?_
      clear hK K
      try simp only [Act.put, List.setIfInBounds_toArray, List.set_cons_zero, List.set_cons_succ]
      refine wpHold_one (i := 19) rfl (by kernel_rfl) (by rfl) (fun K hK => ?_)
      refine appR_wp w4 _ _ rfl (tb + 1) (.slice at' nt ct) (l.take nt) (.slice (some ⟨w3.heap.size, 0, none⟩) 1 1) (.slice ax nx cx) (.slice ay ny cy) r rfl rfl (HR.out.2.1.grown G4.out) (vec_two w3 _ _ w4 H4.out.1) (H3.out.1.grown H4.out.2.1) (H3.out.2.1.grown H4.out.2.1) ?_ ?_ ?_
      · rw [List.length_take]; omega
      · have := (HW.out _ G4.out).2.lt
        omega
      intro a7 c7 w7 hv7 hg7
      have hl7 : (l.take nt).length = nt := by rw [List.length_take]; omega
      rw [hl7] at hv7 ⊢
      rw [← HX.out.2.2.2.2] at hv7
      have H7 : Hid (TRws w7 (tb + 1) (.slice a7 (nt + 1) c7) (l.take (nt + 1)) ∧ w.grownBy w7 none ∧ Blk w7 tb 34 #[.slice at' nt ct]) := by
        obtain ⟨q, hq, hB⟩ := hg7
        refine ⟨hv7, grown_new (grown_trans HR.out.2.2 G4.out) hq (fun g hg => by have := hB g hg; have := HTB.out; omega), (HW.out _ G4.out).2.grown hq (fun e => ?_)⟩
        have := hB tb (by first | exact e | exact e.symm)
        omega
      clear hv7 hg7 hl7
      refine hK.out _ _ (fun _ => H7.out.2) ?_
      clear hK K
      try simp only [Act.put, List.setIfInBounds_toArray, List.set_cons_zero, List.set_cons_succ]
      refine wpHold_take (i := 20) (v := _) (H7.out.2) rfl rfl (by kernel_rfl) (by kernel_rfl) (by kernel_rfl) (by kernel_rfl) (by kernel_rfl) (fun _ _ _ h => h) (by rfl) (fun wk hk => by obtain ⟨z0, z1, z2⟩ := HM.out wk hk; go_simp; try rfl) ?_
      try simp only [Act.put, List.setIfInBounds_toArray, List.set_cons_zero, List.set_cons_succ]
      refine wpHold_take (i := 21) (v := _) (H7.out.2) rfl rfl (by kernel_rfl) (by kernel_rfl) (by kernel_rfl) (by kernel_rfl) (by kernel_rfl) (fun _ _ _ h => h) (by rfl) (fun wk hk => by obtain ⟨z0, z1, z2⟩ := HM.out wk hk; go_simp; try rfl) ?_
      try simp only [Act.put, List.setIfInBounds_toArray, List.set_cons_zero, List.set_cons_succ]
      refine wpHold_one (i := 22) rfl (by kernel_rfl) (by rfl) (fun K hK => ?_)
      have f7 := H7.out.2.2.free 0
      have q7 := H7.out.2.2.cell 0
      simp at q7
      go_wp2_with fail
      have H8 : Hid (Blk (w7.setCell ⟨tb, 0, none⟩ (.slice a7 (nt + 1) c7)) tb 34 #[.slice a7 (nt + 1) c7] ∧ TRws (w7.setCell ⟨tb, 0, none⟩ (.slice a7 (nt + 1) c7)) (tb + 1) (.slice a7 (nt + 1) c7) (l.take (nt + 1)) ∧ w.grownBy (w7.setCell ⟨tb, 0, none⟩ (.slice a7 (nt + 1) c7)) none) := by
        refine ⟨?_, H7.out.1.off (grown_setCell _ _ _ _) H7.out.2.2 (by decide) (by decide), grown_new H7.out.2.1 (grown_setCell _ _ _ _) (fun g hg => by simp at hg; have := HTB.out; omega)⟩
        have := H7.out.2.2.store 0 (.slice a7 (nt + 1) c7)
        simpa using this
      generalize w7.setCell ⟨tb, 0, none⟩ (.slice a7 (nt + 1) c7) = w8 at H8 ⊢
      refine hK.out _ _ (fun h => absurd rfl h) ?_
      clear hK K
      try simp only [Act.put, List.setIfInBounds_toArray, List.set_cons_zero, List.set_cons_succ]
      refine wpHold_done (by kernel_rfl) ?_
      refine (‹∀ (a : Act) (w : World), Code.wp Try.prog _ _ a w → _› _ _ ?_)
      go_wp2_with fail
      go_roundw
      case rel => exact ⟨nt + 1, _, by omega, by go_num, H8.out.1, H8.out.2.1, H8.out.2.2⟩
      case measure => simp [intOf]; omega
    · have hkn : k = n := by omega
      subst hkn
      go_wp2_with fail
      go_ret
      have e : l.take k = l := List.take_of_length_le (Nat.le_of_eq HN.out.1)
      have h2 := HR.out.2.1
      rw [e] at h2
      exact ⟨tb, _, rfl, Nat.le_of_eq HTB.out, HR.out.1, h2.mono (by have := HTB.out; omega), HR.out.2.2⟩
set_option maxRecDepth 100000 in
set_option maxHeartbeats 8000000 in
theorem may32 (v : Value) (l : List PRow) (hz : l.length ≤ 1000000) (w : World) (hv : Rws w v l) : Calls Try.prog 32 #[v] w fun e w' => MayPost l w e w' := by
  obtain ⟨ao, n, cap, rfl, hn, h1, h2, HV⟩ := rws_open hv
  have HN : Hid (l.length = n ∧ l.length ≤ 1000000) := ⟨hn, hz⟩
  have hn6 : n ≤ 1000000 := by omega
  clear hv hn hz
  go_enter Try.func32, Try.ntmps32
  go_wp2_with fail
  go_loopw [3] (fun i wr => ∃ (k q : Nat), k ≤ n ∧ i = .int .i64 (k : Int) ∧ Good (l.take k) ∧ wr = w.drewN q) (fun i _ => n - (intOf i).toNat)
  case atStart => exact ⟨0, 0, Nat.zero_le _, rfl, ⟨fun i j hi => absurd hi (by simp), by simp, by simp⟩, rfl⟩
  case round =>
    obtain ⟨k, q, hk, rfl, hgood, rfl⟩ := hrel
    have HR : Hid (Good (l.take k)) := hgood
    clear hgood
    rcases Nat.lt_or_ge k n with hlt | hge
    · have ka : k < l.length := by rw [HN.out.1]; exact hlt
      obtain ⟨bb, off, x, y, rfl, c0, c1, sx, sy⟩ := rws_at HV.out k ka
      have i0 : (0 : Int) ≤ (k : Int) := by omega
      have i1 : (k : Int) < (n : Int) := by omega
      obtain ⟨r, hr⟩ : ∃ r, l[k] = r := ⟨_, rfl⟩
      rw [hr] at sx sy
      have HX : Hid (Seg w x r.1 ∧ Seg w y r.2) := ⟨sx, sy⟩
      obtain ⟨R, hR⟩ : ∃ R, risesB l k r = R := ⟨_, rfl⟩
      have HG : Hid ((Good (l.take (k + 1)) ↔ R = true ∧ okP r.1 r.2 = true) ∧ risesB l k r = R) := by
        have := good_snoc ka HR.out HN.out.2
        rw [hr, hR] at this
        exact ⟨this, hR⟩
      have HM : Hid (∀ z : World, (∃ m, z = w.drewN m) → z.cell? ⟨bb, off + k * 2, none⟩ = some x ∧ z.cell? ⟨bb, off + k * 2 + 1, none⟩ = some y) := by
        rintro z ⟨m, rfl⟩
        exact ⟨c0, c1⟩
      clear sx sy c0 c1 hR
      obtain ⟨kb, hkb⟩ : ∃ kb, keyB r.1 = kb := ⟨_, rfl⟩
      obtain ⟨vb, hvb⟩ : ∃ vb, valueB r.2 = vb := ⟨_, rfl⟩
      have HKB : Hid (keyB r.1 = kb ∧ valueB r.2 = vb) := ⟨hkb, hvb⟩
      have HO : Hid (okP r.1 r.2 = (kb && vb)) := by rw [Hid, okP, hkb, hvb]
      clear hkb hvb
      go_upto_region 4 with fail
      go_cut [44] (fun x wc => x = .bool (!(R && (kb && vb))) ∧ ∃ m, wc = w.drewN m)
      case first =>
        cases kb with
        | false =>
          refine wp_region_noPanic ?_
          refine wp_region_hold 1000 (fun y => ∃ m, y = w.drewN m) (by kernel_rfl) ?_
          have G0 : Hid (∃ m, (w.drewN q).drew = w.drewN m) := ⟨q + 1, rfl⟩
          generalize (w.drewN q).drew = wd at G0 ⊢
          refine wpHold_take (i := 0) (v := _) (G0.out) rfl rfl (by kernel_rfl) (by kernel_rfl) (by kernel_rfl) (by kernel_rfl) (by kernel_rfl) (fun _ _ _ h => h) (by rfl) (fun wk hk => by obtain ⟨z0, z1⟩ := HM.out wk hk; go_simp; try rfl) ?_
          try simp only [Act.put, List.setIfInBounds_toArray, List.set_cons_zero, List.set_cons_succ]
          refine wpHold_take (i := 1) (v := _) (G0.out) rfl rfl (by kernel_rfl) (by kernel_rfl) (by kernel_rfl) (by kernel_rfl) (by kernel_rfl) (fun _ _ _ h => h) (by rfl) (fun wk hk => by obtain ⟨z0, z1⟩ := HM.out wk hk; go_simp; try rfl) ?_
          try simp only [Act.put, List.setIfInBounds_toArray, List.set_cons_zero, List.set_cons_succ]
          refine wpHold_take (i := 2) (v := _) (G0.out) rfl rfl (by kernel_rfl) (by kernel_rfl) (by kernel_rfl) (by kernel_rfl) (by kernel_rfl) (fun _ _ _ h => h) (by rfl) (fun wk hk => by obtain ⟨z0, z1⟩ := HM.out wk hk; go_simp; try rfl) ?_
          try simp only [Act.put, List.setIfInBounds_toArray, List.set_cons_zero, List.set_cons_succ]
          refine wpHold_take (i := 3) (v := _) (G0.out) rfl rfl (by kernel_rfl) (by kernel_rfl) (by kernel_rfl) (by kernel_rfl) (by kernel_rfl) (fun _ _ _ h => h) (by rfl) (fun wk hk => by obtain ⟨z0, z1⟩ := HM.out wk hk; go_simp; try rfl) ?_
          try simp only [Act.put, List.setIfInBounds_toArray, List.set_cons_zero, List.set_cons_succ]
          refine wpHold_take (i := 4) (v := _) (G0.out) rfl rfl (by kernel_rfl) (by kernel_rfl) (by kernel_rfl) (by kernel_rfl) (by kernel_rfl) (fun _ _ _ h => h) (by rfl) (fun wk hk => by obtain ⟨z0, z1⟩ := HM.out wk hk; go_simp; try rfl) ?_
          try simp only [Act.put, List.setIfInBounds_toArray, List.set_cons_zero, List.set_cons_succ]
          refine wpHold_one (i := 5) rfl (by kernel_rfl) (by rfl) (fun K hK => ?_)
          go_wp2_with (go_at_call 56; refine (Names.key12 x r.1 wd (by obtain ⟨m, rfl⟩ := G0.out; exact Names.seg_drewN HX.out.1 m)).mono ?_; rintro e wx ⟨rfl, hx⟩; rw [hx, HKB.out.1]; clear hx)
          refine hK.out _ _ (fun _ => G0.out) ?_
          clear hK K
          try simp only [Act.put, List.setIfInBounds_toArray, List.set_cons_zero, List.set_cons_succ]
          refine wpHold_take (i := 6) (v := _) (G0.out) rfl rfl (by kernel_rfl) (by kernel_rfl) (by kernel_rfl) (by kernel_rfl) (by kernel_rfl) (fun _ _ _ h => h) (by rfl) (fun wk hk => by obtain ⟨z0, z1⟩ := HM.out wk hk; go_simp; try rfl) ?_
          try simp only [Act.put, List.setIfInBounds_toArray, List.set_cons_zero, List.set_cons_succ]
          refine wpHold_take (i := 7) (v := _) (G0.out) rfl rfl (by kernel_rfl) (by kernel_rfl) (by kernel_rfl) (by kernel_rfl) (by kernel_rfl) (fun _ _ _ h => h) (by rfl) (fun wk hk => by obtain ⟨z0, z1⟩ := HM.out wk hk; go_simp; try rfl) ?_
          try simp only [Act.put, List.setIfInBounds_toArray, List.set_cons_zero, List.set_cons_succ]
          refine wpHold_skip (i := 8) (G0.out) rfl rfl (by kernel_rfl) (by kernel_rfl) (by kernel_rfl) (by kernel_rfl) (by kernel_rfl) (fun _ _ _ h => h) (by rfl) ?_
          try simp only [Act.put, List.setIfInBounds_toArray, List.set_cons_zero, List.set_cons_succ]
          refine wpHold_skip (i := 9) (G0.out) rfl rfl (by kernel_rfl) (by kernel_rfl) (by kernel_rfl) (by kernel_rfl) (by kernel_rfl) (fun _ _ _ h => h) (by rfl) ?_
          try simp only [Act.put, List.setIfInBounds_toArray, List.set_cons_zero, List.set_cons_succ]
          refine wpHold_skip (i := 10) (G0.out) rfl rfl (by kernel_rfl) (by kernel_rfl) (by kernel_rfl) (by kernel_rfl) (by kernel_rfl) (fun _ _ _ h => h) (by rfl) ?_
          try simp only [Act.put, List.setIfInBounds_toArray, List.set_cons_zero, List.set_cons_succ]
          refine wpHold_skip (i := 11) (G0.out) rfl rfl (by kernel_rfl) (by kernel_rfl) (by kernel_rfl) (by kernel_rfl) (by kernel_rfl) (fun _ _ _ h => h) (by rfl) ?_
          try simp only [Act.put, List.setIfInBounds_toArray, List.set_cons_zero, List.set_cons_succ]
          refine wpHold_skip (i := 12) (G0.out) rfl rfl (by kernel_rfl) (by kernel_rfl) (by kernel_rfl) (by kernel_rfl) (by kernel_rfl) (fun _ _ _ h => h) (by rfl) ?_
          try simp only [Act.put, List.setIfInBounds_toArray, List.set_cons_zero, List.set_cons_succ]
          refine wpHold_skip (i := 13) (G0.out) rfl rfl (by kernel_rfl) (by kernel_rfl) (by kernel_rfl) (by kernel_rfl) (by kernel_rfl) (fun _ _ _ h => h) (by rfl) ?_
          try simp only [Act.put, List.setIfInBounds_toArray, List.set_cons_zero, List.set_cons_succ]
          refine wpHold_skip (i := 14) (G0.out) rfl rfl (by kernel_rfl) (by kernel_rfl) (by kernel_rfl) (by kernel_rfl) (by kernel_rfl) (fun _ _ _ h => h) (by rfl) ?_
          try simp only [Act.put, List.setIfInBounds_toArray, List.set_cons_zero, List.set_cons_succ]
          refine wpHold_take (i := 15) (v := _) (G0.out) rfl rfl (by kernel_rfl) (by kernel_rfl) (by kernel_rfl) (by kernel_rfl) (by kernel_rfl) (fun _ _ _ h => h) (by rfl) (fun wk hk => by obtain ⟨z0, z1⟩ := HM.out wk hk; go_simp; try rfl) ?_
          try simp only [Act.put, List.setIfInBounds_toArray, List.set_cons_zero, List.set_cons_succ]
          refine wpHold_take (i := 16) (v := _) (G0.out) rfl rfl (by kernel_rfl) (by kernel_rfl) (by kernel_rfl) (by kernel_rfl) (by kernel_rfl) (fun _ _ _ h => h) (by rfl) (fun wk hk => by obtain ⟨z0, z1⟩ := HM.out wk hk; go_simp; try rfl) ?_
          try simp only [Act.put, List.setIfInBounds_toArray, List.set_cons_zero, List.set_cons_succ]
          refine wpHold_skip (i := 17) (G0.out) rfl rfl (by kernel_rfl) (by kernel_rfl) (by kernel_rfl) (by kernel_rfl) (by kernel_rfl) (fun _ _ _ h => h) (by rfl) ?_
          try simp only [Act.put, List.setIfInBounds_toArray, List.set_cons_zero, List.set_cons_succ]
          refine wpHold_skip (i := 18) (G0.out) rfl rfl (by kernel_rfl) (by kernel_rfl) (by kernel_rfl) (by kernel_rfl) (by kernel_rfl) (fun _ _ _ h => h) (by rfl) ?_
          try simp only [Act.put, List.setIfInBounds_toArray, List.set_cons_zero, List.set_cons_succ]
          refine wpHold_skip (i := 19) (G0.out) rfl rfl (by kernel_rfl) (by kernel_rfl) (by kernel_rfl) (by kernel_rfl) (by kernel_rfl) (fun _ _ _ h => h) (by rfl) ?_
          try simp only [Act.put, List.setIfInBounds_toArray, List.set_cons_zero, List.set_cons_succ]
          refine wpHold_skip (i := 20) (G0.out) rfl rfl (by kernel_rfl) (by kernel_rfl) (by kernel_rfl) (by kernel_rfl) (by kernel_rfl) (fun _ _ _ h => h) (by rfl) ?_
          try simp only [Act.put, List.setIfInBounds_toArray, List.set_cons_zero, List.set_cons_succ]
          refine wpHold_skip (i := 21) (G0.out) rfl rfl (by kernel_rfl) (by kernel_rfl) (by kernel_rfl) (by kernel_rfl) (by kernel_rfl) (fun _ _ _ h => h) (by rfl) ?_
          try simp only [Act.put, List.setIfInBounds_toArray, List.set_cons_zero, List.set_cons_succ]
          refine wpHold_skip (i := 22) (G0.out) rfl rfl (by kernel_rfl) (by kernel_rfl) (by kernel_rfl) (by kernel_rfl) (by kernel_rfl) (fun _ _ _ h => h) (by rfl) ?_
          try simp only [Act.put, List.setIfInBounds_toArray, List.set_cons_zero, List.set_cons_succ]
          refine wpHold_skip (i := 23) (G0.out) rfl rfl (by kernel_rfl) (by kernel_rfl) (by kernel_rfl) (by kernel_rfl) (by kernel_rfl) (fun _ _ _ h => h) (by rfl) ?_
          try simp only [Act.put, List.setIfInBounds_toArray, List.set_cons_zero, List.set_cons_succ]
          refine wpHold_skip (i := 24) (G0.out) rfl rfl (by kernel_rfl) (by kernel_rfl) (by kernel_rfl) (by kernel_rfl) (by kernel_rfl) (fun _ _ _ h => h) (by rfl) ?_
          try simp only [Act.put, List.setIfInBounds_toArray, List.set_cons_zero, List.set_cons_succ]
          refine wpHold_skip (i := 25) (G0.out) rfl rfl (by kernel_rfl) (by kernel_rfl) (by kernel_rfl) (by kernel_rfl) (by kernel_rfl) (fun _ _ _ h => h) (by rfl) ?_
          try simp only [Act.put, List.setIfInBounds_toArray, List.set_cons_zero, List.set_cons_succ]
          refine wpHold_skip (i := 26) (G0.out) rfl rfl (by kernel_rfl) (by kernel_rfl) (by kernel_rfl) (by kernel_rfl) (by kernel_rfl) (fun _ _ _ h => h) (by rfl) ?_
          try simp only [Act.put, List.setIfInBounds_toArray, List.set_cons_zero, List.set_cons_succ]
          refine wpHold_skip (i := 27) (G0.out) rfl rfl (by kernel_rfl) (by kernel_rfl) (by kernel_rfl) (by kernel_rfl) (by kernel_rfl) (fun _ _ _ h => h) (by rfl) ?_
          try simp only [Act.put, List.setIfInBounds_toArray, List.set_cons_zero, List.set_cons_succ]
          refine wpHold_skip (i := 28) (G0.out) rfl rfl (by kernel_rfl) (by kernel_rfl) (by kernel_rfl) (by kernel_rfl) (by kernel_rfl) (fun _ _ _ h => h) (by rfl) ?_
          try simp only [Act.put, List.setIfInBounds_toArray, List.set_cons_zero, List.set_cons_succ]
          refine wpHold_skip (i := 29) (G0.out) rfl rfl (by kernel_rfl) (by kernel_rfl) (by kernel_rfl) (by kernel_rfl) (by kernel_rfl) (fun _ _ _ h => h) (by rfl) ?_
          try simp only [Act.put, List.setIfInBounds_toArray, List.set_cons_zero, List.set_cons_succ]
          refine wpHold_skip (i := 30) (G0.out) rfl rfl (by kernel_rfl) (by kernel_rfl) (by kernel_rfl) (by kernel_rfl) (by kernel_rfl) (fun _ _ _ h => h) (by rfl) ?_
          try simp only [Act.put, List.setIfInBounds_toArray, List.set_cons_zero, List.set_cons_succ]
          refine wpHold_skip (i := 31) (G0.out) rfl rfl (by kernel_rfl) (by kernel_rfl) (by kernel_rfl) (by kernel_rfl) (by kernel_rfl) (fun _ _ _ h => h) (by rfl) ?_
          try simp only [Act.put, List.setIfInBounds_toArray, List.set_cons_zero, List.set_cons_succ]
          refine wpHold_skip (i := 32) (G0.out) rfl rfl (by kernel_rfl) (by kernel_rfl) (by kernel_rfl) (by kernel_rfl) (by kernel_rfl) (fun _ _ _ h => h) (by rfl) ?_
          try simp only [Act.put, List.setIfInBounds_toArray, List.set_cons_zero, List.set_cons_succ]
          refine wpHold_skip (i := 33) (G0.out) rfl rfl (by kernel_rfl) (by kernel_rfl) (by kernel_rfl) (by kernel_rfl) (by kernel_rfl) (fun _ _ _ h => h) (by rfl) ?_
          try simp only [Act.put, List.setIfInBounds_toArray, List.set_cons_zero, List.set_cons_succ]
          refine wpHold_take (i := 34) (v := _) (G0.out) rfl rfl (by kernel_rfl) (by kernel_rfl) (by kernel_rfl) (by kernel_rfl) (by kernel_rfl) (fun _ _ _ h => h) (by rfl) (fun wk hk => by obtain ⟨z0, z1⟩ := HM.out wk hk; go_simp; try rfl) ?_
          try simp only [Act.put, List.setIfInBounds_toArray, List.set_cons_zero, List.set_cons_succ]
          refine wpHold_done (by kernel_rfl) ?_
          refine (‹∀ (a : Act) (w : World), Met _ a w → _› _ _ ?_)
          go_meet
          case rel => exact ⟨by simp, G0.out⟩
        | true =>
          cases vb with
          | false =>
            refine wp_region_noPanic ?_
            refine wp_region_hold 1000 (fun y => ∃ m, y = w.drewN m) (by kernel_rfl) ?_
            have G0 : Hid (∃ m, (w.drewN q).drew = w.drewN m) := ⟨q + 1, rfl⟩
            generalize (w.drewN q).drew = wd at G0 ⊢
            refine wpHold_take (i := 0) (v := _) (G0.out) rfl rfl (by kernel_rfl) (by kernel_rfl) (by kernel_rfl) (by kernel_rfl) (by kernel_rfl) (fun _ _ _ h => h) (by rfl) (fun wk hk => by obtain ⟨z0, z1⟩ := HM.out wk hk; go_simp; try rfl) ?_
            try simp only [Act.put, List.setIfInBounds_toArray, List.set_cons_zero, List.set_cons_succ]
            refine wpHold_take (i := 1) (v := _) (G0.out) rfl rfl (by kernel_rfl) (by kernel_rfl) (by kernel_rfl) (by kernel_rfl) (by kernel_rfl) (fun _ _ _ h => h) (by rfl) (fun wk hk => by obtain ⟨z0, z1⟩ := HM.out wk hk; go_simp; try rfl) ?_
            try simp only [Act.put, List.setIfInBounds_toArray, List.set_cons_zero, List.set_cons_succ]
            refine wpHold_take (i := 2) (v := _) (G0.out) rfl rfl (by kernel_rfl) (by kernel_rfl) (by kernel_rfl) (by kernel_rfl) (by kernel_rfl) (fun _ _ _ h => h) (by rfl) (fun wk hk => by obtain ⟨z0, z1⟩ := HM.out wk hk; go_simp; try rfl) ?_
            try simp only [Act.put, List.setIfInBounds_toArray, List.set_cons_zero, List.set_cons_succ]
            refine wpHold_take (i := 3) (v := _) (G0.out) rfl rfl (by kernel_rfl) (by kernel_rfl) (by kernel_rfl) (by kernel_rfl) (by kernel_rfl) (fun _ _ _ h => h) (by rfl) (fun wk hk => by obtain ⟨z0, z1⟩ := HM.out wk hk; go_simp; try rfl) ?_
            try simp only [Act.put, List.setIfInBounds_toArray, List.set_cons_zero, List.set_cons_succ]
            refine wpHold_take (i := 4) (v := _) (G0.out) rfl rfl (by kernel_rfl) (by kernel_rfl) (by kernel_rfl) (by kernel_rfl) (by kernel_rfl) (fun _ _ _ h => h) (by rfl) (fun wk hk => by obtain ⟨z0, z1⟩ := HM.out wk hk; go_simp; try rfl) ?_
            try simp only [Act.put, List.setIfInBounds_toArray, List.set_cons_zero, List.set_cons_succ]
            refine wpHold_one (i := 5) rfl (by kernel_rfl) (by rfl) (fun K hK => ?_)
            go_wp2_with (go_at_call 56; refine (Names.key12 x r.1 wd (by obtain ⟨m, rfl⟩ := G0.out; exact Names.seg_drewN HX.out.1 m)).mono ?_; rintro e wx ⟨rfl, hx⟩; rw [hx, HKB.out.1]; clear hx)
            refine hK.out _ _ (fun _ => G0.out) ?_
            clear hK K
            try simp only [Act.put, List.setIfInBounds_toArray, List.set_cons_zero, List.set_cons_succ]
            refine wpHold_take (i := 6) (v := _) (G0.out) rfl rfl (by kernel_rfl) (by kernel_rfl) (by kernel_rfl) (by kernel_rfl) (by kernel_rfl) (fun _ _ _ h => h) (by rfl) (fun wk hk => by obtain ⟨z0, z1⟩ := HM.out wk hk; go_simp; try rfl) ?_
            try simp only [Act.put, List.setIfInBounds_toArray, List.set_cons_zero, List.set_cons_succ]
            refine wpHold_take (i := 7) (v := _) (G0.out) rfl rfl (by kernel_rfl) (by kernel_rfl) (by kernel_rfl) (by kernel_rfl) (by kernel_rfl) (fun _ _ _ h => h) (by rfl) (fun wk hk => by obtain ⟨z0, z1⟩ := HM.out wk hk; go_simp; try rfl) ?_
            try simp only [Act.put, List.setIfInBounds_toArray, List.set_cons_zero, List.set_cons_succ]
            refine wpHold_take (i := 8) (v := _) (G0.out) rfl rfl (by kernel_rfl) (by kernel_rfl) (by kernel_rfl) (by kernel_rfl) (by kernel_rfl) (fun _ _ _ h => h) (by rfl) (fun wk hk => by obtain ⟨z0, z1⟩ := HM.out wk hk; go_simp; try rfl) ?_
            try simp only [Act.put, List.setIfInBounds_toArray, List.set_cons_zero, List.set_cons_succ]
            refine wpHold_take (i := 9) (v := _) (G0.out) rfl rfl (by kernel_rfl) (by kernel_rfl) (by kernel_rfl) (by kernel_rfl) (by kernel_rfl) (fun _ _ _ h => h) (by rfl) (fun wk hk => by obtain ⟨z0, z1⟩ := HM.out wk hk; go_simp; try rfl) ?_
            try simp only [Act.put, List.setIfInBounds_toArray, List.set_cons_zero, List.set_cons_succ]
            refine wpHold_take (i := 10) (v := _) (G0.out) rfl rfl (by kernel_rfl) (by kernel_rfl) (by kernel_rfl) (by kernel_rfl) (by kernel_rfl) (fun _ _ _ h => h) (by rfl) (fun wk hk => by obtain ⟨z0, z1⟩ := HM.out wk hk; go_simp; try rfl) ?_
            try simp only [Act.put, List.setIfInBounds_toArray, List.set_cons_zero, List.set_cons_succ]
            refine wpHold_take (i := 11) (v := _) (G0.out) rfl rfl (by kernel_rfl) (by kernel_rfl) (by kernel_rfl) (by kernel_rfl) (by kernel_rfl) (fun _ _ _ h => h) (by rfl) (fun wk hk => by obtain ⟨z0, z1⟩ := HM.out wk hk; go_simp; try rfl) ?_
            try simp only [Act.put, List.setIfInBounds_toArray, List.set_cons_zero, List.set_cons_succ]
            refine wpHold_take (i := 12) (v := _) (G0.out) rfl rfl (by kernel_rfl) (by kernel_rfl) (by kernel_rfl) (by kernel_rfl) (by kernel_rfl) (fun _ _ _ h => h) (by rfl) (fun wk hk => by obtain ⟨z0, z1⟩ := HM.out wk hk; go_simp; try rfl) ?_
            try simp only [Act.put, List.setIfInBounds_toArray, List.set_cons_zero, List.set_cons_succ]
            refine wpHold_one (i := 13) rfl (by kernel_rfl) (by rfl) (fun K hK => ?_)
            go_wp2_with (go_at_call 57; refine (Names.value14 y r.2 wd (by obtain ⟨m, e⟩ := G0.out; rw [e]; exact Names.seg_drewN HX.out.2 m)).mono ?_; rintro e wx ⟨rfl, hx⟩; rw [hx, HKB.out.2]; clear hx)
            refine hK.out _ _ (fun _ => G0.out) ?_
            clear hK K
            try simp only [Act.put, List.setIfInBounds_toArray, List.set_cons_zero, List.set_cons_succ]
            refine wpHold_take (i := 14) (v := _) (G0.out) rfl rfl (by kernel_rfl) (by kernel_rfl) (by kernel_rfl) (by kernel_rfl) (by kernel_rfl) (fun _ _ _ h => h) (by rfl) (fun wk hk => by obtain ⟨z0, z1⟩ := HM.out wk hk; go_simp; try rfl) ?_
            try simp only [Act.put, List.setIfInBounds_toArray, List.set_cons_zero, List.set_cons_succ]
            refine wpHold_take (i := 15) (v := _) (G0.out) rfl rfl (by kernel_rfl) (by kernel_rfl) (by kernel_rfl) (by kernel_rfl) (by kernel_rfl) (fun _ _ _ h => h) (by rfl) (fun wk hk => by obtain ⟨z0, z1⟩ := HM.out wk hk; go_simp; try rfl) ?_
            try simp only [Act.put, List.setIfInBounds_toArray, List.set_cons_zero, List.set_cons_succ]
            refine wpHold_take (i := 16) (v := _) (G0.out) rfl rfl (by kernel_rfl) (by kernel_rfl) (by kernel_rfl) (by kernel_rfl) (by kernel_rfl) (fun _ _ _ h => h) (by rfl) (fun wk hk => by obtain ⟨z0, z1⟩ := HM.out wk hk; go_simp; try rfl) ?_
            try simp only [Act.put, List.setIfInBounds_toArray, List.set_cons_zero, List.set_cons_succ]
            refine wpHold_skip (i := 17) (G0.out) rfl rfl (by kernel_rfl) (by kernel_rfl) (by kernel_rfl) (by kernel_rfl) (by kernel_rfl) (fun _ _ _ h => h) (by rfl) ?_
            try simp only [Act.put, List.setIfInBounds_toArray, List.set_cons_zero, List.set_cons_succ]
            refine wpHold_skip (i := 18) (G0.out) rfl rfl (by kernel_rfl) (by kernel_rfl) (by kernel_rfl) (by kernel_rfl) (by kernel_rfl) (fun _ _ _ h => h) (by rfl) ?_
            try simp only [Act.put, List.setIfInBounds_toArray, List.set_cons_zero, List.set_cons_succ]
            refine wpHold_skip (i := 19) (G0.out) rfl rfl (by kernel_rfl) (by kernel_rfl) (by kernel_rfl) (by kernel_rfl) (by kernel_rfl) (fun _ _ _ h => h) (by rfl) ?_
            try simp only [Act.put, List.setIfInBounds_toArray, List.set_cons_zero, List.set_cons_succ]
            refine wpHold_skip (i := 20) (G0.out) rfl rfl (by kernel_rfl) (by kernel_rfl) (by kernel_rfl) (by kernel_rfl) (by kernel_rfl) (fun _ _ _ h => h) (by rfl) ?_
            try simp only [Act.put, List.setIfInBounds_toArray, List.set_cons_zero, List.set_cons_succ]
            refine wpHold_skip (i := 21) (G0.out) rfl rfl (by kernel_rfl) (by kernel_rfl) (by kernel_rfl) (by kernel_rfl) (by kernel_rfl) (fun _ _ _ h => h) (by rfl) ?_
            try simp only [Act.put, List.setIfInBounds_toArray, List.set_cons_zero, List.set_cons_succ]
            refine wpHold_skip (i := 22) (G0.out) rfl rfl (by kernel_rfl) (by kernel_rfl) (by kernel_rfl) (by kernel_rfl) (by kernel_rfl) (fun _ _ _ h => h) (by rfl) ?_
            try simp only [Act.put, List.setIfInBounds_toArray, List.set_cons_zero, List.set_cons_succ]
            refine wpHold_skip (i := 23) (G0.out) rfl rfl (by kernel_rfl) (by kernel_rfl) (by kernel_rfl) (by kernel_rfl) (by kernel_rfl) (fun _ _ _ h => h) (by rfl) ?_
            try simp only [Act.put, List.setIfInBounds_toArray, List.set_cons_zero, List.set_cons_succ]
            refine wpHold_skip (i := 24) (G0.out) rfl rfl (by kernel_rfl) (by kernel_rfl) (by kernel_rfl) (by kernel_rfl) (by kernel_rfl) (fun _ _ _ h => h) (by rfl) ?_
            try simp only [Act.put, List.setIfInBounds_toArray, List.set_cons_zero, List.set_cons_succ]
            refine wpHold_skip (i := 25) (G0.out) rfl rfl (by kernel_rfl) (by kernel_rfl) (by kernel_rfl) (by kernel_rfl) (by kernel_rfl) (fun _ _ _ h => h) (by rfl) ?_
            try simp only [Act.put, List.setIfInBounds_toArray, List.set_cons_zero, List.set_cons_succ]
            refine wpHold_skip (i := 26) (G0.out) rfl rfl (by kernel_rfl) (by kernel_rfl) (by kernel_rfl) (by kernel_rfl) (by kernel_rfl) (fun _ _ _ h => h) (by rfl) ?_
            try simp only [Act.put, List.setIfInBounds_toArray, List.set_cons_zero, List.set_cons_succ]
            refine wpHold_skip (i := 27) (G0.out) rfl rfl (by kernel_rfl) (by kernel_rfl) (by kernel_rfl) (by kernel_rfl) (by kernel_rfl) (fun _ _ _ h => h) (by rfl) ?_
            try simp only [Act.put, List.setIfInBounds_toArray, List.set_cons_zero, List.set_cons_succ]
            refine wpHold_skip (i := 28) (G0.out) rfl rfl (by kernel_rfl) (by kernel_rfl) (by kernel_rfl) (by kernel_rfl) (by kernel_rfl) (fun _ _ _ h => h) (by rfl) ?_
            try simp only [Act.put, List.setIfInBounds_toArray, List.set_cons_zero, List.set_cons_succ]
            refine wpHold_skip (i := 29) (G0.out) rfl rfl (by kernel_rfl) (by kernel_rfl) (by kernel_rfl) (by kernel_rfl) (by kernel_rfl) (fun _ _ _ h => h) (by rfl) ?_
            try simp only [Act.put, List.setIfInBounds_toArray, List.set_cons_zero, List.set_cons_succ]
            refine wpHold_skip (i := 30) (G0.out) rfl rfl (by kernel_rfl) (by kernel_rfl) (by kernel_rfl) (by kernel_rfl) (by kernel_rfl) (fun _ _ _ h => h) (by rfl) ?_
            try simp only [Act.put, List.setIfInBounds_toArray, List.set_cons_zero, List.set_cons_succ]
            refine wpHold_skip (i := 31) (G0.out) rfl rfl (by kernel_rfl) (by kernel_rfl) (by kernel_rfl) (by kernel_rfl) (by kernel_rfl) (fun _ _ _ h => h) (by rfl) ?_
            try simp only [Act.put, List.setIfInBounds_toArray, List.set_cons_zero, List.set_cons_succ]
            refine wpHold_skip (i := 32) (G0.out) rfl rfl (by kernel_rfl) (by kernel_rfl) (by kernel_rfl) (by kernel_rfl) (by kernel_rfl) (fun _ _ _ h => h) (by rfl) ?_
            try simp only [Act.put, List.setIfInBounds_toArray, List.set_cons_zero, List.set_cons_succ]
            refine wpHold_skip (i := 33) (G0.out) rfl rfl (by kernel_rfl) (by kernel_rfl) (by kernel_rfl) (by kernel_rfl) (by kernel_rfl) (fun _ _ _ h => h) (by rfl) ?_
            try simp only [Act.put, List.setIfInBounds_toArray, List.set_cons_zero, List.set_cons_succ]
            refine wpHold_take (i := 34) (v := _) (G0.out) rfl rfl (by kernel_rfl) (by kernel_rfl) (by kernel_rfl) (by kernel_rfl) (by kernel_rfl) (fun _ _ _ h => h) (by rfl) (fun wk hk => by obtain ⟨z0, z1⟩ := HM.out wk hk; go_simp; try rfl) ?_
            try simp only [Act.put, List.setIfInBounds_toArray, List.set_cons_zero, List.set_cons_succ]
            refine wpHold_done (by kernel_rfl) ?_
            refine (‹∀ (a : Act) (w : World), Met _ a w → _› _ _ ?_)
            go_meet
            case rel => exact ⟨by simp, G0.out⟩
          | true =>
            rcases Nat.eq_zero_or_pos k with hk0 | hk0
            · subst hk0
              have HRR : Hid (R = true) := by rw [Hid, ← HG.out.2]; rfl
              refine wp_region_noPanic ?_
              refine wp_region_hold 1000 (fun y => ∃ m, y = w.drewN m) (by kernel_rfl) ?_
              have G0 : Hid (∃ m, (w.drewN q).drew = w.drewN m) := ⟨q + 1, rfl⟩
              generalize (w.drewN q).drew = wd at G0 ⊢
              refine wpHold_take (i := 0) (v := _) (G0.out) rfl rfl (by kernel_rfl) (by kernel_rfl) (by kernel_rfl) (by kernel_rfl) (by kernel_rfl) (fun _ _ _ h => h) (by rfl) (fun wk hk => by obtain ⟨z0, z1⟩ := HM.out wk hk; try simp only [Nat.zero_mul, Nat.add_zero] at z0 z1; go_simp; try rfl) ?_
              try simp only [Act.put, List.setIfInBounds_toArray, List.set_cons_zero, List.set_cons_succ]
              refine wpHold_take (i := 1) (v := _) (G0.out) rfl rfl (by kernel_rfl) (by kernel_rfl) (by kernel_rfl) (by kernel_rfl) (by kernel_rfl) (fun _ _ _ h => h) (by rfl) (fun wk hk => by obtain ⟨z0, z1⟩ := HM.out wk hk; try simp only [Nat.zero_mul, Nat.add_zero] at z0 z1; go_simp; try rfl) ?_
              try simp only [Act.put, List.setIfInBounds_toArray, List.set_cons_zero, List.set_cons_succ]
              refine wpHold_take (i := 2) (v := _) (G0.out) rfl rfl (by kernel_rfl) (by kernel_rfl) (by kernel_rfl) (by kernel_rfl) (by kernel_rfl) (fun _ _ _ h => h) (by rfl) (fun wk hk => by obtain ⟨z0, z1⟩ := HM.out wk hk; try simp only [Nat.zero_mul, Nat.add_zero] at z0 z1; go_simp; try rfl) ?_
              try simp only [Act.put, List.setIfInBounds_toArray, List.set_cons_zero, List.set_cons_succ]
              refine wpHold_take (i := 3) (v := _) (G0.out) rfl rfl (by kernel_rfl) (by kernel_rfl) (by kernel_rfl) (by kernel_rfl) (by kernel_rfl) (fun _ _ _ h => h) (by rfl) (fun wk hk => by obtain ⟨z0, z1⟩ := HM.out wk hk; try simp only [Nat.zero_mul, Nat.add_zero] at z0 z1; go_simp; try rfl) ?_
              try simp only [Act.put, List.setIfInBounds_toArray, List.set_cons_zero, List.set_cons_succ]
              refine wpHold_take (i := 4) (v := _) (G0.out) rfl rfl (by kernel_rfl) (by kernel_rfl) (by kernel_rfl) (by kernel_rfl) (by kernel_rfl) (fun _ _ _ h => h) (by rfl) (fun wk hk => by obtain ⟨z0, z1⟩ := HM.out wk hk; try simp only [Nat.zero_mul, Nat.add_zero] at z0 z1; go_simp; try rfl) ?_
              try simp only [Act.put, List.setIfInBounds_toArray, List.set_cons_zero, List.set_cons_succ]
              refine wpHold_one (i := 5) rfl (by kernel_rfl) (by rfl) (fun K hK => ?_)
              go_wp2_with (go_at_call 56; refine (Names.key12 x r.1 wd (by obtain ⟨m, rfl⟩ := G0.out; exact Names.seg_drewN HX.out.1 m)).mono ?_; rintro e wx ⟨rfl, hx⟩; rw [hx, HKB.out.1]; clear hx)
              refine hK.out _ _ (fun _ => G0.out) ?_
              clear hK K
              try simp only [Act.put, List.setIfInBounds_toArray, List.set_cons_zero, List.set_cons_succ]
              refine wpHold_take (i := 6) (v := _) (G0.out) rfl rfl (by kernel_rfl) (by kernel_rfl) (by kernel_rfl) (by kernel_rfl) (by kernel_rfl) (fun _ _ _ h => h) (by rfl) (fun wk hk => by obtain ⟨z0, z1⟩ := HM.out wk hk; try simp only [Nat.zero_mul, Nat.add_zero] at z0 z1; go_simp; try rfl) ?_
              try simp only [Act.put, List.setIfInBounds_toArray, List.set_cons_zero, List.set_cons_succ]
              refine wpHold_take (i := 7) (v := _) (G0.out) rfl rfl (by kernel_rfl) (by kernel_rfl) (by kernel_rfl) (by kernel_rfl) (by kernel_rfl) (fun _ _ _ h => h) (by rfl) (fun wk hk => by obtain ⟨z0, z1⟩ := HM.out wk hk; try simp only [Nat.zero_mul, Nat.add_zero] at z0 z1; go_simp; try rfl) ?_
              try simp only [Act.put, List.setIfInBounds_toArray, List.set_cons_zero, List.set_cons_succ]
              refine wpHold_take (i := 8) (v := _) (G0.out) rfl rfl (by kernel_rfl) (by kernel_rfl) (by kernel_rfl) (by kernel_rfl) (by kernel_rfl) (fun _ _ _ h => h) (by rfl) (fun wk hk => by obtain ⟨z0, z1⟩ := HM.out wk hk; try simp only [Nat.zero_mul, Nat.add_zero] at z0 z1; go_simp; try rfl) ?_
              try simp only [Act.put, List.setIfInBounds_toArray, List.set_cons_zero, List.set_cons_succ]
              refine wpHold_take (i := 9) (v := _) (G0.out) rfl rfl (by kernel_rfl) (by kernel_rfl) (by kernel_rfl) (by kernel_rfl) (by kernel_rfl) (fun _ _ _ h => h) (by rfl) (fun wk hk => by obtain ⟨z0, z1⟩ := HM.out wk hk; try simp only [Nat.zero_mul, Nat.add_zero] at z0 z1; go_simp; try rfl) ?_
              try simp only [Act.put, List.setIfInBounds_toArray, List.set_cons_zero, List.set_cons_succ]
              refine wpHold_take (i := 10) (v := _) (G0.out) rfl rfl (by kernel_rfl) (by kernel_rfl) (by kernel_rfl) (by kernel_rfl) (by kernel_rfl) (fun _ _ _ h => h) (by rfl) (fun wk hk => by obtain ⟨z0, z1⟩ := HM.out wk hk; try simp only [Nat.zero_mul, Nat.add_zero] at z0 z1; go_simp; try rfl) ?_
              try simp only [Act.put, List.setIfInBounds_toArray, List.set_cons_zero, List.set_cons_succ]
              refine wpHold_take (i := 11) (v := _) (G0.out) rfl rfl (by kernel_rfl) (by kernel_rfl) (by kernel_rfl) (by kernel_rfl) (by kernel_rfl) (fun _ _ _ h => h) (by rfl) (fun wk hk => by obtain ⟨z0, z1⟩ := HM.out wk hk; try simp only [Nat.zero_mul, Nat.add_zero] at z0 z1; go_simp; try rfl) ?_
              try simp only [Act.put, List.setIfInBounds_toArray, List.set_cons_zero, List.set_cons_succ]
              refine wpHold_take (i := 12) (v := _) (G0.out) rfl rfl (by kernel_rfl) (by kernel_rfl) (by kernel_rfl) (by kernel_rfl) (by kernel_rfl) (fun _ _ _ h => h) (by rfl) (fun wk hk => by obtain ⟨z0, z1⟩ := HM.out wk hk; try simp only [Nat.zero_mul, Nat.add_zero] at z0 z1; go_simp; try rfl) ?_
              try simp only [Act.put, List.setIfInBounds_toArray, List.set_cons_zero, List.set_cons_succ]
              refine wpHold_one (i := 13) rfl (by kernel_rfl) (by rfl) (fun K hK => ?_)
              go_wp2_with (go_at_call 57; refine (Names.value14 y r.2 wd (by obtain ⟨m, e⟩ := G0.out; rw [e]; exact Names.seg_drewN HX.out.2 m)).mono ?_; rintro e wx ⟨rfl, hx⟩; rw [hx, HKB.out.2]; clear hx)
              refine hK.out _ _ (fun _ => G0.out) ?_
              clear hK K
              try simp only [Act.put, List.setIfInBounds_toArray, List.set_cons_zero, List.set_cons_succ]
              refine wpHold_take (i := 14) (v := _) (G0.out) rfl rfl (by kernel_rfl) (by kernel_rfl) (by kernel_rfl) (by kernel_rfl) (by kernel_rfl) (fun _ _ _ h => h) (by rfl) (fun wk hk => by obtain ⟨z0, z1⟩ := HM.out wk hk; try simp only [Nat.zero_mul, Nat.add_zero] at z0 z1; go_simp; try rfl) ?_
              try simp only [Act.put, List.setIfInBounds_toArray, List.set_cons_zero, List.set_cons_succ]
              refine wpHold_take (i := 15) (v := _) (G0.out) rfl rfl (by kernel_rfl) (by kernel_rfl) (by kernel_rfl) (by kernel_rfl) (by kernel_rfl) (fun _ _ _ h => h) (by rfl) (fun wk hk => by obtain ⟨z0, z1⟩ := HM.out wk hk; try simp only [Nat.zero_mul, Nat.add_zero] at z0 z1; go_simp; try rfl) ?_
              try simp only [Act.put, List.setIfInBounds_toArray, List.set_cons_zero, List.set_cons_succ]
              refine wpHold_take (i := 16) (v := _) (G0.out) rfl rfl (by kernel_rfl) (by kernel_rfl) (by kernel_rfl) (by kernel_rfl) (by kernel_rfl) (fun _ _ _ h => h) (by rfl) (fun wk hk => by obtain ⟨z0, z1⟩ := HM.out wk hk; try simp only [Nat.zero_mul, Nat.add_zero] at z0 z1; go_simp; try rfl) ?_
              try simp only [Act.put, List.setIfInBounds_toArray, List.set_cons_zero, List.set_cons_succ]
              refine wpHold_take (i := 17) (v := _) (G0.out) rfl rfl (by kernel_rfl) (by kernel_rfl) (by kernel_rfl) (by kernel_rfl) (by kernel_rfl) (fun _ _ _ h => h) (by rfl) (fun wk hk => by obtain ⟨z0, z1⟩ := HM.out wk hk; try simp only [Nat.zero_mul, Nat.add_zero] at z0 z1; go_simp; try rfl) ?_
              try simp only [Act.put, List.setIfInBounds_toArray, List.set_cons_zero, List.set_cons_succ]
              refine wpHold_take (i := 18) (v := _) (G0.out) rfl rfl (by kernel_rfl) (by kernel_rfl) (by kernel_rfl) (by kernel_rfl) (by kernel_rfl) (fun _ _ _ h => h) (by rfl) (fun wk hk => by obtain ⟨z0, z1⟩ := HM.out wk hk; try simp only [Nat.zero_mul, Nat.add_zero] at z0 z1; go_simp; try rfl) ?_
              try simp only [Act.put, List.setIfInBounds_toArray, List.set_cons_zero, List.set_cons_succ]
              refine wpHold_take (i := 19) (v := _) (G0.out) rfl rfl (by kernel_rfl) (by kernel_rfl) (by kernel_rfl) (by kernel_rfl) (by kernel_rfl) (fun _ _ _ h => h) (by rfl) (fun wk hk => by obtain ⟨z0, z1⟩ := HM.out wk hk; try simp only [Nat.zero_mul, Nat.add_zero] at z0 z1; go_simp; try rfl) ?_
              try simp only [Act.put, List.setIfInBounds_toArray, List.set_cons_zero, List.set_cons_succ]
              refine wpHold_skip (i := 20) (G0.out) rfl rfl (by kernel_rfl) (by kernel_rfl) (by kernel_rfl) (by kernel_rfl) (by kernel_rfl) (fun _ _ _ h => h) (by rfl) ?_
              try simp only [Act.put, List.setIfInBounds_toArray, List.set_cons_zero, List.set_cons_succ]
              refine wpHold_skip (i := 21) (G0.out) rfl rfl (by kernel_rfl) (by kernel_rfl) (by kernel_rfl) (by kernel_rfl) (by kernel_rfl) (fun _ _ _ h => h) (by rfl) ?_
              try simp only [Act.put, List.setIfInBounds_toArray, List.set_cons_zero, List.set_cons_succ]
              refine wpHold_skip (i := 22) (G0.out) rfl rfl (by kernel_rfl) (by kernel_rfl) (by kernel_rfl) (by kernel_rfl) (by kernel_rfl) (fun _ _ _ h => h) (by rfl) ?_
              try simp only [Act.put, List.setIfInBounds_toArray, List.set_cons_zero, List.set_cons_succ]
              refine wpHold_skip (i := 23) (G0.out) rfl rfl (by kernel_rfl) (by kernel_rfl) (by kernel_rfl) (by kernel_rfl) (by kernel_rfl) (fun _ _ _ h => h) (by rfl) ?_
              try simp only [Act.put, List.setIfInBounds_toArray, List.set_cons_zero, List.set_cons_succ]
              refine wpHold_skip (i := 24) (G0.out) rfl rfl (by kernel_rfl) (by kernel_rfl) (by kernel_rfl) (by kernel_rfl) (by kernel_rfl) (fun _ _ _ h => h) (by rfl) ?_
              try simp only [Act.put, List.setIfInBounds_toArray, List.set_cons_zero, List.set_cons_succ]
              refine wpHold_skip (i := 25) (G0.out) rfl rfl (by kernel_rfl) (by kernel_rfl) (by kernel_rfl) (by kernel_rfl) (by kernel_rfl) (fun _ _ _ h => h) (by rfl) ?_
              try simp only [Act.put, List.setIfInBounds_toArray, List.set_cons_zero, List.set_cons_succ]
              refine wpHold_skip (i := 26) (G0.out) rfl rfl (by kernel_rfl) (by kernel_rfl) (by kernel_rfl) (by kernel_rfl) (by kernel_rfl) (fun _ _ _ h => h) (by rfl) ?_
              try simp only [Act.put, List.setIfInBounds_toArray, List.set_cons_zero, List.set_cons_succ]
              refine wpHold_skip (i := 27) (G0.out) rfl rfl (by kernel_rfl) (by kernel_rfl) (by kernel_rfl) (by kernel_rfl) (by kernel_rfl) (fun _ _ _ h => h) (by rfl) ?_
              try simp only [Act.put, List.setIfInBounds_toArray, List.set_cons_zero, List.set_cons_succ]
              refine wpHold_skip (i := 28) (G0.out) rfl rfl (by kernel_rfl) (by kernel_rfl) (by kernel_rfl) (by kernel_rfl) (by kernel_rfl) (fun _ _ _ h => h) (by rfl) ?_
              try simp only [Act.put, List.setIfInBounds_toArray, List.set_cons_zero, List.set_cons_succ]
              refine wpHold_skip (i := 29) (G0.out) rfl rfl (by kernel_rfl) (by kernel_rfl) (by kernel_rfl) (by kernel_rfl) (by kernel_rfl) (fun _ _ _ h => h) (by rfl) ?_
              try simp only [Act.put, List.setIfInBounds_toArray, List.set_cons_zero, List.set_cons_succ]
              refine wpHold_skip (i := 30) (G0.out) rfl rfl (by kernel_rfl) (by kernel_rfl) (by kernel_rfl) (by kernel_rfl) (by kernel_rfl) (fun _ _ _ h => h) (by rfl) ?_
              try simp only [Act.put, List.setIfInBounds_toArray, List.set_cons_zero, List.set_cons_succ]
              refine wpHold_skip (i := 31) (G0.out) rfl rfl (by kernel_rfl) (by kernel_rfl) (by kernel_rfl) (by kernel_rfl) (by kernel_rfl) (fun _ _ _ h => h) (by rfl) ?_
              try simp only [Act.put, List.setIfInBounds_toArray, List.set_cons_zero, List.set_cons_succ]
              refine wpHold_skip (i := 32) (G0.out) rfl rfl (by kernel_rfl) (by kernel_rfl) (by kernel_rfl) (by kernel_rfl) (by kernel_rfl) (fun _ _ _ h => h) (by rfl) ?_
              try simp only [Act.put, List.setIfInBounds_toArray, List.set_cons_zero, List.set_cons_succ]
              refine wpHold_take (i := 33) (v := _) (G0.out) rfl rfl (by kernel_rfl) (by kernel_rfl) (by kernel_rfl) (by kernel_rfl) (by kernel_rfl) (fun _ _ _ h => h) (by rfl) (fun wk hk => by obtain ⟨z0, z1⟩ := HM.out wk hk; try simp only [Nat.zero_mul, Nat.add_zero] at z0 z1; go_simp; try rfl) ?_
              try simp only [Act.put, List.setIfInBounds_toArray, List.set_cons_zero, List.set_cons_succ]
              refine wpHold_take (i := 34) (v := _) (G0.out) rfl rfl (by kernel_rfl) (by kernel_rfl) (by kernel_rfl) (by kernel_rfl) (by kernel_rfl) (fun _ _ _ h => h) (by rfl) (fun wk hk => by obtain ⟨z0, z1⟩ := HM.out wk hk; try simp only [Nat.zero_mul, Nat.add_zero] at z0 z1; go_simp; try rfl) ?_
              try simp only [Act.put, List.setIfInBounds_toArray, List.set_cons_zero, List.set_cons_succ]
              refine wpHold_done (by kernel_rfl) ?_
              refine (‹∀ (a : Act) (w : World), Met _ a w → _› _ _ ?_)
              go_meet
              case rel => exact ⟨by rw [HRR.out]; rfl, G0.out⟩
            · obtain ⟨j, hj⟩ : ∃ j, k = j + 1 := ⟨k - 1, by omega⟩
              have ja : j < l.length := by omega
              obtain ⟨b3, o3, x3, y3, e3, c3, _, s3, _⟩ := rws_at HV.out j ja
              simp at e3
              obtain ⟨rfl, rfl⟩ := e3
              obtain ⟨s, hs⟩ : ∃ s, l[j] = s := ⟨_, rfl⟩
              rw [hs] at s3
              obtain ⟨C, hC⟩ : ∃ C, cmpL s.1 r.1 = C := ⟨_, rfl⟩
              have HY : Hid (Seg w x3 s.1 ∧ cmpL s.1 r.1 = C ∧ R = decide (C < 0)) := by
                refine ⟨s3, hC, ?_⟩
                rw [← HG.out.2]
                subst hj
                simp [risesB, hs, hC, ja]
              have HM2 : Hid (∀ z : World, (∃ m, z = w.drewN m) → z.cell? ⟨bb, off + j * 2, none⟩ = some x3) := by
                rintro z ⟨m, rfl⟩
                exact c3
              clear s3 c3 hs hC
              subst hj
              have j0 : (0 : Int) ≤ (j : Int) := by omega
              have j1 : (j : Int) < (n : Int) := by omega
              have j2 : IntKind.i64.wrap (((j + 1 : Nat) : Int) - 1) = (j : Int) := by rw [IntKind.wrap_i64]; omega
              have j3 : (0 : Int) < (j : Int) + 1 := by omega
              have j4 : (0 : Int) ≤ (j : Int) + 1 := by omega
              have j5 : (j : Int) + 1 < (n : Int) := by omega
              have j6 : IntKind.i64.wrap (j : Int) = (j : Int) := by rw [IntKind.wrap_i64]; omega
              have j7 : IntKind.i64.wrap ((j : Int) + 1 - 1) = (j : Int) := by rw [IntKind.wrap_i64]; omega
              refine wp_region_noPanic ?_
              refine wp_region_hold 1000 (fun y => ∃ m, y = w.drewN m) (by kernel_rfl) ?_
              have G0 : Hid (∃ m, (w.drewN q).drew = w.drewN m) := ⟨q + 1, rfl⟩
              generalize (w.drewN q).drew = wd at G0 ⊢
              refine wpHold_take (i := 0) (v := _) (G0.out) rfl rfl (by kernel_rfl) (by kernel_rfl) (by kernel_rfl) (by kernel_rfl) (by kernel_rfl) (fun _ _ _ h => h) (by rfl) (fun wk hk => by obtain ⟨z0, z1⟩ := HM.out wk hk; have z2 := HM2.out wk hk; go_simp; try rfl) ?_
              try simp only [Act.put, List.setIfInBounds_toArray, List.set_cons_zero, List.set_cons_succ]
              refine wpHold_take (i := 1) (v := _) (G0.out) rfl rfl (by kernel_rfl) (by kernel_rfl) (by kernel_rfl) (by kernel_rfl) (by kernel_rfl) (fun _ _ _ h => h) (by rfl) (fun wk hk => by obtain ⟨z0, z1⟩ := HM.out wk hk; have z2 := HM2.out wk hk; go_simp; try rfl) ?_
              try simp only [Act.put, List.setIfInBounds_toArray, List.set_cons_zero, List.set_cons_succ]
              refine wpHold_take (i := 2) (v := _) (G0.out) rfl rfl (by kernel_rfl) (by kernel_rfl) (by kernel_rfl) (by kernel_rfl) (by kernel_rfl) (fun _ _ _ h => h) (by rfl) (fun wk hk => by obtain ⟨z0, z1⟩ := HM.out wk hk; have z2 := HM2.out wk hk; go_simp; try rfl) ?_
              try simp only [Act.put, List.setIfInBounds_toArray, List.set_cons_zero, List.set_cons_succ]
              refine wpHold_take (i := 3) (v := _) (G0.out) rfl rfl (by kernel_rfl) (by kernel_rfl) (by kernel_rfl) (by kernel_rfl) (by kernel_rfl) (fun _ _ _ h => h) (by rfl) (fun wk hk => by obtain ⟨z0, z1⟩ := HM.out wk hk; have z2 := HM2.out wk hk; go_simp; try rfl) ?_
              try simp only [Act.put, List.setIfInBounds_toArray, List.set_cons_zero, List.set_cons_succ]
              refine wpHold_take (i := 4) (v := _) (G0.out) rfl rfl (by kernel_rfl) (by kernel_rfl) (by kernel_rfl) (by kernel_rfl) (by kernel_rfl) (fun _ _ _ h => h) (by rfl) (fun wk hk => by obtain ⟨z0, z1⟩ := HM.out wk hk; have z2 := HM2.out wk hk; go_simp; try rfl) ?_
              try simp only [Act.put, List.setIfInBounds_toArray, List.set_cons_zero, List.set_cons_succ]
              refine wpHold_one (i := 5) rfl (by kernel_rfl) (by rfl) (fun K hK => ?_)
              go_wp2_with (go_at_call 56; refine (Names.key12 x r.1 wd (by obtain ⟨m, rfl⟩ := G0.out; exact Names.seg_drewN HX.out.1 m)).mono ?_; rintro e wx ⟨rfl, hx⟩; rw [hx, HKB.out.1]; clear hx)
              refine hK.out _ _ (fun _ => G0.out) ?_
              clear hK K
              try simp only [Act.put, List.setIfInBounds_toArray, List.set_cons_zero, List.set_cons_succ]
              refine wpHold_take (i := 6) (v := _) (G0.out) rfl rfl (by kernel_rfl) (by kernel_rfl) (by kernel_rfl) (by kernel_rfl) (by kernel_rfl) (fun _ _ _ h => h) (by rfl) (fun wk hk => by obtain ⟨z0, z1⟩ := HM.out wk hk; have z2 := HM2.out wk hk; go_simp; try rfl) ?_
              try simp only [Act.put, List.setIfInBounds_toArray, List.set_cons_zero, List.set_cons_succ]
              refine wpHold_take (i := 7) (v := _) (G0.out) rfl rfl (by kernel_rfl) (by kernel_rfl) (by kernel_rfl) (by kernel_rfl) (by kernel_rfl) (fun _ _ _ h => h) (by rfl) (fun wk hk => by obtain ⟨z0, z1⟩ := HM.out wk hk; have z2 := HM2.out wk hk; go_simp; try rfl) ?_
              try simp only [Act.put, List.setIfInBounds_toArray, List.set_cons_zero, List.set_cons_succ]
              refine wpHold_take (i := 8) (v := _) (G0.out) rfl rfl (by kernel_rfl) (by kernel_rfl) (by kernel_rfl) (by kernel_rfl) (by kernel_rfl) (fun _ _ _ h => h) (by rfl) (fun wk hk => by obtain ⟨z0, z1⟩ := HM.out wk hk; have z2 := HM2.out wk hk; go_simp; try rfl) ?_
              try simp only [Act.put, List.setIfInBounds_toArray, List.set_cons_zero, List.set_cons_succ]
              refine wpHold_take (i := 9) (v := _) (G0.out) rfl rfl (by kernel_rfl) (by kernel_rfl) (by kernel_rfl) (by kernel_rfl) (by kernel_rfl) (fun _ _ _ h => h) (by rfl) (fun wk hk => by obtain ⟨z0, z1⟩ := HM.out wk hk; have z2 := HM2.out wk hk; go_simp; try rfl) ?_
              try simp only [Act.put, List.setIfInBounds_toArray, List.set_cons_zero, List.set_cons_succ]
              refine wpHold_take (i := 10) (v := _) (G0.out) rfl rfl (by kernel_rfl) (by kernel_rfl) (by kernel_rfl) (by kernel_rfl) (by kernel_rfl) (fun _ _ _ h => h) (by rfl) (fun wk hk => by obtain ⟨z0, z1⟩ := HM.out wk hk; have z2 := HM2.out wk hk; go_simp; try rfl) ?_
              try simp only [Act.put, List.setIfInBounds_toArray, List.set_cons_zero, List.set_cons_succ]
              refine wpHold_take (i := 11) (v := _) (G0.out) rfl rfl (by kernel_rfl) (by kernel_rfl) (by kernel_rfl) (by kernel_rfl) (by kernel_rfl) (fun _ _ _ h => h) (by rfl) (fun wk hk => by obtain ⟨z0, z1⟩ := HM.out wk hk; have z2 := HM2.out wk hk; go_simp; try rfl) ?_
              try simp only [Act.put, List.setIfInBounds_toArray, List.set_cons_zero, List.set_cons_succ]
              refine wpHold_take (i := 12) (v := _) (G0.out) rfl rfl (by kernel_rfl) (by kernel_rfl) (by kernel_rfl) (by kernel_rfl) (by kernel_rfl) (fun _ _ _ h => h) (by rfl) (fun wk hk => by obtain ⟨z0, z1⟩ := HM.out wk hk; have z2 := HM2.out wk hk; go_simp; try rfl) ?_
              try simp only [Act.put, List.setIfInBounds_toArray, List.set_cons_zero, List.set_cons_succ]
              refine wpHold_one (i := 13) rfl (by kernel_rfl) (by rfl) (fun K hK => ?_)
              go_wp2_with (go_at_call 57; refine (Names.value14 y r.2 wd (by obtain ⟨m, e⟩ := G0.out; rw [e]; exact Names.seg_drewN HX.out.2 m)).mono ?_; rintro e wx ⟨rfl, hx⟩; rw [hx, HKB.out.2]; clear hx)
              refine hK.out _ _ (fun _ => G0.out) ?_
              clear hK K
              try simp only [Act.put, List.setIfInBounds_toArray, List.set_cons_zero, List.set_cons_succ]
              refine wpHold_take (i := 14) (v := _) (G0.out) rfl rfl (by kernel_rfl) (by kernel_rfl) (by kernel_rfl) (by kernel_rfl) (by kernel_rfl) (fun _ _ _ h => h) (by rfl) (fun wk hk => by obtain ⟨z0, z1⟩ := HM.out wk hk; have z2 := HM2.out wk hk; go_simp; try rfl) ?_
              try simp only [Act.put, List.setIfInBounds_toArray, List.set_cons_zero, List.set_cons_succ]
              refine wpHold_take (i := 15) (v := _) (G0.out) rfl rfl (by kernel_rfl) (by kernel_rfl) (by kernel_rfl) (by kernel_rfl) (by kernel_rfl) (fun _ _ _ h => h) (by rfl) (fun wk hk => by obtain ⟨z0, z1⟩ := HM.out wk hk; have z2 := HM2.out wk hk; go_simp; try rfl) ?_
              try simp only [Act.put, List.setIfInBounds_toArray, List.set_cons_zero, List.set_cons_succ]
              refine wpHold_take (i := 16) (v := _) (G0.out) rfl rfl (by kernel_rfl) (by kernel_rfl) (by kernel_rfl) (by kernel_rfl) (by kernel_rfl) (fun _ _ _ h => h) (by rfl) (fun wk hk => by obtain ⟨z0, z1⟩ := HM.out wk hk; have z2 := HM2.out wk hk; go_simp; try rfl) ?_
              try simp only [Act.put, List.setIfInBounds_toArray, List.set_cons_zero, List.set_cons_succ]
              refine wpHold_take (i := 17) (v := _) (G0.out) rfl rfl (by kernel_rfl) (by kernel_rfl) (by kernel_rfl) (by kernel_rfl) (by kernel_rfl) (fun _ _ _ h => h) (by rfl) (fun wk hk => by obtain ⟨z0, z1⟩ := HM.out wk hk; have z2 := HM2.out wk hk; go_simp; try rfl) ?_
              try simp only [Act.put, List.setIfInBounds_toArray, List.set_cons_zero, List.set_cons_succ]
              refine wpHold_take (i := 18) (v := _) (G0.out) rfl rfl (by kernel_rfl) (by kernel_rfl) (by kernel_rfl) (by kernel_rfl) (by kernel_rfl) (fun _ _ _ h => h) (by rfl) (fun wk hk => by obtain ⟨z0, z1⟩ := HM.out wk hk; have z2 := HM2.out wk hk; go_simp; try rfl) ?_
              try simp only [Act.put, List.setIfInBounds_toArray, List.set_cons_zero, List.set_cons_succ]
              refine wpHold_take (i := 19) (v := _) (G0.out) rfl rfl (by kernel_rfl) (by kernel_rfl) (by kernel_rfl) (by kernel_rfl) (by kernel_rfl) (fun _ _ _ h => h) (by rfl) (fun wk hk => by obtain ⟨z0, z1⟩ := HM.out wk hk; have z2 := HM2.out wk hk; go_simp; try rfl) ?_
              try simp only [Act.put, List.setIfInBounds_toArray, List.set_cons_zero, List.set_cons_succ]
              refine wpHold_take (i := 20) (v := _) (G0.out) rfl rfl (by kernel_rfl) (by kernel_rfl) (by kernel_rfl) (by kernel_rfl) (by kernel_rfl) (fun _ _ _ h => h) (by rfl) (fun wk hk => by obtain ⟨z0, z1⟩ := HM.out wk hk; have z2 := HM2.out wk hk; go_simp; try rfl) ?_
              try simp only [Act.put, List.setIfInBounds_toArray, List.set_cons_zero, List.set_cons_succ]
              refine wpHold_take (i := 21) (v := _) (G0.out) rfl rfl (by kernel_rfl) (by kernel_rfl) (by kernel_rfl) (by kernel_rfl) (by kernel_rfl) (fun _ _ _ h => h) (by rfl) (fun wk hk => by obtain ⟨z0, z1⟩ := HM.out wk hk; have z2 := HM2.out wk hk; go_simp; try rfl) ?_
              try simp only [Act.put, List.setIfInBounds_toArray, List.set_cons_zero, List.set_cons_succ]
              refine wpHold_take (i := 22) (v := _) (G0.out) rfl rfl (by kernel_rfl) (by kernel_rfl) (by kernel_rfl) (by kernel_rfl) (by kernel_rfl) (fun _ _ _ h => h) (by rfl) (fun wk hk => by obtain ⟨z0, z1⟩ := HM.out wk hk; have z2 := HM2.out wk hk; go_simp; try rfl) ?_
              try simp only [Act.put, List.setIfInBounds_toArray, List.set_cons_zero, List.set_cons_succ]
              refine wpHold_take (i := 23) (v := _) (G0.out) rfl rfl (by kernel_rfl) (by kernel_rfl) (by kernel_rfl) (by kernel_rfl) (by kernel_rfl) (fun _ _ _ h => h) (by rfl) (fun wk hk => by obtain ⟨z0, z1⟩ := HM.out wk hk; have z2 := HM2.out wk hk; go_simp; try rfl) ?_
              try simp only [Act.put, List.setIfInBounds_toArray, List.set_cons_zero, List.set_cons_succ]
              refine wpHold_take (i := 24) (v := _) (G0.out) rfl rfl (by kernel_rfl) (by kernel_rfl) (by kernel_rfl) (by kernel_rfl) (by kernel_rfl) (fun _ _ _ h => h) (by rfl) (fun wk hk => by obtain ⟨z0, z1⟩ := HM.out wk hk; have z2 := HM2.out wk hk; go_simp; try rfl) ?_
              try simp only [Act.put, List.setIfInBounds_toArray, List.set_cons_zero, List.set_cons_succ]
              refine wpHold_take (i := 25) (v := _) (G0.out) rfl rfl (by kernel_rfl) (by kernel_rfl) (by kernel_rfl) (by kernel_rfl) (by kernel_rfl) (fun _ _ _ h => h) (by rfl) (fun wk hk => by obtain ⟨z0, z1⟩ := HM.out wk hk; have z2 := HM2.out wk hk; go_simp; try rfl) ?_
              try simp only [Act.put, List.setIfInBounds_toArray, List.set_cons_zero, List.set_cons_succ]
              refine wpHold_take (i := 26) (v := _) (G0.out) rfl rfl (by kernel_rfl) (by kernel_rfl) (by kernel_rfl) (by kernel_rfl) (by kernel_rfl) (fun _ _ _ h => h) (by rfl) (fun wk hk => by obtain ⟨z0, z1⟩ := HM.out wk hk; have z2 := HM2.out wk hk; go_simp; try rfl) ?_
              try simp only [Act.put, List.setIfInBounds_toArray, List.set_cons_zero, List.set_cons_succ]
              refine wpHold_take (i := 27) (v := _) (G0.out) rfl rfl (by kernel_rfl) (by kernel_rfl) (by kernel_rfl) (by kernel_rfl) (by kernel_rfl) (fun _ _ _ h => h) (by rfl) (fun wk hk => by obtain ⟨z0, z1⟩ := HM.out wk hk; have z2 := HM2.out wk hk; go_simp; try rfl) ?_
              try simp only [Act.put, List.setIfInBounds_toArray, List.set_cons_zero, List.set_cons_succ]
              refine wpHold_take (i := 28) (v := _) (G0.out) rfl rfl (by kernel_rfl) (by kernel_rfl) (by kernel_rfl) (by kernel_rfl) (by kernel_rfl) (fun _ _ _ h => h) (by rfl) (fun wk hk => by obtain ⟨z0, z1⟩ := HM.out wk hk; have z2 := HM2.out wk hk; go_simp; try rfl) ?_
              try simp only [Act.put, List.setIfInBounds_toArray, List.set_cons_zero, List.set_cons_succ]
              refine wpHold_take (i := 29) (v := _) (G0.out) rfl rfl (by kernel_rfl) (by kernel_rfl) (by kernel_rfl) (by kernel_rfl) (by kernel_rfl) (fun _ _ _ h => h) (by rfl) (fun wk hk => by obtain ⟨z0, z1⟩ := HM.out wk hk; have z2 := HM2.out wk hk; go_simp; try rfl) ?_
              try simp only [Act.put, List.setIfInBounds_toArray, List.set_cons_zero, List.set_cons_succ]
              refine wpHold_take (i := 30) (v := _) (G0.out) rfl rfl (by kernel_rfl) (by kernel_rfl) (by kernel_rfl) (by kernel_rfl) (by kernel_rfl) (fun _ _ _ h => h) (by rfl) (fun wk hk => by obtain ⟨z0, z1⟩ := HM.out wk hk; have z2 := HM2.out wk hk; go_simp; try rfl) ?_
              try simp only [Act.put, List.setIfInBounds_toArray, List.set_cons_zero, List.set_cons_succ]
              refine wpHold_one (i := 31) rfl (by kernel_rfl) (by rfl) (fun K hK => ?_)
              go_wp2_with (go_at_call 65; refine (Names.cmp27 x3 x s.1 r.1 wd (by obtain ⟨m, rfl⟩ := G0.out; exact Names.seg_drewN HY.out.1 m) (by obtain ⟨m, rfl⟩ := G0.out; exact Names.seg_drewN HX.out.1 m)).mono ?_)
              rintro e w3 ⟨rfl, m3, hw3⟩
              rw [HY.out.2.1]
              have G3 : Hid (∃ m, w3 = w.drewN m) := by
                obtain ⟨m, e⟩ := G0.out
                exact ⟨_, by rw [hw3, e, World.drewN_drewN]⟩
              clear hw3
              refine hK.out _ _ (fun _ => G3.out) ?_
              clear hK K
              try simp only [Act.put, List.setIfInBounds_toArray, List.set_cons_zero, List.set_cons_succ]
              refine wpHold_take (i := 32) (v := _) (G3.out) rfl rfl (by kernel_rfl) (by kernel_rfl) (by kernel_rfl) (by kernel_rfl) (by kernel_rfl) (fun _ _ _ h => h) (by rfl) (fun wk hk => by obtain ⟨z0, z1⟩ := HM.out wk hk; have z2 := HM2.out wk hk; go_simp; try rfl) ?_
              try simp only [Act.put, List.setIfInBounds_toArray, List.set_cons_zero, List.set_cons_succ]
              refine wpHold_take (i := 33) (v := _) (G3.out) rfl rfl (by kernel_rfl) (by kernel_rfl) (by kernel_rfl) (by kernel_rfl) (by kernel_rfl) (fun _ _ _ h => h) (by rfl) (fun wk hk => by obtain ⟨z0, z1⟩ := HM.out wk hk; have z2 := HM2.out wk hk; go_simp; try rfl) ?_
              try simp only [Act.put, List.setIfInBounds_toArray, List.set_cons_zero, List.set_cons_succ]
              refine wpHold_take (i := 34) (v := _) (G3.out) rfl rfl (by kernel_rfl) (by kernel_rfl) (by kernel_rfl) (by kernel_rfl) (by kernel_rfl) (fun _ _ _ h => h) (by rfl) (fun wk hk => by obtain ⟨z0, z1⟩ := HM.out wk hk; have z2 := HM2.out wk hk; go_simp; try rfl) ?_
              try simp only [Act.put, List.setIfInBounds_toArray, List.set_cons_zero, List.set_cons_succ]
              refine wpHold_done (by kernel_rfl) ?_
              refine (‹∀ (a : Act) (w : World), Met _ a w → _› _ _ ?_)
              go_meet
              case rel => exact ⟨by rw [HY.out.2.2]; simp only [Bool.and_self, Bool.and_true]; by_cases h : C < 0 <;> simp [h] <;> omega, G3.out⟩
      case rest =>
        obtain ⟨rfl, m, rfl⟩ := hcut
        refine (‹∀ (a : Act) (w : World), Code.wp Try.prog _ _ a w → _› _ _ ?_)
        obtain ⟨D, hD⟩ : ∃ D, (R && (kb && vb)) = D := ⟨_, rfl⟩
        have HD : Hid (Good (l.take (k + 1)) ↔ D = true) := by
          have h := HG.out.1
          rw [HO.out] at h
          rw [Hid, h, ← hD]
          simp
        rw [hD]
        clear hD
        cases D with
        | true =>
          go_wp2_with fail
          go_roundw
          case rel => exact ⟨k + 1, _, by omega, by go_num, HD.out.2 rfl, rfl⟩
          case measure => simp [intOf]; omega
        | false =>
          go_wp2_with fail
          go_ret
          refine ⟨false, rfl, ⟨fun h => absurd h (by simp), fun h => ?_⟩, _, rfl⟩
          have := HD.out.1 (good_take h (k + 1))
          simp at this
    · have hkn : k = n := by omega
      subst hkn
      go_wp2_with fail
      go_ret
      have e : l.take k = l := List.take_of_length_le (Nat.le_of_eq HN.out.1)
      have h2 := HR.out
      rw [e] at h2
      exact ⟨true, rfl, ⟨fun _ => h2, fun _ => rfl⟩, _, rfl⟩
end Go.Proofs.Ytlehikdlkdbacaa
