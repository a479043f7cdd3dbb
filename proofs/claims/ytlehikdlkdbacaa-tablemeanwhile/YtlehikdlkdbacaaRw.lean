/-
  Rows that are told are held against the document's, and written over.
-/
import Derived.Test.YtlehikdlkdbacaaSv
import Derived.Test.YtlehikdlkdbacaaD
namespace Go.Proofs.Ytlehikdlkdbacaa
open Go.RowKit Disk

theorem spr_any {X : Nat → Prop} {w0 w : World} {B : Nat} {ao : Option Addr} {n cap : Nat} {l : List PRow} (h : TRws w B (.slice ao n cap) l) (hg : w0.grownBy w none) (hX : ∀ g, B ≤ g → g < w.heap.size → X g) : ∃ g ks, 0 < n → ao = some ⟨g, 0, none⟩ ∧ ks.length = n ∧ X g ∧ B ≤ g ∧ SpR X w0 w g ks 0 w := by
  by_cases hn : 0 < n
  · obtain ⟨g, ks, r⟩ := spr_start h hn hg hX
    exact ⟨g, ks, fun _ => r⟩
  · exact ⟨0, [], fun h => absurd h hn⟩

set_option maxRecDepth 100000 in
set_option maxHeartbeats 8000000 in
theorem rows41 (v u : Value) (B : Nat) (A C : List PRow) (w0 w : World) (hg : w0.grownBy w none) (hB : w0.heap.size ≤ B) (hv : TRws w B v A) (hu : Rws w u C) :
    Calls Try.prog 41 #[v, u] w fun e w' => e = .returned (.bool (decide (A = C))) ∧ w0.grownBy w' none := by
  obtain ⟨ao, n, cap, rfl, hn, hc, hc', _⟩ := rws_open hv.rws
  have HV : Hid (TRws w B (.slice ao n cap) A ∧ Rws w u C ∧ w0.grownBy w none ∧ w0.heap.size ≤ B) := ⟨hv, hu, hg, hB⟩
  clear hv hu hg hB hn
  obtain ⟨D, hD⟩ : ∃ D, decide (A = C) = D := ⟨_, rfl⟩
  have HD : Hid (decide (A = C) = D) := hD
  go_enter Try.func41, Try.ntmps41
  go_wp2_with fail
  refine (same15 _ _ A C w HV.out.1.rws HV.out.2.1).mono ?_
  rintro e w1 ⟨rfl, m1, hw1⟩
  rw [hD]
  have H1 : Hid (TRws w1 B (.slice ao n cap) A ∧ w0.grownBy w1 none) := by
    rw [hw1]
    exact ⟨HV.out.1.grown (grown_drewN _ _ _), grown_trans HV.out.2.2.1 (grown_drewN _ _ _)⟩
  clear hw1 hD
  obtain ⟨g, ks, hsp⟩ := spr_any (X := fun q => B ≤ q) H1.out.1 H1.out.2 (fun q h _ => h)
  have HSP : Hid (0 < n → ao = some ⟨g, 0, none⟩ ∧ ks.length = n ∧ B ≤ g ∧ B ≤ g ∧ SpR (fun q => B ≤ q) w0 w1 g ks 0 w1) := hsp
  clear hsp
  go_wp2_with fail
  go_loopw [6] (fun i wr => ∃ (k : Nat), k ≤ n ∧ i = .int .i64 (k : Int) ∧ w0.grownBy wr none ∧ (0 < n → SpR (fun q => B ≤ q) w0 w1 g ks k wr)) (fun i _ => n - (intOf i).toNat)
  case atStart => exact ⟨0, Nat.zero_le _, rfl, H1.out.2, fun h => (HSP.out h).2.2.2.2⟩
  case round =>
    obtain ⟨k, hk, rfl, hgr, hsp⟩ := hrel
    rcases Nat.lt_or_ge k n with hlt | hge
    · obtain ⟨e1, e2, e3, _, _⟩ := HSP.out (by omega)
      have HR : Hid (SpR (fun q => B ≤ q) w0 w1 g ks k wr ∧ ks.length = n ∧ B ≤ g) := ⟨hsp (by omega), e2, e3⟩
      have hkk : k < ks.length := by omega
      subst e1
      clear hgr hsp e2 e3
      obtain ⟨x, hx⟩ : ∃ x, ks[k].1 = x := ⟨_, rfl⟩
      obtain ⟨y, hy⟩ : ∃ y, ks[k].2 = y := ⟨_, rfl⟩
      have HO : Hid (∀ z, SpR (fun q => B ≤ q) w0 w1 g ks k z → (z.cell? ⟨g, k * 2, none⟩ = some x ∧ z.cell? ⟨g, k * 2 + 1, none⟩ = some y) ∧ OwnS (fun q => B ≤ q) z x ∧ OwnS (fun q => B ≤ q) z y) := fun z hz => by
        rw [← hx, ← hy]
        exact ⟨hz.cells hkk, hz.2.2.2 k hkk (Nat.le_refl _)⟩
      obtain ⟨ax, nx, cx, rfl⟩ := (HO.out wr HR.out.1).2.1.2.2
      obtain ⟨ay, ny, cy, rfl⟩ := (HO.out wr HR.out.1).2.2.2.2
      have i0 : (0 : Int) ≤ (k : Int) := by omega
      have i1 : (k : Int) < (n : Int) := by omega
      clear hx hy
      go_upto_region 5 with fail
      refine wp_region_noPanic ?_
      refine wp_region_hold 1000 (fun z => SpR (fun q => B ≤ q) w0 w1 g ks k z) (by kernel_rfl) ?_
      have G0 : Hid (SpR (fun q => B ≤ q) w0 w1 g ks k wr.drew) := HR.out.1.grown (grown_drew _ _)
      generalize wr.drew = wd at G0 ⊢
      refine wpHold_take (i := 0) (v := _) (G0.out) rfl rfl (by kernel_rfl) (by kernel_rfl) (by kernel_rfl) (by kernel_rfl) (by kernel_rfl) (fun _ _ _ h => h) (by rfl) (fun wk hk => by obtain ⟨⟨z0, z1⟩, _⟩ := HO.out wk hk; go_simp; try rfl) ?_
      try simp only [Act.put, List.setIfInBounds_toArray, List.set_cons_zero, List.set_cons_succ]
      refine wpHold_take (i := 1) (v := _) (G0.out) rfl rfl (by kernel_rfl) (by kernel_rfl) (by kernel_rfl) (by kernel_rfl) (by kernel_rfl) (fun _ _ _ h => h) (by rfl) (fun wk hk => by obtain ⟨⟨z0, z1⟩, _⟩ := HO.out wk hk; go_simp; try rfl) ?_
      try simp only [Act.put, List.setIfInBounds_toArray, List.set_cons_zero, List.set_cons_succ]
      refine wpHold_take (i := 2) (v := _) (G0.out) rfl rfl (by kernel_rfl) (by kernel_rfl) (by kernel_rfl) (by kernel_rfl) (by kernel_rfl) (fun _ _ _ h => h) (by rfl) (fun wk hk => by obtain ⟨⟨z0, z1⟩, _⟩ := HO.out wk hk; go_simp; try rfl) ?_
      try simp only [Act.put, List.setIfInBounds_toArray, List.set_cons_zero, List.set_cons_succ]
      refine wpHold_take (i := 3) (v := _) (G0.out) rfl rfl (by kernel_rfl) (by kernel_rfl) (by kernel_rfl) (by kernel_rfl) (by kernel_rfl) (fun _ _ _ h => h) (by rfl) (fun wk hk => by obtain ⟨⟨z0, z1⟩, _⟩ := HO.out wk hk; go_simp; try rfl) ?_
      try simp only [Act.put, List.setIfInBounds_toArray, List.set_cons_zero, List.set_cons_succ]
      refine wpHold_take (i := 4) (v := _) (G0.out) rfl rfl (by kernel_rfl) (by kernel_rfl) (by kernel_rfl) (by kernel_rfl) (by kernel_rfl) (fun _ _ _ h => h) (by rfl) (fun wk hk => by obtain ⟨⟨z0, z1⟩, _⟩ := HO.out wk hk; go_simp; try rfl) ?_
      try simp only [Act.put, List.setIfInBounds_toArray, List.set_cons_zero, List.set_cons_succ]
      refine wpHold_take (i := 5) (v := _) (G0.out) rfl rfl (by kernel_rfl) (by kernel_rfl) (by kernel_rfl) (by kernel_rfl) (by kernel_rfl) (fun _ _ _ h => h) (by rfl) (fun wk hk => by obtain ⟨⟨z0, z1⟩, _⟩ := HO.out wk hk; go_simp; try rfl) ?_
      try simp only [Act.put, List.setIfInBounds_toArray, List.set_cons_zero, List.set_cons_succ]
      refine wpHold_take (i := 6) (v := _) (G0.out) rfl rfl (by kernel_rfl) (by kernel_rfl) (by kernel_rfl) (by kernel_rfl) (by kernel_rfl) (fun _ _ _ h => h) (by rfl) (fun wk hk => by obtain ⟨⟨z0, z1⟩, _⟩ := HO.out wk hk; go_simp; try rfl) ?_
      try simp only [Act.put, List.setIfInBounds_toArray, List.set_cons_zero, List.set_cons_succ]
      refine wpHold_take (i := 7) (v := _) (G0.out) rfl rfl (by kernel_rfl) (by kernel_rfl) (by kernel_rfl) (by kernel_rfl) (by kernel_rfl) (fun _ _ _ h => h) (by rfl) (fun wk hk => by obtain ⟨⟨z0, z1⟩, _⟩ := HO.out wk hk; go_simp; try rfl) ?_
      try simp only [Act.put, List.setIfInBounds_toArray, List.set_cons_zero, List.set_cons_succ]
      refine wpHold_take (i := 8) (v := _) (G0.out) rfl rfl (by kernel_rfl) (by kernel_rfl) (by kernel_rfl) (by kernel_rfl) (by kernel_rfl) (fun _ _ _ h => h) (by rfl) (fun wk hk => by obtain ⟨⟨z0, z1⟩, _⟩ := HO.out wk hk; go_simp; try rfl) ?_
      try simp only [Act.put, List.setIfInBounds_toArray, List.set_cons_zero, List.set_cons_succ]
      refine wpHold_take (i := 9) (v := _) (G0.out) rfl rfl (by kernel_rfl) (by kernel_rfl) (by kernel_rfl) (by kernel_rfl) (by kernel_rfl) (fun _ _ _ h => h) (by rfl) (fun wk hk => by obtain ⟨⟨z0, z1⟩, _⟩ := HO.out wk hk; go_simp; try rfl) ?_
      try simp only [Act.put, List.setIfInBounds_toArray, List.set_cons_zero, List.set_cons_succ]
      refine wpHold_one (i := 10) rfl (by kernel_rfl) (by rfl) (fun K hK => ?_)
      go_wp2_with fail
      obtain ⟨w2, hw2, H2⟩ := al wd #[.slice ax nx cx, .slice ay ny cy] 30
      rw [hw2]
      clear hw2
      have G2 : Hid (SpR (fun q => B ≤ q) w0 w1 g ks k w2) := G0.out.grown H2.out.2.1
      refine hK.out _ _ (fun _ => G2.out) ?_
      clear hK K
      try simp only [Act.put, List.setIfInBounds_toArray, List.set_cons_zero, List.set_cons_succ]
      refine wpHold_one (i := 11) rfl (by kernel_rfl) (by rfl) (fun K hK => ?_)
      obtain ⟨_, ⟨⟨n1, ox⟩, ix, _⟩, ⟨⟨n2, oy⟩, iy, _⟩⟩ := HO.out w2 G2.out
      have HOX : Hid (OwnX w2 (fun q => B ≤ q) (.slice ax nx cx) n1 ∧ OwnX w2 (fun q => B ≤ q) (.slice ay ny cy) n2 ∧ SegI w2 (.slice ax nx cx) ∧ SegI w2 (.slice ay ny cy)) := ⟨ox, oy, ix, iy⟩
      clear ox oy ix iy
      go_wp2_with (go_at_call 33; refine (spoil33k wd.heap.size 2 (fun q => B ≤ q) [.slice ax nx cx, .slice ay ny cy] [n1, n2] rfl rfl (by omega) w2 H2.out.1 ?_ ?_).mono ?_)
      · intro j h h'
        rcases j with _ | _ | j
        · exact HOX.out.1
        · exact HOX.out.2.1
        · simp at h; omega
      · intro j h
        rcases j with _ | _ | j
        · exact HOX.out.2.2.1
        · exact HOX.out.2.2.2
        · simp at h; omega
      rintro e w3 ⟨rfl, hw3⟩
      have G3 : Hid (SpR (fun q => B ≤ q) w0 w1 g ks k w3) := G2.out.wq hw3 (fun q hq => by have := HV.out.2.2.2; omega)
      clear hw3
      go_wp2_with fail
      refine hK.out _ _ (fun _ => G3.out) ?_
      clear hK K
      try simp only [Act.put, List.setIfInBounds_toArray, List.set_cons_zero, List.set_cons_succ]
      refine wpHold_done (by kernel_rfl) ?_
      refine (‹∀ (a : Act) (w : World), Code.wp Try.prog _ _ a w → _› _ _ ?_)
      obtain ⟨⟨z0, z1⟩, _⟩ := HO.out w3 G3.out
      have f0 := G3.out.free (k * 2)
      have f1 := G3.out.free (k * 2 + 1)
      go_wp2_with fail
      have G4 : Hid (SpR (fun q => B ≤ q) w0 w1 g ks (k + 1) ((w3.setCell ⟨g, k * 2, none⟩ (.slice none 0 0)).setCell ⟨g, k * 2 + 1, none⟩ (.slice none 0 0))) := G3.out.next hkk HR.out.2.2 (by have := HR.out.2.2; have := HV.out.2.2.2; omega) _ _
      go_roundw
      case rel => exact ⟨k + 1, by omega, by go_num, G4.out.1, fun _ => G4.out⟩
      case measure => simp [intOf]; omega
    · have hkn : k = n := by omega
      subst hkn
      go_wp2_with fail
      go_ret
      exact ⟨by rw [HD.out]; rfl, hgr⟩
end Go.Proofs.Ytlehikdlkdbacaa
