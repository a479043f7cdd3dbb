/-
  A table and the document's, of the same rows: begin.
-/
import Derived.Test.YtlehikdlkdbacaaRw
import Derived.Test.YtlehikdlkdbacaaRd
namespace Go.Proofs.Ytlehikdlkdbacaa
open Go.RowKit Disk

/-- The blocks between two worlds. -/
def XW (a b : World) (q : Nat) : Prop := a.heap.size ≤ q ∧ q < b.heap.size
def BeginPost (l : List PRow) (w : World) (e : Ending) (w' : World) : Prop :=
  (Good l ∧ ∃ tb db, e = .returned (.tuple #[.pointer (some ⟨tb, 0, none⟩), .pointer (some ⟨db, 0, none⟩), .bool true]) ∧ Tb w' tb l ∧ Dt w' db l ∧ w.heap.size ≤ tb ∧ w.heap.size ≤ db ∧ w.grownBy w' none) ∨ (¬ Good l ∧ e = .returned (.tuple #[.pointer none, .pointer none, .bool true]) ∧ w.grownBy w' none)

set_option maxRecDepth 100000 in
set_option maxHeartbeats 16000000 in
theorem begin9 (v : Value) (l : List PRow) (hz : ThinR l) (w : World) (hv : Rws w v l) : Calls Try.prog 9 #[v] w fun e w' => BeginPost l w e w' := by
  have HV : Hid (Rws w v l ∧ ThinR l) := ⟨hv, hz⟩
  obtain ⟨av, nv, cv, rfl, _, _, _, _⟩ := rws_open hv
  clear hv hz
  go_enter Try.func9, Try.ntmps9
  go_wp2_with fail
  refine (new31 _ l HV.out.2 w HV.out.1).mono ?_
  rintro e w1 ⟨b1, v1, rfl, hb1, hbk1, ht1, g1⟩
  obtain ⟨ao, n, cap, rfl, hn, hc, hc', _⟩ := rws_open ht1.rws
  have H1 : Hid (TRws w1 w.heap.size (.slice ao n cap) l ∧ w.grownBy w1 none ∧ l.length = n) := ⟨ht1, g1, hn⟩
  have q1 := hbk1.cell 0
  simp at q1
  clear hb1 hbk1 ht1 g1 hn
  go_wp2_with fail
  refine (new22z (X := XW w w1) _ l HV.out.2.1 w1 (fun g hg => hg.2) H1.out.1.rws).mono ?_
  rintro e w2 (⟨hgd, tb, rfl, htb, ht2, g2⟩ | ⟨hgd, rfl, g2⟩)
  · have H2 : Hid (Good l ∧ w1.heap.size ≤ tb ∧ Tbz (XW w w1) w2 tb l ∧ w1.grownBy w2 none) := ⟨hgd, htb, ht2, g2⟩
    clear hgd htb ht2 g2 q1
    go_wp2_with fail
    refine (may32 _ l HV.out.2.1 w2 (HV.out.1.grown (grown_trans H1.out.2.1 H2.out.2.2.2))).mono ?_
    rintro e w3 ⟨d, rfl, hd, m3, hw3⟩
    have hdt : d = true := hd.2 H2.out.1
    subst hdt
    have H3 : Hid (TRws w3 w.heap.size (.slice ao n cap) l ∧ w.grownBy w3 none ∧ Tbz (XW w w1) w3 tb l ∧ w1.grownBy w3 none) := by
      have g3 : w2.grownBy w3 none := by rw [hw3]; exact grown_drewN _ _ _
      exact ⟨H1.out.1.grown (grown_trans H2.out.2.2.2 g3), grown_trans H1.out.2.1 (grown_trans H2.out.2.2.2 g3), H2.out.2.2.1.grown g3, grown_trans H2.out.2.2.2 g3⟩
    clear hw3 hd
    obtain ⟨g, ks, hsp⟩ : ∃ g ks, 0 < n → ao = some ⟨g, 0, none⟩ ∧ ks.length = n ∧ XW w w1 g ∧ w.heap.size ≤ g ∧ SpR (XW w w1) w w3 g ks 0 w3 := by
      have hx := spr_any (X := XW w w1) (w0 := w) H1.out.1 H1.out.2.1 (fun q h1 h2 => ⟨h1, h2⟩)
      obtain ⟨g, ks, h⟩ := hx
      refine ⟨g, ks, fun hn => ?_⟩
      obtain ⟨e1, e2, e3, e4, h5⟩ := h hn
      exact ⟨e1, e2, e3, e4, (h5.grown H3.out.2.2.2).1, Sm.refl _ _, (h5.grown H3.out.2.2.2).2.2.1, (h5.grown H3.out.2.2.2).2.2.2⟩
    have HSP : Hid (0 < n → ao = some ⟨g, 0, none⟩ ∧ ks.length = n ∧ XW w w1 g ∧ w.heap.size ≤ g ∧ SpR (XW w w1) w w3 g ks 0 w3) := hsp
    clear hsp
    go_wp2_with fail
    go_loopw [8] (fun i wr => ∃ (k : Nat), k ≤ n ∧ i = .int .i64 (k : Int) ∧ (w.grownBy wr none ∧ Sm (XW w w1) w3 wr) ∧ (0 < n → SpR (XW w w1) w w3 g ks k wr)) (fun i _ => n - (intOf i).toNat)
    case atStart => exact ⟨0, Nat.zero_le _, rfl, ⟨H3.out.2.1, Sm.refl _ _⟩, fun h => (HSP.out h).2.2.2.2⟩
    case round =>
      obtain ⟨k, hk, rfl, hgr, hsp⟩ := hrel
      rcases Nat.lt_or_ge k n with hlt | hge
      · obtain ⟨e1, e2, e3, e4, _⟩ := HSP.out (by omega)
        have HR : Hid (SpR (XW w w1) w w3 g ks k wr ∧ ks.length = n ∧ XW w w1 g ∧ w.heap.size ≤ g) := ⟨hsp (by omega), e2, e3, e4⟩
        have hkk : k < ks.length := by omega
        subst e1
        clear hgr hsp e2 e3 e4
        obtain ⟨x, hx⟩ : ∃ x, ks[k].1 = x := ⟨_, rfl⟩
        obtain ⟨y, hy⟩ : ∃ y, ks[k].2 = y := ⟨_, rfl⟩
        have HO : Hid (∀ z, SpR (XW w w1) w w3 g ks k z → (z.cell? ⟨g, k * 2, none⟩ = some x ∧ z.cell? ⟨g, k * 2 + 1, none⟩ = some y) ∧ OwnS (XW w w1) z x ∧ OwnS (XW w w1) z y) := fun z hz => by
          rw [← hx, ← hy]
          exact ⟨hz.cells hkk, hz.2.2.2 k hkk (Nat.le_refl _)⟩
        obtain ⟨ax, nx, cx, rfl⟩ := (HO.out wr HR.out.1).2.1.2.2
        obtain ⟨ay, ny, cy, rfl⟩ := (HO.out wr HR.out.1).2.2.2.2
        have i0 : (0 : Int) ≤ (k : Int) := by omega
        have i1 : (k : Int) < (n : Int) := by omega
        clear hx hy
        go_upto_region 8 with fail
        refine wp_region_noPanic ?_
        refine wp_region_hold 1000 (fun z => SpR (XW w w1) w w3 g ks k z) (by kernel_rfl) ?_
        have G0 : Hid (SpR (XW w w1) w w3 g ks k wr.drew) := HR.out.1.grown (grown_drew _ _)
        generalize wr.drew = wd at G0 ⊢
        refine wpHold_take (i := 0) (v := _) (G0.out) rfl rfl (by kernel_rfl) (by kernel_rfl) (by kernel_rfl) (by kernel_rfl) (by kernel_rfl) (fun _ _ _ h => h) (by rfl) (fun wk hk => by obtain ⟨⟨z0, z1⟩, _⟩ := HO.out wk hk; go_simp; try rfl) ?_
        try simp only [Act.put, List.setIfInBounds_toArray, List.set_cons_zero, List.set_cons_succ]
        refine wpHold_take (i := 1) (v := _) (G0.out) rfl rfl (by kernel_rfl) (by kernel_rfl) (by kernel_rfl) (by kernel_rfl) (by kernel_rfl) (fun _ _ _ h => h) (by rfl) (fun wk hk => by obtain ⟨⟨z0, z1⟩, _⟩ := HO.out wk hk; go_simp; try rfl) ?_
        try simp only [Act.put, List.setIfInBounds_toArray, List.set_cons_zero, List.set_cons_succ]
        refine wpHold_take (i := 2) (v := _) (G0.out) rfl rfl (by kernel_rfl) (by kernel_rfl) (by kernel_rfl) (by kernel_rfl) (by kernel_rfl) (fun _ _ _ h => h) (by rfl) (fun wk hk => by obtain ⟨⟨z0, z1⟩, _⟩ := HO.out wk hk; go_simp; try rfl) ?_
        try simp only [Act.put, List.setIfInBounds_toArray, List.set_cons_zero, List.set_cons_succ]
        refine wpHold_take (i := 3) (v := _) (G0.out) rfl rfl (by kernel_rfl) (by kernel_rfl) (by kernel_rfl) (by kernel_rfl) (by kernel_rfl) (fun _ _ _ h => h) (by rfl) (fun wk hk => by obtain ⟨⟨z0, z1⟩, _⟩ := HO.out wk hk; go_simp; try rfl) ?_
        try simp only [Act.put, List.setIfInBounds_toArray, List.set_cons_zero, List.set_cons_succ]
        refine wpHold_take (i := 4) (v := _) (G0.out) rfl rfl (by kernel_rfl) (by kernel_rfl) (by kernel_rfl) (by kernel_rfl) (by kernel_rfl) (fun _ _ _ h => h) (by rfl) (fun wk hk => by obtain ⟨⟨z0, z1⟩, _⟩ := HO.out wk hk; go_simp; try rfl) ?_
        try simp only [Act.put, List.setIfInBounds_toArray, List.set_cons_zero, List.set_cons_succ]
        refine wpHold_take (i := 5) (v := _) (G0.out) rfl rfl (by kernel_rfl) (by kernel_rfl) (by kernel_rfl) (by kernel_rfl) (by kernel_rfl) (fun _ _ _ h => h) (by rfl) (fun wk hk => by obtain ⟨⟨z0, z1⟩, _⟩ := HO.out wk hk; go_simp; try rfl) ?_
        try simp only [Act.put, List.setIfInBounds_toArray, List.set_cons_zero, List.set_cons_succ]
        refine wpHold_take (i := 6) (v := _) (G0.out) rfl rfl (by kernel_rfl) (by kernel_rfl) (by kernel_rfl) (by kernel_rfl) (by kernel_rfl) (fun _ _ _ h => h) (by rfl) (fun wk hk => by obtain ⟨⟨z0, z1⟩, _⟩ := HO.out wk hk; go_simp; try rfl) ?_
        try simp only [Act.put, List.setIfInBounds_toArray, List.set_cons_zero, List.set_cons_succ]
        refine wpHold_take (i := 7) (v := _) (G0.out) rfl rfl (by kernel_rfl) (by kernel_rfl) (by kernel_rfl) (by kernel_rfl) (by kernel_rfl) (fun _ _ _ h => h) (by rfl) (fun wk hk => by obtain ⟨⟨z0, z1⟩, _⟩ := HO.out wk hk; go_simp; try rfl) ?_
        try simp only [Act.put, List.setIfInBounds_toArray, List.set_cons_zero, List.set_cons_succ]
        refine wpHold_take (i := 8) (v := _) (G0.out) rfl rfl (by kernel_rfl) (by kernel_rfl) (by kernel_rfl) (by kernel_rfl) (by kernel_rfl) (fun _ _ _ h => h) (by rfl) (fun wk hk => by obtain ⟨⟨z0, z1⟩, _⟩ := HO.out wk hk; go_simp; try rfl) ?_
        try simp only [Act.put, List.setIfInBounds_toArray, List.set_cons_zero, List.set_cons_succ]
        refine wpHold_take (i := 9) (v := _) (G0.out) rfl rfl (by kernel_rfl) (by kernel_rfl) (by kernel_rfl) (by kernel_rfl) (by kernel_rfl) (fun _ _ _ h => h) (by rfl) (fun wk hk => by obtain ⟨⟨z0, z1⟩, _⟩ := HO.out wk hk; go_simp; try rfl) ?_
        try simp only [Act.put, List.setIfInBounds_toArray, List.set_cons_zero, List.set_cons_succ]
        refine wpHold_one (i := 10) rfl (by kernel_rfl) (by rfl) (fun K hK => ?_)
        go_wp2_with fail
        obtain ⟨wa, hwa, Ha⟩ := al wd #[.slice ax nx cx, .slice ay ny cy] 30
        rw [hwa]
        clear hwa
        have G2 : Hid (SpR (XW w w1) w w3 g ks k wa) := G0.out.grown Ha.out.2.1
        refine hK.out _ _ (fun _ => G2.out) ?_
        clear hK K
        try simp only [Act.put, List.setIfInBounds_toArray, List.set_cons_zero, List.set_cons_succ]
        refine wpHold_one (i := 11) rfl (by kernel_rfl) (by rfl) (fun K hK => ?_)
        obtain ⟨_, ⟨⟨n1, ox⟩, ix, _⟩, ⟨⟨n2, oy⟩, iy, _⟩⟩ := HO.out wa G2.out
        have HOX : Hid (OwnX wa (XW w w1) (.slice ax nx cx) n1 ∧ OwnX wa (XW w w1) (.slice ay ny cy) n2 ∧ SegI wa (.slice ax nx cx) ∧ SegI wa (.slice ay ny cy)) := ⟨ox, oy, ix, iy⟩
        clear ox oy ix iy
        go_wp2_with (go_at_call 33; refine (spoil33k wd.heap.size 2 (XW w w1) [.slice ax nx cx, .slice ay ny cy] [n1, n2] rfl rfl (by omega) wa Ha.out.1 ?_ ?_).mono ?_)
        · intro j h h'
          rcases j with _ | _ | j
          · exact HOX.out.1
          · exact HOX.out.2.1
          · simp at h; omega
        · intro j h
          rcases j with _ | _ | j
          · exact HOX.out.2.2.1
          · exact HOX.out.2.2.2
          · simp at h; omega
        rintro e wb ⟨rfl, hwb⟩
        have G3 : Hid (SpR (XW w w1) w w3 g ks k wb) := G2.out.wq hwb (fun q hq => hq.1)
        clear hwb
        go_wp2_with fail
        refine hK.out _ _ (fun _ => G3.out) ?_
        clear hK K
        try simp only [Act.put, List.setIfInBounds_toArray, List.set_cons_zero, List.set_cons_succ]
        refine wpHold_done (by kernel_rfl) ?_
        refine (‹∀ (a : Act) (w : World), Code.wp Try.prog _ _ a w → _› _ _ ?_)
        obtain ⟨⟨z0, z1⟩, _⟩ := HO.out wb G3.out
        have f0 := G3.out.free (k * 2)
        have f1 := G3.out.free (k * 2 + 1)
        go_wp2_with fail
        have G4 : Hid (SpR (XW w w1) w w3 g ks (k + 1) ((wb.setCell ⟨g, k * 2, none⟩ (.slice none 0 0)).setCell ⟨g, k * 2 + 1, none⟩ (.slice none 0 0))) := G3.out.next hkk HR.out.2.2.1 HR.out.2.2.2 _ _
        go_roundw
        case rel => exact ⟨k + 1, by omega, by go_num, ⟨G4.out.1, G4.out.2.1⟩, fun _ => G4.out⟩
        case measure => simp [intOf]; omega
      · have hkn : k = n := by omega
        subst hkn
        have H4 : Hid (w.grownBy wr none ∧ Tbz (XW w w1) wr tb l) := ⟨hgr.1, H3.out.2.2.1.sm (fun hx => by have := hx.2; have := H2.out.2.1; omega) hgr.2⟩
        clear hgr hsp
        go_wp2_with fail
        refine (new31 _ l HV.out.2 wr (HV.out.1.grown H4.out.1)).mono ?_
        rintro e w5 ⟨db, v5, rfl, hb5, hbk5, ht5, g5⟩
        have H5 : Hid (Tb w5 tb l ∧ Dt w5 db l ∧ w.heap.size ≤ tb ∧ w.heap.size ≤ db ∧ w.grownBy w5 none) := ⟨(H4.out.2.grown g5).old, ⟨v5, hbk5, ht5.mono (Nat.zero_le _)⟩, Nat.le_trans H1.out.2.1.size H2.out.2.1, Nat.le_trans H4.out.1.size hb5, grown_trans H4.out.1 g5⟩
        clear hb5 hbk5 ht5 g5
        go_wp2_with (go_at_call 21; refine (Names.num17 _ _).mono ?_; rintro e wx ⟨rfl, hx⟩; rw [hx]; clear hx)
        exact bodyPost_ret (v := .tuple #[.pointer (some ⟨tb, 0, none⟩), .pointer (some ⟨db, 0, none⟩), .bool true]) (by simp [results, Try.results9, go_sem]) rfl (.inl ⟨H2.out.1, tb, db, rfl, H5.out⟩)
  · have H2 : Hid (¬ Good l ∧ w1.grownBy w2 none) := ⟨hgd, g2⟩
    clear hgd g2 q1
    go_wp2_with fail
    refine (may32 _ l HV.out.2.1 w2 (HV.out.1.grown (grown_trans H1.out.2.1 H2.out.2))).mono ?_
    rintro e w3 ⟨d, rfl, hd, m3, hw3⟩
    have hdf : d = false := by
      cases d with
      | false => rfl
      | true => exact absurd (hd.1 rfl) H2.out.1
    subst hdf
    have H3 : Hid (w.grownBy w3 none) := by
      rw [hw3]
      exact grown_trans (grown_trans H1.out.2.1 H2.out.2) (grown_drewN _ _ _)
    clear hw3 hd
    go_wp2_with (go_at_call 21; refine (Names.num17 _ _).mono ?_; rintro e wx ⟨rfl, hx⟩; rw [hx]; clear hx)
    exact bodyPost_ret (v := .tuple #[.pointer none, .pointer none, .bool true]) (by simp [results, Try.results9, go_sem]) rfl (.inr ⟨H2.out.1, rfl, H3.out⟩)
end Go.Proofs.Ytlehikdlkdbacaa
