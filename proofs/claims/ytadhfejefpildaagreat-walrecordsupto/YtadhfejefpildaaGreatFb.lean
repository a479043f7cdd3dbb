/-
  WalRecords: records of any entries, and what they are read as.
-/
import Derived.Test.YtadhfejefpildaaGreatFa
namespace Go.Proofs.YtadhfejefpildaaGreat
open Go.RowKit Disk
open _root_.Go.Proofs.YtadhfejefpildaaGreat.Calls
open _root_.Go.Proofs.YtadhfejefpildaaGreat.Command
open _root_.Go.Proofs.YtadhfejefpildaaGreat.Frame (Frs)

theorem sc_one {e : PEnt} (h : okE e = true) (hi : InC e.2) : Frame.Sc (Frame.frm 1 (bodyE e)) [frE e] [] ∧ entsL 0 [frE e] = ([e], true) := by
  have hm : Frame.May [frE e] := fun f hf => by
    simp at hf
    subst hf
    have := bodyE_len h hi
    exact ⟨by simp [frE], by simp [frE], by simp only [frE]; omega⟩
  refine ⟨?_, ?_⟩
  · have h1 := Frame.sc_flat hm
    have e1 : Frame.flat [frE e] = Frame.frm 1 (bodyE e) := by simp [Frame.flat, frE]
    rw [e1] at h1
    exact h1
  · unfold entsL
    rw [readE_of h hi]
    simp [entsL]

set_option maxRecDepth 100000 in
set_option maxHeartbeats 8000000 in
theorem records3 (v : Value) (E : List PEnt) (w : World) (h : EntsA w v E) : Calls Tryz.prog 3 #[v] w fun e w' => e = .returned (.bool true) ∧ w.grownBy w' none := by
  obtain ⟨ao, n, cap, rfl, hn, hf, HE⟩ := entsA_open h
  have HN : Hid (E.length = n) := hn
  clear h hn
  go_enter Tryz.func3, Tryz.ntmps3
  go_wp2_with fail
  go_loopw [3, 4] (fun s t wr => ∃ (k : Nat) (a1 : Option Addr) (a2 a3 : Nat) (A : Bs), s = .slice a1 a2 a3 ∧ t = .int .i64 (k : Int) ∧ k ≤ n ∧ Hid (w.grownBy wr none ∧ Disk.Own wr w.heap.size (.slice a1 a2 a3) A ∧ A.length ≤ 6000 * k)) (fun _ t _ => n - (intOf t).toNat)
  case atStart => exact ⟨0, none, 0, 0, [], rfl, rfl, Nat.zero_le _, grown_refl _ _, Disk.Own.nil _ _, by simp⟩
  case round =>
    obtain ⟨k, a1, a2, a3, A, rfl, rfl, hk, HG⟩ := hrel
    by_cases hlt : k < n
    · have hkl : k < E.length := by rw [HN.out]; exact hlt
      obtain ⟨b, off, o1, o2, o3, rfl, hat, hops⟩ := ents_at' HE.out.ents k hkl
      obtain ⟨en, hen⟩ : ∃ x, E[k] = x := ⟨_, rfl⟩
      rw [hen] at hat hops
      have HO : Hid (Ops w (.slice o1 o2 o3) en.2.ops ∧ InC en.2 ∧ E[k] = en ∧ EntAt w b (off + k * 7) o1 o2 o3 en) := ⟨hops, by rw [← hen]; exact HE.out.inn _ (List.getElem_mem _), hen, hat⟩
      obtain ⟨e0, e1, e2, e3, e4, e5, e6⟩ := hat.grown HG.out.1
      have i0 : (0 : Int) ≤ (k : Int) := by omega
      have i1 : (k : Int) < (n : Int) := by omega
      clear hat hops hen
      go_wp2_with fail
      refine (record7 (.slice o1 o2 o3) en.1 en.2 wr (HO.out.1.grown HG.out.1) HO.out.2.1 ⟨_, _, _, rfl⟩).mono ?_
      rintro e w4 ⟨g4, hrec⟩
      have HG4 : Hid (w.grownBy w4 none ∧ wr.grownBy w4 none) := ⟨grown_trans HG.out.1 g4, g4⟩
      clear e0 e1 e2 e3 e4 e5 e6 g4
      obtain ⟨e0, e1, e2, e3, e4, e5, e6⟩ := HO.out.2.2.2.grown HG4.out.1
      rcases hrec with ⟨hno, rfl⟩ | ⟨hok, u, rfl, ou⟩
      · have HNO : Hid (okE (en.1, en.2) = false) := hno
        clear hno
        go_wp2_with fail
        refine (may8 o1 o2 o3 en.1 en.2 w4 (HO.out.1.grown HG4.out.1)).mono ?_
        rintro e w5 ⟨rfl, g5⟩
        rw [HNO.out]
        have HG5 : Hid (w.grownBy w5 none ∧ wr.grownBy w5 none) := ⟨grown_trans HG4.out.1 g5, grown_trans HG4.out.2 g5⟩
        clear g5 e0 e1 e2 e3 e4 e5 e6
        go_wp2_with fail
        go_roundw
        case rel => exact ⟨k + 1, a1, a2, a3, A, rfl, by go_num, by omega, HG5.out.1, HG.out.2.1.grown HG5.out.2, by have := HG.out.2.2; omega⟩
        case measure => simp [intOf]; omega
      · have HOK : Hid (okE (en.1, en.2) = true) := hok
        have hlen := rec_len (e := (en.1, en.2)) hok HO.out.2.1
        rcases ou.shape with ⟨_, hz⟩ | ⟨g0, uc, eu, hg0, hg1⟩
        · have h9 := Frame.frm_len 1 (bodyE (en.1, en.2))
          rw [hz, List.length_nil] at h9
          omega
        obtain ⟨L, hL⟩ : ∃ x, Frame.frm 1 (bodyE (en.1, en.2)) = x := ⟨_, rfl⟩
        rw [hL] at ou eu hlen
        obtain ⟨ul, hul⟩ : ∃ x, L.length = x := ⟨_, rfl⟩
        rw [hul] at eu hlen
        subst eu
        have hul9 : 9 ≤ ul := by rw [← hul, ← hL, Frame.frm_len]; omega
        have HU : Hid (Disk.Own w4 wr.heap.size (.slice (some ⟨g0, 0, none⟩) ul uc) L ∧ L.length = ul ∧ Frame.frm 1 (bodyE (en.1, en.2)) = L ∧ ul ≤ 6000 ∧ 9 ≤ ul ∧ wr.heap.size ≤ g0 ∧ g0 < w4.heap.size) := ⟨ou, hul, hL, hlen, hul9, hg0, hg1⟩
        clear hok ou hL hul hlen hg0 hg1
        go_wp2_with fail
        refine (may8 o1 o2 o3 en.1 en.2 w4 (HO.out.1.grown HG4.out.1)).mono ?_
        rintro e w5 ⟨rfl, g5⟩
        rw [HOK.out]
        have HG5 : Hid (w.grownBy w5 none ∧ wr.grownBy w5 none ∧ Disk.Own w5 wr.heap.size (.slice (some ⟨g0, 0, none⟩) ul uc) L) := ⟨grown_trans HG4.out.1 g5, grown_trans HG4.out.2 g5, HU.out.1.grown g5⟩
        clear g5 e0 e1 e2 e3 e4 e5 e6 HG4
        go_upto_region 9 with fail
        have HCC : Hid (∀ y : World, w5.grownBy y none → EntAt y b (off + k * 7) o1 o2 o3 en ∧ (convert 23 9 (.slice (some ⟨g0, 0, none⟩) ul uc)).run Tryz.prog y = .ok (.string ⟨L.toArray⟩) y) := fun y hy => ⟨HO.out.2.2.2.grown (grown_trans HG5.out.1 hy), seg_str (HG5.out.2.2.seg.grown hy)⟩
        refine wp_region_noPanic ?_
        refine wp_region_hold 1000 (fun y => w5.grownBy y none) (by kernel_rfl) ?_
        have G0 : Hid (w5.grownBy w5.drew none) := grown_drew _ _
        generalize w5.drew = wd at G0 ⊢
        have J : Idx [0, 1, 2, 3, 4, 5, 6, 7, 8] := trivial
        iterate 9 (refine tk J (G0.out) rfl rfl (fun wk hk => by obtain ⟨⟨n0, n1, n2, n3, n4, n5, n6⟩, m1⟩ := HCC.out wk hk; go_simp; try rfl) ?_; replace J := J.tl; try simp only [Act.put, List.setIfInBounds_toArray, List.set_cons_zero, List.set_cons_succ])
        clear J
        refine wpHold_one (i := 9) rfl (by kernel_rfl) (by rfl) (fun K hK => ?_)
        go_wp2_with fail
        refine (rec9 o1 o2 o3 en.1 en.2 wd (HO.out.1.grown (grown_trans HG5.out.1 G0.out)) HO.out.2.1 HOK.out).mono ?_
        rintro e wd' ⟨u', rfl, ou', gg⟩
        rw [HU.out.2.2.1] at ou'
        obtain ⟨x1, x2, x3, ex⟩ := Calls.slice_of ou'
        subst ex
        have G1 : Hid (w5.grownBy wd' none) := grown_trans G0.out gg
        have G0' : Hid (wd'.grownBy wd' none) := grown_refl _ _
        have HC2 : Hid (∀ y : World, w5.grownBy y none → wd'.heap.size ≤ y.heap.size → True) := fun _ _ _ => trivial
        clear gg
        go_wp2_with fail
        refine hK.out _ _ (fun _ => G1.out) ?_
        clear hK K
        try simp only [Act.put, List.setIfInBounds_toArray, List.set_cons_zero, List.set_cons_succ]
        refine wpHold_one (i := 10) rfl (by kernel_rfl) (by rfl) (fun K hK => ?_)
        have cvt := seg_str ou'.seg
        go_wp2_with fail
        refine hK.out _ _ (fun _ => G1.out) ?_
        clear hK K cvt
        try simp only [Act.put, List.setIfInBounds_toArray, List.set_cons_zero, List.set_cons_succ]
        have J : Idx [11, 12] := trivial
        iterate 2 (refine tk J (G1.out) rfl rfl (fun wk hk => by obtain ⟨⟨n0, n1, n2, n3, n4, n5, n6⟩, m1⟩ := HCC.out wk hk; go_simp; try rfl) ?_; replace J := J.tl; try simp only [Act.put, List.setIfInBounds_toArray, List.set_cons_zero, List.set_cons_succ])
        clear J
        refine wpHold_done (by kernel_rfl) ?_
        refine (‹∀ (a : Act) (w : World), Code.wp Tryz.prog _ _ a w → _› _ _ ?_)
        have H6 : Hid (w.grownBy wd' none ∧ wr.grownBy wd' none ∧ Disk.Own wd' wr.heap.size (.slice (some ⟨g0, 0, none⟩) ul uc) L) := ⟨grown_trans HG5.out.1 G1.out, grown_trans HG5.out.2.1 G1.out, HG5.out.2.2.grown G1.out⟩
        clear HCC G0 G1 G0' HC2 HG5 ou'
        go_wp2_with fail
        refine (entries10 (.slice (some ⟨g0, 0, none⟩) ul uc) L [frE (en.1, en.2)] [] wd' H6.out.2.2.seg (by rw [← HU.out.2.2.1]; exact (sc_one HOK.out HO.out.2.1).1) (by have := HU.out; omega)).mono ?_
        rintro e w6 ⟨g6, hE⟩
        rw [(sc_one HOK.out HO.out.2.1).2] at hE
        rcases hE with ⟨_, vv, rfl, hE⟩ | ⟨h, _⟩
        rotate_left
        · cases h
        obtain ⟨ea, ec, rfl⟩ := LRow.shape hE
        have hgd : (Frame.flat [frE (en.1, en.2)]).length = ul := by
          have : Frame.flat [frE (en.1, en.2)] = L := by rw [← HU.out.2.2.1]; simp [Frame.flat, frE]
          rw [this, HU.out.2.1]
        rw [hgd, HU.out.2.1]
        have hends : ((Frame.ends ([] : Bs) : Nat) : Int) = 0 := rfl
        rw [hends]
        have hen := hE.ents
        have hl1 : [(en.1, en.2)].length = 1 := rfl
        rw [hl1] at hen ⊢
        obtain ⟨eb, eo, p1, p2, p3, hea, hat0, hop0⟩ := ents_at' hen 0 (by simp)
        subst hea
        have H7 : Hid (w.grownBy w6 none ∧ wr.grownBy w6 none ∧ Disk.Own w6 wr.heap.size (.slice (some ⟨g0, 0, none⟩) ul uc) L ∧ EntAt w6 eb (eo + 0 * 7) p1 p2 p3 (en.1, en.2) ∧ Ops w6 (.slice p1 p2 p3) en.2.ops) := ⟨grown_trans H6.out.1 g6, grown_trans H6.out.2.1 g6, H6.out.2.2.grown g6, hat0, hop0⟩
        clear hE hen hat0 hop0 g6 hgd hends hl1 H6
        go_upto_region 12 with fail
        obtain ⟨w7, hw7, H8⟩ := al1 w6 #[.slice (some ⟨eb, eo, none⟩) 1 ec, .int .i64 ul, .int .i64 ul, .int .i64 0] 38
        rw [hw7]
        clear hw7
        obtain ⟨tb, htb⟩ : ∃ x, w6.heap.size = x := ⟨_, rfl⟩
        rw [htb] at H8 ⊢
        clear htb
        have HCC : Hid (∀ y : World, w7.grownBy y none → EntAt y b (off + k * 7) o1 o2 o3 en ∧ EntAt y eb (eo + 0 * 7) p1 p2 p3 (en.1, en.2) ∧ y.cell? ⟨tb, 0, none⟩ = some (.slice (some ⟨eb, eo, none⟩) 1 ec) ∧ y.cell? ⟨tb, 1, none⟩ = some (.int .i64 ul)) := fun y hy => by
          have g := grown_trans H8.out.2.1 hy
          have hb := H8.out.1.grown hy (by simp)
          exact ⟨HO.out.2.2.2.grown (grown_trans H7.out.1 g), H7.out.2.2.2.1.grown g, hb.cell 0, hb.cell 1⟩
        refine wp_region_noPanic ?_
        refine wp_region_hold 1000 (fun y => w7.grownBy y none) (by kernel_rfl) ?_
        have G0 : Hid (w7.grownBy w7.drew none) := grown_drew _ _
        generalize w7.drew = we at G0 ⊢
        have J : Idx [0, 1, 2, 3, 4, 5, 6, 7, 8, 9, 10, 11, 12, 13, 14, 15, 16, 17, 18, 19, 20, 21, 22, 23, 24, 25, 26, 27, 28, 29, 30, 31] := trivial
        iterate 32 (refine tk J (G0.out) rfl rfl (fun wk hk => by obtain ⟨⟨n0, n1, n2, n3, n4, n5, n6⟩, ⟨q0, q1, q2, q3, q4, q5, q6⟩, m1, m2⟩ := HCC.out wk hk; simp only [Nat.zero_mul, Nat.add_zero] at q0 q1 q2 q3 q4 q5 q6; go_simp; try rfl) ?_; replace J := J.tl; try simp only [Act.put, List.setIfInBounds_toArray, List.set_cons_zero, List.set_cons_succ])
        clear J
        refine wpHold_one (i := 32) rfl (by kernel_rfl) (by rfl) (fun K hK => ?_)
        go_wp2_with fail
        refine (same16 (.slice p1 p2 p3) (.slice o1 o2 o3) en.2 en.2 we (H7.out.2.2.2.2.grown (grown_trans H8.out.2.1 G0.out)) (HO.out.1.grown (grown_trans H7.out.1 (grown_trans H8.out.2.1 G0.out)))).mono ?_
        rintro e we ⟨rfl, gg⟩
        rw [show decide (en.2 = en.2) = true from decide_eq_true rfl]
        replace G0 : Hid (w7.grownBy we none) := grown_trans G0.out gg
        clear gg
        go_wp2_with fail
        refine hK.out _ _ (fun _ => G0.out) ?_
        clear hK K
        try simp only [Act.put, List.setIfInBounds_toArray, List.set_cons_zero, List.set_cons_succ]
        have J : Idx [33, 34, 35, 36, 37, 38, 39, 40, 41] := trivial
        iterate 9 (refine tk J (G0.out) rfl rfl (fun wk hk => by obtain ⟨⟨n0, n1, n2, n3, n4, n5, n6⟩, ⟨q0, q1, q2, q3, q4, q5, q6⟩, m1, m2⟩ := HCC.out wk hk; simp only [Nat.zero_mul, Nat.add_zero] at q0 q1 q2 q3 q4 q5 q6; go_simp; try rfl) ?_; replace J := J.tl; try simp only [Act.put, List.setIfInBounds_toArray, List.set_cons_zero, List.set_cons_succ])
        clear J
        refine wpHold_done (by kernel_rfl) ?_
        refine (‹∀ (a : Act) (w : World), Code.wp Tryz.prog _ _ a w → _› _ _ ?_)
        have H9 : Hid (w.grownBy we none ∧ wr.grownBy we none ∧ Disk.Own we wr.heap.size (.slice (some ⟨g0, 0, none⟩) ul uc) L) := by
          have g := grown_trans H8.out.2.1 G0.out
          exact ⟨grown_trans H7.out.1 g, grown_trans H7.out.2.1 g, H7.out.2.2.1.grown g⟩
        clear HCC G0 H7 H8
        have HA : Hid (Disk.Own we w.heap.size (.slice a1 a2 a3) A ∧ (∀ x, (Value.slice a1 a2 a3).ownBlock = some x → x < wr.heap.size) ∧ w.heap.size ≤ we.heap.size) := ⟨HG.out.2.1.grown H9.out.2.1, fun x hx => (HG.out.2.1.lt x hx).2, H9.out.1.size⟩
        go_wp2_with (at_builtin; refine app22 we rfl _ _ rfl w.heap.size (.slice a1 a2 a3) A (.slice (some ⟨g0, 0, none⟩) ul uc) L rfl rfl HA.out.1 H9.out.2.2.seg (by have := HG.out.2.2; have := HU.out; omega) HA.out.2.2 ?_)
        intro v' wf of gf hf'
        obtain ⟨t1, t2, t3, et⟩ := Calls.slice_of of
        subst et
        have hgne : (Value.slice a1 a2 a3).ownBlock ≠ some g0 := fun e => by have := HA.out.2.1 g0 e; have := HU.out; omega
        have hbo := H9.out.2.2.same (w' := wf) (fun x hx => by
          simp [Value.ownBlock] at hx
          subst hx
          exact gf.block _ (H9.out.2.2.lt _ rfl).2 (fun e => hgne e.symm))
        obtain ⟨cur, x0, hcb, hx0⟩ : ∃ (cur : Array Value) (x0 : Int), Blk wf g0 5 cur ∧ cur[0]? = some (.int .u8 x0) := by
          obtain ⟨cur, hb⟩ := owns_blk hbo (k := g0) rfl
          have hl0 : 0 < L.length := by have := HU.out; omega
          obtain ⟨ao', cap', e1, _, _, _, h4⟩ := hbo.seg
          obtain ⟨b', off', e2, hc⟩ := h4 0 hl0
          simp at e1
          rw [e2] at e1
          simp at e1
          obtain ⟨⟨rfl, rfl⟩, _⟩ := e1
          exact ⟨cur, _, hb, by rw [← hb.cell 0]; exact hc⟩
        have HF : Hid (Disk.Own wf w.heap.size (.slice t1 t2 t3) (A ++ L) ∧ w.grownBy wf none ∧ (∀ x, (Value.slice t1 t2 t3).ownBlock = some x → x ≠ g0) ∧ Blk wf g0 5 cur) := by
          refine ⟨of, grown_new H9.out.1 gf (fun y hy => (HA.out.1.lt y hy).1), fun x hx e => ?_, hcb⟩
          subst e
          rcases hf' _ hx with h | h
          · exact hgne h
          · have := HU.out; have := (H9.out.2.2.lt x rfl).2; omega
        have c0 := hcb.cell 0
        rw [hx0] at c0
        have f0 := hcb.free 0
        have hu1 : (0 : Int) < (ul : Int) := by have := HU.out; omega
        clear of gf hf' hgne hbo hcb hx0
        go_wp2_with fail
        have gs := grown_setCell wf g0 0 (.int .u8 ((x0 + 1) % 256))
        generalize wf.setCell ⟨g0, 0, none⟩ (.int .u8 ((x0 + 1) % 256)) = wg at gs ⊢
        refine ⟨⟨k + 1, t1, t2, t3, A ++ L, rfl, by go_num, by omega, grown_new HF.out.2.1 gs (fun y hy => by simp at hy; have := HU.out; have := HG.out.1.size; omega), HF.out.1.same fun x hx => gs.block x (HF.out.1.lt x hx).2 (by have := HF.out.2.2.1 x hx; simp; omega), ?_⟩, by simp [intOf]; omega⟩
        rw [List.length_append]
        have := HG.out.2.2
        have := HU.out
        omega
    · have e : k = n := by omega
      subst e
      go_wp2_with fail
      refine (size12 _ E wr (HE.out.grown HG.out.1)).mono ?_
      rintro e w4 ⟨rfl, g4⟩
      have HG4 : Hid (w.grownBy w4 none) := grown_trans HG.out.1 g4
      obtain ⟨z1, hz1⟩ : ∃ x, (sizeE E).1 = x := ⟨_, rfl⟩
      obtain ⟨z2, hz2⟩ : ∃ x, (sizeE E).2 = x := ⟨_, rfl⟩
      have HZ : Hid ((sizeE E).1 = z1 ∧ (sizeE E).2 = z2) := ⟨hz1, hz2⟩
      rw [hz1, hz2]
      clear g4 hz1 hz2
      go_wp2_with fail
      refine (size13 _ E w4 (HE.out.grown HG4.out)).mono ?_
      rintro e w5 ⟨rfl, g5⟩
      rw [HZ.out.1, HZ.out.2]
      have HG5 : Hid (w.grownBy w5 none) := grown_trans HG4.out g5
      clear g5
      go_wp2_with fail
      refine (known14 w5).mono ?_
      rintro e w6 ⟨rfl, g6⟩
      have HG6 : Hid (w.grownBy w6 none) := grown_trans HG5.out g6
      clear g6
      go_wp2_with fail
      go_ret
      exact ⟨by simp, HG6.out⟩
end Go.Proofs.YtadhfejefpildaaGreat
