/-
  One step on a table and on the document's, by its kind.
-/
import Derived.Test.YtlehikdlkdbacaaDd
namespace Go.Proofs.Ytlehikdlkdbacaa
open Go.RowKit Disk
open Names (cmpL keyB valueB)

set_option maxRecDepth 100000 in
set_option maxHeartbeats 16000000 in
theorem do12_2 (tb db : Nat) (kind n : Int) (k2 : kind = 2) (kv vv : Value) (l : List PRow) (Kb Vb : Bs) (hgd : Good l) (hl : l.length ≤ 999999) (hkl : Kb.length ≤ 9999) (hvl : Vb.length ≤ 9999) (w : World) (ht : Tb w tb l) (hd : Dt w db l) (hk : Seg w kv Kb) (hv : Seg w vv Vb) :
    Calls Try.prog 12 #[.pointer (some ⟨tb, 0, none⟩), .pointer (some ⟨db, 0, none⟩), .agg #[.int .i64 kind, kv, vv, .int .i64 n]] w fun e w' => DoPost tb db l w e w' := by
  obtain ⟨ak, nk, ck, rfl, hnk, _, HK⟩ := Names.seg_open hk
  obtain ⟨ax, nx, cx, rfl, hnx, _, HX⟩ := Names.seg_open hv
  have HT : Hid (Tb w tb l ∧ Dt w db l ∧ Good l ∧ l.length ≤ 999999 ∧ Kb.length ≤ 9999 ∧ Vb.length ≤ 9999) := ⟨ht, hd, hgd, hl, hkl, hvl⟩
  have HLT : Hid (tb < w.heap.size ∧ db < w.heap.size) := by
    obtain ⟨_, _, _, HB, _⟩ := tb_open ht
    obtain ⟨_, _, _, _, _, _, HD⟩ := dt_open hd
    exact ⟨HB.out.1.lt, HD.out.1.lt⟩
  clear hk hv ht hd hgd hl hkl hvl hnk hnx
  have HKK : Hid (kind = 2) := k2
  clear k2
  go_enter Try.func12, Try.ntmps12
  go_upto_region 1 with fail
  obtain ⟨wb, hwb, HB⟩ := al w #[.int .i64 kind, .slice ak nk ck, .slice ax nx cx, .int .i64 n] 32
  rw [hwb]
  clear hwb
  have HM : Hid (∀ y : World, wb.grownBy y none → y.cell? ⟨w.heap.size, 1, none⟩ = some (.slice ak nk ck) ∧ y.cell? ⟨w.heap.size, 2, none⟩ = some (.slice ax nx cx)) := fun y hy => ⟨(HB.out.1.grown hy (by simp)).cell 1, (HB.out.1.grown hy (by simp)).cell 2⟩
  refine wp_region_noPanic ?_
  refine wp_region_hold 1000 (fun y => wb.grownBy y none) (by kernel_rfl) ?_
  have G0 : Hid (wb.grownBy wb.drew none) := grown_drew _ _
  generalize wb.drew = wd at G0 ⊢
  refine wpHold_take (i := 0) (v := _) (G0.out) rfl rfl (by kernel_rfl) (by kernel_rfl) (by kernel_rfl) (by kernel_rfl) (by kernel_rfl) (fun _ _ _ h => h) (by rfl) (fun wk hk => by obtain ⟨z0, z1⟩ := HM.out wk hk; go_simp; try rfl) ?_
  try simp only [Act.put, List.setIfInBounds_toArray, List.set_cons_zero, List.set_cons_succ]
  refine wpHold_take (i := 1) (v := _) (G0.out) rfl rfl (by kernel_rfl) (by kernel_rfl) (by kernel_rfl) (by kernel_rfl) (by kernel_rfl) (fun _ _ _ h => h) (by rfl) (fun wk hk => by obtain ⟨z0, z1⟩ := HM.out wk hk; go_simp; try rfl) ?_
  try simp only [Act.put, List.setIfInBounds_toArray, List.set_cons_zero, List.set_cons_succ]
  refine wpHold_take (i := 3) (v := _) (G0.out) rfl rfl (by kernel_rfl) (by kernel_rfl) (by kernel_rfl) (by kernel_rfl) (by kernel_rfl) (fun _ _ _ h => h) (by rfl) (fun wk hk => by obtain ⟨z0, z1⟩ := HM.out wk hk; go_simp; try rfl) ?_
  try simp only [Act.put, List.setIfInBounds_toArray, List.set_cons_zero, List.set_cons_succ]
  refine wpHold_take (i := 4) (v := _) (G0.out) rfl rfl (by kernel_rfl) (by kernel_rfl) (by kernel_rfl) (by kernel_rfl) (by kernel_rfl) (fun _ _ _ h => h) (by rfl) (fun wk hk => by obtain ⟨z0, z1⟩ := HM.out wk hk; go_simp; try rfl) ?_
  try simp only [Act.put, List.setIfInBounds_toArray, List.set_cons_zero, List.set_cons_succ]
  refine wpHold_one (i := 2) rfl (by kernel_rfl) (by rfl) (fun K hK => ?_)
  go_wp2_with (go_at_call 38; refine (Disk.lent6 _ Kb wd (HK.out.grown (grown_trans HB.out.2.1 G0.out)) (by have := HT.out.2.2.2.2.1; omega)).mono ?_)
  rintro e w2 ⟨u7, rfl, hu7, hg2⟩
  have H2 : Hid (Lent w2 wb.heap.size u7 Kb ∧ wb.grownBy w2 none) := ⟨hu7.mono G0.out.size, grown_trans G0.out hg2⟩
  clear hu7 hg2
  refine hK.out _ _ (fun _ => H2.out.2) ?_
  clear hK K
  try simp only [Act.put, List.setIfInBounds_toArray, List.set_cons_zero, List.set_cons_succ]
  refine wpHold_one (i := 5) rfl (by kernel_rfl) (by rfl) (fun K hK => ?_)
  go_wp2_with (go_at_call 38; refine (Disk.lent6 _ Vb w2 (HX.out.grown (grown_trans HB.out.2.1 H2.out.2)) (by have := HT.out.2.2.2.2.2; omega)).mono ?_)
  rintro e w1 ⟨u8, rfl, hu8, hg1⟩
  have H1 : Hid (Lent w1 wb.heap.size u7 Kb ∧ Lent w1 wb.heap.size u8 Vb ∧ wb.grownBy w1 none) := ⟨H2.out.1.same (fun q hq => hg1.block q (H2.out.1.lt q hq).2 (by simp)), hu8.mono H2.out.2.size, grown_trans H2.out.2 hg1⟩
  clear hu8 hg1
  refine hK.out _ _ (fun _ => H1.out.2.2) ?_
  clear hK K
  try simp only [Act.put, List.setIfInBounds_toArray, List.set_cons_zero, List.set_cons_succ]
  refine wpHold_take (i := 6) (v := _) (H1.out.2.2) rfl rfl (by kernel_rfl) (by kernel_rfl) (by kernel_rfl) (by kernel_rfl) (by kernel_rfl) (fun _ _ _ h => h) (by rfl) (fun wk hk => by obtain ⟨z0, z1⟩ := HM.out wk hk; go_simp; try rfl) ?_
  try simp only [Act.put, List.setIfInBounds_toArray, List.set_cons_zero, List.set_cons_succ]
  refine wpHold_take (i := 7) (v := _) (H1.out.2.2) rfl rfl (by kernel_rfl) (by kernel_rfl) (by kernel_rfl) (by kernel_rfl) (by kernel_rfl) (fun _ _ _ h => h) (by rfl) (fun wk hk => by obtain ⟨z0, z1⟩ := HM.out wk hk; go_simp; try rfl) ?_
  try simp only [Act.put, List.setIfInBounds_toArray, List.set_cons_zero, List.set_cons_succ]
  refine wpHold_done (by kernel_rfl) ?_
  refine (‹∀ (a : Act) (w : World), Code.wp Try.prog _ _ a w → _› _ _ ?_)
  obtain ⟨g7, c7, e7, ho7⟩ := H1.out.1
  obtain ⟨g8, c8, e8, ho8⟩ := H1.out.2.1
  have s7 := H1.out.1.seg
  have s8 := H1.out.2.1.seg
  obtain ⟨m7, hm7⟩ : ∃ m, Kb.length = m := ⟨_, rfl⟩
  obtain ⟨m8, hm8⟩ : ∃ m, Vb.length = m := ⟨_, rfl⟩
  rw [hm7] at e7
  rw [hm8] at e8
  subst e7 e8
  have HF : Hid (Tbz (XW wb w1) w1 tb l ∧ Dtz (XW wb w1) w1 db l ∧ Seg w1 (.slice (some ⟨g7, 0, none⟩) m7 c7) Kb ∧ Seg w1 (.slice (some ⟨g8, 0, none⟩) m8 c8) Vb ∧ Seg w1 (.slice ak nk ck) Kb ∧ Seg w1 (.slice ax nx cx) Vb ∧ Blk w1 w.heap.size 32 #[.int .i64 kind, .slice ak nk ck, .slice ax nx cx, .int .i64 n] ∧ w.grownBy w1 none) := by
    have gw := grown_trans HB.out.2.1 H1.out.2.2
    refine ⟨?_, ?_, s7, s8, HK.out.grown gw, HX.out.grown gw, HB.out.1.grown H1.out.2.2 (by simp), gw⟩
    · have h0 : Tbz (XW wb w1) w tb l := tbz_of (fun g hg => Nat.le_trans HB.out.2.1.size hg.1) HT.out.1
      exact h0.grown gw
    · have h0 : Dtz (XW wb w1) w db l := dtz_of (fun g hg => Nat.le_trans HB.out.2.1.size hg.1) HT.out.2.1
      exact h0.grown gw
  have HTW : Hid (Two w1 tb db) := two_of HF.out.1.old HF.out.2.1.old
  -- what the box holds, whatever was done to the tables
  have HBX : Hid (∀ y : World, Gr2 tb db w1 y → y.cell? ⟨w.heap.size, 0, none⟩ = some (.int .i64 kind) ∧ y.cell? ⟨w.heap.size, 1, none⟩ = some (.slice ak nk ck) ∧ y.cell? ⟨w.heap.size, 2, none⟩ = some (.slice ax nx cx) ∧ y.cell? ⟨w.heap.size, 3, none⟩ = some (.int .i64 n)) := fun y hy => by
    have hb := hy.blk HF.out.2.2.2.2.2.2.1 (by have := HLT.out.1; omega) (by have := HLT.out.2; omega)
    exact ⟨hb.cell 0, hb.cell 1, hb.cell 2, hb.cell 3⟩
  obtain ⟨ad, nd, cd, hnd, _, hcd, HDO⟩ := dt_open HF.out.2.1.old
  have HDC : Hid (∀ y : World, w1.grownBy y none → y.cell? ⟨db, 0, none⟩ = some (.slice ad nd cd) ∧ Rws y (.slice ad nd cd) l) := fun y hy => ⟨(HDO.out.1.grown hy (by simp)).cell 0, HDO.out.2.rws.grown hy⟩
  have HND : Hid (l.length = nd) := hnd
  clear hnd
  obtain ⟨x0, x1, x2, x3⟩ := HBX.out w1 (gr2_none (grown_refl _ _))
  have HOW : Hid (OwnS (XW wb w1) w1 (.slice (some ⟨g7, 0, none⟩) m7 c7) ∧ OwnS (XW wb w1) w1 (.slice (some ⟨g8, 0, none⟩) m8 c8)) := ⟨lent_owns H1.out.1 (Nat.le_refl _), lent_owns H1.out.2.1 (Nat.le_refl _)⟩
  clear s7 s8 ho7 ho8
  go_upto_region 3 with fail
  go_cut [31] (fun x wc => x = .int .i64 kind ∧ wc = w1)
  case first =>
    go_wp2_with fail
    go_meet
    case rel => exact ⟨rfl, rfl⟩
  case rest =>
    obtain ⟨rfl, hwc⟩ := hcut
    rw [hwc]
    clear hwc
    refine (‹∀ (a : Act) (w : World), Code.wp Try.prog _ _ a w → _› _ _ ?_)
    go_cut [9] (fun x wc => x = .bool true ∧ DoMid (XW wb w1) tb db l w1 wc)
    case first =>
      have k2 : kind = 2 := HKK.out
      subst k2
      obtain ⟨gc, hgc⟩ : ∃ b, getC l Kb = b := ⟨_, rfl⟩
      obtain ⟨gl, hgl⟩ : ∃ b, gotL l Kb = b := ⟨_, rfl⟩
      have HGC : Hid (getC l Kb = gc ∧ gotL l Kb = gl) := ⟨hgc, hgl⟩
      clear hgc hgl
      go_wp2_with fail
      refine (get27 tb _ l Kb HT.out.2.2.1.1 HT.out.2.2.1.2.2 (good_vals HT.out.2.2.1) w1 HF.out.1.old HF.out.2.2.1).mono ?_
      rintro e w2 ⟨y2, rfl, o2, g2⟩
      rw [HGC.out.1]
      rw [HGC.out.2] at o2
      obtain ⟨a2, c2, e2⟩ := o2.seg.shape
      obtain ⟨n2, hn2⟩ : ∃ n, gl.length = n := ⟨_, rfl⟩
      rw [hn2] at e2
      subst e2
      have H2 : Hid (Disk.Own w2 w1.heap.size (.slice a2 n2 c2) gl ∧ w1.grownBy w2 none ∧ gl.length = n2) := ⟨o2, g2, hn2⟩
      clear o2 g2 hn2
      obtain ⟨y0, y1, y2, y3⟩ := HBX.out w2 (gr2_none H2.out.2.1)
      go_wp2_with fail
      refine (get39 db _ l Kb (good_vals HT.out.2.2.1) w2 (HF.out.2.1.old.grown H2.out.2.1) (HF.out.2.2.2.2.1.grown H2.out.2.1)).mono ?_
      rintro e w3 ⟨z3, rfl, o3, g3⟩
      rw [HGC.out.1]
      rw [HGC.out.2] at o3
      have H3 : Hid (Disk.Own w3 w1.heap.size (.slice a2 n2 c2) gl ∧ w1.grownBy w3 none) := ⟨H2.out.1.grown g3, grown_trans H2.out.2.1 g3⟩
      have cs1 := seg_str H3.out.1.seg
      have cs2 := seg_str o3.seg
      obtain ⟨S, hS⟩ : ∃ S, (⟨gl.toArray⟩ : ByteArray) = S := ⟨_, rfl⟩
      rw [hS] at cs1 cs2
      clear hS o3 g3
      go_wp2_with (go_at_call 21; refine (num21 _ _).mono ?_; rintro e wx ⟨rfl, hx⟩; rw [hx]; clear hx)
      obtain ⟨w4, hw4, H4⟩ := al w3 #[.slice a2 n2 c2] 30
      rw [hw4]
      clear hw4 cs1 cs2
      have HO4 : Hid (OwnX w4 (fun q => w1.heap.size ≤ q) (.slice a2 n2 c2) n2) := by
        have h4 := ownx_of (G := fun q => w1.heap.size ≤ q) (H3.out.1.grown H4.out.2.1) (fun g hg => ((H3.out.1.grown H4.out.2.1).lt g hg).1)
        rw [H2.out.2.2] at h4
        exact h4
      refine (spoil33 w3.heap.size 1 (fun q => w1.heap.size ≤ q) [.slice a2 n2 c2] [n2] rfl rfl (by omega) w4 H4.out.1 ?_).mono ?_
      · intro j h h'
        rcases j with _ | j
        · exact HO4.out
        · simp at h
      rintro e w5 ⟨rfl, hw5⟩
      have H5 : Hid (w1.grownBy w5 none) := hw5.after (grown_trans H3.out.2 H4.out.2.1) (fun q hq => hq)
      clear hw5
      go_wp2_with fail
      go_meet
      case rel => exact ⟨by simp, l, HT.out.2.2.1, by omega, HF.out.1.grown H5.out, HF.out.2.1.grown H5.out, gr2_none H5.out⟩
    case rest =>
      obtain ⟨rfl, l', hg', hlen, hz', hdz, hgr⟩ := hcut
      have HC : Hid (Good l' ∧ l'.length ≤ l.length + 1 ∧ Tbz (XW wb w1) wc tb l' ∧ Dtz (XW wb w1) wc db l' ∧ Gr2 tb db w1 wc) := ⟨hg', hlen, hz', hdz, hgr⟩
      clear hg' hlen hz' hdz hgr
      obtain ⟨y0, y1, y2, y3⟩ := HBX.out wc HC.out.2.2.2.2
      refine (‹∀ (a : Act) (w : World), Code.wp Try.prog _ _ a w → _› _ _ ?_)
      have HL7 : Hid (Lent wc wb.heap.size (.slice (some ⟨g7, 0, none⟩) m7 c7) Kb ∧ Lent wc wb.heap.size (.slice (some ⟨g8, 0, none⟩) m8 c8) Vb) := by
        have hs := HB.out.2.1.size
        exact ⟨H1.out.1.same (fun q hq => HC.out.2.2.2.2.block q (H1.out.1.lt q hq).2 (by have := (H1.out.1.lt q hq).1; have := HLT.out.1; omega) (by have := (H1.out.1.lt q hq).1; have := HLT.out.2; omega)), H1.out.2.1.same (fun q hq => HC.out.2.2.2.2.block q (H1.out.2.1.lt q hq).2 (by have := (H1.out.2.1.lt q hq).1; have := HLT.out.1; omega) (by have := (H1.out.2.1.lt q hq).1; have := HLT.out.2; omega))⟩
      have HSK : Hid (Seg wc (.slice ak nk ck) Kb ∧ Seg wc (.slice ax nx cx) Vb) := ⟨HC.out.2.2.2.2.seg HTW.out HF.out.2.2.2.2.1, HC.out.2.2.2.2.seg HTW.out HF.out.2.2.2.2.2.1⟩
      go_wp2_with fail
      refine (Names.left18 _ _ wb.heap.size Kb wc HL7.out.1 HSK.out.1 (by have := HT.out.2.2.2.2.1; omega)).mono ?_
      rintro e wx ⟨rfl, qx, hx⟩
      have GX : Hid (wc.grownBy wx none) := by rw [hx]; exact grown_drewN _ _ _
      have gx2 : Gr2 tb db w1 wx := HC.out.2.2.2.2.trans (gr2_none GX.out)
      obtain ⟨v0, v1, v2, v3⟩ := HBX.out wx gx2
      clear hx gx2
      go_wp2_with fail
      refine (Names.left18 _ _ wb.heap.size Vb wx (HL7.out.2.same (fun q hq => GX.out.block q (HL7.out.2.lt q hq).2 (by simp))) (HSK.out.2.grown GX.out) (by have := HT.out.2.2.2.2.2; omega)).mono ?_
      rintro e wy ⟨rfl, qy, hy⟩
      have GY : Hid (wc.grownBy wy none) := by rw [hy]; exact grown_trans GX.out (grown_drewN _ _ _)
      clear hy
      go_wp2_with fail
      obtain ⟨wz, hwz, HZ⟩ := al wy #[.slice (some ⟨g7, 0, none⟩) m7 c7, .slice (some ⟨g8, 0, none⟩) m8 c8] 30
      rw [hwz]
      clear hwz
      have GZ : Hid (wc.grownBy wz none) := grown_trans GY.out HZ.out.2.1
      have HOS : Hid (OwnS (XW wb w1) wz (.slice (some ⟨g7, 0, none⟩) m7 c7) ∧ OwnS (XW wb w1) wz (.slice (some ⟨g8, 0, none⟩) m8 c8)) := ⟨(HOW.out.1.gr2 HC.out.2.2.2.2 HTW.out).grown GZ.out, (HOW.out.2.gr2 HC.out.2.2.2.2 HTW.out).grown GZ.out⟩
      obtain ⟨n1, o1⟩ := HOS.out.1.1
      obtain ⟨n2, o2⟩ := HOS.out.2.1
      have HO12 : Hid (OwnX wz (XW wb w1) (.slice (some ⟨g7, 0, none⟩) m7 c7) n1 ∧ OwnX wz (XW wb w1) (.slice (some ⟨g8, 0, none⟩) m8 c8) n2) := ⟨o1, o2⟩
      clear o1 o2
      refine (spoil33k wy.heap.size 2 (XW wb w1) [.slice (some ⟨g7, 0, none⟩) m7 c7, .slice (some ⟨g8, 0, none⟩) m8 c8] [n1, n2] rfl rfl (by omega) wz HZ.out.1 ?_ ?_).mono ?_
      · intro j h h'
        rcases j with _ | _ | j
        · exact HO12.out.1
        · exact HO12.out.2
        · simp at h; omega
      · intro j h
        rcases j with _ | _ | j
        · exact HOS.out.1.2.1
        · exact HOS.out.2.2.1
        · simp at h; omega
      rintro e wv ⟨rfl, hwq⟩
      have HV : Hid (Tb wv tb l' ∧ Dt wv db l' ∧ Gr2 tb db w wv) := by
        refine ⟨((HC.out.2.2.1.grown GZ.out).sm (fun hx => by have := hx.1; have := HLT.out.1; have := HB.out.2.1.size; omega) hwq.sm).old, ((HC.out.2.2.2.1.grown GZ.out).wq hwq).old, ?_⟩
        have g0 := HF.out.2.2.2.2.2.2.2
        have gc := HC.out.2.2.2.2.trans (gr2_none GZ.out)
        refine ⟨hwq.1.os.trans (gc.os.trans g0.os), hwq.1.tape.trans (gc.tape.trans g0.tape), hwq.1.output.trans (gc.output.trans g0.output), by rw [hwq.1.size]; exact Nat.le_trans g0.size gc.size, fun q hq h1 h2 => ?_⟩
        rw [hwq.1.low q (fun hx => by have := hx.1; have := HB.out.2.1.size; omega), gc.block q (Nat.lt_of_lt_of_le hq g0.size) h1 h2, g0.block q hq (by simp)]
      clear hwq
      obtain ⟨nl, hnl⟩ : ∃ n, l'.length = n := ⟨_, rfl⟩
      obtain ⟨sl, hsl⟩ : ∃ n, sizeL l' = n := ⟨_, rfl⟩
      have HNL : Hid (l'.length = nl ∧ sizeL l' = sl) := ⟨hnl, hsl⟩
      obtain ⟨ad2, nd2, cd2, hnd2, _, hcd2, HDO2⟩ := dt_open HV.out.2.1
      have hnn : nd2 = nl := by rw [← hnd2, hnl]
      subst hnn
      have HDC2 : Hid (∀ y : World, wv.grownBy y none → y.cell? ⟨db, 0, none⟩ = some (.slice ad2 nd2 cd2)) := fun y hy => (HDO2.out.1.grown hy (by simp)).cell 0
      clear hnl hsl hnd2
      go_upto_region 33 with fail
      refine wp_region_noPanic ?_
      refine wp_region_hold 1000 (fun y => wv.grownBy y none) (by kernel_rfl) ?_
      have G5 : Hid (wv.grownBy wv.drew none) := grown_drew _ _
      generalize wv.drew = wf at G5 ⊢
      refine wpHold_take (i := 0) (v := _) (G5.out) rfl rfl (by kernel_rfl) (by kernel_rfl) (by kernel_rfl) (by kernel_rfl) (by kernel_rfl) (fun _ _ _ h => h) (by rfl) (fun wk hk => by have y5 := HDC2.out wk hk; go_simp; try rfl) ?_
      try simp only [Act.put, List.setIfInBounds_toArray, List.set_cons_zero, List.set_cons_succ]
      refine wpHold_take (i := 1) (v := _) (G5.out) rfl rfl (by kernel_rfl) (by kernel_rfl) (by kernel_rfl) (by kernel_rfl) (by kernel_rfl) (fun _ _ _ h => h) (by rfl) (fun wk hk => by have y5 := HDC2.out wk hk; go_simp; try rfl) ?_
      try simp only [Act.put, List.setIfInBounds_toArray, List.set_cons_zero, List.set_cons_succ]
      refine wpHold_take (i := 2) (v := _) (G5.out) rfl rfl (by kernel_rfl) (by kernel_rfl) (by kernel_rfl) (by kernel_rfl) (by kernel_rfl) (fun _ _ _ h => h) (by rfl) (fun wk hk => by have y5 := HDC2.out wk hk; go_simp; try rfl) ?_
      try simp only [Act.put, List.setIfInBounds_toArray, List.set_cons_zero, List.set_cons_succ]
      refine wpHold_take (i := 4) (v := _) (G5.out) rfl rfl (by kernel_rfl) (by kernel_rfl) (by kernel_rfl) (by kernel_rfl) (by kernel_rfl) (fun _ _ _ h => h) (by rfl) (fun wk hk => by have y5 := HDC2.out wk hk; go_simp; try rfl) ?_
      try simp only [Act.put, List.setIfInBounds_toArray, List.set_cons_zero, List.set_cons_succ]
      refine wpHold_take (i := 5) (v := _) (G5.out) rfl rfl (by kernel_rfl) (by kernel_rfl) (by kernel_rfl) (by kernel_rfl) (by kernel_rfl) (fun _ _ _ h => h) (by rfl) (fun wk hk => by have y5 := HDC2.out wk hk; go_simp; try rfl) ?_
      try simp only [Act.put, List.setIfInBounds_toArray, List.set_cons_zero, List.set_cons_succ]
      refine wpHold_take (i := 6) (v := _) (G5.out) rfl rfl (by kernel_rfl) (by kernel_rfl) (by kernel_rfl) (by kernel_rfl) (by kernel_rfl) (fun _ _ _ h => h) (by rfl) (fun wk hk => by have y5 := HDC2.out wk hk; go_simp; try rfl) ?_
      try simp only [Act.put, List.setIfInBounds_toArray, List.set_cons_zero, List.set_cons_succ]
      refine wpHold_take (i := 7) (v := _) (G5.out) rfl rfl (by kernel_rfl) (by kernel_rfl) (by kernel_rfl) (by kernel_rfl) (by kernel_rfl) (fun _ _ _ h => h) (by rfl) (fun wk hk => by have y5 := HDC2.out wk hk; go_simp; try rfl) ?_
      try simp only [Act.put, List.setIfInBounds_toArray, List.set_cons_zero, List.set_cons_succ]
      refine wpHold_take (i := 8) (v := _) (G5.out) rfl rfl (by kernel_rfl) (by kernel_rfl) (by kernel_rfl) (by kernel_rfl) (by kernel_rfl) (fun _ _ _ h => h) (by rfl) (fun wk hk => by have y5 := HDC2.out wk hk; go_simp; try rfl) ?_
      try simp only [Act.put, List.setIfInBounds_toArray, List.set_cons_zero, List.set_cons_succ]
      refine wpHold_one (i := 3) rfl (by kernel_rfl) (by rfl) (fun K hK => ?_)
      go_wp2_with (go_at_call 23; refine (len23g _ true l' wf (HV.out.1.grown G5.out).tl).mono ?_)
      rintro e wg ⟨rfl, hg⟩
      rw [hg, HNL.out.1]
      clear hg
      refine hK.out _ _ (fun _ => G5.out) ?_
      clear hK K
      try simp only [Act.put, List.setIfInBounds_toArray, List.set_cons_zero, List.set_cons_succ]
      refine wpHold_take (i := 9) (v := _) (G5.out) rfl rfl (by kernel_rfl) (by kernel_rfl) (by kernel_rfl) (by kernel_rfl) (by kernel_rfl) (fun _ _ _ h => h) (by rfl) (fun wk hk => by have y5 := HDC2.out wk hk; go_simp; try rfl) ?_
      try simp only [Act.put, List.setIfInBounds_toArray, List.set_cons_zero, List.set_cons_succ]
      refine wpHold_take (i := 10) (v := _) (G5.out) rfl rfl (by kernel_rfl) (by kernel_rfl) (by kernel_rfl) (by kernel_rfl) (by kernel_rfl) (fun _ _ _ h => h) (by rfl) (fun wk hk => by have y5 := HDC2.out wk hk; go_simp; try rfl) ?_
      try simp only [Act.put, List.setIfInBounds_toArray, List.set_cons_zero, List.set_cons_succ]
      refine wpHold_take (i := 11) (v := _) (G5.out) rfl rfl (by kernel_rfl) (by kernel_rfl) (by kernel_rfl) (by kernel_rfl) (by kernel_rfl) (fun _ _ _ h => h) (by rfl) (fun wk hk => by have y5 := HDC2.out wk hk; go_simp; try rfl) ?_
      try simp only [Act.put, List.setIfInBounds_toArray, List.set_cons_zero, List.set_cons_succ]
      refine wpHold_take (i := 12) (v := _) (G5.out) rfl rfl (by kernel_rfl) (by kernel_rfl) (by kernel_rfl) (by kernel_rfl) (by kernel_rfl) (fun _ _ _ h => h) (by rfl) (fun wk hk => by have y5 := HDC2.out wk hk; go_simp; try rfl) ?_
      try simp only [Act.put, List.setIfInBounds_toArray, List.set_cons_zero, List.set_cons_succ]
      refine wpHold_take (i := 14) (v := _) (G5.out) rfl rfl (by kernel_rfl) (by kernel_rfl) (by kernel_rfl) (by kernel_rfl) (by kernel_rfl) (fun _ _ _ h => h) (by rfl) (fun wk hk => by have y5 := HDC2.out wk hk; go_simp; try rfl) ?_
      try simp only [Act.put, List.setIfInBounds_toArray, List.set_cons_zero, List.set_cons_succ]
      refine wpHold_one (i := 13) rfl (by kernel_rfl) (by rfl) (fun K hK => ?_)
      go_wp2_with (go_at_call 30; refine (size30 _ true l' HC.out.1 wf (HV.out.1.grown G5.out).tl).mono ?_)
      rintro e wg ⟨rfl, q6, hg⟩
      rw [HNL.out.2]
      have G6 : Hid (wv.grownBy wg none) := by rw [hg]; exact grown_trans G5.out (grown_drewN _ _ _)
      clear hg
      refine hK.out _ _ (fun _ => G6.out) ?_
      clear hK K
      try simp only [Act.put, List.setIfInBounds_toArray, List.set_cons_zero, List.set_cons_succ]
      refine wpHold_one (i := 15) rfl (by kernel_rfl) (by rfl) (fun K hK => ?_)
      go_wp2_with (go_at_call 44; refine (size44 db l' HC.out.1 wg (HV.out.2.1.grown G6.out)).mono ?_)
      rintro e wh ⟨rfl, q7, hh⟩
      rw [HNL.out.2]
      have G7 : Hid (wv.grownBy wh none) := by rw [hh]; exact grown_trans G6.out (grown_drewN _ _ _)
      clear hh
      refine hK.out _ _ (fun _ => G7.out) ?_
      clear hK K
      try simp only [Act.put, List.setIfInBounds_toArray, List.set_cons_zero, List.set_cons_succ]
      refine wpHold_take (i := 16) (v := _) (G7.out) rfl rfl (by kernel_rfl) (by kernel_rfl) (by kernel_rfl) (by kernel_rfl) (by kernel_rfl) (fun _ _ _ h => h) (by rfl) (fun wk hk => by have y5 := HDC2.out wk hk; go_simp; try rfl) ?_
      try simp only [Act.put, List.setIfInBounds_toArray, List.set_cons_zero, List.set_cons_succ]
      refine wpHold_take (i := 17) (v := _) (G7.out) rfl rfl (by kernel_rfl) (by kernel_rfl) (by kernel_rfl) (by kernel_rfl) (by kernel_rfl) (fun _ _ _ h => h) (by rfl) (fun wk hk => by have y5 := HDC2.out wk hk; go_simp; try rfl) ?_
      try simp only [Act.put, List.setIfInBounds_toArray, List.set_cons_zero, List.set_cons_succ]
      refine wpHold_take (i := 18) (v := _) (G7.out) rfl rfl (by kernel_rfl) (by kernel_rfl) (by kernel_rfl) (by kernel_rfl) (by kernel_rfl) (fun _ _ _ h => h) (by rfl) (fun wk hk => by have y5 := HDC2.out wk hk; go_simp; try rfl) ?_
      try simp only [Act.put, List.setIfInBounds_toArray, List.set_cons_zero, List.set_cons_succ]
      refine wpHold_done (by kernel_rfl) ?_
      refine (‹∀ (a : Act) (w : World), Code.wp Try.prog _ _ a w → _› _ _ ?_)
      go_wp2_with fail
      go_ret
      exact ⟨l', by simp, HC.out.1, HC.out.2.1, HV.out.1.grown G7.out, HV.out.2.1.grown G7.out, HV.out.2.2.trans (gr2_none G7.out)⟩
end Go.Proofs.Ytlehikdlkdbacaa
