/-
  Scan; New.
-/
import Derived.Test.YtlehikdlkdbacaaA
namespace Go.Proofs.Ytlehikdlkdbacaa
open Go.RowKit Disk
open Names (cmpL keyB valueB)

theorem run_max00 (ts : Array TypeId) (t : TypeId) (n : Int) (w : World) : (Builtin.max_ ts t #[.int .i64 n, .int .i64 0]).run Try.prog w = .ok (.int .i64 (n.toNat : Nat)) w := by
  by_cases h : n ≤ 0
  · have e : (n.toNat : Int) = 0 := by omega
    rw [e]
    simp [Builtin.max_, Builtin.max2]
    try omega
  · have e : (n.toNat : Int) = n := by omega
    rw [e]
    simp [Builtin.max_, Builtin.max2]
    try omega

def scanL (l : List PRow) (F T : Bs) (most : Int) : List PRow := (l.drop (rankL l F)).take (min most.toNat (spanE l F T - rankL l F))

set_option maxRecDepth 100000 in
set_option maxHeartbeats 4000000 in
theorem scan24 (tv : Value) (is : Bool) (f t : Value) (most : Int) (l : List PRow) (F T : Bs) (hg : Good l) (w : World) (ht : Tl w tv is l) (hf : Seg w f F) (hT : Seg w t T) :
    Calls Try.prog 24 #[tv, f, t, .int .i64 most] w fun e w' => ∃ v, e = .returned v ∧ TRws w' w.heap.size v (scanL l F T most) ∧ w.grownBy w' none := by
  have HT : Hid (Tl w tv is l ∧ Seg w f F ∧ Seg w t T) := ⟨ht, hf, hT⟩
  have HG : Hid (Good l) := hg
  have q1 := span_ge l F T
  have q2 := span_le l F T
  obtain ⟨rf, hrf⟩ : ∃ n, rankL l F = n := ⟨_, rfl⟩
  obtain ⟨sp, hsp⟩ : ∃ n, spanE l F T = n := ⟨_, rfl⟩
  have HQ : Hid (rankL l F = rf ∧ spanE l F T = sp) := ⟨hrf, hsp⟩
  rw [hrf] at q1
  rw [hsp] at q1 q2
  clear ht hf hT hg hrf hsp
  go_enter Try.func24, Try.ntmps24
  go_wp2_with fail
  refine (span50 tv is f t l F T HG.out.1 HG.out.2.2 w HT.out.1 HT.out.2.1 HT.out.2.2).mono ?_
  rintro e w1 ⟨rfl, g1⟩
  rw [HQ.out.1, HQ.out.2]
  have G1 : Hid (w.grownBy w1 none) := g1
  clear g1
  obtain ⟨mt, hmt⟩ : ∃ n, most.toNat = n := ⟨_, rfl⟩
  obtain ⟨d, hd⟩ : ∃ d, sp - rf = d := ⟨_, rfl⟩
  obtain ⟨en, hen⟩ : ∃ e, rf + min mt d = e := ⟨_, rfl⟩
  have hl6 : l.length ≤ 1000000 := HG.out.2.2
  have hsub : (sp : Int) - (rf : Int) = (d : Int) := by omega
  have hmx := fun (ts : Array TypeId) (t : TypeId) (w : World) => run_max00 ts t most w
  rw [hmt] at hmx
  have hmn := fun (ts : Array TypeId) (t : TypeId) (w : World) => Names.run_minn ts t mt d w
  have hadd : (rf : Int) + ((min mt d : Nat) : Int) = (en : Int) := by omega
  have e1 : rf ≤ en := by omega
  have e2 : en ≤ l.length := by omega
  have HE : Hid (most.toNat = mt ∧ sp - rf = d ∧ rf + min mt d = en) := ⟨hmt, hd, hen⟩
  clear hmt hen
  obtain ⟨mn, hmn2⟩ : ∃ m, min mt d = m := ⟨_, rfl⟩
  rw [hmn2] at hmn hadd
  have hmb : mn ≤ 1000000 := by omega
  clear hmn2 hd
  go_wp2_with fail
  refine (list35g tv is l w1 (HT.out.1.grown G1.out)).mono ?_
  rintro e w2 ⟨fl, n, rfl, hn, hr, hw⟩
  rw [hw]
  obtain ⟨sv, hsv⟩ : ∃ v, sliced fl rf en n 1 = v := ⟨_, rfl⟩
  have hsl : ∀ wk, (Instr.slice 66 (.slice fl n n) (some (.int .i64 (rf : Int))) (some (.int .i64 (en : Int))) none).run Try.prog wk = .ok sv wk := fun wk => by rw [← hsv]; exact run_piece 66 1 ut66 size66 fl n n rf en e1 (by omega) wk
  have hpr := rows_piece hr rf en e1 (by omega)
  rw [hsv] at hpr
  obtain ⟨M, hM⟩ : ∃ M, (l.drop rf).take (en - rf) = M := ⟨_, rfl⟩
  rw [hM] at hpr
  have HM : Hid (scanL l F T most = M ∧ (∀ r ∈ M, okP r.1 r.2 = true) ∧ M.length ≤ 1000000) := by
    refine ⟨?_, ?_, ?_⟩
    · unfold scanL
      rw [HQ.out.1, HQ.out.2, HE.out.1, HE.out.2.1, ← hM]
      congr 1
      have := HE.out.2.2
      omega
    · intro r hr
      rw [← hM] at hr
      exact HG.out.2.1 r (List.mem_of_mem_drop (List.mem_of_mem_take hr))
    · rw [← hM, List.length_take, List.length_drop]
      omega
  obtain ⟨sa, m, sc, hsv2, hm, _, _, HS⟩ := rows_open hpr
  have HL : Hid (M.length = m) := hm
  have hm6 : m ≤ 1000000 := by have := HM.out.2.2; omega
  rw [hsv2] at hsl
  clear hw hr hn hsv hpr hM hm hsv2
  go_wp2_with fail
  clear hsl hmx hmn hadd hsub
  go_loopw [11, 35] (fun v i wr => ∃ (k : Nat), k ≤ m ∧ i = .int .i64 (k : Int) ∧ TRws wr w1.heap.size v (M.take k) ∧ w1.grownBy wr none) (fun _ i _ => m - (intOf i).toNat)
  case atStart => exact ⟨0, Nat.zero_le _, rfl, TRws.nil _ _, grown_refl _ _⟩
  case round =>
    obtain ⟨k, hk, rfl, htr, hgr⟩ := hrel
    have HR : Hid (TRws wr w1.heap.size u11 (M.take k) ∧ w1.grownBy wr none) := ⟨htr, hgr⟩
    clear htr hgr
    rcases Nat.lt_or_ge k m with hlt | hge
    · have ka : k < M.length := by rw [HL.out]; exact hlt
      obtain ⟨b1, o1, p1, x1, y1, rfl, c1, d1, s1, t1⟩ := rows_at HS.out k ka
      have hok := okP_len (HM.out.2.1 _ (List.getElem_mem ka))
      have HC : Hid (∀ y : World, w1.grownBy y none → y.cell? ⟨p1, 0, none⟩ = some x1 ∧ y.cell? ⟨p1, 1, none⟩ = some y1) := fun y hy => ⟨(d1.grown hy (by simp)).cell 0, (d1.grown hy (by simp)).cell 1⟩
      have c1' : wr.cell? ⟨b1, o1 + k, none⟩ = some (.pointer (some ⟨p1, 0, none⟩)) := HR.out.2.cell c1 (by simp)
      have HX : Hid (Seg w1 x1 M[k].1 ∧ Seg w1 y1 M[k].2 ∧ M[k].1.length ≤ 64 ∧ M[k].2.length ≤ 256) := ⟨s1, t1, hok.2⟩
      have i0 : (0 : Int) ≤ (k : Int) := by omega
      have i1 : (k : Int) < (m : Int) := by omega
      have htk : (M.take k).length = k := by rw [List.length_take]; omega
      obtain ⟨L, hL⟩ : ∃ L, M.take k = L := ⟨_, rfl⟩
      have HK : Hid (M.take k = L ∧ L.length = k ∧ M.take (k + 1) = L ++ [M[k]]) := ⟨hL, by rw [← hL]; exact htk, by rw [← hL, List.take_add_one, List.getElem?_eq_getElem ka]; rfl⟩
      have HR2 : Hid (TRws wr w1.heap.size u11 L) := by rw [← hL]; exact HR.out.1
      obtain ⟨r, hr⟩ : ∃ r, M[k] = r := ⟨_, rfl⟩
      rw [hr] at HX HK
      clear d1 s1 t1 c1 hok htk hL hr
      go_wp2_with fail
      refine wp_region_noPanic ?_
      refine wp_region_hold 1000 (fun y => w1.grownBy y none) (by kernel_rfl) ?_
      have G0 : Hid (wr.grownBy wr.drew none) := grown_drew _ _
      generalize wr.drew = wd at G0 ⊢
      refine wpHold_take (i := 0) (v := _) ((grown_trans HR.out.2 G0.out)) rfl rfl (by kernel_rfl) (by kernel_rfl) (by kernel_rfl) (by kernel_rfl) (by kernel_rfl) (fun _ _ _ h => h) (by rfl) (fun wk hk => by obtain ⟨m0, m1⟩ := HC.out wk hk; go_simp; try rfl) ?_
      try simp only [Act.put, List.setIfInBounds_toArray, List.set_cons_zero, List.set_cons_succ]
      refine wpHold_take (i := 1) (v := _) ((grown_trans HR.out.2 G0.out)) rfl rfl (by kernel_rfl) (by kernel_rfl) (by kernel_rfl) (by kernel_rfl) (by kernel_rfl) (fun _ _ _ h => h) (by rfl) (fun wk hk => by obtain ⟨m0, m1⟩ := HC.out wk hk; go_simp; try rfl) ?_
      try simp only [Act.put, List.setIfInBounds_toArray, List.set_cons_zero, List.set_cons_succ]
      refine wpHold_take (i := 2) (v := _) ((grown_trans HR.out.2 G0.out)) rfl rfl (by kernel_rfl) (by kernel_rfl) (by kernel_rfl) (by kernel_rfl) (by kernel_rfl) (fun _ _ _ h => h) (by rfl) (fun wk hk => by obtain ⟨m0, m1⟩ := HC.out wk hk; go_simp; try rfl) ?_
      try simp only [Act.put, List.setIfInBounds_toArray, List.set_cons_zero, List.set_cons_succ]
      refine wpHold_take (i := 3) (v := _) ((grown_trans HR.out.2 G0.out)) rfl rfl (by kernel_rfl) (by kernel_rfl) (by kernel_rfl) (by kernel_rfl) (by kernel_rfl) (fun _ _ _ h => h) (by rfl) (fun wk hk => by obtain ⟨m0, m1⟩ := HC.out wk hk; go_simp; try rfl) ?_
      try simp only [Act.put, List.setIfInBounds_toArray, List.set_cons_zero, List.set_cons_succ]
      refine wpHold_take (i := 4) (v := _) ((grown_trans HR.out.2 G0.out)) rfl rfl (by kernel_rfl) (by kernel_rfl) (by kernel_rfl) (by kernel_rfl) (by kernel_rfl) (fun _ _ _ h => h) (by rfl) (fun wk hk => by obtain ⟨m0, m1⟩ := HC.out wk hk; go_simp; try rfl) ?_
      try simp only [Act.put, List.setIfInBounds_toArray, List.set_cons_zero, List.set_cons_succ]
      refine wpHold_take (i := 5) (v := _) ((grown_trans HR.out.2 G0.out)) rfl rfl (by kernel_rfl) (by kernel_rfl) (by kernel_rfl) (by kernel_rfl) (by kernel_rfl) (fun _ _ _ h => h) (by rfl) (fun wk hk => by obtain ⟨m0, m1⟩ := HC.out wk hk; go_simp; try rfl) ?_
      try simp only [Act.put, List.setIfInBounds_toArray, List.set_cons_zero, List.set_cons_succ]
      refine wpHold_take (i := 6) (v := _) ((grown_trans HR.out.2 G0.out)) rfl rfl (by kernel_rfl) (by kernel_rfl) (by kernel_rfl) (by kernel_rfl) (by kernel_rfl) (fun _ _ _ h => h) (by rfl) (fun wk hk => by obtain ⟨m0, m1⟩ := HC.out wk hk; go_simp; try rfl) ?_
      try simp only [Act.put, List.setIfInBounds_toArray, List.set_cons_zero, List.set_cons_succ]
      refine wpHold_take (i := 7) (v := _) ((grown_trans HR.out.2 G0.out)) rfl rfl (by kernel_rfl) (by kernel_rfl) (by kernel_rfl) (by kernel_rfl) (by kernel_rfl) (fun _ _ _ h => h) (by rfl) (fun wk hk => by obtain ⟨m0, m1⟩ := HC.out wk hk; go_simp; try rfl) ?_
      try simp only [Act.put, List.setIfInBounds_toArray, List.set_cons_zero, List.set_cons_succ]
      refine wpHold_take (i := 8) (v := _) ((grown_trans HR.out.2 G0.out)) rfl rfl (by kernel_rfl) (by kernel_rfl) (by kernel_rfl) (by kernel_rfl) (by kernel_rfl) (fun _ _ _ h => h) (by rfl) (fun wk hk => by obtain ⟨m0, m1⟩ := HC.out wk hk; go_simp; try rfl) ?_
      try simp only [Act.put, List.setIfInBounds_toArray, List.set_cons_zero, List.set_cons_succ]
      refine wpHold_one (i := 9) rfl (by kernel_rfl) (by rfl) (fun K hK => ?_)
      go_wp2_with (go_at_call 55; refine (ownRow55 x1 y1 r.1 r.2 wd (HX.out.1.grown (grown_trans HR.out.2 G0.out)) (HX.out.2.1.grown (grown_trans HR.out.2 G0.out)) (by have := HX.out.2.2.1; omega) (by have := HX.out.2.2.2; omega)).mono ?_)
      rintro e w2 ⟨p2, rfl, hp2, ⟨x2, y2, hb2, ox2, oy2, _⟩, g2⟩
      obtain ⟨ax, cx, ex⟩ := ox2.seg.shape
      obtain ⟨ay, cy, ey⟩ := oy2.seg.shape
      obtain ⟨nx, hnx⟩ : ∃ nx, r.1.length = nx := ⟨_, rfl⟩
      obtain ⟨ny, hny⟩ : ∃ ny, r.2.length = ny := ⟨_, rfl⟩
      rw [hnx] at ex
      rw [hny] at ey
      subst ex ey
      have G2 : Hid (wr.grownBy w2 none ∧ Blk w2 p2 45 #[.slice ax nx cx, .slice ay ny cy] ∧ Disk.Own w2 wr.heap.size (.slice ax nx cx) r.1 ∧ Disk.Own w2 wr.heap.size (.slice ay ny cy) r.2) := ⟨grown_trans G0.out g2, hb2, ox2.mono G0.out.size, oy2.mono G0.out.size⟩
      clear g2 hb2 ox2 oy2 hp2 hnx hny
      go_wp2_with fail
      refine hK.out _ _ (fun _ => grown_trans HR.out.2 G2.out.1) ?_
      clear hK K
      try simp only [Act.put, List.setIfInBounds_toArray, List.set_cons_zero, List.set_cons_succ]
      refine wpHold_take (i := 10) (v := _) ((grown_trans HR.out.2 G2.out.1)) rfl rfl (by kernel_rfl) (by kernel_rfl) (by kernel_rfl) (by kernel_rfl) (by kernel_rfl) (fun _ _ _ h => h) (by rfl) (fun wk hk => by obtain ⟨m0, m1⟩ := HC.out wk hk; go_simp; try rfl) ?_
      try simp only [Act.put, List.setIfInBounds_toArray, List.set_cons_zero, List.set_cons_succ]
      refine wpHold_one (i := 11) rfl (by kernel_rfl) (by rfl) (fun K hK => ?_)
      have q0 := G2.out.2.1.cell 0
      have q1 := G2.out.2.1.cell 1
      simp at q0 q1
      go_wp2_with fail
      refine hK.out _ _ (fun _ => grown_trans HR.out.2 G2.out.1) ?_
      clear hK K
      try simp only [Act.put, List.setIfInBounds_toArray, List.set_cons_zero, List.set_cons_succ]
      refine wpHold_one (i := 12) rfl (by kernel_rfl) (by rfl) (fun K hK => ?_)
      go_wp2_with fail
      obtain ⟨w3, hw3, H3⟩ := al w2 #[.slice ax nx cx, .slice ay ny cy] 45
      rw [hw3]
      clear hw3
      have G3 : Hid (wr.grownBy w3 none) := grown_trans G2.out.1 H3.out.2.1
      refine hK.out _ _ (fun _ => grown_trans HR.out.2 G3.out) ?_
      clear hK K
      try simp only [Act.put, List.setIfInBounds_toArray, List.set_cons_zero, List.set_cons_succ]
      refine wpHold_one (i := 13) rfl (by kernel_rfl) (by rfl) (fun K hK => ?_)
      have sz := HR.out.2.size
      refine appR_wp w3 _ _ rfl w1.heap.size u11 L _ (.slice ax nx cx) (.slice ay ny cy) r rfl rfl (HR2.out.grown G3.out) (vec_two w2 _ _ w3 H3.out.1) ((G2.out.2.2.1.grown H3.out.2.1).mono sz) ((G2.out.2.2.2.grown H3.out.2.1).mono sz) (by have := HK.out.2.1; omega) (by have := G3.out.size; omega) ?_
      intro a4 c4 w4 ht4 hg4
      have G4 : Hid (TRws w4 w1.heap.size (.slice a4 (k + 1) c4) (M.take (k + 1)) ∧ w1.grownBy w4 none) := by
        obtain ⟨q, hq, hq2⟩ := hg4
        refine ⟨?_, grown_new (grown_trans HR.out.2 G3.out) hq hq2⟩
        rw [HK.out.2.2, ← HK.out.2.1]
        exact ht4
      rw [HK.out.2.1]
      clear ht4 hg4 sz
      refine hK.out _ _ (fun _ => G4.out.2) ?_
      clear hK K
      try simp only [Act.put, List.setIfInBounds_toArray, List.set_cons_zero, List.set_cons_succ]
      refine wpHold_take (i := 14) (v := _) (G4.out.2) rfl rfl (by kernel_rfl) (by kernel_rfl) (by kernel_rfl) (by kernel_rfl) (by kernel_rfl) (fun _ _ _ h => h) (by rfl) (fun wk hk => by obtain ⟨m0, m1⟩ := HC.out wk hk; go_simp; try rfl) ?_
      try simp only [Act.put, List.setIfInBounds_toArray, List.set_cons_zero, List.set_cons_succ]
      refine wpHold_done (by kernel_rfl) ?_
      refine (‹∀ (a : Act) (w : World), Code.wp Try.prog _ _ a w → _› _ _ ?_)
      go_wp2_with fail
      go_roundw
      case rel => exact ⟨k + 1, by omega, by go_num, G4.out.1, G4.out.2⟩
      case measure => simp [intOf]; omega
    · have hkn : k = m := by omega
      subst hkn
      go_wp2_with fail
      go_ret
      have e : M.take k = M := List.take_of_length_le (by have := HL.out; omega)
      refine ⟨_, rfl, ?_, grown_trans G1.out HR.out.2⟩
      rw [HM.out.1, ← e]
      exact HR.out.1.mono G1.out.size
end Go.Proofs.Ytlehikdlkdbacaa
