/-
  Some of the chapter's rows.
-/
import Derived.Test.YtdfdlkpljgpckaaSn
import Derived.Test.YtdfdlkpljgpckaaPu
import Derived.Test.YtdfdlkpljgpckaaCrcAll
import Derived.Laws.MakeOwn
namespace Go.Proofs.Ytdfdlkpljgpckaa
open Go.RowKit Disk

theorem zeros_bad : code [0, 0, 0, 0, 0, 0, 0, 0, 0] = 141 := by decide +kernel
theorem two_torn : code [0, 0] = 140 := by decide +kernel
theorem sc_zeros : Sc [0, 0, 0, 0, 0, 0, 0, 0, 0] [] [0, 0, 0, 0, 0, 0, 0, 0, 0] := sc_nil _ (fun _ => by rw [zeros_bad]; decide)
theorem sc_a : Sc (frm 1 [97] ++ [0, 0]) [(1, [97])] [0, 0] := by
  refine ⟨by rw [flat_cons, flat_nil, List.append_nil]; rfl, fun f hf => ?_, fun _ => by rw [two_torn]; decide⟩
  simp at hf
  subst hf
  simp
theorem kinds_a : Kinds [(1, [97])] := fun f hf => by simp at hf; subst hf; simp
theorem kinds_no : ¬ Kinds [(256, [])] := fun h => by have := h (256, []) (by simp); simp at this
theorem flat_a : flat [(1, [97])] = frm 1 [97] := by rw [flat_cons, flat_nil, List.append_nil]; rfl

theorem made9 : madeCells (Value.int .u8 0).cells 9 = #[.int .u8 0, .int .u8 0, .int .u8 0, .int .u8 0, .int .u8 0, .int .u8 0, .int .u8 0, .int .u8 0, .int .u8 0] := by kernel_rfl
theorem make9 (w : World) : (Instr.makeSlice 22 (.int .i64 9) (.int .i64 9)).run Try.prog w = .ok (.slice (some ⟨w.heap.size, 0, none⟩) 9 9) (w.alloc (.cells #[.int .u8 0, .int .u8 0, .int .u8 0, .int .u8 0, .int .u8 0, .int .u8 0, .int .u8 0, .int .u8 0, .int .u8 0] 5)) := by
  obtain ⟨i0, hi, hz0, hz1, hz2⟩ := info_parts Try.info5
  have := run_makeSlice (P := Try.prog) w 22 5 i0 (.int .u8 0) Try.underlying22 hi hz0 .i64 .i64 9 9 (by omega) (by omega) (by rw [hz1]; decide) (by rw [hz2]; decide) (by omega)
  rw [hz1] at this
  rw [this, show (9 : Int).toNat * 1 = 9 from rfl, made9]
  rfl

set_option maxRecDepth 100000 in
set_option maxHeartbeats 4000000 in
theorem known7 (w : World) : Calls Try.prog 7 #[] w fun e w' => e = .returned (.bool true) ∧ w.grownBy w' none := by
  have cv1 := Crc.conv_const w #[.int .u8 97] 1 rfl
  have HS1 : Hid (Seg (w.alloc (.cells #[.int .u8 97] 5 (1, 2))) (.slice (some ⟨w.heap.size, 0, none⟩) 1 1) [97]) := seg_lit w #[.int .u8 97] (1, 2) [97] rfl (by simp)
  have HG1 : Hid (w.grownBy (w.alloc (.cells #[.int .u8 97] 5 (1, 2))) none) := World.grownBy_alloc w (.cells #[.int .u8 97] 5 (1, 2)) none
  obtain ⟨w1, hw1⟩ : ∃ w1, w.alloc (.cells #[.int .u8 97] 5 (1, 2)) = w1 := ⟨_, rfl⟩
  rw [hw1] at cv1 HS1 HG1
  clear hw1
  go_enter Try.func7, Try.ntmps7
  go_wp2_with fail
  refine (put8 1 _ [97] _ HS1.out (by simp)).mono ?_
  rintro e w2 ⟨g2, _, hok⟩
  obtain ⟨u, rfl, ou⟩ := hok kinds_a
  rw [flat_a] at ou
  have H2 : Hid (w.grownBy w2 none ∧ Disk.Own w2 w1.heap.size u (frm 1 [97])) := ⟨grown_trans HG1.out g2, ou⟩
  have hfl : (frm 1 [97]).length = 10 := frm_len 1 [97]
  have HFL : Hid _ := hfl
  obtain ⟨au, cu, hu⟩ := ou.seg.shape
  rw [hfl] at hu
  subst hu
  clear g2 hok ou hfl cv1
  go_wp2_with (at_builtin; refine app22 _ rfl _ _ rfl w2.heap.size _ [] _ (frm 1 [97]) rfl rfl (Disk.Own.nil _ _) H2.out.2.seg ?c0 (Nat.le_refl _) ?_)
  case c0 => rw [HFL.out]; simp
  intro v3 w3 o3 g3 l3
  have H3 : Hid (Disk.Own w3 w2.heap.size v3 (frm 1 [97]) ∧ w2.grownBy w3 none) := ⟨o3, g3⟩
  clear o3 g3 l3
  obtain ⟨a3, c3, hv3⟩ := H3.out.1.seg.shape
  rw [HFL.out] at hv3
  subst hv3
  go_wp2_with (at_builtin; refine app22 _ rfl _ _ rfl w2.heap.size _ (frm 1 [97]) _ [0, 0] rfl rfl (H3.out.1.grown (World.grownBy_alloc _ _ _)) (seg_lit w3 #[.int .u8 0, .int .u8 0] (0, 0) [0, 0] rfl (by simp)) ?d0 ?d1 ?_)
  case d0 => rw [HFL.out]; simp
  case d1 => have := H3.out.2.size; simp; omega
  intro v4 w4 o4 g4 l4
  have H4 : Hid (Disk.Own w4 w2.heap.size v4 (frm 1 [97] ++ [0, 0]) ∧ w2.grownBy w4 none) := ⟨o4, grown_new (grown_trans H3.out.2 (World.grownBy_alloc _ _ _)) g4 (fun x hx => (H3.out.1.lt x hx).1)⟩
  clear o4 g4 l4
  go_wp2_with fail
  refine (scan13 _ (frm 1 [97] ++ [0, 0]) _ H4.out.1.seg (by rw [List.length_append, HFL.out]; simp)).mono ?_
  rintro e w5 ⟨fs, R, vl, vs, hsc, rfl, hrow, g5⟩
  obtain ⟨rfl, rfl⟩ := sc_unique _ hsc sc_a
  rw [show ends [0, 0] = 140 from by unfold ends; rw [if_neg (by decide), two_torn], flat_a, HFL.out]
  have H5 : Hid (FRow w5 w4.heap.size vl vs [(1, [97])] ∧ w4.grownBy w5 none) := ⟨hrow, g5⟩
  obtain ⟨al, cl, hvl⟩ := hrow.shape
  subst hvl
  clear hsc hrow g5
  have mk9 := make9 w5
  go_wp2_with fail
  refine (scan13 _ [0, 0, 0, 0, 0, 0, 0, 0, 0] _ (seg_lit w5 #[.int .u8 0, .int .u8 0, .int .u8 0, .int .u8 0, .int .u8 0, .int .u8 0, .int .u8 0, .int .u8 0, .int .u8 0] (0, 0) [0, 0, 0, 0, 0, 0, 0, 0, 0] rfl (by simp)) (by simp)).mono ?_
  rintro e w6 ⟨fs, R, vz, vsz, hsc, rfl, hrow, g6⟩
  obtain ⟨rfl, rfl⟩ := sc_unique _ hsc sc_zeros
  rw [show ends [0, 0, 0, 0, 0, 0, 0, 0, 0] = 141 from by unfold ends; rw [if_neg (by decide), zeros_bad], show (flat []).length = 0 from rfl]
  have G6 : Hid (w5.grownBy w6 none) := grown_trans (World.grownBy_alloc _ _ _) g6
  obtain ⟨az, cz, hvz⟩ := hrow.shape
  subst hvz
  clear hsc hrow g6
  go_wp2_with fail
  refine (put8 256 _ [] _ (seg_nil _) (by simp)).mono ?_
  rintro e w7 ⟨g7, hbad, _⟩
  have he := hbad kinds_no
  subst he
  have G7 : Hid (w5.grownBy w7 none) := grown_trans G6.out g7
  clear g7 hbad
  go_wp2_with fail
  obtain ⟨g, c, e1, h1, h2, _⟩ := H5.out.1.cell 0 (by simp) (by rw [H5.out.1.len]; simp)
  have ho := H5.out.1.each 0 (by rw [H5.out.1.len]; simp) (by simp)
  obtain ⟨xa, xc, e2⟩ := ho.seg.shape
  rw [e2] at h2
  have HO : Hid (Seg w5 (.slice xa 1 xc) [97]) := by
    have := ho.seg
    rw [e2] at this
    exact this
  simp at e1 h1 h2
  obtain ⟨rfl, rfl⟩ := e1
  have HC5 : Hid (w5.cell? ⟨g, 0, none⟩ = some (.int .i64 1) ∧ w5.cell? ⟨g, 1, none⟩ = some (.slice xa 1 xc)) := ⟨h1, h2⟩
  clear h1 h2 ho e2
  obtain ⟨S, hS⟩ : ∃ S : ByteArray, ⟨(frm 1 [97]).toArray⟩ = S := ⟨_, rfl⟩
  have HSS : Hid _ := hS
  have HQ : Hid (∀ x : World, w7.grownBy x none → (convert 22 9 (.slice au 10 cu)).run Try.prog x = .ok (.string S) x ∧ x.cell? ⟨g, 0, none⟩ = some (.int .i64 1) ∧ x.cell? ⟨g, 1, none⟩ = some (.slice xa 1 xc) ∧ (convert 22 9 (.slice xa 1 xc)).run Try.prog x = .ok (.string ⟨#[97]⟩) x) := by
    intro x hx
    have g5 := grown_trans G7.out hx
    refine ⟨?_, g5.cell HC5.out.1 (by simp), g5.cell HC5.out.2 (by simp), seg_str (HO.out.grown g5)⟩
    rw [← hS]
    exact seg_str (H2.out.2.seg.grown (grown_trans H4.out.2 (grown_trans H5.out.2 g5)))
  clear hS
  refine wp_region_noPanic ?_
  refine wp_region_hold 1000 (fun x => w7.grownBy x none) (by kernel_rfl) ?_
  refine wpHold_take (i := 0) (v := _) (grown_drew _ _) rfl rfl (by kernel_rfl) (by kernel_rfl) (by kernel_rfl) (by kernel_rfl) (by kernel_rfl) (fun _ _ _ h => h) (by rfl) (fun wk hk => by obtain ⟨k0, k1, k2, k3⟩ := HQ.out wk hk; go_simp; try rfl) ?_
  try simp only [Act.put, List.setIfInBounds_toArray, List.set_cons_zero, List.set_cons_succ]
  refine wpHold_take (i := 1) (v := _) (grown_drew _ _) rfl rfl (by kernel_rfl) (by kernel_rfl) (by kernel_rfl) (by kernel_rfl) (by kernel_rfl) (fun _ _ _ h => h) (by rfl) (fun wk hk => by obtain ⟨k0, k1, k2, k3⟩ := HQ.out wk hk; go_simp; try rfl) ?_
  try simp only [Act.put, List.setIfInBounds_toArray, List.set_cons_zero, List.set_cons_succ]
  refine wpHold_one (i := 2) rfl (by kernel_rfl) (by rfl) (fun K hK => ?_)
  go_wp2_with fail
  refine hK.out _ _ (fun _ => grown_trans (grown_drew _ _) (World.grownBy_alloc _ _ _)) ?_
  clear hK K
  try simp only [Act.put, List.setIfInBounds_toArray, List.set_cons_zero, List.set_cons_succ]
  refine wpHold_one (i := 3) rfl (by kernel_rfl) (by rfl) (fun K hK => ?_)
  have cv2 : (convert 22 22 (.slice (some ⟨w7.heap.size, 0, none⟩) 1 1)).run Try.prog (w7.alloc (.cells #[.int .u8 97] 5)).drew = .ok (.slice (some ⟨w7.heap.size, 0, none⟩) 1 1) (w7.drew.alloc (.cells #[.int .u8 97] 5 (1, 2))) := Crc.conv_const w7.drew #[.int .u8 97] 1 rfl
  have HS8 : Hid (Seg (w7.drew.alloc (.cells #[.int .u8 97] 5 (1, 2))) (.slice (some ⟨w7.heap.size, 0, none⟩) 1 1) [97]) := seg_lit w7.drew #[.int .u8 97] (1, 2) [97] rfl (by simp)
  have HG8 : Hid (w7.grownBy (w7.drew.alloc (.cells #[.int .u8 97] 5 (1, 2))) none) := grown_trans (grown_drew _ _) (World.grownBy_alloc w7.drew (.cells #[.int .u8 97] 5 (1, 2)) none)
  obtain ⟨w8, hw8⟩ : ∃ w8, w7.drew.alloc (.cells #[.int .u8 97] 5 (1, 2)) = w8 := ⟨_, rfl⟩
  rw [hw8] at cv2 HS8 HG8
  clear hw8
  go_wp2_with fail
  refine hK.out _ _ (fun _ => HG8.out) ?_
  clear hK K cv2
  try simp only [Act.put, List.setIfInBounds_toArray, List.set_cons_zero, List.set_cons_succ]
  refine wpHold_one (i := 4) rfl (by kernel_rfl) (by rfl) (fun K hK => ?_)
  go_simp
  refine (refput11 1 _ [97] _ (by omega) HS8.out (by simp)).mono ?_
  rintro e w9 ⟨u9, rfl, o9, g9⟩
  have G9 : Hid (w7.grownBy w9 none) := grown_trans HG8.out g9
  have HQ9 : Hid (∀ x : World, w9.grownBy x none → (convert 22 9 u9).run Try.prog x = .ok (.string S) x) := fun x hx => by rw [← HSS.out]; exact seg_str (o9.seg.grown hx)
  clear o9 g9
  go_wp2_with fail
  refine hK.out _ _ (fun _ => G9.out) ?_
  clear hK K
  try simp only [Act.put, List.setIfInBounds_toArray, List.set_cons_zero, List.set_cons_succ]
  refine wpHold_one (i := 5) rfl (by kernel_rfl) (by rfl) (fun K hK => ?_)
  have cv := HQ9.out _ (grown_refl _ none)
  go_wp2_with fail
  refine hK.out _ _ (fun _ => G9.out) ?_
  clear hK K
  try simp only [Act.put, List.setIfInBounds_toArray, List.set_cons_zero, List.set_cons_succ]
  refine wpHold_take (i := 6) (v := _) (G9.out) rfl rfl (by kernel_rfl) (by kernel_rfl) (by kernel_rfl) (by kernel_rfl) (by kernel_rfl) (fun _ _ _ h => h) (by rfl) (fun wk hk => by obtain ⟨k0, k1, k2, k3⟩ := HQ.out wk hk; go_simp; try rfl) ?_
  try simp only [Act.put, List.setIfInBounds_toArray, List.set_cons_zero, List.set_cons_succ]
  refine wpHold_take (i := 7) (v := _) (G9.out) rfl rfl (by kernel_rfl) (by kernel_rfl) (by kernel_rfl) (by kernel_rfl) (by kernel_rfl) (fun _ _ _ h => h) (by rfl) (fun wk hk => by obtain ⟨k0, k1, k2, k3⟩ := HQ.out wk hk; go_simp; try rfl) ?_
  try simp only [Act.put, List.setIfInBounds_toArray, List.set_cons_zero, List.set_cons_succ]
  refine wpHold_take (i := 8) (v := _) (G9.out) rfl rfl (by kernel_rfl) (by kernel_rfl) (by kernel_rfl) (by kernel_rfl) (by kernel_rfl) (fun _ _ _ h => h) (by rfl) (fun wk hk => by obtain ⟨k0, k1, k2, k3⟩ := HQ.out wk hk; go_simp; try rfl) ?_
  try simp only [Act.put, List.setIfInBounds_toArray, List.set_cons_zero, List.set_cons_succ]
  refine wpHold_one (i := 9) rfl (by kernel_rfl) (by rfl) (fun K hK => ?_)
  go_simp
  refine (num10 0 _).mono ?_
  rintro e wz ⟨rfl, he⟩
  subst he
  go_wp2_with fail
  refine hK.out _ _ (fun _ => G9.out) ?_
  clear hK K
  try simp only [Act.put, List.setIfInBounds_toArray, List.set_cons_zero, List.set_cons_succ]
  refine wpHold_take (i := 10) (v := _) (G9.out) rfl rfl (by kernel_rfl) (by kernel_rfl) (by kernel_rfl) (by kernel_rfl) (by kernel_rfl) (fun _ _ _ h => h) (by rfl) (fun wk hk => by obtain ⟨k0, k1, k2, k3⟩ := HQ.out wk hk; go_simp; try rfl) ?_
  try simp only [Act.put, List.setIfInBounds_toArray, List.set_cons_zero, List.set_cons_succ]
  refine wpHold_take (i := 11) (v := _) (G9.out) rfl rfl (by kernel_rfl) (by kernel_rfl) (by kernel_rfl) (by kernel_rfl) (by kernel_rfl) (fun _ _ _ h => h) (by rfl) (fun wk hk => by obtain ⟨k0, k1, k2, k3⟩ := HQ.out wk hk; go_simp; try rfl) ?_
  try simp only [Act.put, List.setIfInBounds_toArray, List.set_cons_zero, List.set_cons_succ]
  refine wpHold_take (i := 12) (v := _) (G9.out) rfl rfl (by kernel_rfl) (by kernel_rfl) (by kernel_rfl) (by kernel_rfl) (by kernel_rfl) (fun _ _ _ h => h) (by rfl) (fun wk hk => by obtain ⟨k0, k1, k2, k3⟩ := HQ.out wk hk; go_simp; try rfl) ?_
  try simp only [Act.put, List.setIfInBounds_toArray, List.set_cons_zero, List.set_cons_succ]
  refine wpHold_take (i := 13) (v := _) (G9.out) rfl rfl (by kernel_rfl) (by kernel_rfl) (by kernel_rfl) (by kernel_rfl) (by kernel_rfl) (fun _ _ _ h => h) (by rfl) (fun wk hk => by obtain ⟨k0, k1, k2, k3⟩ := HQ.out wk hk; go_simp; try rfl) ?_
  try simp only [Act.put, List.setIfInBounds_toArray, List.set_cons_zero, List.set_cons_succ]
  refine wpHold_take (i := 14) (v := _) (G9.out) rfl rfl (by kernel_rfl) (by kernel_rfl) (by kernel_rfl) (by kernel_rfl) (by kernel_rfl) (fun _ _ _ h => h) (by rfl) (fun wk hk => by obtain ⟨k0, k1, k2, k3⟩ := HQ.out wk hk; go_simp; try rfl) ?_
  try simp only [Act.put, List.setIfInBounds_toArray, List.set_cons_zero, List.set_cons_succ]
  refine wpHold_take (i := 15) (v := _) (G9.out) rfl rfl (by kernel_rfl) (by kernel_rfl) (by kernel_rfl) (by kernel_rfl) (by kernel_rfl) (fun _ _ _ h => h) (by rfl) (fun wk hk => by obtain ⟨k0, k1, k2, k3⟩ := HQ.out wk hk; go_simp; try rfl) ?_
  try simp only [Act.put, List.setIfInBounds_toArray, List.set_cons_zero, List.set_cons_succ]
  refine wpHold_take (i := 16) (v := _) (G9.out) rfl rfl (by kernel_rfl) (by kernel_rfl) (by kernel_rfl) (by kernel_rfl) (by kernel_rfl) (fun _ _ _ h => h) (by rfl) (fun wk hk => by obtain ⟨k0, k1, k2, k3⟩ := HQ.out wk hk; go_simp; try rfl) ?_
  try simp only [Act.put, List.setIfInBounds_toArray, List.set_cons_zero, List.set_cons_succ]
  refine wpHold_take (i := 17) (v := _) (G9.out) rfl rfl (by kernel_rfl) (by kernel_rfl) (by kernel_rfl) (by kernel_rfl) (by kernel_rfl) (fun _ _ _ h => h) (by rfl) (fun wk hk => by obtain ⟨k0, k1, k2, k3⟩ := HQ.out wk hk; go_simp; try rfl) ?_
  try simp only [Act.put, List.setIfInBounds_toArray, List.set_cons_zero, List.set_cons_succ]
  refine wpHold_take (i := 18) (v := _) (G9.out) rfl rfl (by kernel_rfl) (by kernel_rfl) (by kernel_rfl) (by kernel_rfl) (by kernel_rfl) (fun _ _ _ h => h) (by rfl) (fun wk hk => by obtain ⟨k0, k1, k2, k3⟩ := HQ.out wk hk; go_simp; try rfl) ?_
  try simp only [Act.put, List.setIfInBounds_toArray, List.set_cons_zero, List.set_cons_succ]
  refine wpHold_take (i := 19) (v := _) (G9.out) rfl rfl (by kernel_rfl) (by kernel_rfl) (by kernel_rfl) (by kernel_rfl) (by kernel_rfl) (fun _ _ _ h => h) (by rfl) (fun wk hk => by obtain ⟨k0, k1, k2, k3⟩ := HQ.out wk hk; go_simp; try rfl) ?_
  try simp only [Act.put, List.setIfInBounds_toArray, List.set_cons_zero, List.set_cons_succ]
  refine wpHold_take (i := 20) (v := _) (G9.out) rfl rfl (by kernel_rfl) (by kernel_rfl) (by kernel_rfl) (by kernel_rfl) (by kernel_rfl) (fun _ _ _ h => h) (by rfl) (fun wk hk => by obtain ⟨k0, k1, k2, k3⟩ := HQ.out wk hk; go_simp; try rfl) ?_
  try simp only [Act.put, List.setIfInBounds_toArray, List.set_cons_zero, List.set_cons_succ]
  refine wpHold_take (i := 21) (v := _) (G9.out) rfl rfl (by kernel_rfl) (by kernel_rfl) (by kernel_rfl) (by kernel_rfl) (by kernel_rfl) (fun _ _ _ h => h) (by rfl) (fun wk hk => by obtain ⟨k0, k1, k2, k3⟩ := HQ.out wk hk; go_simp; try rfl) ?_
  try simp only [Act.put, List.setIfInBounds_toArray, List.set_cons_zero, List.set_cons_succ]
  refine wpHold_take (i := 22) (v := _) (G9.out) rfl rfl (by kernel_rfl) (by kernel_rfl) (by kernel_rfl) (by kernel_rfl) (by kernel_rfl) (fun _ _ _ h => h) (by rfl) (fun wk hk => by obtain ⟨k0, k1, k2, k3⟩ := HQ.out wk hk; go_simp; try rfl) ?_
  try simp only [Act.put, List.setIfInBounds_toArray, List.set_cons_zero, List.set_cons_succ]
  refine wpHold_take (i := 23) (v := _) (G9.out) rfl rfl (by kernel_rfl) (by kernel_rfl) (by kernel_rfl) (by kernel_rfl) (by kernel_rfl) (fun _ _ _ h => h) (by rfl) (fun wk hk => by obtain ⟨k0, k1, k2, k3⟩ := HQ.out wk hk; go_simp; try rfl) ?_
  try simp only [Act.put, List.setIfInBounds_toArray, List.set_cons_zero, List.set_cons_succ]
  refine wpHold_take (i := 24) (v := _) (G9.out) rfl rfl (by kernel_rfl) (by kernel_rfl) (by kernel_rfl) (by kernel_rfl) (by kernel_rfl) (fun _ _ _ h => h) (by rfl) (fun wk hk => by obtain ⟨k0, k1, k2, k3⟩ := HQ.out wk hk; go_simp; try rfl) ?_
  try simp only [Act.put, List.setIfInBounds_toArray, List.set_cons_zero, List.set_cons_succ]
  refine wpHold_take (i := 25) (v := _) (G9.out) rfl rfl (by kernel_rfl) (by kernel_rfl) (by kernel_rfl) (by kernel_rfl) (by kernel_rfl) (fun _ _ _ h => h) (by rfl) (fun wk hk => by obtain ⟨k0, k1, k2, k3⟩ := HQ.out wk hk; go_simp; try rfl) ?_
  try simp only [Act.put, List.setIfInBounds_toArray, List.set_cons_zero, List.set_cons_succ]
  refine wpHold_take (i := 26) (v := _) (G9.out) rfl rfl (by kernel_rfl) (by kernel_rfl) (by kernel_rfl) (by kernel_rfl) (by kernel_rfl) (fun _ _ _ h => h) (by rfl) (fun wk hk => by obtain ⟨k0, k1, k2, k3⟩ := HQ.out wk hk; go_simp; try rfl) ?_
  try simp only [Act.put, List.setIfInBounds_toArray, List.set_cons_zero, List.set_cons_succ]
  refine wpHold_take (i := 27) (v := _) (G9.out) rfl rfl (by kernel_rfl) (by kernel_rfl) (by kernel_rfl) (by kernel_rfl) (by kernel_rfl) (fun _ _ _ h => h) (by rfl) (fun wk hk => by obtain ⟨k0, k1, k2, k3⟩ := HQ.out wk hk; go_simp; try rfl) ?_
  try simp only [Act.put, List.setIfInBounds_toArray, List.set_cons_zero, List.set_cons_succ]
  refine wpHold_take (i := 28) (v := _) (G9.out) rfl rfl (by kernel_rfl) (by kernel_rfl) (by kernel_rfl) (by kernel_rfl) (by kernel_rfl) (fun _ _ _ h => h) (by rfl) (fun wk hk => by obtain ⟨k0, k1, k2, k3⟩ := HQ.out wk hk; go_simp; try rfl) ?_
  try simp only [Act.put, List.setIfInBounds_toArray, List.set_cons_zero, List.set_cons_succ]
  refine wpHold_take (i := 29) (v := _) (G9.out) rfl rfl (by kernel_rfl) (by kernel_rfl) (by kernel_rfl) (by kernel_rfl) (by kernel_rfl) (fun _ _ _ h => h) (by rfl) (fun wk hk => by obtain ⟨k0, k1, k2, k3⟩ := HQ.out wk hk; go_simp; try rfl) ?_
  try simp only [Act.put, List.setIfInBounds_toArray, List.set_cons_zero, List.set_cons_succ]
  refine wpHold_take (i := 30) (v := _) (G9.out) rfl rfl (by kernel_rfl) (by kernel_rfl) (by kernel_rfl) (by kernel_rfl) (by kernel_rfl) (fun _ _ _ h => h) (by rfl) (fun wk hk => by obtain ⟨k0, k1, k2, k3⟩ := HQ.out wk hk; go_simp; try rfl) ?_
  try simp only [Act.put, List.setIfInBounds_toArray, List.set_cons_zero, List.set_cons_succ]
  refine wpHold_take (i := 31) (v := _) (G9.out) rfl rfl (by kernel_rfl) (by kernel_rfl) (by kernel_rfl) (by kernel_rfl) (by kernel_rfl) (fun _ _ _ h => h) (by rfl) (fun wk hk => by obtain ⟨k0, k1, k2, k3⟩ := HQ.out wk hk; go_simp; try rfl) ?_
  try simp only [Act.put, List.setIfInBounds_toArray, List.set_cons_zero, List.set_cons_succ]
  refine wpHold_take (i := 32) (v := _) (G9.out) rfl rfl (by kernel_rfl) (by kernel_rfl) (by kernel_rfl) (by kernel_rfl) (by kernel_rfl) (fun _ _ _ h => h) (by rfl) (fun wk hk => by obtain ⟨k0, k1, k2, k3⟩ := HQ.out wk hk; go_simp; try rfl) ?_
  try simp only [Act.put, List.setIfInBounds_toArray, List.set_cons_zero, List.set_cons_succ]
  refine wpHold_take (i := 33) (v := _) (G9.out) rfl rfl (by kernel_rfl) (by kernel_rfl) (by kernel_rfl) (by kernel_rfl) (by kernel_rfl) (fun _ _ _ h => h) (by rfl) (fun wk hk => by obtain ⟨k0, k1, k2, k3⟩ := HQ.out wk hk; go_simp; try rfl) ?_
  try simp only [Act.put, List.setIfInBounds_toArray, List.set_cons_zero, List.set_cons_succ]
  refine wpHold_take (i := 34) (v := _) (G9.out) rfl rfl (by kernel_rfl) (by kernel_rfl) (by kernel_rfl) (by kernel_rfl) (by kernel_rfl) (fun _ _ _ h => h) (by rfl) (fun wk hk => by obtain ⟨k0, k1, k2, k3⟩ := HQ.out wk hk; go_simp; try rfl) ?_
  try simp only [Act.put, List.setIfInBounds_toArray, List.set_cons_zero, List.set_cons_succ]
  refine wpHold_take (i := 35) (v := _) (G9.out) rfl rfl (by kernel_rfl) (by kernel_rfl) (by kernel_rfl) (by kernel_rfl) (by kernel_rfl) (fun _ _ _ h => h) (by rfl) (fun wk hk => by obtain ⟨k0, k1, k2, k3⟩ := HQ.out wk hk; go_simp; try rfl) ?_
  try simp only [Act.put, List.setIfInBounds_toArray, List.set_cons_zero, List.set_cons_succ]
  refine wpHold_take (i := 36) (v := _) (G9.out) rfl rfl (by kernel_rfl) (by kernel_rfl) (by kernel_rfl) (by kernel_rfl) (by kernel_rfl) (fun _ _ _ h => h) (by rfl) (fun wk hk => by obtain ⟨k0, k1, k2, k3⟩ := HQ.out wk hk; go_simp; try rfl) ?_
  try simp only [Act.put, List.setIfInBounds_toArray, List.set_cons_zero, List.set_cons_succ]
  refine wpHold_take (i := 37) (v := _) (G9.out) rfl rfl (by kernel_rfl) (by kernel_rfl) (by kernel_rfl) (by kernel_rfl) (by kernel_rfl) (fun _ _ _ h => h) (by rfl) (fun wk hk => by obtain ⟨k0, k1, k2, k3⟩ := HQ.out wk hk; go_simp; try rfl) ?_
  try simp only [Act.put, List.setIfInBounds_toArray, List.set_cons_zero, List.set_cons_succ]
  refine wpHold_one (i := 38) rfl (by kernel_rfl) (by rfl) (fun K hK => ?_)
  go_simp
  refine (num10 140 _).mono ?_
  rintro e wz ⟨rfl, he⟩
  subst he
  go_wp2_with fail
  refine hK.out _ _ (fun _ => G9.out) ?_
  clear hK K
  try simp only [Act.put, List.setIfInBounds_toArray, List.set_cons_zero, List.set_cons_succ]
  refine wpHold_take (i := 39) (v := _) (G9.out) rfl rfl (by kernel_rfl) (by kernel_rfl) (by kernel_rfl) (by kernel_rfl) (by kernel_rfl) (fun _ _ _ h => h) (by rfl) (fun wk hk => by obtain ⟨k0, k1, k2, k3⟩ := HQ.out wk hk; go_simp; try rfl) ?_
  try simp only [Act.put, List.setIfInBounds_toArray, List.set_cons_zero, List.set_cons_succ]
  refine wpHold_take (i := 40) (v := _) (G9.out) rfl rfl (by kernel_rfl) (by kernel_rfl) (by kernel_rfl) (by kernel_rfl) (by kernel_rfl) (fun _ _ _ h => h) (by rfl) (fun wk hk => by obtain ⟨k0, k1, k2, k3⟩ := HQ.out wk hk; go_simp; try rfl) ?_
  try simp only [Act.put, List.setIfInBounds_toArray, List.set_cons_zero, List.set_cons_succ]
  refine wpHold_take (i := 41) (v := _) (G9.out) rfl rfl (by kernel_rfl) (by kernel_rfl) (by kernel_rfl) (by kernel_rfl) (by kernel_rfl) (fun _ _ _ h => h) (by rfl) (fun wk hk => by obtain ⟨k0, k1, k2, k3⟩ := HQ.out wk hk; go_simp; try rfl) ?_
  try simp only [Act.put, List.setIfInBounds_toArray, List.set_cons_zero, List.set_cons_succ]
  refine wpHold_take (i := 42) (v := _) (G9.out) rfl rfl (by kernel_rfl) (by kernel_rfl) (by kernel_rfl) (by kernel_rfl) (by kernel_rfl) (fun _ _ _ h => h) (by rfl) (fun wk hk => by obtain ⟨k0, k1, k2, k3⟩ := HQ.out wk hk; go_simp; try rfl) ?_
  try simp only [Act.put, List.setIfInBounds_toArray, List.set_cons_zero, List.set_cons_succ]
  refine wpHold_take (i := 43) (v := _) (G9.out) rfl rfl (by kernel_rfl) (by kernel_rfl) (by kernel_rfl) (by kernel_rfl) (by kernel_rfl) (fun _ _ _ h => h) (by rfl) (fun wk hk => by obtain ⟨k0, k1, k2, k3⟩ := HQ.out wk hk; go_simp; try rfl) ?_
  try simp only [Act.put, List.setIfInBounds_toArray, List.set_cons_zero, List.set_cons_succ]
  refine wpHold_take (i := 44) (v := _) (G9.out) rfl rfl (by kernel_rfl) (by kernel_rfl) (by kernel_rfl) (by kernel_rfl) (by kernel_rfl) (fun _ _ _ h => h) (by rfl) (fun wk hk => by obtain ⟨k0, k1, k2, k3⟩ := HQ.out wk hk; go_simp; try rfl) ?_
  try simp only [Act.put, List.setIfInBounds_toArray, List.set_cons_zero, List.set_cons_succ]
  refine wpHold_take (i := 45) (v := _) (G9.out) rfl rfl (by kernel_rfl) (by kernel_rfl) (by kernel_rfl) (by kernel_rfl) (by kernel_rfl) (fun _ _ _ h => h) (by rfl) (fun wk hk => by obtain ⟨k0, k1, k2, k3⟩ := HQ.out wk hk; go_simp; try rfl) ?_
  try simp only [Act.put, List.setIfInBounds_toArray, List.set_cons_zero, List.set_cons_succ]
  refine wpHold_take (i := 46) (v := _) (G9.out) rfl rfl (by kernel_rfl) (by kernel_rfl) (by kernel_rfl) (by kernel_rfl) (by kernel_rfl) (fun _ _ _ h => h) (by rfl) (fun wk hk => by obtain ⟨k0, k1, k2, k3⟩ := HQ.out wk hk; go_simp; try rfl) ?_
  try simp only [Act.put, List.setIfInBounds_toArray, List.set_cons_zero, List.set_cons_succ]
  refine wpHold_one (i := 47) rfl (by kernel_rfl) (by rfl) (fun K hK => ?_)
  go_simp
  refine (num10 141 _).mono ?_
  rintro e wz ⟨rfl, he⟩
  subst he
  go_wp2_with fail
  refine hK.out _ _ (fun _ => G9.out) ?_
  clear hK K
  try simp only [Act.put, List.setIfInBounds_toArray, List.set_cons_zero, List.set_cons_succ]
  refine wpHold_take (i := 48) (v := _) (G9.out) rfl rfl (by kernel_rfl) (by kernel_rfl) (by kernel_rfl) (by kernel_rfl) (by kernel_rfl) (fun _ _ _ h => h) (by rfl) (fun wk hk => by obtain ⟨k0, k1, k2, k3⟩ := HQ.out wk hk; go_simp; try rfl) ?_
  try simp only [Act.put, List.setIfInBounds_toArray, List.set_cons_zero, List.set_cons_succ]
  refine wpHold_take (i := 49) (v := _) (G9.out) rfl rfl (by kernel_rfl) (by kernel_rfl) (by kernel_rfl) (by kernel_rfl) (by kernel_rfl) (fun _ _ _ h => h) (by rfl) (fun wk hk => by obtain ⟨k0, k1, k2, k3⟩ := HQ.out wk hk; go_simp; try rfl) ?_
  try simp only [Act.put, List.setIfInBounds_toArray, List.set_cons_zero, List.set_cons_succ]
  refine wpHold_take (i := 50) (v := _) (G9.out) rfl rfl (by kernel_rfl) (by kernel_rfl) (by kernel_rfl) (by kernel_rfl) (by kernel_rfl) (fun _ _ _ h => h) (by rfl) (fun wk hk => by obtain ⟨k0, k1, k2, k3⟩ := HQ.out wk hk; go_simp; try rfl) ?_
  try simp only [Act.put, List.setIfInBounds_toArray, List.set_cons_zero, List.set_cons_succ]
  refine wpHold_take (i := 51) (v := _) (G9.out) rfl rfl (by kernel_rfl) (by kernel_rfl) (by kernel_rfl) (by kernel_rfl) (by kernel_rfl) (fun _ _ _ h => h) (by rfl) (fun wk hk => by obtain ⟨k0, k1, k2, k3⟩ := HQ.out wk hk; go_simp; try rfl) ?_
  try simp only [Act.put, List.setIfInBounds_toArray, List.set_cons_zero, List.set_cons_succ]
  refine wpHold_one (i := 52) rfl (by kernel_rfl) (by rfl) (fun K hK => ?_)
  go_simp
  refine (num10 2 _).mono ?_
  rintro e wz ⟨rfl, he⟩
  subst he
  go_wp2_with fail
  refine hK.out _ _ (fun _ => G9.out) ?_
  clear hK K
  try simp only [Act.put, List.setIfInBounds_toArray, List.set_cons_zero, List.set_cons_succ]
  refine wpHold_take (i := 53) (v := _) (G9.out) rfl rfl (by kernel_rfl) (by kernel_rfl) (by kernel_rfl) (by kernel_rfl) (by kernel_rfl) (fun _ _ _ h => h) (by rfl) (fun wk hk => by obtain ⟨k0, k1, k2, k3⟩ := HQ.out wk hk; go_simp; try rfl) ?_
  try simp only [Act.put, List.setIfInBounds_toArray, List.set_cons_zero, List.set_cons_succ]
  refine wpHold_take (i := 54) (v := _) (G9.out) rfl rfl (by kernel_rfl) (by kernel_rfl) (by kernel_rfl) (by kernel_rfl) (by kernel_rfl) (fun _ _ _ h => h) (by rfl) (fun wk hk => by obtain ⟨k0, k1, k2, k3⟩ := HQ.out wk hk; go_simp; try rfl) ?_
  try simp only [Act.put, List.setIfInBounds_toArray, List.set_cons_zero, List.set_cons_succ]
  refine wpHold_take (i := 55) (v := _) (G9.out) rfl rfl (by kernel_rfl) (by kernel_rfl) (by kernel_rfl) (by kernel_rfl) (by kernel_rfl) (fun _ _ _ h => h) (by rfl) (fun wk hk => by obtain ⟨k0, k1, k2, k3⟩ := HQ.out wk hk; go_simp; try rfl) ?_
  try simp only [Act.put, List.setIfInBounds_toArray, List.set_cons_zero, List.set_cons_succ]
  refine wpHold_one (i := 56) rfl (by kernel_rfl) (by rfl) (fun K hK => ?_)
  go_simp
  refine (size9s none 0 0 _ (by omega)).mono ?_
  rintro e wz ⟨rfl, he⟩
  subst he
  go_wp2_with fail
  refine hK.out _ _ (fun _ => G9.out) ?_
  clear hK K
  try simp only [Act.put, List.setIfInBounds_toArray, List.set_cons_zero, List.set_cons_succ]
  refine wpHold_take (i := 57) (v := _) (G9.out) rfl rfl (by kernel_rfl) (by kernel_rfl) (by kernel_rfl) (by kernel_rfl) (by kernel_rfl) (fun _ _ _ h => h) (by rfl) (fun wk hk => by obtain ⟨k0, k1, k2, k3⟩ := HQ.out wk hk; go_simp; try rfl) ?_
  try simp only [Act.put, List.setIfInBounds_toArray, List.set_cons_zero, List.set_cons_succ]
  refine wpHold_take (i := 58) (v := _) (G9.out) rfl rfl (by kernel_rfl) (by kernel_rfl) (by kernel_rfl) (by kernel_rfl) (by kernel_rfl) (fun _ _ _ h => h) (by rfl) (fun wk hk => by obtain ⟨k0, k1, k2, k3⟩ := HQ.out wk hk; go_simp; try rfl) ?_
  try simp only [Act.put, List.setIfInBounds_toArray, List.set_cons_zero, List.set_cons_succ]
  refine wpHold_take (i := 59) (v := _) (G9.out) rfl rfl (by kernel_rfl) (by kernel_rfl) (by kernel_rfl) (by kernel_rfl) (by kernel_rfl) (fun _ _ _ h => h) (by rfl) (fun wk hk => by obtain ⟨k0, k1, k2, k3⟩ := HQ.out wk hk; go_simp; try rfl) ?_
  try simp only [Act.put, List.setIfInBounds_toArray, List.set_cons_zero]
  refine wpHold_done (by kernel_rfl) ?_
  refine (‹∀ (a : Act) (w : World), Code.wp Try.prog _ _ a w → _› _ _ ?_)
  go_wp2_with fail
  go_ret
  exact ⟨rfl, grown_trans H2.out.1 (grown_trans H4.out.2 (grown_trans H5.out.2 (grown_trans G7.out G9.out)))⟩
end Go.Proofs.Ytdfdlkpljgpckaa
