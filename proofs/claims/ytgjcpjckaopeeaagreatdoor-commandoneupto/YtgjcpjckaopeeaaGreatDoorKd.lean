/-
  Whether a command fits its kind.
-/
import Derived.Test.YtgjcpjckaopeeaaGreatDoorKc
namespace Go.Proofs.YtgjcpjckaopeeaaGreatDoor
open Go.RowKit Disk
open _root_.Go.Proofs.YtgjcpjckaopeeaaGreatDoor.Calls

set_option maxRecDepth 100000 in
set_option maxHeartbeats 4000000 in
theorem fits28_1 (ao : Option Addr) (n cp : Nat) (tk ss nb mk : Int) (l : List POp) (w : World) (hl : Ops w (.slice ao n cp) l) : Calls Tryz.prog 28 #[cmdV (.slice ao n cp) (⟨1, tk, ss, nb, mk, l⟩ : PCmd)] w fun e w' => e = .returned (.bool (decide (1 ≤ tk) && decide ((⟨1, tk, ss, nb, mk, l⟩ : PCmd) = namedC (⟨1, tk, ss, nb, mk, l⟩ : PCmd)))) ∧ w.grownBy w' none := by
  have HL : Hid (Ops w (.slice ao n cp) l) := hl
  clear hl
  simp only [cmdV]
  have i0 := ix0
  go_enter Tryz.func28, Tryz.ntmps28
  go_wp2_with fail
  obtain ⟨W, hW, HW⟩ := al1 w #[.int .i64 1, .int .i64 tk, .int .i64 ss, .int .i64 nb, .int .i64 mk, .slice ao n cp] 27
  rw [hW]
  clear hW
  refine (numbers30_1 w.heap.size (.slice ao n cp) (⟨1, tk, ss, nb, mk, l⟩ : PCmd) W HW.out.1 rfl).mono ?_
  rintro e w1 ⟨rfl, gg1⟩
  have H1 : Hid (Blk w1 w.heap.size 27 #[.int .i64 1, .int .i64 tk, .int .i64 ss, .int .i64 nb, .int .i64 mk, .slice ao n cp] ∧ w.grownBy w1 none) := ⟨HW.out.1.grown gg1 (by simp), grown_trans HW.out.2.1 gg1⟩
  clear gg1 HW
  try unfold pt
  have c0 := H1.out.1.cell 0
  have c1 := H1.out.1.cell 1
  have c3 := H1.out.1.cell 3
  have c4 := H1.out.1.cell 4
  simp at c0 c1 c3 c4
  by_cases hi : tk < 1
  · have q : (tk < 1) = True := by simp [hi]
    have N : Hid (tk < 1) := hi
    clear hi
    go_wp2_with fail
    go_ret
    refine ⟨?_, H1.out.2⟩
    have : ¬ (1 ≤ tk) := by have := N.out; omega
    simp [this]
  have q : (tk < 1) = False := by simp; omega
  have N : Hid (1 ≤ tk) := by unfold Hid; omega
  clear hi
  go_wp2_with fail
  have HC : Hid (∀ y : World, w1.grownBy y none → y.cell? ⟨w.heap.size, 0, none⟩ = some (.int .i64 1) ∧ y.cell? ⟨w.heap.size, 1, none⟩ = some (.int .i64 tk) ∧ y.cell? ⟨w.heap.size, 2, none⟩ = some (.int .i64 ss) ∧ y.cell? ⟨w.heap.size, 3, none⟩ = some (.int .i64 nb) ∧ y.cell? ⟨w.heap.size, 4, none⟩ = some (.int .i64 mk) ∧ y.cell? ⟨w.heap.size, 5, none⟩ = some (.slice ao n cp)) := fun y hy => by
    have hb := H1.out.1.grown hy (by simp)
    exact ⟨hb.cell 0, hb.cell 1, hb.cell 2, hb.cell 3, hb.cell 4, hb.cell 5⟩
  clear c0 c1 c3 c4 i0
  refine wp_region_noPanic ?_
  refine wp_region_hold 1000 (fun y => w1.grownBy y none) (by kernel_rfl) ?_
  have G0 : Hid (w1.grownBy w1.drew none) := grown_drew _ _
  generalize w1.drew = wd at G0 ⊢
  refine wt (i := 0) (G0.out) rfl rfl (fun wk hk => by obtain ⟨m0, m1, m2, m3, m4, m5⟩ := HC.out wk hk; go_simp; try rfl) ?_
  try simp only [pN]
  refine wt (i := 1) (G0.out) rfl rfl (fun wk hk => by obtain ⟨m0, m1, m2, m3, m4, m5⟩ := HC.out wk hk; go_simp; try rfl) ?_
  try simp only [pN]
  refine wpHold_one (i := 2) rfl (by kernel_rfl) (by rfl) (fun K hK => ?_)
  go_wp2_with fail
  refine (named61 (.slice ao n cp) (⟨1, tk, ss, nb, mk, l⟩ : PCmd) wd ((HL.out.grown H1.out.2).grown G0.out)).mono ?_
  rintro e w2 ⟨rfl, g2'⟩
  have G2 : Hid (w1.grownBy w2 none) := grown_trans G0.out g2'
  clear g2'
  unfold cmdV
  go_wp2_with fail
  refine hK.out _ _ (fun _ => G2.out) ?_
  clear hK K
  try simp only [pN]
  refine wpHold_one (i := 3) rfl (by kernel_rfl) (by rfl) (fun K hK => ?_)
  go_wp2_with fail
  refine (same24 (.slice ao n cp) (novV (.slice ao n cp) (⟨1, tk, ss, nb, mk, l⟩ : PCmd)) (⟨1, tk, ss, nb, mk, l⟩ : PCmd) (namedC (⟨1, tk, ss, nb, mk, l⟩ : PCmd)) w2 ((HL.out.grown H1.out.2).grown G2.out) (nov_ops (c := (⟨1, tk, ss, nb, mk, l⟩ : PCmd)) ((HL.out.grown H1.out.2).grown G2.out))).mono ?_
  rintro e w3 ⟨rfl, g3'⟩
  have G3 : Hid (w1.grownBy w3 none) := grown_trans G2.out g3'
  clear g3'
  go_wp2_with fail
  refine hK.out _ _ (fun _ => G3.out) ?_
  clear hK K
  try simp only [pN]
  refine wt (i := 4) (G3.out) rfl rfl (fun wk hk => by obtain ⟨m0, m1, m2, m3, m4, m5⟩ := HC.out wk hk; go_simp; try rfl) ?_
  try simp only [pN]
  refine wpHold_done (by kernel_rfl) ?_
  refine (‹∀ (a : Act) (w : World), Code.wp Tryz.prog _ _ a w → _› _ _ ?_)
  go_wp2_with fail
  go_ret
  refine ⟨?_, grown_trans H1.out.2 G3.out⟩
  have := N.out; simp [this]

set_option maxRecDepth 100000 in
set_option maxHeartbeats 4000000 in
theorem fits28_2 (ao : Option Addr) (n cp : Nat) (tk ss nb mk : Int) (l : List POp) (w : World) (hl : Ops w (.slice ao n cp) l) : Calls Tryz.prog 28 #[cmdV (.slice ao n cp) (⟨2, tk, ss, nb, mk, l⟩ : PCmd)] w fun e w' => e = .returned (.bool (decide (1 ≤ ss) && decide (0 ≤ mk ∧ mk < nb) && decide ((⟨2, tk, ss, nb, mk, l⟩ : PCmd) = namedC (⟨2, tk, ss, nb, mk, l⟩ : PCmd)))) ∧ w.grownBy w' none := by
  have HL : Hid (Ops w (.slice ao n cp) l) := hl
  clear hl
  simp only [cmdV]
  have i0 := ix0
  go_enter Tryz.func28, Tryz.ntmps28
  go_wp2_with fail
  obtain ⟨W, hW, HW⟩ := al1 w #[.int .i64 2, .int .i64 tk, .int .i64 ss, .int .i64 nb, .int .i64 mk, .slice ao n cp] 27
  rw [hW]
  clear hW
  refine (numbers30_2 w.heap.size (.slice ao n cp) (⟨2, tk, ss, nb, mk, l⟩ : PCmd) W HW.out.1 rfl).mono ?_
  rintro e w1 ⟨rfl, gg1⟩
  have H1 : Hid (Blk w1 w.heap.size 27 #[.int .i64 2, .int .i64 tk, .int .i64 ss, .int .i64 nb, .int .i64 mk, .slice ao n cp] ∧ w.grownBy w1 none) := ⟨HW.out.1.grown gg1 (by simp), grown_trans HW.out.2.1 gg1⟩
  clear gg1 HW
  try unfold pt
  have c0 := H1.out.1.cell 0
  have c1 := H1.out.1.cell 2
  have c3 := H1.out.1.cell 3
  have c4 := H1.out.1.cell 4
  simp at c0 c1 c3 c4
  by_cases hi : ss < 1
  · have q : (ss < 1) = True := by simp [hi]
    have N : Hid (ss < 1) := hi
    clear hi
    go_wp2_with fail
    go_ret
    refine ⟨?_, H1.out.2⟩
    have : ¬ (1 ≤ ss) := by have := N.out; omega
    simp [this]
  have q : (ss < 1) = False := by simp; omega
  have N : Hid (1 ≤ ss) := by unfold Hid; omega
  clear hi
  by_cases hm : mk < 0
  · have q2 : (mk < 0) = True := by simp [hm]
    have N2 : Hid (mk < 0) := hm
    clear hm
    go_wp2_with fail
    go_ret
    refine ⟨?_, H1.out.2⟩
    have : ¬ (0 ≤ mk ∧ mk < nb) := by have := N2.out; omega
    simp [this]
  have q2 : (mk < 0) = False := by simp; omega
  have N2 : Hid (0 ≤ mk) := by unfold Hid; omega
  clear hm
  by_cases hm : nb ≤ mk
  · have q3 : (nb ≤ mk) = True := by simp [hm]
    have N3 : Hid (nb ≤ mk) := hm
    clear hm
    go_wp2_with fail
    go_ret
    refine ⟨?_, H1.out.2⟩
    have : ¬ (0 ≤ mk ∧ mk < nb) := by have := N3.out; omega
    simp [this]
  have q3 : (nb ≤ mk) = False := by simp; omega
  have N3 : Hid (mk < nb) := by unfold Hid; omega
  clear hm
  go_wp2_with fail
  have HC : Hid (∀ y : World, w1.grownBy y none → y.cell? ⟨w.heap.size, 0, none⟩ = some (.int .i64 2) ∧ y.cell? ⟨w.heap.size, 1, none⟩ = some (.int .i64 tk) ∧ y.cell? ⟨w.heap.size, 2, none⟩ = some (.int .i64 ss) ∧ y.cell? ⟨w.heap.size, 3, none⟩ = some (.int .i64 nb) ∧ y.cell? ⟨w.heap.size, 4, none⟩ = some (.int .i64 mk) ∧ y.cell? ⟨w.heap.size, 5, none⟩ = some (.slice ao n cp)) := fun y hy => by
    have hb := H1.out.1.grown hy (by simp)
    exact ⟨hb.cell 0, hb.cell 1, hb.cell 2, hb.cell 3, hb.cell 4, hb.cell 5⟩
  clear c0 c1 c3 c4 i0
  refine wp_region_noPanic ?_
  refine wp_region_hold 1000 (fun y => w1.grownBy y none) (by kernel_rfl) ?_
  have G0 : Hid (w1.grownBy w1.drew none) := grown_drew _ _
  generalize w1.drew = wd at G0 ⊢
  refine wt (i := 0) (G0.out) rfl rfl (fun wk hk => by obtain ⟨m0, m1, m2, m3, m4, m5⟩ := HC.out wk hk; go_simp; try rfl) ?_
  try simp only [pN]
  refine wt (i := 1) (G0.out) rfl rfl (fun wk hk => by obtain ⟨m0, m1, m2, m3, m4, m5⟩ := HC.out wk hk; go_simp; try rfl) ?_
  try simp only [pN]
  refine wpHold_one (i := 2) rfl (by kernel_rfl) (by rfl) (fun K hK => ?_)
  go_wp2_with fail
  refine (named61 (.slice ao n cp) (⟨2, tk, ss, nb, mk, l⟩ : PCmd) wd ((HL.out.grown H1.out.2).grown G0.out)).mono ?_
  rintro e w2 ⟨rfl, g2'⟩
  have G2 : Hid (w1.grownBy w2 none) := grown_trans G0.out g2'
  clear g2'
  unfold cmdV
  go_wp2_with fail
  refine hK.out _ _ (fun _ => G2.out) ?_
  clear hK K
  try simp only [pN]
  refine wpHold_one (i := 3) rfl (by kernel_rfl) (by rfl) (fun K hK => ?_)
  go_wp2_with fail
  refine (same24 (.slice ao n cp) (novV (.slice ao n cp) (⟨2, tk, ss, nb, mk, l⟩ : PCmd)) (⟨2, tk, ss, nb, mk, l⟩ : PCmd) (namedC (⟨2, tk, ss, nb, mk, l⟩ : PCmd)) w2 ((HL.out.grown H1.out.2).grown G2.out) (nov_ops (c := (⟨2, tk, ss, nb, mk, l⟩ : PCmd)) ((HL.out.grown H1.out.2).grown G2.out))).mono ?_
  rintro e w3 ⟨rfl, g3'⟩
  have G3 : Hid (w1.grownBy w3 none) := grown_trans G2.out g3'
  clear g3'
  go_wp2_with fail
  refine hK.out _ _ (fun _ => G3.out) ?_
  clear hK K
  try simp only [pN]
  refine wt (i := 4) (G3.out) rfl rfl (fun wk hk => by obtain ⟨m0, m1, m2, m3, m4, m5⟩ := HC.out wk hk; go_simp; try rfl) ?_
  try simp only [pN]
  refine wpHold_done (by kernel_rfl) ?_
  refine (‹∀ (a : Act) (w : World), Code.wp Tryz.prog _ _ a w → _› _ _ ?_)
  go_wp2_with fail
  go_ret
  refine ⟨?_, grown_trans H1.out.2 G3.out⟩
  have := N.out; have := N2.out; have := N3.out; simp [*]

set_option maxRecDepth 100000 in
set_option maxHeartbeats 4000000 in
theorem fits28_3 (ao : Option Addr) (n cp : Nat) (tk ss nb mk : Int) (l : List POp) (w : World) (hl : Ops w (.slice ao n cp) l) : Calls Tryz.prog 28 #[cmdV (.slice ao n cp) (⟨3, tk, ss, nb, mk, l⟩ : PCmd)] w fun e w' => e = .returned (.bool (decide (1 ≤ ss) && decide ((⟨3, tk, ss, nb, mk, l⟩ : PCmd) = namedC (⟨3, tk, ss, nb, mk, l⟩ : PCmd)))) ∧ w.grownBy w' none := by
  have HL : Hid (Ops w (.slice ao n cp) l) := hl
  clear hl
  simp only [cmdV]
  have i0 := ix0
  go_enter Tryz.func28, Tryz.ntmps28
  go_wp2_with fail
  obtain ⟨W, hW, HW⟩ := al1 w #[.int .i64 3, .int .i64 tk, .int .i64 ss, .int .i64 nb, .int .i64 mk, .slice ao n cp] 27
  rw [hW]
  clear hW
  refine (numbers30_3 w.heap.size (.slice ao n cp) (⟨3, tk, ss, nb, mk, l⟩ : PCmd) W HW.out.1 rfl).mono ?_
  rintro e w1 ⟨rfl, gg1⟩
  have H1 : Hid (Blk w1 w.heap.size 27 #[.int .i64 3, .int .i64 tk, .int .i64 ss, .int .i64 nb, .int .i64 mk, .slice ao n cp] ∧ w.grownBy w1 none) := ⟨HW.out.1.grown gg1 (by simp), grown_trans HW.out.2.1 gg1⟩
  clear gg1 HW
  try unfold pt
  have c0 := H1.out.1.cell 0
  have c1 := H1.out.1.cell 2
  have c3 := H1.out.1.cell 3
  have c4 := H1.out.1.cell 4
  simp at c0 c1 c3 c4
  by_cases hi : ss < 1
  · have q : (ss < 1) = True := by simp [hi]
    have N : Hid (ss < 1) := hi
    clear hi
    go_wp2_with fail
    go_ret
    refine ⟨?_, H1.out.2⟩
    have : ¬ (1 ≤ ss) := by have := N.out; omega
    simp [this]
  have q : (ss < 1) = False := by simp; omega
  have N : Hid (1 ≤ ss) := by unfold Hid; omega
  clear hi
  go_wp2_with fail
  have HC : Hid (∀ y : World, w1.grownBy y none → y.cell? ⟨w.heap.size, 0, none⟩ = some (.int .i64 3) ∧ y.cell? ⟨w.heap.size, 1, none⟩ = some (.int .i64 tk) ∧ y.cell? ⟨w.heap.size, 2, none⟩ = some (.int .i64 ss) ∧ y.cell? ⟨w.heap.size, 3, none⟩ = some (.int .i64 nb) ∧ y.cell? ⟨w.heap.size, 4, none⟩ = some (.int .i64 mk) ∧ y.cell? ⟨w.heap.size, 5, none⟩ = some (.slice ao n cp)) := fun y hy => by
    have hb := H1.out.1.grown hy (by simp)
    exact ⟨hb.cell 0, hb.cell 1, hb.cell 2, hb.cell 3, hb.cell 4, hb.cell 5⟩
  clear c0 c1 c3 c4 i0
  refine wp_region_noPanic ?_
  refine wp_region_hold 1000 (fun y => w1.grownBy y none) (by kernel_rfl) ?_
  have G0 : Hid (w1.grownBy w1.drew none) := grown_drew _ _
  generalize w1.drew = wd at G0 ⊢
  refine wt (i := 0) (G0.out) rfl rfl (fun wk hk => by obtain ⟨m0, m1, m2, m3, m4, m5⟩ := HC.out wk hk; go_simp; try rfl) ?_
  try simp only [pN]
  refine wt (i := 1) (G0.out) rfl rfl (fun wk hk => by obtain ⟨m0, m1, m2, m3, m4, m5⟩ := HC.out wk hk; go_simp; try rfl) ?_
  try simp only [pN]
  refine wpHold_one (i := 2) rfl (by kernel_rfl) (by rfl) (fun K hK => ?_)
  go_wp2_with fail
  refine (named61 (.slice ao n cp) (⟨3, tk, ss, nb, mk, l⟩ : PCmd) wd ((HL.out.grown H1.out.2).grown G0.out)).mono ?_
  rintro e w2 ⟨rfl, g2'⟩
  have G2 : Hid (w1.grownBy w2 none) := grown_trans G0.out g2'
  clear g2'
  unfold cmdV
  go_wp2_with fail
  refine hK.out _ _ (fun _ => G2.out) ?_
  clear hK K
  try simp only [pN]
  refine wpHold_one (i := 3) rfl (by kernel_rfl) (by rfl) (fun K hK => ?_)
  go_wp2_with fail
  refine (same24 (.slice ao n cp) (novV (.slice ao n cp) (⟨3, tk, ss, nb, mk, l⟩ : PCmd)) (⟨3, tk, ss, nb, mk, l⟩ : PCmd) (namedC (⟨3, tk, ss, nb, mk, l⟩ : PCmd)) w2 ((HL.out.grown H1.out.2).grown G2.out) (nov_ops (c := (⟨3, tk, ss, nb, mk, l⟩ : PCmd)) ((HL.out.grown H1.out.2).grown G2.out))).mono ?_
  rintro e w3 ⟨rfl, g3'⟩
  have G3 : Hid (w1.grownBy w3 none) := grown_trans G2.out g3'
  clear g3'
  go_wp2_with fail
  refine hK.out _ _ (fun _ => G3.out) ?_
  clear hK K
  try simp only [pN]
  refine wt (i := 4) (G3.out) rfl rfl (fun wk hk => by obtain ⟨m0, m1, m2, m3, m4, m5⟩ := HC.out wk hk; go_simp; try rfl) ?_
  try simp only [pN]
  refine wpHold_done (by kernel_rfl) ?_
  refine (‹∀ (a : Act) (w : World), Code.wp Tryz.prog _ _ a w → _› _ _ ?_)
  go_wp2_with fail
  go_ret
  refine ⟨?_, grown_trans H1.out.2 G3.out⟩
  have := N.out; simp [this]

set_option maxRecDepth 100000 in
set_option maxHeartbeats 4000000 in
theorem fits28_4 (ao : Option Addr) (n cp : Nat) (tk ss nb mk : Int) (l : List POp) (w : World) (hl : Ops w (.slice ao n cp) l) : Calls Tryz.prog 28 #[cmdV (.slice ao n cp) (⟨4, tk, ss, nb, mk, l⟩ : PCmd)] w fun e w' => e = .returned (.bool (decide (1 ≤ ss) && decide ((⟨4, tk, ss, nb, mk, l⟩ : PCmd) = namedC (⟨4, tk, ss, nb, mk, l⟩ : PCmd)))) ∧ w.grownBy w' none := by
  have HL : Hid (Ops w (.slice ao n cp) l) := hl
  clear hl
  simp only [cmdV]
  have i0 := ix0
  go_enter Tryz.func28, Tryz.ntmps28
  go_wp2_with fail
  obtain ⟨W, hW, HW⟩ := al1 w #[.int .i64 4, .int .i64 tk, .int .i64 ss, .int .i64 nb, .int .i64 mk, .slice ao n cp] 27
  rw [hW]
  clear hW
  refine (numbers30_4 w.heap.size (.slice ao n cp) (⟨4, tk, ss, nb, mk, l⟩ : PCmd) W HW.out.1 rfl).mono ?_
  rintro e w1 ⟨rfl, gg1⟩
  have H1 : Hid (Blk w1 w.heap.size 27 #[.int .i64 4, .int .i64 tk, .int .i64 ss, .int .i64 nb, .int .i64 mk, .slice ao n cp] ∧ w.grownBy w1 none) := ⟨HW.out.1.grown gg1 (by simp), grown_trans HW.out.2.1 gg1⟩
  clear gg1 HW
  try unfold pt
  have c0 := H1.out.1.cell 0
  have c1 := H1.out.1.cell 2
  have c3 := H1.out.1.cell 3
  have c4 := H1.out.1.cell 4
  simp at c0 c1 c3 c4
  by_cases hi : ss < 1
  · have q : (ss < 1) = True := by simp [hi]
    have N : Hid (ss < 1) := hi
    clear hi
    go_wp2_with fail
    go_ret
    refine ⟨?_, H1.out.2⟩
    have : ¬ (1 ≤ ss) := by have := N.out; omega
    simp [this]
  have q : (ss < 1) = False := by simp; omega
  have N : Hid (1 ≤ ss) := by unfold Hid; omega
  clear hi
  go_wp2_with fail
  have HC : Hid (∀ y : World, w1.grownBy y none → y.cell? ⟨w.heap.size, 0, none⟩ = some (.int .i64 4) ∧ y.cell? ⟨w.heap.size, 1, none⟩ = some (.int .i64 tk) ∧ y.cell? ⟨w.heap.size, 2, none⟩ = some (.int .i64 ss) ∧ y.cell? ⟨w.heap.size, 3, none⟩ = some (.int .i64 nb) ∧ y.cell? ⟨w.heap.size, 4, none⟩ = some (.int .i64 mk) ∧ y.cell? ⟨w.heap.size, 5, none⟩ = some (.slice ao n cp)) := fun y hy => by
    have hb := H1.out.1.grown hy (by simp)
    exact ⟨hb.cell 0, hb.cell 1, hb.cell 2, hb.cell 3, hb.cell 4, hb.cell 5⟩
  clear c0 c1 c3 c4 i0
  refine wp_region_noPanic ?_
  refine wp_region_hold 1000 (fun y => w1.grownBy y none) (by kernel_rfl) ?_
  have G0 : Hid (w1.grownBy w1.drew none) := grown_drew _ _
  generalize w1.drew = wd at G0 ⊢
  refine wt (i := 0) (G0.out) rfl rfl (fun wk hk => by obtain ⟨m0, m1, m2, m3, m4, m5⟩ := HC.out wk hk; go_simp; try rfl) ?_
  try simp only [pN]
  refine wt (i := 1) (G0.out) rfl rfl (fun wk hk => by obtain ⟨m0, m1, m2, m3, m4, m5⟩ := HC.out wk hk; go_simp; try rfl) ?_
  try simp only [pN]
  refine wpHold_one (i := 2) rfl (by kernel_rfl) (by rfl) (fun K hK => ?_)
  go_wp2_with fail
  refine (named61 (.slice ao n cp) (⟨4, tk, ss, nb, mk, l⟩ : PCmd) wd ((HL.out.grown H1.out.2).grown G0.out)).mono ?_
  rintro e w2 ⟨rfl, g2'⟩
  have G2 : Hid (w1.grownBy w2 none) := grown_trans G0.out g2'
  clear g2'
  unfold cmdV
  go_wp2_with fail
  refine hK.out _ _ (fun _ => G2.out) ?_
  clear hK K
  try simp only [pN]
  refine wpHold_one (i := 3) rfl (by kernel_rfl) (by rfl) (fun K hK => ?_)
  go_wp2_with fail
  refine (same24 (.slice ao n cp) (novV (.slice ao n cp) (⟨4, tk, ss, nb, mk, l⟩ : PCmd)) (⟨4, tk, ss, nb, mk, l⟩ : PCmd) (namedC (⟨4, tk, ss, nb, mk, l⟩ : PCmd)) w2 ((HL.out.grown H1.out.2).grown G2.out) (nov_ops (c := (⟨4, tk, ss, nb, mk, l⟩ : PCmd)) ((HL.out.grown H1.out.2).grown G2.out))).mono ?_
  rintro e w3 ⟨rfl, g3'⟩
  have G3 : Hid (w1.grownBy w3 none) := grown_trans G2.out g3'
  clear g3'
  go_wp2_with fail
  refine hK.out _ _ (fun _ => G3.out) ?_
  clear hK K
  try simp only [pN]
  refine wt (i := 4) (G3.out) rfl rfl (fun wk hk => by obtain ⟨m0, m1, m2, m3, m4, m5⟩ := HC.out wk hk; go_simp; try rfl) ?_
  try simp only [pN]
  refine wpHold_done (by kernel_rfl) ?_
  refine (‹∀ (a : Act) (w : World), Code.wp Tryz.prog _ _ a w → _› _ _ ?_)
  go_wp2_with fail
  go_ret
  refine ⟨?_, grown_trans H1.out.2 G3.out⟩
  have := N.out; simp [this]

set_option maxRecDepth 100000 in
set_option maxHeartbeats 4000000 in
theorem fits28_0 (ao : Option Addr) (n cp : Nat) (k : Int) (tk ss nb mk : Int) (l : List POp) (w : World) (hl : Ops w (.slice ao n cp) l) (h1 : (k == 1) = false) (h2 : (k == 2) = false) (h3 : (k == 3) = false) (h4 : (k == 4) = false) : Calls Tryz.prog 28 #[cmdV (.slice ao n cp) (⟨k, tk, ss, nb, mk, l⟩ : PCmd)] w fun e w' => e = .returned (.bool (false)) ∧ w.grownBy w' none := by
  have HL : Hid (Ops w (.slice ao n cp) l) := hl
  clear hl
  simp only [cmdV]
  have i0 := ix0
  go_enter Tryz.func28, Tryz.ntmps28
  go_wp2_with fail
  obtain ⟨W, hW, HW⟩ := al1 w #[.int .i64 k, .int .i64 tk, .int .i64 ss, .int .i64 nb, .int .i64 mk, .slice ao n cp] 27
  rw [hW]
  clear hW
  refine (numbers30_0 w.heap.size (.slice ao n cp) (⟨k, tk, ss, nb, mk, l⟩ : PCmd) W HW.out.1 h1 h2 h3 h4).mono ?_
  rintro e w1 ⟨rfl, gg1⟩
  have H1 : Hid (Blk w1 w.heap.size 27 #[.int .i64 k, .int .i64 tk, .int .i64 ss, .int .i64 nb, .int .i64 mk, .slice ao n cp] ∧ w.grownBy w1 none) := ⟨HW.out.1.grown gg1 (by simp), grown_trans HW.out.2.1 gg1⟩
  clear gg1 HW
  try unfold pt
  go_wp2_with fail
  go_ret
  exact ⟨rfl, H1.out.2⟩

theorem fits28 (ov : Value) (c : PCmd) (w : World) (h : Ops w ov c.ops) : Calls Tryz.prog 28 #[cmdV ov c] w fun e w' => e = .returned (.bool (fitC c)) ∧ w.grownBy w' none := by
  obtain ⟨ao, n, cp, rfl, _⟩ := ops_open h
  obtain ⟨k, tk, ss, nb, mk, l⟩ := c
  unfold fitC idOk idC markOk
  by_cases h1 : k = 1
  · subst h1; simpa using fits28_1 ao n cp tk ss nb mk l w h
  · by_cases h2 : k = 2
    · subst h2; simpa using fits28_2 ao n cp tk ss nb mk l w h
    · by_cases h3 : k = 3
      · subst h3; simpa using fits28_3 ao n cp tk ss nb mk l w h
      · by_cases h4 : k = 4
        · subst h4; simpa using fits28_4 ao n cp tk ss nb mk l w h
        · have := fits28_0 ao n cp k tk ss nb mk l w h (by simp [h1]) (by simp [h2]) (by simp [h3]) (by simp [h4])
          simpa [h1, h2, h3, h4] using this
end Go.Proofs.YtgjcpjckaopeeaaGreatDoor
