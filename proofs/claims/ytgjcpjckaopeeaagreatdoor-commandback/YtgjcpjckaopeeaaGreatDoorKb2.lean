/-
  Commands held against each other.
-/
import Derived.Test.YtgjcpjckaopeeaaGreatDoorKb
namespace Go.Proofs.YtgjcpjckaopeeaaGreatDoor
open Go.RowKit Disk
open _root_.Go.Proofs.YtgjcpjckaopeeaaGreatDoor.Calls

theorem g2 (w : World) (x y : Obj) : w.grownBy ((w.alloc x).alloc y) none := grown_trans (World.grownBy_alloc _ _ none) (World.grownBy_alloc _ _ none)
set_option maxRecDepth 100000 in
set_option maxHeartbeats 4000000 in
theorem same24 (u v : Value) (a b : PCmd) (w : World) (ha : Ops w u a.ops) (hb : Ops w v b.ops) :
    Calls Tryz.prog 24 #[cmdV u a, cmdV v b] w fun e w' => e = .returned (.bool (decide (a = b))) ∧ w.grownBy w' none := by
  unfold cmdV
  obtain ⟨ao, n, ca, rfl, hn, _, HA⟩ := ops_open ha
  obtain ⟨bo, m, cb, rfl, hm, _, HB⟩ := ops_open hb
  clear ha hb hn hm
  have HS : Hid (∀ x y, Calls Tryz.prog 59 #[.agg #[.slice ao n ca], .agg #[.slice bo m cb]] ((w.alloc x).alloc y) fun e w' => e = .returned (.bool (decide (a.ops = b.ops))) ∧ ((w.alloc x).alloc y).grownBy w' none) := fun x y => same34 _ _ a.ops b.ops _ (HA.out.grown (g2 _ _ _)) (HB.out.grown (g2 _ _ _))
  clear HA HB
  obtain ⟨a0, ha0⟩ : ∃ x, a.kind = x := ⟨_, rfl⟩
  obtain ⟨a1, ha1⟩ : ∃ x, a.token = x := ⟨_, rfl⟩
  obtain ⟨a2, ha2⟩ : ∃ x, a.session = x := ⟨_, rfl⟩
  obtain ⟨a3, ha3⟩ : ∃ x, a.number = x := ⟨_, rfl⟩
  obtain ⟨a4, ha4⟩ : ∃ x, a.mark = x := ⟨_, rfl⟩
  obtain ⟨b0, hb0⟩ : ∃ x, b.kind = x := ⟨_, rfl⟩
  obtain ⟨b1, hb1⟩ : ∃ x, b.token = x := ⟨_, rfl⟩
  obtain ⟨b2, hb2⟩ : ∃ x, b.session = x := ⟨_, rfl⟩
  obtain ⟨b3, hb3⟩ : ∃ x, b.number = x := ⟨_, rfl⟩
  obtain ⟨b4, hb4⟩ : ∃ x, b.mark = x := ⟨_, rfl⟩
  have HE : Hid ((a = b) ↔ (a0 = b0 ∧ a1 = b1 ∧ a2 = b2 ∧ a3 = b3 ∧ a4 = b4 ∧ a.ops = b.ops)) := by unfold Hid; rw [PCmd.ext', ha0, ha1, ha2, ha3, ha4, hb0, hb1, hb2, hb3, hb4]
  rw [ha0, ha1, ha2, ha3, ha4, hb0, hb1, hb2, hb3, hb4]
  obtain ⟨so, hso⟩ : ∃ x, decide (a.ops = b.ops) = x := ⟨_, rfl⟩
  rw [hso] at HS
  have HO : Hid (decide (a.ops = b.ops) = so) := hso
  clear hso ha0 ha1 ha2 ha3 ha4 hb0 hb1 hb2 hb3 hb4
  by_cases e0 : a0 = b0
  rotate_left
  · have q0 : (a0 == b0) = false := by simp [e0]
    have N0 : Hid (¬ a0 = b0) := e0
    clear e0
    go_enter Tryz.func24, Tryz.ntmps24
    go_wp2_with fail
    go_ret
    refine ⟨?_, g2 _ _ _⟩
    have : ¬ a = b := fun h => N0.out (HE.out.1 h).1
    simp [this]
  subst e0
  by_cases e1 : a1 = b1
  rotate_left
  · have q1 : (a1 == b1) = false := by simp [e1]
    have N1 : Hid (¬ a1 = b1) := e1
    clear e1
    go_enter Tryz.func24, Tryz.ntmps24
    go_wp2_with fail
    go_ret
    refine ⟨?_, g2 _ _ _⟩
    have : ¬ a = b := fun h => N1.out (HE.out.1 h).2.1
    simp [this]
  subst e1
  by_cases e2 : a2 = b2
  rotate_left
  · have q2 : (a2 == b2) = false := by simp [e2]
    have N2 : Hid (¬ a2 = b2) := e2
    clear e2
    go_enter Tryz.func24, Tryz.ntmps24
    go_wp2_with fail
    go_ret
    refine ⟨?_, g2 _ _ _⟩
    have : ¬ a = b := fun h => N2.out (HE.out.1 h).2.2.1
    simp [this]
  subst e2
  by_cases e3 : a3 = b3
  rotate_left
  · have q3 : (a3 == b3) = false := by simp [e3]
    have N3 : Hid (¬ a3 = b3) := e3
    clear e3
    go_enter Tryz.func24, Tryz.ntmps24
    go_wp2_with fail
    go_ret
    refine ⟨?_, g2 _ _ _⟩
    have : ¬ a = b := fun h => N3.out (HE.out.1 h).2.2.2.1
    simp [this]
  subst e3
  by_cases e4 : a4 = b4
  rotate_left
  · have q4 : (a4 == b4) = false := by simp [e4]
    have N4 : Hid (¬ a4 = b4) := e4
    clear e4
    go_enter Tryz.func24, Tryz.ntmps24
    go_wp2_with fail
    go_ret
    refine ⟨?_, g2 _ _ _⟩
    have : ¬ a = b := fun h => N4.out (HE.out.1 h).2.2.2.2.1
    simp [this]
  subst e4
  go_enter Tryz.func24, Tryz.ntmps24
  go_wp2_with (go_at_call 59; refine (HS.out _ _).mono ?_; rintro e w1 ⟨rfl, hg1⟩)
  go_ret
  refine ⟨?_, grown_trans (g2 _ _ _) hg1⟩
  refine congrArg (fun x => Ending.returned (Value.bool x)) ?_
  rw [← HO.out]
  by_cases h : a.ops = b.ops
  · have : a = b := HE.out.2 (by simp [h])
    simp [this]
  · have : ¬ a = b := fun e => h (HE.out.1 e).2.2.2.2.2
    simp [this, h]

set_option maxRecDepth 100000 in
set_option maxHeartbeats 4000000 in
theorem same16 (u v : Value) (a b : PCmd) (w : World) (ha : Ops w u a.ops) (hb : Ops w v b.ops) :
    Calls Tryz.prog 16 #[cmdV u a, cmdV v b] w fun e w' => e = .returned (.bool (decide (a = b))) ∧ w.grownBy w' none := by
  unfold cmdV
  obtain ⟨ao, n, ca, rfl, hn, _, HA⟩ := ops_open ha
  obtain ⟨bo, m, cb, rfl, hm, _, HB⟩ := ops_open hb
  clear ha hb hn hm
  have HS : Hid (∀ x y, Calls Tryz.prog 40 #[.agg #[.slice ao n ca], .agg #[.slice bo m cb]] ((w.alloc x).alloc y) fun e w' => e = .returned (.bool (decide (a.ops = b.ops))) ∧ ((w.alloc x).alloc y).grownBy w' none) := fun x y => same19 _ _ a.ops b.ops _ (HA.out.grown (g2 _ _ _)) (HB.out.grown (g2 _ _ _))
  clear HA HB
  obtain ⟨a0, ha0⟩ : ∃ x, a.kind = x := ⟨_, rfl⟩
  obtain ⟨a1, ha1⟩ : ∃ x, a.token = x := ⟨_, rfl⟩
  obtain ⟨a2, ha2⟩ : ∃ x, a.session = x := ⟨_, rfl⟩
  obtain ⟨a3, ha3⟩ : ∃ x, a.number = x := ⟨_, rfl⟩
  obtain ⟨a4, ha4⟩ : ∃ x, a.mark = x := ⟨_, rfl⟩
  obtain ⟨b0, hb0⟩ : ∃ x, b.kind = x := ⟨_, rfl⟩
  obtain ⟨b1, hb1⟩ : ∃ x, b.token = x := ⟨_, rfl⟩
  obtain ⟨b2, hb2⟩ : ∃ x, b.session = x := ⟨_, rfl⟩
  obtain ⟨b3, hb3⟩ : ∃ x, b.number = x := ⟨_, rfl⟩
  obtain ⟨b4, hb4⟩ : ∃ x, b.mark = x := ⟨_, rfl⟩
  have HE : Hid ((a = b) ↔ (a0 = b0 ∧ a1 = b1 ∧ a2 = b2 ∧ a3 = b3 ∧ a4 = b4 ∧ a.ops = b.ops)) := by unfold Hid; rw [PCmd.ext', ha0, ha1, ha2, ha3, ha4, hb0, hb1, hb2, hb3, hb4]
  rw [ha0, ha1, ha2, ha3, ha4, hb0, hb1, hb2, hb3, hb4]
  obtain ⟨so, hso⟩ : ∃ x, decide (a.ops = b.ops) = x := ⟨_, rfl⟩
  rw [hso] at HS
  have HO : Hid (decide (a.ops = b.ops) = so) := hso
  clear hso ha0 ha1 ha2 ha3 ha4 hb0 hb1 hb2 hb3 hb4
  by_cases e0 : a0 = b0
  rotate_left
  · have q0 : (a0 == b0) = false := by simp [e0]
    have N0 : Hid (¬ a0 = b0) := e0
    clear e0
    go_enter Tryz.func16, Tryz.ntmps16
    go_wp2_with fail
    go_ret
    refine ⟨?_, g2 _ _ _⟩
    have : ¬ a = b := fun h => N0.out (HE.out.1 h).1
    simp [this]
  subst e0
  by_cases e1 : a1 = b1
  rotate_left
  · have q1 : (a1 == b1) = false := by simp [e1]
    have N1 : Hid (¬ a1 = b1) := e1
    clear e1
    go_enter Tryz.func16, Tryz.ntmps16
    go_wp2_with fail
    go_ret
    refine ⟨?_, g2 _ _ _⟩
    have : ¬ a = b := fun h => N1.out (HE.out.1 h).2.1
    simp [this]
  subst e1
  by_cases e2 : a2 = b2
  rotate_left
  · have q2 : (a2 == b2) = false := by simp [e2]
    have N2 : Hid (¬ a2 = b2) := e2
    clear e2
    go_enter Tryz.func16, Tryz.ntmps16
    go_wp2_with fail
    go_ret
    refine ⟨?_, g2 _ _ _⟩
    have : ¬ a = b := fun h => N2.out (HE.out.1 h).2.2.1
    simp [this]
  subst e2
  by_cases e3 : a3 = b3
  rotate_left
  · have q3 : (a3 == b3) = false := by simp [e3]
    have N3 : Hid (¬ a3 = b3) := e3
    clear e3
    go_enter Tryz.func16, Tryz.ntmps16
    go_wp2_with fail
    go_ret
    refine ⟨?_, g2 _ _ _⟩
    have : ¬ a = b := fun h => N3.out (HE.out.1 h).2.2.2.1
    simp [this]
  subst e3
  by_cases e4 : a4 = b4
  rotate_left
  · have q4 : (a4 == b4) = false := by simp [e4]
    have N4 : Hid (¬ a4 = b4) := e4
    clear e4
    go_enter Tryz.func16, Tryz.ntmps16
    go_wp2_with fail
    go_ret
    refine ⟨?_, g2 _ _ _⟩
    have : ¬ a = b := fun h => N4.out (HE.out.1 h).2.2.2.2.1
    simp [this]
  subst e4
  go_enter Tryz.func16, Tryz.ntmps16
  go_wp2_with (go_at_call 40; refine (HS.out _ _).mono ?_; rintro e w1 ⟨rfl, hg1⟩)
  go_ret
  refine ⟨?_, grown_trans (g2 _ _ _) hg1⟩
  refine congrArg (fun x => Ending.returned (Value.bool x)) ?_
  rw [← HO.out]
  by_cases h : a.ops = b.ops
  · have : a = b := HE.out.2 (by simp [h])
    simp [this]
  · have : ¬ a = b := fun e => h (HE.out.1 e).2.2.2.2.2
    simp [this, h]

end Go.Proofs.YtgjcpjckaopeeaaGreatDoor
