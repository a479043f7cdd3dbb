/-
  small; the document's Copy.
-/
import Derived.Test.YtfocmbnhkldnfaaGreatDoorFu
import Derived.Deep.DeepCutAuto
namespace Go.Proofs.YtfocmbnhkldnfaaGreatDoor
open Go.RowKit Disk
open Names (Str)

theorem run_min9 (ts : Array TypeId) (t : TypeId) (m : Nat) (w : World) : (Builtin.min_ ts t #[.int .i64 (m : Int), .int .i64 9999]).run Tryz.prog w = .ok (.int .i64 ((min m 9999 : Nat) : Int)) w := by
  by_cases h : m ≤ 9999
  · rw [Nat.min_eq_left h]
    simp [Builtin.min_, Builtin.min2]
    try omega
  · rw [Nat.min_eq_right (by omega)]
    simp [Builtin.min_, Builtin.min2]
    try omega
attribute [local go_sem ↓] run_min9

set_option maxRecDepth 100000 in
set_option maxHeartbeats 4000000 in
theorem small9 (a : Value) (l : List POp) (w : World) (ha : Ops w a l) : Calls Tryz.prog 9 #[.agg #[a]] w fun e w' => ∃ b, e = .returned (.bool b) ∧ w.grownBy w' none := by
  obtain ⟨ao, n, ca, rfl, hna, la, HA⟩ := ops_open ha
  have HN : Hid (l.length = n) := hna
  clear ha hna
  go_enter Tryz.func9, Tryz.ntmps9
  go_wp2_with fail
  go_loopw [3, 4] (fun s i wr => ∃ k m : Nat, k ≤ n ∧ k ≤ 20 ∧ s = .int .i64 m ∧ i = .int .i64 k ∧ m ≤ k * 49995 ∧ Hid (Blk wr w.heap.size 24 #[.slice ao n ca] ∧ w.grownBy wr none)) (fun _ i _ => 20 - (intOf i).toNat)
  case atStart => exact ⟨0, 0, by omega, by omega, rfl, rfl, by omega, heap_alloc_new w _, World.grownBy_alloc _ _ none⟩
  case round =>
    obtain ⟨k, m, hk, hk2, rfl, rfl, hm, HR⟩ := hrel
    have c0 := HR.out.1.cell 0
    by_cases hlt : k < n
    · have i1 : (k : Int) < (n : Int) := by omega
      by_cases h20 : k < 20
      · have i2 : (k : Int) < 20 := by omega
        have i0 : (0 : Int) ≤ (k : Int) := by omega
        obtain ⟨b1, o1, k1, x1, ol1, t1, rfl, h1, s1⟩ := ops_at (HA.out.grown HR.out.2) k (by rw [HN.out]; omega)
        obtain ⟨o, ho⟩ : ∃ o, o = l[k]'(by rw [HN.out]; omega) := ⟨_, rfl⟩
        rw [← ho] at h1 s1
        clear ho
        have tl := s1.fits.tl
        obtain ⟨_, _, _, _, _, _, _, _, rfl, rfl, rfl, rfl⟩ := s1.shapes
        clear s1
        obtain ⟨a0, a1, a2, a3, a4, a5, a6, a7⟩ := h1
        unfold Str at a1
        have q1 : min o.table.length 9999 ≤ 9999 := Nat.min_le_right _ _
        have q2 : min o.key.length 9999 ≤ 9999 := Nat.min_le_right _ _
        have q3 : min o.value.length 9999 ≤ 9999 := Nat.min_le_right _ _
        have q4 : min o.old.length 9999 ≤ 9999 := Nat.min_le_right _ _
        have q5 : min o.to.length 9999 ≤ 9999 := Nat.min_le_right _ _
        go_wp2_with fail
        go_roundw
        case rel => exact ⟨k + 1, m + min o.table.length 9999 + min o.key.length 9999 + min o.value.length 9999 + min o.old.length 9999 + min o.to.length 9999, by omega, by omega, by go_num, by go_num, by omega, HR.out.1.grown (World.grownBy_alloc _ _ none) (by simp), grown_trans HR.out.2 (World.grownBy_alloc _ _ none)⟩
        case measure => simp [intOf]; omega
      · have i2 : ((k : Int) < 20) = False := eq_false (by omega)
        go_wp2_with fail
        go_ret
        exact ⟨_, rfl, HR.out.2⟩
    · have i1 : ((k : Int) < (n : Int)) = False := eq_false (by omega)
      go_wp2_with fail
      go_ret
      exact ⟨_, rfl, HR.out.2⟩
end Go.Proofs.YtfocmbnhkldnfaaGreatDoor
