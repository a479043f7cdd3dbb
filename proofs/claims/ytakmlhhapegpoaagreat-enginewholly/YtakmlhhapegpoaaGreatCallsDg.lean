/-
  The document's Reads.
-/
import Derived.Test.YtakmlhhapegpoaaGreatCallsDm
namespace Go.Proofs.YtakmlhhapegpoaaGreat.Calls
open Go.RowKit Disk
open Names (Str)

theorem any_take (l : List POp) (k : Nat) (hk : k < l.length) : (l.take (k + 1)).any wrt = ((l.take k).any wrt || wrt l[k]) := by
  rw [List.take_succ_eq_append_getElem hk, List.any_append]
  simp only [List.any_cons, List.any_nil, Bool.or_false]
theorem any_true (l : List POp) (k : Nat) (hk : k < l.length) (h : wrt l[k] = true) : l.any wrt = true := List.any_eq_true.2 ⟨l[k], List.getElem_mem hk, h⟩

set_option maxRecDepth 100000 in
set_option maxHeartbeats 4000000 in
theorem reads18 (a : Value) (l : List POp) (w : World) (ha : Ops w a l) : Calls Tryz.prog 21 #[.agg #[a]] w fun e w' => e = .returned (.bool (rds l)) ∧ w.grownBy w' none := by
  obtain ⟨ao, n, ca, rfl, hna, la, HA⟩ := ops_open ha
  have HN : Hid (l.length = n) := hna
  clear ha hna
  go_enter Tryz.func21, Tryz.ntmps21
  go_wp2_with fail
  go_loopw [3] (fun i wr => ∃ k : Nat, k ≤ n ∧ i = .int .i64 k ∧ Hid ((l.take k).any wrt = false) ∧ Hid (Blk wr w.heap.size 37 #[.slice ao n ca] ∧ w.grownBy wr none)) (fun i _ => n - (intOf i).toNat)
  case atStart => exact ⟨0, by omega, rfl, by unfold Hid; simp, heap_alloc_new w _, World.grownBy_alloc _ _ none⟩
  case round =>
    obtain ⟨k, hk, rfl, HT, HR⟩ := hrel
    have c0 := HR.out.1.cell 0
    by_cases hlt : k < n
    · have i3 : (k : Int) < (n : Int) := by omega
      have i0 : (0 : Int) ≤ (k : Int) := by omega
      have hkl : k < l.length := by rw [HN.out]; omega
      obtain ⟨b1, o1, k1, x1, ol1, t1, rfl, h1, s1⟩ := ops_at (HA.out.grown HR.out.2) k hkl
      have HQ : Hid ((l.take (k + 1)).any wrt = ((l.take k).any wrt || wrt l[k])) := any_take l k hkl
      have HF : Hid (wrt l[k] = true → l.any wrt = true) := any_true l k hkl
      obtain ⟨o, ho⟩ : ∃ o, l[k] = o := ⟨_, rfl⟩
      rw [ho] at h1 s1 HQ HF
      clear ho hkl s1
      obtain ⟨a0, a1, a2, a3, a4, a5, a6, a7⟩ := h1
      unfold Str at a1
      by_cases hw : o.kind ≠ 1 ∧ o.kind ≠ 5
      · have HZ : Hid (rds l = false) := by
          have := HF.out (by simp [wrt, hw])
          unfold Hid rds
          rw [this]; simp
        have j1 : (o.kind = 1) = False := eq_false hw.1
        have j2 : (o.kind = 5) = False := eq_false hw.2
        have j3 : (o.kind != 1) = true := by rw [bne_iff_ne]; exact hw.1
        have j4 : (o.kind != 5) = true := by rw [bne_iff_ne]; exact hw.2
        clear hw
        go_wp2_with fail
        go_ret
        exact ⟨by rw [HZ.out]; rfl, HR.out.2⟩
      · have HZ : Hid ((l.take (k + 1)).any wrt = false) := by
          unfold Hid
          rw [HQ.out, HT.out]
          have : wrt o = false := by unfold wrt; exact decide_eq_false hw
          rw [this]; rfl
        have hw2 : o.kind = 1 ∨ o.kind = 5 := by omega
        clear hw
        rcases hw2 with h | h
        · rw [h] at a0
          clear h
          go_wp2_with fail
          go_roundw
          case rel => exact ⟨k + 1, by omega, by go_num, HZ, HR⟩
          case measure => simp [intOf]; omega
        · rw [h] at a0
          clear h
          go_wp2_with fail
          go_roundw
          case rel => exact ⟨k + 1, by omega, by go_num, HZ, HR⟩
          case measure => simp [intOf]; omega
    · have i3 : ((k : Int) < (n : Int)) = False := eq_false (by omega)
      have HZ : Hid (rds l = mayCall l) := by
        have h := HT.out
        rw [List.take_of_length_le (by rw [HN.out]; omega)] at h
        unfold Hid rds
        rw [h]; simp
      go_wp2_with (go_at_call 52; refine (may37 _ l _ (HA.out.grown HR.out.2)).mono ?_)
      rintro e w1 ⟨rfl, hg⟩
      go_wp2_with fail
      go_ret
      exact ⟨by rw [HZ.out]; rfl, grown_trans HR.out.2 hg⟩
end Go.Proofs.YtakmlhhapegpoaaGreat.Calls
