/-
  NetCounts: how often a number is in a list; what is taken, and what is left.
-/
import Derived.Test.YthobfpegbnkpfaaNd
namespace Go.Proofs.Ythobfpegbnkpfaa
open Go.RowKit Disk I

set_option maxRecDepth 100000 in
set_option maxHeartbeats 1000000 in
theorem times25 (u : Value) (zs : List Int) (x : Int) (w : World) (hu : Rd w u (zs.map (Value.int .i64))) : Calls Try.prog 25 #[u, .int .i64 x] w fun e w' => e = .returned (.int .i64 (zs.count x : Nat)) ∧ w' = w := by
  obtain ⟨ao, cap, rfl⟩ := hu.shape
  obtain ⟨n, hn⟩ : ∃ n, zs.length = n := ⟨_, rfl⟩
  have hb : n ≤ 9223372036854775807 := by have := hu.len; simp at this; omega
  rw [List.length_map] at hu ⊢
  rw [hn] at hu ⊢
  have HU : Hid (Rd w (.slice ao n cap) (zs.map (Value.int .i64)) ∧ zs.length = n) := ⟨hu, hn⟩
  clear hu hn
  go_enter Try.func25, Try.ntmps25
  go_wp2_with fail
  go_loopw [5, 6] (fun p c wr => Hid (wr = w) ∧ ∃ i m : Nat, p = .int .i64 (m : Nat) ∧ c = .int .i64 (i : Nat) ∧ i ≤ n ∧ m ≤ i ∧ Hid ((zs.take i).count x = m)) (fun _ c _ => n - (intOf c).toNat)
  case atStart => exact ⟨rfl, 0, 0, rfl, rfl, Nat.zero_le _, Nat.le_refl _, by simp [Hid]⟩
  case round =>
    obtain ⟨HWE, i, m, rfl, rfl, hi, hm, HM⟩ := hrel
    by_cases hlt : i < n
    · have j1 : (i : Int) < (n : Int) := by omega
      have j2 : (0 : Int) ≤ (i : Int) := by omega
      have hiz : i < zs.length := by have := HU.out; omega
      obtain ⟨b, off, rfl, cu⟩ := HU.out.1.at i (by simpa using hiz)
      obtain ⟨z, hz⟩ : ∃ z, zs[i] = z := ⟨_, rfl⟩
      simp only [List.getElem_map, hz] at cu
      rw [← HWE.out] at cu
      have HZ : Hid ((zs.take (i + 1)).count x = m + (if z = x then 1 else 0)) := by
        have h1 := HM.out
        unfold Hid
        rw [List.take_add_one, List.getElem?_eq_getElem hiz, hz, List.count_append, h1]
        simp [List.count_cons]
      clear hiz hz
      by_cases hzx : z = x
      · have d1 : (z == x) = true := by simp [hzx]
        have HZ2 : Hid ((zs.take (i + 1)).count x = m + 1) := by rw [Hid, HZ.out, if_pos hzx]
        go_wp2_with fail
        go_roundw
        case rel => exact ⟨HWE, i + 1, m + 1, by go_num, by go_num, by omega, by omega, HZ2⟩
        case measure => simp [intOf]; omega
      · have d1 : (z == x) = false := by simp [hzx]
        have HZ2 : Hid ((zs.take (i + 1)).count x = m) := by rw [Hid, HZ.out, if_neg hzx]; rfl
        go_wp2_with fail
        go_roundw
        case rel => exact ⟨HWE, i + 1, m, rfl, by go_num, by omega, by omega, HZ2⟩
        case measure => simp [intOf]; omega
    · have j1 : ¬ (i : Int) < (n : Int) := by omega
      have HE : Hid (zs.count x = m) := by
        have h1 := HM.out
        rw [List.take_of_length_le (by have := HU.out; omega)] at h1
        exact h1
      go_wp2_with fail
      go_ret
      refine ⟨?_, HWE.out⟩
      rw [HE.out]
      rfl

/-- What stands at the head of the loop over the picks. -/
structure Cnt (w wr : World) (b : Nat) (vg : Value) (ts : List Int) (tw : Bool) (cnt : Nat) (i : Nat) (v : Value) (q : List I.Pcl) (gs : List Int) : Prop where
  mine : Mine w wr b v q ((cnt + q.length : Nat) : Int)
  got : Row 3 wr w.heap.size vg (gs.map (Value.int .i64))
  num : gs.length = cnt
  few : cnt ≤ i
  all : cnt + q.length ≤ 1000 + i
  same : tw = false → ∀ x, gs.count x + (q.map (·.t)).count x = ts.count x
theorem count_erase (q : List I.Pcl) (j : Nat) (a : I.Pcl) (ha : q[j]? = some a) (x : Int) : (q.map (·.t)).count x = ((q.eraseIdx j).map (·.t)).count x + (if a.t = x then 1 else 0) := by
  obtain ⟨hj, rfl⟩ := List.getElem?_eq_some_iff.1 ha
  rw [List.eraseIdx_eq_take_drop_succ]
  have h : q = q.take j ++ q[j] :: q.drop (j + 1) := by simp
  conv => lhs; rw [h]
  simp only [List.map_append, List.map_cons, List.count_append, List.count_cons, beq_iff_eq]
  omega
end Go.Proofs.Ythobfpegbnkpfaa
