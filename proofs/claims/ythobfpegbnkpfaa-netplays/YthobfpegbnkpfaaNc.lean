/-
  slices.BinarySearch of rising numbers.
-/
import Derived.Test.YthobfpegbnkpfaaNb
namespace Go.Proofs.Ythobfpegbnkpfaa
open Go.RowKit Disk

set_option maxRecDepth 100000 in
set_option maxHeartbeats 400000 in
theorem isnan55 (x : Int) (w : World) : Calls Try.prog 55 #[.int .i64 x] w fun e w' => e = .returned (.bool false) ∧ w' = w := by
  go_enter Try.func55, Try.ntmps55
  go_wp2_with fail
  go_ret
  exact ⟨by simp, rfl⟩
set_option maxRecDepth 100000 in
set_option maxHeartbeats 400000 in
theorem isnan53 (x : Int) (w : World) : Calls Try.prog 53 #[.int .i64 x] w fun e w' => e = .returned (.bool false) ∧ w' = w := by
  go_enter Try.func53, Try.ntmps53
  go_wp2_with fail
  go_ret
  exact ⟨by simp, rfl⟩
set_option maxRecDepth 100000 in
set_option maxHeartbeats 400000 in
theorem less52 (x y : Int) (w : World) : Calls Try.prog 52 #[.int .i64 x, .int .i64 y] w fun e w' => e = .returned (.bool (decide (x < y))) ∧ w' = w := by
  go_enter Try.func52, Try.ntmps52
  go_wp2_with fail
  refine (isnan55 x w).mono ?_
  rintro e w1 ⟨rfl, rfl⟩
  go_wp2_with fail
  go_ret
  exact ⟨rfl, rfl⟩

/-- Where a search has come to. -/
def BsI (zs : List Int) (k : Int) (i j : Nat) : Prop := i ≤ j ∧ j ≤ zs.length ∧ (∀ a (h : a < zs.length), a < i → zs[a] < k) ∧ ∀ a (h : a < zs.length), j ≤ a → k ≤ zs[a]
theorem pw_lt {zs : List Int} (hp : zs.Pairwise (· < ·)) {a b : Nat} (hb : b < zs.length) (hab : a < b) : zs[a]'(by omega) < zs[b] := List.pairwise_iff_getElem.1 hp a b (by omega) hb hab
theorem bs_left {zs : List Int} {k : Int} {i j m : Nat} (hp : zs.Pairwise (· < ·)) (h : BsI zs k i j) (hm : m < zs.length) (h1 : i ≤ m) (h2 : m < j) (hl : zs[m] < k) : BsI zs k (m + 1) j := by
  obtain ⟨a1, a2, a3, a4⟩ := h
  refine ⟨by omega, a2, fun a ha hlt => ?_, a4⟩
  by_cases e : a = m
  · subst e; exact hl
  · have := pw_lt hp hm (show a < m by omega)
    omega
theorem bs_right {zs : List Int} {k : Int} {i j m : Nat} (hp : zs.Pairwise (· < ·)) (h : BsI zs k i j) (hm : m < zs.length) (h1 : i ≤ m) (h2 : m < j) (hl : ¬ zs[m] < k) : BsI zs k i m := by
  obtain ⟨a1, a2, a3, a4⟩ := h
  refine ⟨h1, by omega, a3, fun a ha hle => ?_⟩
  by_cases e : a = m
  · subst e; omega
  · have := pw_lt hp ha (show m < a by omega)
    omega
theorem bs_end {zs : List Int} {k : Int} {i j : Nat} (hp : zs.Pairwise (· < ·)) (h : BsI zs k i j) (hj : ¬ i < j) : (k ∈ zs) ↔ ∃ h : i < zs.length, zs[i] = k := by
  obtain ⟨a1, a2, a3, a4⟩ := h
  constructor
  · intro hk
    obtain ⟨a, ha, rfl⟩ := List.getElem_of_mem hk
    by_cases h1 : a < i
    · have := a3 a ha h1; omega
    · by_cases h2 : a = i
      · subst h2; exact ⟨ha, rfl⟩
      · have h3 := a4 a ha (by omega)
        have hi : i < zs.length := by omega
        have := a4 i hi (by omega)
        have := pw_lt hp ha (show i < a by omega)
        omega
  · rintro ⟨h, rfl⟩
    exact List.getElem_mem h

set_option maxRecDepth 100000 in
set_option maxHeartbeats 1000000 in
theorem search46 (u : Value) (zs : List Int) (k : Int) (w : World) (hu : Rd w u (zs.map (Value.int .i64))) (hp : zs.Pairwise (· < ·)) (hl : zs.length ≤ 65536) : Calls Try.prog 46 #[u, .int .i64 k] w fun e w' => ∃ i, e = .returned (.tuple #[.int .i64 i, .bool (decide (k ∈ zs))]) ∧ w' = w := by
  obtain ⟨ao, cap, rfl⟩ := hu.shape
  obtain ⟨n, hn⟩ : ∃ n, zs.length = n := ⟨_, rfl⟩
  rw [List.length_map] at hu ⊢
  rw [hn] at hu ⊢
  have HU : Hid (Rd w (.slice ao n cap) (zs.map (Value.int .i64)) ∧ zs.Pairwise (· < ·) ∧ zs.length = n ∧ n ≤ 65536) := ⟨hu, hp, hn, by omega⟩
  clear hu hp hl hn
  go_enter Try.func46, Try.ntmps46
  go_wp2_with fail
  go_loopw [7, 8] (fun p q wr => wr = w ∧ ∃ i j : Nat, p = .int .i64 (i : Nat) ∧ q = .int .i64 (j : Nat) ∧ Hid (BsI zs k i j)) (fun p q _ => (intOf q).toNat - (intOf p).toNat)
  case atStart => exact ⟨rfl, 0, n, rfl, rfl, by omega, by have := HU.out; omega, fun a h h' => absurd h' (by omega), fun a h h' => absurd h' (by have := HU.out; omega)⟩
  case round =>
    obtain ⟨rfl, i, j, rfl, rfl, HI⟩ := hrel
    by_cases hij : i < j
    · have hjn : j ≤ n := by have := HI.out.2.1; have := HU.out; omega
      have hnn : n ≤ 65536 := HU.out.2.2.2
      have hmz : (i + j) / 2 < zs.length := by have := HU.out; omega
      obtain ⟨b, off, rfl, cu⟩ := HU.out.1.at ((i + j) / 2) (by simpa using hmz)
      obtain ⟨z, hz⟩ : ∃ z, zs[(i + j) / 2] = z := ⟨_, rfl⟩
      simp only [List.getElem_map, hz] at cu
      have HZ : Hid ((i + j) / 2 < zs.length ∧ zs[(i + j) / 2]? = some z ∧ i ≤ (i + j) / 2 ∧ (i + j) / 2 < j ∧ j ≤ 65536) := ⟨hmz, by rw [List.getElem?_eq_getElem hmz, hz], by omega, by omega, by omega⟩
      clear hmz hz
      go_wp2_with fail
      refine (less52 z k wr).mono ?_
      rintro e w9 ⟨rfl, rfl⟩
      by_cases hzk : z < k
      · have d1 : decide (z < k) = true := by simp [hzk]
        rw [d1]
        have HL : Hid (BsI zs k ((i + j) / 2 + 1) j) := by
          obtain ⟨a1, a2, a3, a4, a5⟩ := HZ.out
          obtain ⟨_, e2⟩ := List.getElem?_eq_some_iff.1 a2
          exact bs_left HU.out.2.1 HI.out a1 a3 a4 (by rw [e2]; exact hzk)
        clear hzk d1
        go_wp2_with fail
        go_roundw
        case rel => exact ⟨trivial, (i + j) / 2 + 1, j, by rw [show ((i : Int) + (j : Int)) / 2 + 1 = (((i + j) / 2 + 1 : Nat) : Int) by omega], rfl, HL⟩
        case measure => simp [intOf]; have := HZ.out; omega
      · have d1 : decide (z < k) = false := by simp [hzk]
        rw [d1]
        have HL : Hid (BsI zs k i ((i + j) / 2)) := by
          obtain ⟨a1, a2, a3, a4, a5⟩ := HZ.out
          obtain ⟨_, e2⟩ := List.getElem?_eq_some_iff.1 a2
          exact bs_right HU.out.2.1 HI.out a1 a3 a4 (by rw [e2]; exact hzk)
        clear hzk d1
        go_wp2_with fail
        go_roundw
        case rel => exact ⟨trivial, i, (i + j) / 2, rfl, by rw [show ((i : Int) + (j : Int)) / 2 = (((i + j) / 2 : Nat) : Int) by omega], HL⟩
        case measure => simp [intOf]; have := HZ.out; omega
    · have j1 : ¬ (i : Int) < (j : Int) := by omega
      have HE := bs_end HU.out.2.1 HI.out hij
      have hl := HU.out.2.2.1
      by_cases hin : i < n
      · have i1 : (i : Int) < (n : Int) := by omega
        have i2 : (0 : Int) ≤ (i : Int) := by omega
        have hiz : i < zs.length := by omega
        obtain ⟨b, off, rfl, cu⟩ := HU.out.1.at i (by simpa using hiz)
        obtain ⟨z, hz⟩ : ∃ z, zs[i] = z := ⟨_, rfl⟩
        simp only [List.getElem_map, hz] at cu
        have HM : Hid (decide (k ∈ zs) = decide (z = k)) := by
          unfold Hid
          congr 1
          rw [HE]
          exact propext ⟨fun ⟨_, h⟩ => by rw [← hz]; exact h, fun h => ⟨hiz, by rw [hz]; exact h⟩⟩
        clear HE hl hiz hz hin hij
        by_cases hzk : z = k
        · subst hzk
          replace HM : Hid (decide (z ∈ zs) = true) := by unfold Hid; rw [HM.out]; simp
          go_wp2_with fail
          go_ret2
          rw [HM.out]
          first | exact ⟨⟨_, rfl⟩, rfl⟩ | exact ⟨⟨_, rfl⟩, trivial⟩
        · have d1 : (z == k) = false := by simp [hzk]
          have d2 : decide (z = k) = false := by simp [hzk]
          rw [d2] at HM
          go_wp2_with fail
          refine (isnan53 z wr).mono ?_
          rintro e w9 ⟨rfl, rfl⟩
          go_wp2_with fail
          go_ret2
          rw [HM.out]
          exact ⟨_, rfl, rfl⟩
      · have i1 : ¬ (i : Int) < (n : Int) := by omega
        have HM : Hid (decide (k ∈ zs) = false) := by
          unfold Hid
          rw [decide_eq_false_iff_not, HE]
          rintro ⟨h, _⟩
          omega
        clear HE hl hin hij
        go_wp2_with fail
        go_ret2
        rw [HM.out]
        first | exact ⟨⟨_, rfl⟩, rfl⟩ | exact ⟨⟨_, rfl⟩, trivial⟩
end Go.Proofs.Ythobfpegbnkpfaa
