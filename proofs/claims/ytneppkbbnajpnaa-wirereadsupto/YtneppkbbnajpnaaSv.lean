/-
  One step of a script: a list of numbers; kinds that do nothing; all kinds.
-/
import Derived.Test.YtneppkbbnajpnaaSu
namespace Go.Proofs.Ytneppkbbnajpnaa
open Go.RowKit

/-- The cells of a row of numbers. -/
theorem OwnN.cells {w : World} {B : Nat} {v : Value} {xs : List Nat} (h : OwnN w B v xs) : ∃ a cap, v = .slice a xs.length cap ∧ xs.length ≤ 9223372036854775807 ∧ ∀ j (hj : j < xs.length), ∃ g, a = some ⟨g, 0, none⟩ ∧ w.cell? ⟨g, j, none⟩ = some (.int .u64 xs[j]) := by
  rcases h.2 with ⟨rfl, hn⟩ | ⟨g, cap, cur, rfl, hb, hg, hnc, hcm, hcs, ht⟩
  · have : xs = [] := List.eq_nil_of_length_eq_zero hn
    subst this
    exact ⟨none, 0, rfl, by simp, fun j hj => absurd hj (by simp)⟩
  · refine ⟨_, cap, rfl, by unfold maxLen at hcm; omega, fun j hj => ⟨g, rfl, ?_⟩⟩
    have := h.cellAt j (by omega)
    rw [this]
    simp [NV, hj]

section
variable (W0 : World) (b d g : Nat) (ao : Option Addr) (cap : Nat) (L : List UInt8) (k : Nat) (kind most : Int) (w : World)

set_option maxRecDepth 100000 in
set_option maxHeartbeats 1000000 in
theorem step20_five_neg (h : St W0 w b d g (.slice ao L.length cap) L k) (hm : most < 0) (hz : L.length ≤ 1048576) :
    Calls Try.prog 20 #[.pointer (some ⟨b, 0, none⟩), .pointer (some ⟨d, 0, none⟩), .agg #[.int .i64 5, .int .i64 most]] w (StepPost W0 b d g ao cap L) := by
  have hb := h.blocks
  have S0 : Hid _ := h.alloc (.cells #[.int .i64 5, .int .i64 most] 43)
  have B0 : Hid _ := box_new w #[.int .i64 5, .int .i64 most] 43
  have hneg : decide (most < 0) = true := by simp; omega
  have HM : Hid _ := hm
  clear h hm
  go_enter Try.func20, Try.ntmps20
  go_wp2_with fail
  refine (take43_g b g (L.drop k) most _ S0.out.2.2.2.2.2.2.1 S0.out.2.2.2.2.2.1 (by have := HM.out; omega) (by simp; omega)).mono ?_
  rw [rdList_neg HM.out]
  rintro e w1 ⟨v, rfl, hown, q1, q2⟩
  have S1 : Hid (Mid W0 w1 b d g (.slice ao L.length cap) L k (L.drop k)) := St.mid S0.out q1 q2
  have hbx := box_kept B0.out q2 (by simp; omega)
  have c1 := cell_of_row w1 w.heap.size 1 _ _ _ hbx
  simp at c1
  obtain ⟨a1, c2, hv, _⟩ := hown.cells
  simp at hv
  subst hv
  clear q1 q2 hown hbx B0 HM
  go_wp2_with fail
  refine (num_any _ _).mono ?_
  rintro e w3 ⟨rfl, he⟩; subst he
  go_wp2_with fail
  go_ret
  exact ⟨rfl, k, S1.out.stay⟩

set_option maxRecDepth 100000 in
set_option maxHeartbeats 1000000 in
theorem step20_five (h : St W0 w b d g (.slice ao L.length cap) L k) (hs : Seg W0 (.slice ao L.length cap) L) (hm : 0 ≤ most) (hm2 : most ≤ 9223372036854775807) (hz : L.length ≤ 1048576) :
    Calls Try.prog 20 #[.pointer (some ⟨b, 0, none⟩), .pointer (some ⟨d, 0, none⟩), .agg #[.int .i64 5, .int .i64 most]] w (StepPost W0 b d g ao cap L) := by
  have hb := h.blocks
  have S0 : Hid _ := h.alloc (.cells #[.int .i64 5, .int .i64 most] 43)
  have B0 : Hid _ := box_new w #[.int .i64 5, .int .i64 most] 43
  have hneg : decide (most < 0) = false := by simp; omega
  have HS : Hid (Seg W0 (.slice ao L.length cap) L) := hs
  obtain ⟨xs, hx⟩ : ∃ x, (rdList (L.drop k) most).1 = x := ⟨_, rfl⟩
  obtain ⟨er, her⟩ : ∃ er, (rdList (L.drop k) most).2.1 = er := ⟨_, rfl⟩
  obtain ⟨M, hM⟩ : ∃ M, (rdList (L.drop k) most).2.2 = M := ⟨_, rfl⟩
  have HX : Hid _ := And.intro hx (And.intro her hM)
  have HZ : Hid _ := hz
  have HB : Hid _ := hb
  clear h hx her hM hs hz hb
  go_enter Try.func20, Try.ntmps20
  go_wp2_with fail
  refine (take43_g b g (L.drop k) most _ S0.out.2.2.2.2.2.2.1 S0.out.2.2.2.2.2.1 hm2 (by have := HZ.out; simp; omega)).mono ?_
  rw [HX.out.1, HX.out.2.1, HX.out.2.2]
  rintro e w1 ⟨v, rfl, hown, q1, q2⟩
  have S1 : Hid (Mid W0 w1 b d g (.slice ao L.length cap) L k M) := St.mid S0.out q1 q2
  have O1 : Hid (OwnN w1 (w.heap.size + 1) v xs) := by
    have e : (w.alloc (.cells #[.int .i64 5, .int .i64 most] 43)).heap.size = w.heap.size + 1 := by
      show (w.heap.push _).size = _
      simp
    rw [← e]; exact hown
  have HBX : Hid _ := box_kept B0.out q2 (by have := HB.out; simp; omega)
  have c1 := cell_of_row w1 w.heap.size 1 _ _ _ HBX.out
  simp at c1
  clear q1 q2 hown B0
  go_wp2_with fail
  refine (numbers44 d ao cap k L most _ S1.out.2.2.2.2.2.2.2.1 (Seg.grown HS.out S1.out.1) S1.out.2.2.2.2.2.2.2.2 hm hm2 HZ.out).mono ?_
  rw [HX.out.1, HX.out.2.1, HX.out.2.2]
  rintro e w2 ⟨u, rfl, hown2, q1⟩
  have S2 : Hid (∃ k', St W0 w2 b d g (.slice ao L.length cap) L k') := Mid.st S1.out q1
  have O2 : OwnN w2 (w.heap.size + 1) v xs := by
    obtain ⟨_, _, _, _, q4⟩ := q1
    exact O1.out.keptB q4 (by have := HB.out; omega)
  obtain ⟨a1, c2, hv1, hl1, V1⟩ := O2.cells
  obtain ⟨a2, c3, hv2, hl2, V2⟩ := hown2.cells
  subst hv1 hv2
  have HV1 : Hid _ := V1
  have HV2 : Hid _ := V2
  clear q1 hown2 O1 S1 c1 HBX O2 V1 V2 hl2
  go_wp2_with fail
  refine (num_any _ _).mono ?_
  rintro e w3 ⟨rfl, he⟩; subst he
  go_wp2_with fail
  go_loopw [28] (fun i wr => ∃ j : Nat, j ≤ xs.length ∧ i = .int .i64 j ∧ ∃ q, wr = w3.drewN q) (fun i _ => xs.length - (intOf i).toNat)
  case atStart => exact ⟨0, by omega, rfl, 0, rfl⟩
  case round =>
    obtain ⟨j, hj, rfl, q, rfl⟩ := hrel
    by_cases hlt : j < xs.length
    · obtain ⟨g1, rfl, d1⟩ := HV1.out j hlt
      obtain ⟨g2, rfl, d2⟩ := HV2.out j hlt
      obtain ⟨y, hy⟩ : ∃ y, xs[j] = y := ⟨_, rfl⟩
      rw [hy] at d1 d2
      have i1 : (0 : Int) ≤ (j : Int) := by omega
      have i2 : (j : Int) < (xs.length : Int) := by omega
      clear HV1 HV2 hy
      go_wp2_with fail
      go_quiet (fail)
      go_wp2_with fail
      go_roundw
      case rel => exact ⟨j + 1, by omega, by go_num, _, rfl⟩
      case measure => simp [intOf]; omega
    · have e : j = xs.length := by omega
      go_wp2_with fail
      go_ret
      obtain ⟨k', hk'⟩ := S2.out
      exact ⟨rfl, k', hk'.grown (grown_drewN w3 _ none)⟩

set_option maxRecDepth 100000 in
set_option maxHeartbeats 1000000 in
theorem step20_else (h : St W0 w b d g (.slice ao L.length cap) L k) (h1 : kind ≠ 1) (h2 : kind ≠ 2) (h3 : kind ≠ 3) (h4 : kind ≠ 4) (h5 : kind ≠ 5) :
    Calls Try.prog 20 #[.pointer (some ⟨b, 0, none⟩), .pointer (some ⟨d, 0, none⟩), .agg #[.int .i64 kind, .int .i64 most]] w (StepPost W0 b d g ao cap L) := by
  have S0 : Hid _ := h.alloc (.cells #[.int .i64 kind, .int .i64 most] 43)
  have e1 : (kind == 1) = false := by simp [h1]
  have e2 : (kind == 2) = false := by simp [h2]
  have e3 : (kind == 3) = false := by simp [h3]
  have e4 : (kind == 4) = false := by simp [h4]
  have e5 : (kind == 5) = false := by simp [h5]
  clear h
  go_enter Try.func20, Try.ntmps20
  go_wp2_with fail
  go_ret
  exact ⟨rfl, k, S0.out⟩

theorem step20 (h : St W0 w b d g (.slice ao L.length cap) L k) (hs : Seg W0 (.slice ao L.length cap) L) (hm2 : most ≤ 9223372036854775807) (hz : L.length ≤ 1048576) :
    Calls Try.prog 20 #[.pointer (some ⟨b, 0, none⟩), .pointer (some ⟨d, 0, none⟩), .agg #[.int .i64 kind, .int .i64 most]] w (StepPost W0 b d g ao cap L) := by
  by_cases h1 : kind = 1
  · subst h1; exact step20_one W0 b d g ao cap L k most w h hs
  by_cases h2 : kind = 2
  · subst h2; exact step20_two W0 b d g ao cap L k most w h hs
  by_cases h3 : kind = 3
  · subst h3; exact step20_three W0 b d g ao cap L k most w h hs
  by_cases h4 : kind = 4
  · subst h4
    by_cases hm : most < 0
    · exact step20_four_neg W0 b d g ao cap L k most w h hm hz
    · exact step20_four W0 b d g ao cap L k most w h hs (by omega) hm2 hz
  by_cases h5 : kind = 5
  · subst h5
    by_cases hm : most < 0
    · exact step20_five_neg W0 b d g ao cap L k most w h hm hz
    · exact step20_five W0 b d g ao cap L k most w h hs (by omega) hm2 hz
  exact step20_else W0 b d g ao cap L k kind most w h h1 h2 h3 h4 h5
end
end Go.Proofs.Ytneppkbbnajpnaa
