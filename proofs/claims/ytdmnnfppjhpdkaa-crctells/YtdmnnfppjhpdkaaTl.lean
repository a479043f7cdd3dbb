/-
  CrcTells' walk.
-/
import Derived.Test.YtdmnnfppjhpdkaaR
import Derived.Test.YtdmnnfppjhpdkaaT
import Derived.Deep.DeepCutAuto
namespace Go.Proofs.Ytdmnnfppjhpdkaa
open Go.RowKit
attribute [local go_sem ↓] Go.wp_at_zero Go.wp_at_succ

/-- A store into an owned row. -/
theorem own_store {w : World} {B g n cap : Nat} {L : List UInt8} (h : Own w B (.slice (some ⟨g, 0, none⟩) n cap) L) (j : Nat) (x : Int) (c : UInt8) (hx : x = (c.toNat : Int)) :
    Own (w.setCell ⟨g, j, none⟩ (.int .u8 x)) B (.slice (some ⟨g, 0, none⟩) n cap) (L.set j c) := by
  subst hx
  have hn : n = L.length := by obtain ⟨ao, cap', hv, _⟩ := h.seg; simp at hv; exact hv.2.1
  subst hn
  have h1 := (World.ownsRow.stored h j (.int .u8 (c.toNat : Int))).1
  unfold Own
  rw [List.length_set]
  have e : BV (L.set j c) = (BV L).set j (.int .u8 (c.toNat : Int)) := by simp [BV, List.map_set]
  rw [e]; exact h1

theorem own_cell {w : World} {B g n cap : Nat} {L : List UInt8} (h : Own w B (.slice (some ⟨g, 0, none⟩) n cap) L) (j : Nat) (hj : j < L.length) : w.cell? ⟨g, j, none⟩ = some (.int .u8 (L[j].toNat : Int)) := by
  obtain ⟨ao, cap', hv, _, _, _, h4⟩ := h.seg
  simp at hv
  obtain ⟨b, off, e, hc⟩ := h4 j hj
  rw [← hv.1] at e
  simp at e
  obtain ⟨rfl, rfl⟩ := e
  rw [Nat.zero_add] at hc
  exact hc

theorem own_free {w : World} {B g n cap : Nat} {L : List UInt8} (h : Own w B (.slice (some ⟨g, 0, none⟩) n cap) L) (j : Nat) : w.frozen? ⟨g, j, none⟩ = false := by
  rcases h.2 with ⟨hv, _⟩ | ⟨g', cap', cur, hv, _, hg, _⟩
  · simp at hv
  · simp at hv
    obtain ⟨rfl, _⟩ := hv
    exact frozen_of_row w g j _ _ hg

theorem shl_u8 {r : Nat} (h : r < 8) : IntKind.u8.wrap (2 ^ r : Int) = ((2 ^ r : Nat) : Int) := by
  have h1 : 2 ^ r < 256 := Nat.pow_lt_pow_right (n := 8) (by omega) h
  have e : ((2 : Int) ^ r) = ((2 ^ r : Nat) : Int) := by simp
  rw [IntKind.wrap_u8', e]
  generalize 2 ^ r = p at h1
  omega

theorem own_made {w : World} {B n : Nat} {v : Value} (h : w.ownsRow B 5 1 v n (madeCells (Value.int .u8 0).cells (n * 1)).toList) : Own w B v (List.replicate n 0) := by
  unfold Own
  have e : BV (List.replicate n 0) = (madeCells (Value.int .u8 0).cells (n * 1)).toList := by
    apply List.ext_getElem?
    intro i
    by_cases hi : i < n
    · simp [BV, madeCells, Value.cells, hi, Nat.mod_one]
    · rw [List.getElem?_eq_none (by simp [BV]; omega), List.getElem?_eq_none (by simp [madeCells]; omega)]
  rw [e, List.length_replicate]
  exact h

theorem take_set_next (V D : List UInt8) (j : Nat) (hV : j < V.length) (hD : j < D.length) (h : V.take j = D.take j) : (V.set j D[j]).take (j + 1) = D.take (j + 1) := by
  rw [List.take_succ_eq_append_getElem hD, ← h, List.take_succ_eq_append_getElem (by simpa using hV), List.getElem_set_self, List.take_set_of_le (Nat.le_refl _)]

/-- Which bit is meant. -/
def kpos (a : Int) (n : Nat) : Nat := (a.tmod ((8 * n : Nat) : Int)).natAbs
theorem kpos_lt (a : Int) (n : Nat) (h : 0 < n) : kpos a n < 8 * n := by
  unfold kpos
  rw [Int.natAbs_tmod]
  exact Nat.mod_lt _ (by omega)

/-- The byte with its bit turned. -/
theorem flip_byte (c : UInt8) (r : Nat) (hr : r < 8) : ∃ d : UInt8, d.toNat = c.toNat ^^^ 2 ^ r := by
  have h1 : (2 : Nat) ^ r < 2 ^ 8 := Nat.pow_lt_pow_right (by omega) hr
  have h2 : c.toNat ^^^ 2 ^ r < 2 ^ 8 := Nat.xor_lt_two_pow (byte_lt c) h1
  exact ⟨UInt8.ofNat (c.toNat ^^^ 2 ^ r), by rw [UInt8.toNat_ofNat']; exact Nat.mod_eq_of_lt h2⟩

set_option maxRecDepth 100000 in
set_option maxHeartbeats 40000000 in
theorem tells5 (b c : Value) (L M : List UInt8) (a0 a1 a2 : Int) (burst : Nat) (w : World) (hb : Seg w b L) (hc : Seg w c M) (_hbu : burst < 4294967296)
    (ha : ∀ a ∈ [a0, a1, a2], -9223372036854775808 ≤ a ∧ a ≤ 9223372036854775807) :
    Calls Try.prog 5 #[.agg #[b, c], .agg #[.int .i64 a0, .int .i64 a1, .int .i64 a2], .int .u32 burst] w fun e w' => e = .returned (.bool true) ∧ w.grownBy w' none := by
  obtain ⟨aob, capb, rfl⟩ := hb.shape
  obtain ⟨aoc, capc, rfl⟩ := hc.shape
  obtain ⟨W, hW⟩ : ∃ W, W = (w.alloc (.cells #[.slice aob L.length capb, .slice aoc M.length capc] 33)).alloc (.cells #[.int .i64 a0, .int .i64 a1, .int .i64 a2] 36) := ⟨_, rfl⟩
  have HG : Hid (w.grownBy W none) := by rw [hW]; exact grown_trans (World.grownBy_alloc _ _ _) (World.grownBy_alloc _ _ _)
  have HBs : Hid (Seg W (.slice aob L.length capb) L) := hb.grown HG.out
  have HCs : Hid (Seg W (.slice aoc M.length capc) M) := hc.grown HG.out
  have c0 : W.cell? ⟨w.heap.size, 0, none⟩ = some (.slice aob L.length capb) := by rw [hW]; simp
  have c1 : W.cell? ⟨w.heap.size, 1, none⟩ = some (.slice aoc M.length capc) := by rw [hW]; simp
  obtain ⟨atv, hat⟩ : ∃ atv : Nat → Int, (∀ j, -9223372036854775808 ≤ atv j ∧ atv j ≤ 9223372036854775807) ∧ ∀ j, j < 3 → W.cell? ⟨w.heap.size + 1, j, none⟩ = some (.int .i64 (atv j)) := by
    refine ⟨fun j => if j = 0 then a0 else if j = 1 then a1 else a2, fun j => ?_, fun j hj => ?_⟩
    · have h0 := ha a0 (by simp)
      have h1 := ha a1 (by simp)
      have h2 := ha a2 (by simp)
      simp only
      split
      · exact h0
      · split
        · exact h1
        · exact h2
    · match j, hj with
      | 0, _ => rw [hW]; simp
      | 1, _ => rw [hW]; simp
      | 2, _ => rw [hW]; simp
  have HAT : Hid _ := hat
  have HW : Hid _ := hW
  have hlen := hb.len
  have hlenM := hc.len
  clear hb hc hW hat ha
  go_enter Try.func5, Try.ntmps5
  go_wp2_with fail
  rw [← HW.out]
  go_quiet (fail)
  have HG1 : Hid (w.grownBy (W.drewN nq) none) := grown_trans HG.out (grown_drewN _ _ _)
  have HB1 : Hid (Seg (W.drewN nq) (.slice aob L.length capb) L) := Seg.grown HBs.out (grown_drewN _ _ _)
  have HC1 : Hid (Seg (W.drewN nq) (.slice aoc M.length capc) M) := Seg.grown HCs.out (grown_drewN _ _ _)
  have HA1 : Hid (∀ j, j < 3 → (W.drewN nq).cell? ⟨w.heap.size + 1, j, none⟩ = some (.int .i64 (atv j))) := HAT.out.2
  have HAB : Hid (∀ j, -9223372036854775808 ≤ atv j ∧ atv j ≤ 9223372036854775807) := HAT.out.1
  obtain ⟨w1, hw1⟩ : ∃ w1, W.drewN nq = w1 := ⟨_, rfl⟩
  rw [hw1] at HG1 HB1 HC1 HA1 ⊢
  clear hw1 HG HBs HCs HW HAT c0 c1
  by_cases hsmall : L.length = 0 ∨ 65536 < L.length
  · have K : Calls Try.prog 6 #[] w1 fun e w' => e = .returned (.bool true) ∧ w1.grownBy w' none := known6 w1
    have HK : Hid _ := K
    clear K
    by_cases h0 : L.length = 0
    · have b1 : ((L.length : Int) == 0) = true := by simp; exact List.eq_nil_of_length_eq_zero h0
      go_wp2_with fail
      refine Calls.mono HK.out ?_
      rintro e w4 ⟨rfl, g4⟩
      have HG4 : Hid (w.grownBy w4 none) := grown_trans HG1.out g4
      clear g4
      go_wp2_with fail
      go_ret
      exact ⟨rfl, HG4.out⟩
    · have b1 : ((L.length : Int) == 0) = false := by simp; intro h; rw [h] at h0; simp at h0
      have b2 : decide ((L.length : Int) > 65536) = true := by simp; omega
      go_wp2_with fail
      refine Calls.mono HK.out ?_
      rintro e w4 ⟨rfl, g4⟩
      have HG4 : Hid (w.grownBy w4 none) := grown_trans HG1.out g4
      clear g4
      go_wp2_with fail
      go_ret
      exact ⟨rfl, HG4.out⟩
  · obtain ⟨n, hn⟩ : ∃ n, L.length = n := ⟨_, rfl⟩
    have HN : Hid (L.length = n) := hn
    have n0 : 0 < n := by omega
    have n1 : n ≤ 65536 := by omega
    rw [hn] at HB1 ⊢
    clear hsmall hlen hn
    have b1 : ((n : Int) == 0) = false := by simp; omega
    have b2 : decide ((n : Int) > 65536) = false := by simp; omega
    go_wp2_with (first | (at_builtin; refine app24 _ (by rfl) (.tmp 32) (.tmp 33) rfl w1.heap.size _ [] _ L rfl rfl (own_empty w1) (seg_alloc HB1.out _) (by simp; rw [HN.out]; omega) (by simp) ?_; intro v1 w2 o1 g1))
    have S2 : Hid (Own w2 w1.heap.size v1 L ∧ w1.grownBy w2 none) := ⟨o1, grown_new (World.grownBy_alloc w1 _ none) g1 (fun x hx => (own_empty w1).lt x hx)⟩
    obtain ⟨g, cap, hv, hgx⟩ : ∃ g cap, v1 = .slice (some ⟨g, 0, none⟩) n cap ∧ w1.heap.size ≤ g ∧ g < w2.heap.size := by
      rcases o1.shape with ⟨_, h⟩ | ⟨g, cap, h, h2⟩
      · have := HN.out; rw [List.nil_append] at h; rw [h] at this; simp at this; omega
      · exact ⟨g, cap, by rw [h, List.nil_append, HN.out], h2⟩
    subst hv
    clear o1 g1
    go_loopw [10, 11] (fun i kk wr => ∃ (j F : Nat) (X : List UInt8), j ≤ 3 ∧ i = .int .i64 j ∧ Own wr w1.heap.size (.slice (some ⟨g, 0, none⟩) n cap) X ∧ X.length = n ∧ num X = num L ^^^ F ∧ F < 2 ^ (32 + 8 * n) ∧ pr (32 + 8 * n) F = j % 2 ∧ w1.grownBy wr none) (fun i _ _ => 3 - (intOf i).toNat)
    case atStart => exact ⟨0, 0, L, by omega, rfl, S2.out.1, HN.out, by simp, Nat.two_pow_pos _, by rw [pr_zero], S2.out.2⟩
    case round =>
      obtain ⟨j, F, X, hj, rfl, hown, hXl, hnum, hFlt, hpar, hg⟩ := hrel
      by_cases hlt : j < 3
      · have ca := hg.cell (HA1.out j hlt) (by simp)
        have hab := HAB.out j
        have HP : Hid (kpos (atv j) n < 8 * n ∧ kpos (atv j) n = ((atv j).tmod ((8 * n : Nat) : Int)).natAbs) := ⟨kpos_lt _ _ n0, rfl⟩
        obtain ⟨a, hea⟩ : ∃ a, atv j = a := ⟨_, rfl⟩
        rw [hea] at ca hab HP
        obtain ⟨k, hek⟩ : ∃ k, kpos a n = k := ⟨_, rfl⟩
        rw [hek] at HP
        obtain ⟨N8, hN8⟩ : ∃ N8, 8 * n = N8 := ⟨_, rfl⟩
        have m8 : (8 : Int) * (n : Int) = (N8 : Int) := by omega
        obtain ⟨k0, hk0⟩ : ∃ k0, a.tmod (N8 : Int) = k0 := ⟨_, rfl⟩
        have hkk := HP.out
        rw [hN8, hk0] at hkk
        have i1 : (0 : Int) ≤ (j : Int) := by omega
        have i2 : (j : Int) < 3 := by omega
        have nz : ((N8 : Int) == 0) = false := by simp; omega
        have nz2 : ¬ (N8 : Int) = 0 := by omega
        have SX : Hid (Own wr w1.heap.size (.slice (some ⟨g, 0, none⟩) n cap) X ∧ X.length = n ∧ num X = num L ^^^ F ∧ F < 2 ^ (32 + 8 * n) ∧ pr (32 + 8 * n) F = j % 2 ∧ w1.grownBy wr none) := ⟨hown, hXl, hnum, hFlt, hpar, hg⟩
        clear hown hXl hnum hFlt hpar hg hea hek HP
        have hk8 : k < 8 * n := by omega
        obtain ⟨kd, hkd⟩ : ∃ kd, k / 8 = kd := ⟨_, rfl⟩
        obtain ⟨kr, hkr⟩ : ∃ kr, k % 8 = kr := ⟨_, rfl⟩
        have hkr8 : kr < 8 := by omega
        have hkdn : kd < n := by omega
        have hkX : kd < X.length := by rw [SX.out.2.1]; exact hkdn
        have q8 : (k : Int) / 8 = (kd : Int) := by omega
        have r8 : (k : Int) % 8 = (kr : Int) := by omega
        have r8t : (k : Int).tmod 8 = (kr : Int) := by rw [Int.tmod_eq_emod_of_nonneg (by omega)]; exact r8
        have wkd : IntKind.i64.wrap (kd : Int) = (kd : Int) := wrap_i64 _ (by omega) (by omega)
        have HCX0 : Hid (∀ wk, wr.grownBy wk none → wk.cell? ⟨g, kd, none⟩ = some (.int .u8 (X[kd].toNat : Int)) ∧ wk.frozen? ⟨g, kd, none⟩ = false) := by
          intro wk hk
          have h := SX.out.1.grown hk
          exact ⟨own_cell h kd hkX, own_free h kd⟩
        obtain ⟨dd, hdd⟩ := flip_byte X[kd] kr hkr8
        have hcb := byte_lt X[kd]
        have hpw : 2 ^ kr < 256 := Nat.pow_lt_pow_right (n := 8) (by omega) hkr8
        have sh : IntKind.u8.wrap (2 ^ kr : Int) = ((2 ^ kr : Nat) : Int) := shl_u8 hkr8
        have SN0 : Hid (Own ((wr.drew).setCell ⟨g, kd, none⟩ (.int .u8 (dd.toNat : Int))) w1.heap.size (.slice (some ⟨g, 0, none⟩) n cap) (X.set kd dd) ∧ (X.set kd dd).length = n ∧ num (X.set kd dd) = num L ^^^ (F ^^^ 2 ^ k) ∧ F ^^^ 2 ^ k < 2 ^ (32 + 8 * n) ∧ pr (32 + 8 * n) (F ^^^ 2 ^ k) = (j + 1) % 2 ∧ w1.grownBy ((wr.drew).setCell ⟨g, kd, none⟩ (.int .u8 (dd.toNat : Int))) none) := by
          obtain ⟨h1, h2, h3, h4, h5, h6⟩ := SX.out
          refine ⟨own_store (h1.grown (grown_drew _ none)) kd _ dd rfl, by rw [List.length_set]; exact h2, ?_, ?_, ?_, ?_⟩
          · rw [num_set X kd dd (2 ^ kr) hkX hdd, h3, ← Nat.pow_add, show 8 * kd + kr = k by omega, Nat.xor_assoc]
          · exact Nat.xor_lt_two_pow h4 (Nat.pow_lt_pow_right (by omega) (by omega))
          · rw [pr_xor, h5, pr_pow _ _ (by omega)]; omega
          · exact grown_new (grown_trans h6 (grown_drew _ none)) (grown_setCell _ g kd _) (by intro x hx; simp at hx; omega)
        obtain ⟨x, hx⟩ : ∃ x : Nat, X[kd].toNat = x := ⟨_, rfl⟩
        obtain ⟨pw, hpw2⟩ : ∃ pw : Nat, 2 ^ kr = pw := ⟨_, rfl⟩
        rw [hx] at hdd hcb
        rw [hpw2] at hdd hpw sh
        have HCX : Hid (∀ wk, wr.grownBy wk none → wk.cell? ⟨g, kd, none⟩ = some (.int .u8 (x : Int)) ∧ wk.frozen? ⟨g, kd, none⟩ = false) := by rw [← hx]; exact HCX0.out
        have xo : bits .xor .u8 (x : Int) (pw : Int) = ((x ^^^ pw : Nat) : Int) := u8_xor_nat x pw hcb hpw
        rw [← hdd] at xo
        obtain ⟨d, hd⟩ : ∃ d : Nat, dd.toNat = d := ⟨_, rfl⟩
        rw [hd] at xo SN0
        have SN : Hid _ := SN0.out
        have kin : (kd : Int) < (n : Int) := by omega
        have ki0 : (0 : Int) ≤ (kd : Int) := by omega
        have kr0 : (0 : Int) ≤ (kr : Int) := by omega
        have kr1 : (kr : Int) ≤ 8 := by omega
        have HKK : Hid _ := hkk
        clear HCX0 SN0 hx hpw2 hdd hd hkd hkr SX hkk
        by_cases hneg : k0 < 0
        · have hnk : -k0 = (k : Int) := by have h := HKK.out; omega
          go_wp2_with fail
          refine wp_region_noPanic ?_
          refine wp_region_grow 13 (by kernel_rfl) ?_
          refine wpGrow_take (i := 0) (d := some 50) (v := .slice (some ⟨g, 0, none⟩) n cap) rfl rfl (by kernel_rfl) (by kernel_rfl) (by kernel_rfl) (by kernel_rfl) (fun _ _ _ h => h) (by rfl) ?_ ?_
          · intro wk hk
            go_simp
            try with_reducible rfl
          try simp only [Act.put, List.setIfInBounds_toArray, List.set_cons_zero, List.set_cons_succ]
          refine wpGrow_take (i := 1) (d := some 51) (v := .int .i64 k) rfl rfl (by kernel_rfl) (by kernel_rfl) (by kernel_rfl) (by kernel_rfl) (fun _ _ _ h => h) (by rfl) ?_ ?_
          · intro wk hk
            go_simp
            try with_reducible rfl
          try simp only [Act.put, List.setIfInBounds_toArray, List.set_cons_zero, List.set_cons_succ]
          refine wpGrow_take (i := 2) (d := some 52) (v := .int .i64 kd) rfl rfl (by kernel_rfl) (by kernel_rfl) (by kernel_rfl) (by kernel_rfl) (fun _ _ _ h => h) (by rfl) ?_ ?_
          · intro wk hk
            go_simp
            try with_reducible rfl
          try simp only [Act.put, List.setIfInBounds_toArray, List.set_cons_zero, List.set_cons_succ]
          refine wpGrow_take (i := 3) (d := some 53) (v := .slice (some ⟨g, 0, none⟩) n cap) rfl rfl (by kernel_rfl) (by kernel_rfl) (by kernel_rfl) (by kernel_rfl) (fun _ _ _ h => h) (by rfl) ?_ ?_
          · intro wk hk
            go_simp
            try with_reducible rfl
          try simp only [Act.put, List.setIfInBounds_toArray, List.set_cons_zero, List.set_cons_succ]
          refine wpGrow_take (i := 4) (d := some 54) (v := .int .i64 k) rfl rfl (by kernel_rfl) (by kernel_rfl) (by kernel_rfl) (by kernel_rfl) (fun _ _ _ h => h) (by rfl) ?_ ?_
          · intro wk hk
            go_simp
            try with_reducible rfl
          try simp only [Act.put, List.setIfInBounds_toArray, List.set_cons_zero, List.set_cons_succ]
          refine wpGrow_take (i := 5) (d := some 55) (v := .int .i64 kd) rfl rfl (by kernel_rfl) (by kernel_rfl) (by kernel_rfl) (by kernel_rfl) (fun _ _ _ h => h) (by rfl) ?_ ?_
          · intro wk hk
            go_simp
            try with_reducible rfl
          try simp only [Act.put, List.setIfInBounds_toArray, List.set_cons_zero, List.set_cons_succ]
          refine wpGrow_take (i := 6) (d := some 56) (v := .pointer (some ⟨g, kd, none⟩)) rfl rfl (by kernel_rfl) (by kernel_rfl) (by kernel_rfl) (by kernel_rfl) (fun _ _ _ h => h) (by rfl) ?_ ?_
          · intro wk hk
            go_simp
            try with_reducible rfl
          try simp only [Act.put, List.setIfInBounds_toArray, List.set_cons_zero, List.set_cons_succ]
          refine wpGrow_take (i := 7) (d := some 57) (v := .int .u8 x) rfl rfl (by kernel_rfl) (by kernel_rfl) (by kernel_rfl) (by kernel_rfl) (fun _ _ _ h => h) (by rfl) ?_ ?_
          · intro wk hk
            have cx := HCX.out wk (grown_trans (grown_drew wr none) hk)
            go_simp
            try with_reducible rfl
          try simp only [Act.put, List.setIfInBounds_toArray, List.set_cons_zero, List.set_cons_succ]
          refine wpGrow_take (i := 8) (d := some 58) (v := .int .i64 k) rfl rfl (by kernel_rfl) (by kernel_rfl) (by kernel_rfl) (by kernel_rfl) (fun _ _ _ h => h) (by rfl) ?_ ?_
          · intro wk hk
            go_simp
            try with_reducible rfl
          try simp only [Act.put, List.setIfInBounds_toArray, List.set_cons_zero, List.set_cons_succ]
          refine wpGrow_take (i := 9) (d := some 59) (v := .int .i64 kr) rfl rfl (by kernel_rfl) (by kernel_rfl) (by kernel_rfl) (by kernel_rfl) (fun _ _ _ h => h) (by rfl) ?_ ?_
          · intro wk hk
            go_simp
            try with_reducible rfl
          try simp only [Act.put, List.setIfInBounds_toArray, List.set_cons_zero, List.set_cons_succ]
          refine wpGrow_take (i := 10) (d := some 60) (v := .int .u8 pw) rfl rfl (by kernel_rfl) (by kernel_rfl) (by kernel_rfl) (by kernel_rfl) (fun _ _ _ h => h) (by rfl) ?_ ?_
          · intro wk hk
            go_simp
            try with_reducible rfl
          try simp only [Act.put, List.setIfInBounds_toArray, List.set_cons_zero, List.set_cons_succ]
          refine wpGrow_take (i := 11) (d := some 61) (v := .int .u8 d) rfl rfl (by kernel_rfl) (by kernel_rfl) (by kernel_rfl) (by kernel_rfl) (fun _ _ _ h => h) (by rfl) ?_ ?_
          · intro wk hk
            go_simp
            try with_reducible rfl
          try simp only [Act.put, List.setIfInBounds_toArray, List.set_cons_zero, List.set_cons_succ]
          refine wpGrow_take (i := 12) (d := some 62) (v := .pointer (some ⟨g, kd, none⟩)) rfl rfl (by kernel_rfl) (by kernel_rfl) (by kernel_rfl) (by kernel_rfl) (fun _ _ _ h => h) (by rfl) ?_ ?_
          · intro wk hk
            go_simp
            try with_reducible rfl
          try simp only [Act.put, List.setIfInBounds_toArray, List.set_cons_zero, List.set_cons_succ]
          refine wpGrow_one (i := 13) rfl (by kernel_rfl) (by rfl) (fun K hK => ?_)
          have cx := HCX.out wr (grown_refl _ _)
          go_wp2_with fail
          refine hK.out _ _ (fun h => absurd rfl h) ?_
          clear hK K cx
          refine wpGrow_done (by kernel_rfl) ?_
          refine (‹∀ (a : Act) (w : World), Code.wp Try.prog (Code.region 7 _ _) _ a w → _› _ _ ?_)
          go_wp2_with fail
          go_roundw
          case rel => exact ⟨j + 1, F ^^^ 2 ^ k, X.set kd dd, by omega, by go_num, SN.out.1, SN.out.2.1, SN.out.2.2.1, SN.out.2.2.2.1, SN.out.2.2.2.2.1, SN.out.2.2.2.2.2⟩
          case measure => simp [intOf]; omega
        · have hnk : k0 = (k : Int) := by have h := HKK.out; omega
          go_wp2_with fail
          refine wp_region_noPanic ?_
          refine wp_region_grow 13 (by kernel_rfl) ?_
          refine wpGrow_take (i := 0) (d := some 50) (v := .slice (some ⟨g, 0, none⟩) n cap) rfl rfl (by kernel_rfl) (by kernel_rfl) (by kernel_rfl) (by kernel_rfl) (fun _ _ _ h => h) (by rfl) ?_ ?_
          · intro wk hk
            go_simp
            try with_reducible rfl
          try simp only [Act.put, List.setIfInBounds_toArray, List.set_cons_zero, List.set_cons_succ]
          refine wpGrow_take (i := 1) (d := some 51) (v := .int .i64 k) rfl rfl (by kernel_rfl) (by kernel_rfl) (by kernel_rfl) (by kernel_rfl) (fun _ _ _ h => h) (by rfl) ?_ ?_
          · intro wk hk
            go_simp
            try with_reducible rfl
          try simp only [Act.put, List.setIfInBounds_toArray, List.set_cons_zero, List.set_cons_succ]
          refine wpGrow_take (i := 2) (d := some 52) (v := .int .i64 kd) rfl rfl (by kernel_rfl) (by kernel_rfl) (by kernel_rfl) (by kernel_rfl) (fun _ _ _ h => h) (by rfl) ?_ ?_
          · intro wk hk
            go_simp
            try with_reducible rfl
          try simp only [Act.put, List.setIfInBounds_toArray, List.set_cons_zero, List.set_cons_succ]
          refine wpGrow_take (i := 3) (d := some 53) (v := .slice (some ⟨g, 0, none⟩) n cap) rfl rfl (by kernel_rfl) (by kernel_rfl) (by kernel_rfl) (by kernel_rfl) (fun _ _ _ h => h) (by rfl) ?_ ?_
          · intro wk hk
            go_simp
            try with_reducible rfl
          try simp only [Act.put, List.setIfInBounds_toArray, List.set_cons_zero, List.set_cons_succ]
          refine wpGrow_take (i := 4) (d := some 54) (v := .int .i64 k) rfl rfl (by kernel_rfl) (by kernel_rfl) (by kernel_rfl) (by kernel_rfl) (fun _ _ _ h => h) (by rfl) ?_ ?_
          · intro wk hk
            go_simp
            try with_reducible rfl
          try simp only [Act.put, List.setIfInBounds_toArray, List.set_cons_zero, List.set_cons_succ]
          refine wpGrow_take (i := 5) (d := some 55) (v := .int .i64 kd) rfl rfl (by kernel_rfl) (by kernel_rfl) (by kernel_rfl) (by kernel_rfl) (fun _ _ _ h => h) (by rfl) ?_ ?_
          · intro wk hk
            go_simp
            try with_reducible rfl
          try simp only [Act.put, List.setIfInBounds_toArray, List.set_cons_zero, List.set_cons_succ]
          refine wpGrow_take (i := 6) (d := some 56) (v := .pointer (some ⟨g, kd, none⟩)) rfl rfl (by kernel_rfl) (by kernel_rfl) (by kernel_rfl) (by kernel_rfl) (fun _ _ _ h => h) (by rfl) ?_ ?_
          · intro wk hk
            go_simp
            try with_reducible rfl
          try simp only [Act.put, List.setIfInBounds_toArray, List.set_cons_zero, List.set_cons_succ]
          refine wpGrow_take (i := 7) (d := some 57) (v := .int .u8 x) rfl rfl (by kernel_rfl) (by kernel_rfl) (by kernel_rfl) (by kernel_rfl) (fun _ _ _ h => h) (by rfl) ?_ ?_
          · intro wk hk
            have cx := HCX.out wk (grown_trans (grown_drew wr none) hk)
            go_simp
            try with_reducible rfl
          try simp only [Act.put, List.setIfInBounds_toArray, List.set_cons_zero, List.set_cons_succ]
          refine wpGrow_take (i := 8) (d := some 58) (v := .int .i64 k) rfl rfl (by kernel_rfl) (by kernel_rfl) (by kernel_rfl) (by kernel_rfl) (fun _ _ _ h => h) (by rfl) ?_ ?_
          · intro wk hk
            go_simp
            try with_reducible rfl
          try simp only [Act.put, List.setIfInBounds_toArray, List.set_cons_zero, List.set_cons_succ]
          refine wpGrow_take (i := 9) (d := some 59) (v := .int .i64 kr) rfl rfl (by kernel_rfl) (by kernel_rfl) (by kernel_rfl) (by kernel_rfl) (fun _ _ _ h => h) (by rfl) ?_ ?_
          · intro wk hk
            go_simp
            try with_reducible rfl
          try simp only [Act.put, List.setIfInBounds_toArray, List.set_cons_zero, List.set_cons_succ]
          refine wpGrow_take (i := 10) (d := some 60) (v := .int .u8 pw) rfl rfl (by kernel_rfl) (by kernel_rfl) (by kernel_rfl) (by kernel_rfl) (fun _ _ _ h => h) (by rfl) ?_ ?_
          · intro wk hk
            go_simp
            try with_reducible rfl
          try simp only [Act.put, List.setIfInBounds_toArray, List.set_cons_zero, List.set_cons_succ]
          refine wpGrow_take (i := 11) (d := some 61) (v := .int .u8 d) rfl rfl (by kernel_rfl) (by kernel_rfl) (by kernel_rfl) (by kernel_rfl) (fun _ _ _ h => h) (by rfl) ?_ ?_
          · intro wk hk
            go_simp
            try with_reducible rfl
          try simp only [Act.put, List.setIfInBounds_toArray, List.set_cons_zero, List.set_cons_succ]
          refine wpGrow_take (i := 12) (d := some 62) (v := .pointer (some ⟨g, kd, none⟩)) rfl rfl (by kernel_rfl) (by kernel_rfl) (by kernel_rfl) (by kernel_rfl) (fun _ _ _ h => h) (by rfl) ?_ ?_
          · intro wk hk
            go_simp
            try with_reducible rfl
          try simp only [Act.put, List.setIfInBounds_toArray, List.set_cons_zero, List.set_cons_succ]
          refine wpGrow_one (i := 13) rfl (by kernel_rfl) (by rfl) (fun K hK => ?_)
          have cx := HCX.out wr (grown_refl _ _)
          go_wp2_with fail
          refine hK.out _ _ (fun h => absurd rfl h) ?_
          clear hK K cx
          refine wpGrow_done (by kernel_rfl) ?_
          refine (‹∀ (a : Act) (w : World), Code.wp Try.prog (Code.region 7 _ _) _ a w → _› _ _ ?_)
          go_wp2_with fail
          go_roundw
          case rel => exact ⟨j + 1, F ^^^ 2 ^ k, X.set kd dd, by omega, by go_num, SN.out.1, SN.out.2.1, SN.out.2.2.1, SN.out.2.2.2.1, SN.out.2.2.2.2.1, SN.out.2.2.2.2.2⟩
          case measure => simp [intOf]; omega
      · have e3 : j = 3 := by omega
        subst e3
        have hne : sum X ≠ sum L := tells_odd (by rw [HN.out, hXl]) hnum (by rw [HN.out]; exact hFlt) (by rw [HN.out]; exact hpar)
        have S3 : Hid (Own wr w1.heap.size (.slice (some ⟨g, 0, none⟩) n cap) X ∧ X.length = n ∧ w1.grownBy wr none) := ⟨hown, hXl, hg⟩
        have cvx := seg_str hown.seg
        have cvb := seg_str (HB1.out.grown hg)
        have xne : ¬ X = L := fun h => hne (by rw [h])
        clear hown hXl hnum hFlt hpar hg S2
        go_wp2_with fail
        have sxl := sum_lt X
        have sll := sum_lt L
        obtain ⟨sx, hsx⟩ : ∃ sx, sum X = sx := ⟨_, rfl⟩
        obtain ⟨sl, hsl⟩ : ∃ sl, sum L = sl := ⟨_, rfl⟩
        have HSS : Hid (sum X = sx ∧ sum L = sl) := ⟨hsx, hsl⟩
        rw [hsx, hsl] at hne
        have bs : ((sx : Int) == (sl : Int)) = false := by simp; omega
        clear hsx hsl sxl sll
        refine (sum7 _ [X] _ (segs_one S3.out.1.seg)).mono ?_
        rw [show [X].flatten = X by simp, HSS.out.1]
        rintro e w3 ⟨rfl, g3⟩
        have S4 : Hid (Own w3 w1.heap.size (.slice (some ⟨g, 0, none⟩) n cap) X ∧ X.length = n ∧ w1.grownBy w3 none) := by
          have g := grown_trans (World.grownBy_alloc _ _ none) g3
          exact ⟨S3.out.1.grown g, S3.out.2.1, grown_trans S3.out.2.2 g⟩
        clear g3 S3 cvx cvb
        go_wp2_with fail
        refine (sum7 _ [L] _ (segs_one (HB1.out.grown S4.out.2.2))).mono ?_
        rw [show [L].flatten = L by simp, HSS.out.2]
        rintro e w4 ⟨rfl, g4⟩
        have S5 : Hid (Own w4 w1.heap.size (.slice (some ⟨g, 0, none⟩) n cap) X ∧ X.length = n ∧ w1.grownBy w4 none) := by
          have g := grown_trans (World.grownBy_alloc _ _ none) g4
          exact ⟨S4.out.1.grown g, S4.out.2.1, grown_trans S4.out.2.2 g⟩
        clear g4 S4
        have HB4 : Hid (Seg w4 (.slice aob n capb) L) := HB1.out.grown S5.out.2.2
        have HC4 : Hid (Seg w4 (.slice aoc M.length capc) M) := HC1.out.grown S5.out.2.2
        have ca0 : w4.cell? ⟨w.heap.size + 1, 0, none⟩ = some (.int .i64 (atv 0)) := S5.out.2.2.cell (HA1.out 0 (by omega)) (by simp)
        have HG4 : Hid (w.grownBy w4 none) := grown_trans HG1.out S5.out.2.2
        have hab := HAB.out 0
        have HP : Hid (kpos (atv 0) n < 8 * n ∧ kpos (atv 0) n = ((atv 0).tmod ((8 * n : Nat) : Int)).natAbs) := ⟨kpos_lt _ _ n0, rfl⟩
        obtain ⟨a, hea⟩ : ∃ a, atv 0 = a := ⟨_, rfl⟩
        rw [hea] at ca0 hab HP
        obtain ⟨k, hek⟩ : ∃ k, kpos a n = k := ⟨_, rfl⟩
        rw [hek] at HP
        obtain ⟨N8, hN8⟩ : ∃ N8, 8 * n = N8 := ⟨_, rfl⟩
        have m8 : (8 : Int) * (n : Int) = (N8 : Int) := by omega
        obtain ⟨k0, hk0⟩ : ∃ k0, a.tmod (N8 : Int) = k0 := ⟨_, rfl⟩
        have hkk := HP.out
        rw [hN8, hk0] at hkk
        have nz : ((N8 : Int) == 0) = false := by simp; omega
        have nz2 : ¬ (N8 : Int) = 0 := by omega
        have hk8 : k < N8 := hkk.1
        have HKK : Hid _ := hkk
        clear hkk HP hea hek HA1 HAB HC1 HB1 HG1 hne
        have hsg : (k0 < 0 ∧ -k0 = (k : Int)) ∨ (¬ k0 < 0 ∧ k0 = (k : Int)) := by have h := HKK.out; omega
        go_upto_if 87 with (at_builtin; refine app24 _ (by rfl) (.tmp 77) (.tmp 78) rfl w4.heap.size _ [] _ L rfl rfl (own_empty w4) (seg_alloc HB4.out _) (by simp; rw [HN.out]; omega) (by simp) ?_; intro v2 w5 o2 g2x; have ca5 : w5.cell? ⟨w.heap.size + 1, 0, none⟩ = some (.int .i64 a) := (grown_new (World.grownBy_alloc w4 _ none) g2x (fun x hx => (own_empty w4).lt x hx)).cell ca0 (by simp))
        have S6 : Hid (Own w5 w4.heap.size v2 L ∧ w4.grownBy w5 none) := ⟨o2, grown_new (World.grownBy_alloc w4 _ none) g2x (fun x hx => (own_empty w4).lt x hx)⟩
        obtain ⟨g2, cap2, hv2, hgy⟩ : ∃ g2 cap2, v2 = .slice (some ⟨g2, 0, none⟩) n cap2 ∧ w4.heap.size ≤ g2 ∧ g2 < w5.heap.size := by
          rcases o2.shape with ⟨_, h⟩ | ⟨g, cap, h, h2⟩
          · have := HN.out; rw [List.nil_append] at h; rw [h] at this; simp at this; omega
          · exact ⟨g, cap, by rw [h, List.nil_append, HN.out], h2⟩
        subst hv2
        clear o2 g2x ca5 ca0
        go_cut [13] (fun x wc => x = .int .i64 k ∧ wc = w5)
        case first =>
          rcases hsg with ⟨hneg, hnk⟩ | ⟨hneg, hnk⟩
          · go_wp2_with fail
            go_meet
            case rel => exact ⟨by first | rfl | rw [hnk], rfl⟩
          · go_wp2_with fail
            go_meet
            case rel => exact ⟨by first | rfl | rw [hnk], rfl⟩
        case rest =>
          obtain ⟨rfl, rfl⟩ := hcut
          clear hsg HKK hab nz nz2 hk0
          go_wp2_with fail
          go_loopw [14] (fun i wr => ∃ (j m : Nat) (Y : List UInt8), j ≤ 32 ∧ k + j ≤ N8 ∧ i = .int .i64 j ∧ Own wr w4.heap.size (.slice (some ⟨g2, 0, none⟩) n cap2) Y ∧ Y.length = n ∧ num Y = num L ^^^ 2 ^ k * m ∧ m < 2 ^ j ∧ w4.grownBy wr none) (fun i _ => 32 - (intOf i).toNat)
          case atStart => exact ⟨0, 0, L, by omega, by omega, rfl, S6.out.1, HN.out, by simp, by simp, S6.out.2⟩
          case round =>
            obtain ⟨j, m, Y, hj, hkj, rfl, hown, hYl, hnum, hm, hg⟩ := hrel
            obtain ⟨p, hp⟩ : ∃ p, k + j = p := ⟨_, rfl⟩
            have pk : (k : Int) + (j : Int) = (p : Int) := by omega
            have wpp : IntKind.i64.wrap (p : Int) = (p : Int) := wrap_i64 _ (by omega) (by omega)
            obtain ⟨cc, hcc⟩ : ∃ cc : Bool, decide (j < 32 ∧ p < N8) = cc := ⟨_, rfl⟩
            go_upto_region 19 with fail
            go_cut [100] (fun x wc => x = .bool cc ∧ wc = wr)
            case first =>
              by_cases hj32 : j < 32
              · have b3 : decide ((j : Int) < 32) = true := by simp; omega
                by_cases hpN : p < N8
                · have b4 : decide ((p : Int) < (N8 : Int)) = true := by simp; omega
                  have e : cc = true := by rw [← hcc]; simp; omega
                  subst e
                  clear hcc
                  go_wp2_with fail
                  go_meet
                  case rel => exact ⟨rfl, rfl⟩
                · have b4 : decide ((p : Int) < (N8 : Int)) = false := by simp; omega
                  have e : cc = false := by rw [← hcc]; simp; omega
                  subst e
                  clear hcc
                  go_wp2_with fail
                  go_meet
                  case rel => exact ⟨rfl, rfl⟩
              · have b3 : decide ((j : Int) < 32) = false := by simp; omega
                have e : cc = false := by rw [← hcc]; simp; omega
                subst e
                clear hcc
                go_wp2_with fail
                go_meet
                case rel => exact ⟨rfl, rfl⟩
            case rest =>
            obtain ⟨rfl, rfl⟩ := hcut
            by_cases hlt : j < 32 ∧ p < N8
            · have e : cc = true := by rw [← hcc]; simp; omega
              subst e
              clear hcc
              obtain ⟨hj32, hpN⟩ := hlt
              have i3 : (j : Int) ≤ 32 := by omega
              obtain ⟨bq, hbq⟩ : ∃ bq : Nat, burst / 2 ^ j = bq := ⟨_, rfl⟩
              have hbd : (burst : Int) / 2 ^ j = (bq : Int) := by rw [← hbq]; simp
              by_cases ho : bq % 2 = 1
              · have g1 : ((bq : Int) % 2 == 1) = true := by simp; omega
                obtain ⟨kd, hkd⟩ : ∃ kd, p / 8 = kd := ⟨_, rfl⟩
                obtain ⟨kr, hkr⟩ : ∃ kr, p % 8 = kr := ⟨_, rfl⟩
                have hkr8 : kr < 8 := by omega
                have hkdn : kd < n := by omega
                have hkX : kd < Y.length := by rw [hYl]; exact hkdn
                have q8 : (p : Int) / 8 = (kd : Int) := by omega
                have r8 : (p : Int) % 8 = (kr : Int) := by omega
                have r8t : (p : Int).tmod 8 = (kr : Int) := by rw [Int.tmod_eq_emod_of_nonneg (by omega)]; exact r8
                have wkd : IntKind.i64.wrap (kd : Int) = (kd : Int) := wrap_i64 _ (by omega) (by omega)
                have HCX0 : Hid (∀ wk, wc.grownBy wk none → wk.cell? ⟨g2, kd, none⟩ = some (.int .u8 (Y[kd].toNat : Int)) ∧ wk.frozen? ⟨g2, kd, none⟩ = false) := by
                  intro wk hk
                  have h := hown.grown hk
                  exact ⟨own_cell h kd hkX, own_free h kd⟩
                obtain ⟨dd, hdd⟩ := flip_byte Y[kd] kr hkr8
                have hcb := byte_lt Y[kd]
                have hpw : 2 ^ kr < 256 := Nat.pow_lt_pow_right (n := 8) (by omega) hkr8
                have sh : IntKind.u8.wrap (2 ^ kr : Int) = ((2 ^ kr : Nat) : Int) := shl_u8 hkr8
                have SN0 : Hid (Own ((wc.drew).setCell ⟨g2, kd, none⟩ (.int .u8 (dd.toNat : Int))) w4.heap.size (.slice (some ⟨g2, 0, none⟩) n cap2) (Y.set kd dd) ∧ (Y.set kd dd).length = n ∧ num (Y.set kd dd) = num L ^^^ 2 ^ k * (m ^^^ 2 ^ j) ∧ m ^^^ 2 ^ j < 2 ^ (j + 1) ∧ w4.grownBy ((wc.drew).setCell ⟨g2, kd, none⟩ (.int .u8 (dd.toNat : Int))) none) := by
                  refine ⟨own_store (hown.grown (grown_drew _ none)) kd _ dd rfl, by rw [List.length_set]; exact hYl, ?_, ?_, ?_⟩
                  · rw [num_set Y kd dd (2 ^ kr) hkX hdd, hnum, ← Nat.pow_add, show 8 * kd + kr = k + j by omega, mul_pow_xor, ← Nat.pow_add, Nat.xor_assoc]
                  · refine Nat.xor_lt_two_pow (Nat.lt_trans hm (Nat.pow_lt_pow_right (by omega) (by omega))) (Nat.pow_lt_pow_right (by omega) (by omega))
                  · exact grown_new (grown_trans hg (grown_drew _ none)) (grown_setCell _ g2 kd _) (by intro x hx; simp at hx; omega)
                obtain ⟨x, hx⟩ : ∃ x : Nat, Y[kd].toNat = x := ⟨_, rfl⟩
                obtain ⟨pw, hpw2⟩ : ∃ pw : Nat, 2 ^ kr = pw := ⟨_, rfl⟩
                rw [hx] at hdd hcb
                rw [hpw2] at hdd hpw sh
                have HCX : Hid (∀ wk, wc.grownBy wk none → wk.cell? ⟨g2, kd, none⟩ = some (.int .u8 (x : Int)) ∧ wk.frozen? ⟨g2, kd, none⟩ = false) := by rw [← hx]; exact HCX0.out
                have xo : bits .xor .u8 (x : Int) (pw : Int) = ((x ^^^ pw : Nat) : Int) := u8_xor_nat x pw hcb hpw
                rw [← hdd] at xo
                obtain ⟨d, hd⟩ : ∃ d : Nat, dd.toNat = d := ⟨_, rfl⟩
                rw [hd] at xo SN0
                have SN : Hid _ := SN0.out
                have kin : (kd : Int) < (n : Int) := by omega
                have ki0 : (0 : Int) ≤ (kd : Int) := by omega
                have kr0 : (0 : Int) ≤ (kr : Int) := by omega
                have kr1 : (kr : Int) ≤ 8 := by omega
                have HPP : Hid (k + j = p) := hp
                have hsum : k + (j + 1) ≤ N8 := by omega
                clear HCX0 SN0 hx hpw2 hdd hd hkd hkr hown hYl hnum hm hg hbq hp
                go_wp2_with fail
                refine wp_region_noPanic ?_
                refine wp_region_grow 19 (by kernel_rfl) ?_
                refine wpGrow_take (i := 0) (d := some 108) (v := .slice (some ⟨g2, 0, none⟩) n cap2) rfl rfl (by kernel_rfl) (by kernel_rfl) (by kernel_rfl) (by kernel_rfl) (fun _ _ _ h => h) (by rfl) ?_ ?_
                · intro wk hk
                  go_simp
                  try with_reducible rfl
                try simp only [Act.put, List.setIfInBounds_toArray, List.set_cons_zero, List.set_cons_succ]
                refine wpGrow_take (i := 1) (d := some 109) (v := .int .i64 k) rfl rfl (by kernel_rfl) (by kernel_rfl) (by kernel_rfl) (by kernel_rfl) (fun _ _ _ h => h) (by rfl) ?_ ?_
                · intro wk hk
                  go_simp
                  try with_reducible rfl
                try simp only [Act.put, List.setIfInBounds_toArray, List.set_cons_zero, List.set_cons_succ]
                refine wpGrow_take (i := 2) (d := some 110) (v := .int .i64 j) rfl rfl (by kernel_rfl) (by kernel_rfl) (by kernel_rfl) (by kernel_rfl) (fun _ _ _ h => h) (by rfl) ?_ ?_
                · intro wk hk
                  go_simp
                  try with_reducible rfl
                try simp only [Act.put, List.setIfInBounds_toArray, List.set_cons_zero, List.set_cons_succ]
                refine wpGrow_take (i := 3) (d := some 111) (v := .int .i64 p) rfl rfl (by kernel_rfl) (by kernel_rfl) (by kernel_rfl) (by kernel_rfl) (fun _ _ _ h => h) (by rfl) ?_ ?_
                · intro wk hk
                  go_simp
                  try with_reducible rfl
                try simp only [Act.put, List.setIfInBounds_toArray, List.set_cons_zero, List.set_cons_succ]
                refine wpGrow_take (i := 4) (d := some 112) (v := .int .i64 kd) rfl rfl (by kernel_rfl) (by kernel_rfl) (by kernel_rfl) (by kernel_rfl) (fun _ _ _ h => h) (by rfl) ?_ ?_
                · intro wk hk
                  go_simp
                  try with_reducible rfl
                try simp only [Act.put, List.setIfInBounds_toArray, List.set_cons_zero, List.set_cons_succ]
                refine wpGrow_take (i := 5) (d := some 113) (v := .slice (some ⟨g2, 0, none⟩) n cap2) rfl rfl (by kernel_rfl) (by kernel_rfl) (by kernel_rfl) (by kernel_rfl) (fun _ _ _ h => h) (by rfl) ?_ ?_
                · intro wk hk
                  go_simp
                  try with_reducible rfl
                try simp only [Act.put, List.setIfInBounds_toArray, List.set_cons_zero, List.set_cons_succ]
                refine wpGrow_take (i := 6) (d := some 114) (v := .int .i64 k) rfl rfl (by kernel_rfl) (by kernel_rfl) (by kernel_rfl) (by kernel_rfl) (fun _ _ _ h => h) (by rfl) ?_ ?_
                · intro wk hk
                  go_simp
                  try with_reducible rfl
                try simp only [Act.put, List.setIfInBounds_toArray, List.set_cons_zero, List.set_cons_succ]
                refine wpGrow_take (i := 7) (d := some 115) (v := .int .i64 j) rfl rfl (by kernel_rfl) (by kernel_rfl) (by kernel_rfl) (by kernel_rfl) (fun _ _ _ h => h) (by rfl) ?_ ?_
                · intro wk hk
                  go_simp
                  try with_reducible rfl
                try simp only [Act.put, List.setIfInBounds_toArray, List.set_cons_zero, List.set_cons_succ]
                refine wpGrow_take (i := 8) (d := some 116) (v := .int .i64 p) rfl rfl (by kernel_rfl) (by kernel_rfl) (by kernel_rfl) (by kernel_rfl) (fun _ _ _ h => h) (by rfl) ?_ ?_
                · intro wk hk
                  go_simp
                  try with_reducible rfl
                try simp only [Act.put, List.setIfInBounds_toArray, List.set_cons_zero, List.set_cons_succ]
                refine wpGrow_take (i := 9) (d := some 117) (v := .int .i64 kd) rfl rfl (by kernel_rfl) (by kernel_rfl) (by kernel_rfl) (by kernel_rfl) (fun _ _ _ h => h) (by rfl) ?_ ?_
                · intro wk hk
                  go_simp
                  try with_reducible rfl
                try simp only [Act.put, List.setIfInBounds_toArray, List.set_cons_zero, List.set_cons_succ]
                refine wpGrow_take (i := 10) (d := some 118) (v := .pointer (some ⟨g2, kd, none⟩)) rfl rfl (by kernel_rfl) (by kernel_rfl) (by kernel_rfl) (by kernel_rfl) (fun _ _ _ h => h) (by rfl) ?_ ?_
                · intro wk hk
                  go_simp
                  try with_reducible rfl
                try simp only [Act.put, List.setIfInBounds_toArray, List.set_cons_zero, List.set_cons_succ]
                refine wpGrow_take (i := 11) (d := some 119) (v := .int .u8 x) rfl rfl (by kernel_rfl) (by kernel_rfl) (by kernel_rfl) (by kernel_rfl) (fun _ _ _ h => h) (by rfl) ?_ ?_
                · intro wk hk
                  have cx := HCX.out wk (grown_trans (grown_drew wc none) hk)
                  go_simp
                  try with_reducible rfl
                try simp only [Act.put, List.setIfInBounds_toArray, List.set_cons_zero, List.set_cons_succ]
                refine wpGrow_take (i := 12) (d := some 120) (v := .int .i64 k) rfl rfl (by kernel_rfl) (by kernel_rfl) (by kernel_rfl) (by kernel_rfl) (fun _ _ _ h => h) (by rfl) ?_ ?_
                · intro wk hk
                  go_simp
                  try with_reducible rfl
                try simp only [Act.put, List.setIfInBounds_toArray, List.set_cons_zero, List.set_cons_succ]
                refine wpGrow_take (i := 13) (d := some 121) (v := .int .i64 j) rfl rfl (by kernel_rfl) (by kernel_rfl) (by kernel_rfl) (by kernel_rfl) (fun _ _ _ h => h) (by rfl) ?_ ?_
                · intro wk hk
                  go_simp
                  try with_reducible rfl
                try simp only [Act.put, List.setIfInBounds_toArray, List.set_cons_zero, List.set_cons_succ]
                refine wpGrow_take (i := 14) (d := some 122) (v := .int .i64 p) rfl rfl (by kernel_rfl) (by kernel_rfl) (by kernel_rfl) (by kernel_rfl) (fun _ _ _ h => h) (by rfl) ?_ ?_
                · intro wk hk
                  go_simp
                  try with_reducible rfl
                try simp only [Act.put, List.setIfInBounds_toArray, List.set_cons_zero, List.set_cons_succ]
                refine wpGrow_take (i := 15) (d := some 123) (v := .int .i64 kr) rfl rfl (by kernel_rfl) (by kernel_rfl) (by kernel_rfl) (by kernel_rfl) (fun _ _ _ h => h) (by rfl) ?_ ?_
                · intro wk hk
                  go_simp
                  try with_reducible rfl
                try simp only [Act.put, List.setIfInBounds_toArray, List.set_cons_zero, List.set_cons_succ]
                refine wpGrow_take (i := 16) (d := some 124) (v := .int .u8 pw) rfl rfl (by kernel_rfl) (by kernel_rfl) (by kernel_rfl) (by kernel_rfl) (fun _ _ _ h => h) (by rfl) ?_ ?_
                · intro wk hk
                  go_simp
                  try with_reducible rfl
                try simp only [Act.put, List.setIfInBounds_toArray, List.set_cons_zero, List.set_cons_succ]
                refine wpGrow_take (i := 17) (d := some 125) (v := .int .u8 d) rfl rfl (by kernel_rfl) (by kernel_rfl) (by kernel_rfl) (by kernel_rfl) (fun _ _ _ h => h) (by rfl) ?_ ?_
                · intro wk hk
                  go_simp
                  try with_reducible rfl
                try simp only [Act.put, List.setIfInBounds_toArray, List.set_cons_zero, List.set_cons_succ]
                refine wpGrow_take (i := 18) (d := some 126) (v := .pointer (some ⟨g2, kd, none⟩)) rfl rfl (by kernel_rfl) (by kernel_rfl) (by kernel_rfl) (by kernel_rfl) (fun _ _ _ h => h) (by rfl) ?_ ?_
                · intro wk hk
                  go_simp
                  try with_reducible rfl
                try simp only [Act.put, List.setIfInBounds_toArray, List.set_cons_zero, List.set_cons_succ]
                refine wpGrow_one (i := 19) rfl (by kernel_rfl) (by rfl) (fun K hK => ?_)
                have cx := HCX.out wc (grown_refl _ _)
                go_wp2_with fail
                refine hK.out _ _ (fun h => absurd rfl h) ?_
                clear hK K cx
                refine wpGrow_done (by kernel_rfl) ?_
                refine (‹∀ (a : Act) (w : World), Code.wp Try.prog (Code.region 20 _ _) _ a w → _› _ _ ?_)
                go_wp2_with fail
                go_roundw
                case rel => exact ⟨j + 1, m ^^^ 2 ^ j, Y.set kd dd, by omega, by omega, by go_num, SN.out.1, SN.out.2.1, SN.out.2.2.1, SN.out.2.2.2.1, SN.out.2.2.2.2⟩
                case measure => simp [intOf]; omega
              · have g1 : ((bq : Int) % 2 == 1) = false := by simp; omega
                have SY : Hid (Own wc w4.heap.size (.slice (some ⟨g2, 0, none⟩) n cap2) Y ∧ Y.length = n ∧ num Y = num L ^^^ 2 ^ k * m ∧ m < 2 ^ (j + 1) ∧ w4.grownBy wc none) := ⟨hown, hYl, hnum, Nat.lt_trans hm (Nat.pow_lt_pow_right (by omega) (by omega)), hg⟩
                have hsum : k + (j + 1) ≤ N8 := by omega
                clear hown hYl hnum hm hg hbq hp
                go_wp2_with fail
                go_roundw
                case rel => exact ⟨j + 1, m, Y, by omega, by omega, by go_num, SY.out.1, SY.out.2.1, SY.out.2.2.1, SY.out.2.2.2.1, SY.out.2.2.2.2⟩
                case measure => simp [intOf]; omega
            · have e : cc = false := by rw [← hcc]; simp; omega
              subst e
              have hm32 : m < 4294967296 := Nat.lt_of_lt_of_le hm (Nat.pow_le_pow_right (n := 2) (by omega) hj)
              have HT : Hid (sum Y = sum L → Y = L) := tells_burst (by rw [HN.out, hYl]) hnum (by rw [HN.out]; omega) hm32
              have S7 : Hid (Own wc w4.heap.size (.slice (some ⟨g2, 0, none⟩) n cap2) Y ∧ w4.grownBy wc none ∧ Seg wc (.slice aob n capb) L) := ⟨hown, hg, HB4.out.grown hg⟩
              clear hown hYl hnum hm hg hm32 hcc hlt hp hkj S6
              obtain ⟨wv, hwv⟩ : ∃ wv, wv = wc := ⟨_, rfl⟩
              subst hwv
              go_upto_region 23 with fail
              go_cut [140] (fun x wc => x = .bool false ∧ wv.grownBy wc none)
              case first =>
                have cvy := seg_str S7.out.1.seg
                have cvb := seg_str S7.out.2.2
                by_cases hyl : Y = L
                · subst hyl
                  have HR : Hid _ := grown_refl wv none
                  go_wp2_with fail
                  go_meet
                  case rel => exact ⟨rfl, HR.out⟩
                · obtain ⟨sy, hsy⟩ : ∃ sy, sum Y = sy := ⟨_, rfl⟩
                  have hsl := HSS.out.2
                  have bs2 : ((sy : Int) == (sl : Int)) = false := by
                    have : sy ≠ sl := by
                      intro h
                      exact hyl (HT.out (by rw [hsy, hsl, h]))
                    simp; omega
                  have HSY : Hid (sum Y = sy ∧ sum L = sl) := ⟨hsy, hsl⟩
                  clear hsy hsl
                  go_wp2_with fail
                  refine (sum7 _ [Y] _ (segs_one S7.out.1.seg)).mono ?_
                  rw [show [Y].flatten = Y by simp, HSY.out.1]
                  rintro e w6 ⟨rfl, g6⟩
                  have S8 : Hid (wv.grownBy w6 none) := grown_trans (World.grownBy_alloc _ _ none) g6
                  clear g6
                  go_wp2_with fail
                  refine (sum7 _ [L] _ (segs_one (S7.out.2.2.grown S8.out))).mono ?_
                  rw [show [L].flatten = L by simp, HSY.out.2]
                  rintro e w7 ⟨rfl, g7⟩
                  have S9 : Hid (wv.grownBy w7 none) := grown_trans S8.out (grown_trans (World.grownBy_alloc _ _ none) g7)
                  clear g7 S8
                  go_wp2_with fail
                  go_meet
                  case rel => exact ⟨rfl, S9.out⟩
              case rest =>
              obtain ⟨rfl, gc⟩ := hcut
              have S8 : Hid (w4.grownBy wc none) := grown_trans S7.out.2.1 gc
              have SX8 : Hid (Own wc w1.heap.size (.slice (some ⟨g, 0, none⟩) n cap) X) := S5.out.1.grown S8.out
              have HB8 : Hid (Seg wc (.slice aob n capb) L) := HB4.out.grown S8.out
              have HC8 : Hid (Seg wc (.slice aoc M.length capc) M) := HC4.out.grown S8.out
              have HG8 : Hid (w.grownBy wc none) := grown_trans HG4.out S8.out
              have HXl : Hid (X.length = n) := S5.out.2.1
              clear gc S7 HT S8 S5 HB4 HC4 HG4
              obtain ⟨i0, hi0, hz0, hz1, hz2⟩ := info_parts Try.info5
              have n24 : i0.bytes * n ≤ 281474976710656 := by rw [hz2]; omega
              have HI0 : Hid _ := And.intro hi0 (And.intro hz0 hz1)
              clear hi0 hz0 hz1 hz2
              go_wp2_with (at_make; refine wpList_make_full _ rfl (.tmp 142) (.tmp 142) 24 rfl wc.heap.size 5 i0 (.int .u8 0) 1 Try.underlying24 HI0.out.1 HI0.out.2.1 HI0.out.2.2 _ _ _ _ n rfl rfl rfl rfl n24 (by unfold maxLen; omega) (Nat.le_refl _) ?_; intro w6 hz6 g6)
              have S9 : Hid (Own w6 wc.heap.size (.slice (some ⟨wc.heap.size, 0, none⟩) n n) (List.replicate n 0) ∧ wc.grownBy w6 none) := ⟨own_made hz6, g6⟩
              clear hz6 g6
              obtain ⟨gz, hgz⟩ : ∃ gz, wc.heap.size = gz := ⟨_, rfl⟩
              rw [hgz] at S9
              have HGZ : Hid (wc.heap.size = gz) := hgz
              rw [hgz]
              clear hgz
              go_loopw [16] (fun i wr => ∃ (j : Nat) (Z : List UInt8), j ≤ n ∧ i = .int .i64 j ∧ Own wr gz (.slice (some ⟨gz, 0, none⟩) n n) Z ∧ Z.length = n ∧ wc.grownBy wr none) (fun i _ => n - (intOf i).toNat)
              case atStart => exact ⟨0, _, by omega, rfl, S9.out.1, by simp, S9.out.2⟩
              case round =>
                obtain ⟨j, Z, hj, rfl, hown, hZl, hg⟩ := hrel
                by_cases hlt : j < n
                · have b3 : decide ((j : Int) < (n : Int)) = true := by simp; omega
                  have i1 : (0 : Int) ≤ (j : Int) := by omega
                  have i2 : (j : Int) < (n : Int) := by omega
                  by_cases hjM : j < M.length
                  · have b4 : decide ((j : Int) < (M.length : Int)) = true := by simp; omega
                    have i4 : (j : Int) < (M.length : Int) := by omega
                    obtain ⟨_, _, hv, _, _, _, h4⟩ := HC8.out.grown hg
                    simp at hv
                    obtain ⟨rfl, rfl⟩ := hv
                    obtain ⟨bc, offc, rfl, hcell⟩ := h4 j hjM
                    have cz := own_cell hown j (by omega)
                    have fz := own_free hown j
                    obtain ⟨xm, hxm⟩ : ∃ xm : Nat, M[j].toNat = xm := ⟨_, rfl⟩
                    have SZ : Hid (Own (wr.setCell ⟨gz, j, none⟩ (.int .u8 (xm : Int))) gz (.slice (some ⟨gz, 0, none⟩) n n) (Z.set j M[j]) ∧ (Z.set j M[j]).length = n ∧ wc.grownBy (wr.setCell ⟨gz, j, none⟩ (.int .u8 (xm : Int))) none) :=
                      ⟨own_store hown j _ M[j] (by rw [hxm]), by rw [List.length_set]; exact hZl, grown_new hg (grown_setCell _ gz j _) (by intro x hx; have := HGZ.out; simp at hx; omega)⟩
                    rw [hxm] at hcell
                    obtain ⟨xz, hxz⟩ : ∃ xz : Nat, (Z[j]'(by omega)).toNat = xz := ⟨_, rfl⟩
                    rw [hxz] at cz
                    clear h4 hown hZl hg hxm hxz
                    go_wp2_with fail
                    go_roundw
                    case rel => exact ⟨j + 1, _, by omega, by go_num, SZ.out.1, SZ.out.2.1, SZ.out.2.2⟩
                    case measure => simp [intOf]; omega
                  · have b4 : decide ((j : Int) < (M.length : Int)) = false := by simp; omega
                    have SZ : Hid (Own wr gz (.slice (some ⟨gz, 0, none⟩) n n) Z ∧ Z.length = n ∧ wc.grownBy wr none) := ⟨hown, hZl, hg⟩
                    clear hown hZl hg
                    go_wp2_with fail
                    go_roundw
                    case rel => exact ⟨j + 1, Z, by omega, by go_num, SZ.out.1, SZ.out.2.1, SZ.out.2.2⟩
                    case measure => simp [intOf]; omega
                · have b3 : decide ((j : Int) < (n : Int)) = false := by simp; omega
                  obtain ⟨wz, hwz⟩ : ∃ wz, wz = wr := ⟨_, rfl⟩
                  subst hwz
                  have SZ : Hid (Own wz gz (.slice (some ⟨gz, 0, none⟩) n n) Z ∧ Z.length = n ∧ w.grownBy wz none ∧ Own wz w1.heap.size (.slice (some ⟨g, 0, none⟩) n cap) X ∧ Seg wz (.slice aob n capb) L) := ⟨hown, hZl, grown_trans HG8.out hg, SX8.out.grown hg, HB8.out.grown hg⟩
                  have hgzl : Hid (gz < wz.heap.size ∧ g < wz.heap.size) := by
                    refine ⟨(World.ownsRow.lt hown gz rfl).2, (World.ownsRow.lt (SX8.out.grown hg) g rfl).2⟩
                  clear hown hZl hg S9 HG8 SX8 HB8 HC8
                  go_wp2_with (at_make; refine wpList_make_full _ rfl (.tmp 162) (.tmp 162) 24 rfl wz.heap.size 5 i0 (.int .u8 0) 1 Try.underlying24 HI0.out.1 HI0.out.2.1 HI0.out.2.2 _ _ _ _ n rfl rfl rfl rfl n24 (by unfold maxLen; omega) (Nat.le_refl _) ?_; intro w7 hv7 g7)
                  have S10 : Hid (Own w7 wz.heap.size (.slice (some ⟨wz.heap.size, 0, none⟩) n n) (List.replicate n 0) ∧ wz.grownBy w7 none) := ⟨own_made hv7, g7⟩
                  clear hv7 g7
                  obtain ⟨gv, hgv⟩ : ∃ gv, wz.heap.size = gv := ⟨_, rfl⟩
                  rw [hgv] at S10 hgzl
                  have HGV : Hid (wz.heap.size = gv) := hgv
                  rw [hgv]
                  clear hgv
                  obtain ⟨bb, off, haob⟩ : ∃ bb off, aob = some ⟨bb, off, none⟩ := by
                    obtain ⟨_, _, hv, _, _, _, h4⟩ := SZ.out.2.2.2.2
                    simp at hv
                    obtain ⟨b, o, e, _⟩ := h4 0 (by rw [HN.out]; omega)
                    exact ⟨b, o, by rw [hv.1, e]⟩
                  subst haob
                  obtain ⟨D, hD⟩ : ∃ D, List.zipWith (· ^^^ ·) (List.zipWith (· ^^^ ·) L X) Z = D := ⟨_, rfl⟩
                  have hDl : D.length = n := by rw [← hD]; simp [HN.out, HXl.out, SZ.out.2.1]
                  have HDn : Hid (num D = num L ^^^ num X ^^^ num Z) := by
                    unfold Hid
                    rw [← hD, num_zip _ _ (by simp [HN.out, HXl.out, SZ.out.2.1]), num_zip _ _ (by rw [HN.out, HXl.out])]
                  have HDj : Hid (∀ j (hj : j < n), (D[j]'(by omega)).toNat = (L[j]'(by rw [HN.out]; exact hj)).toNat ^^^ (X[j]'(by rw [HXl.out]; exact hj)).toNat ^^^ (Z[j]'(by rw [SZ.out.2.1]; exact hj)).toNat) := by
                    intro j hj
                    subst hD
                    simp [UInt8.toNat_xor]
                  clear hD
                  go_loopw [18] (fun i wr => ∃ (j : Nat) (V : List UInt8), j ≤ n ∧ i = .int .i64 j ∧ Own wr gv (.slice (some ⟨gv, 0, none⟩) n n) V ∧ V.length = n ∧ V.take j = D.take j ∧ wz.grownBy wr none) (fun i _ => n - (intOf i).toNat)
                  case atStart => exact ⟨0, _, by omega, rfl, S10.out.1, by simp, rfl, S10.out.2⟩
                  case round =>
                    obtain ⟨j, V, hj, rfl, hown, hVl, hVD, hg⟩ := hrel
                    by_cases hlt4 : j < n
                    · have b5 : decide ((j : Int) < (n : Int)) = true := by simp; omega
                      have i1 : (0 : Int) ≤ (j : Int) := by omega
                      have i2 : (j : Int) < (n : Int) := by omega
                      have hDj := HDj.out j hlt4
                      have HCC0 : Hid (∀ wk, wr.grownBy wk none → wk.cell? ⟨bb, off + j, none⟩ = some (.int .u8 ((L[j]'(by rw [HN.out]; exact hlt4)).toNat : Int)) ∧ wk.cell? ⟨g, j, none⟩ = some (.int .u8 ((X[j]'(by rw [HXl.out]; exact hlt4)).toNat : Int)) ∧ wk.cell? ⟨gz, j, none⟩ = some (.int .u8 ((Z[j]'(by rw [SZ.out.2.1]; exact hlt4)).toNat : Int)) ∧ wk.cell? ⟨gv, j, none⟩ = some (.int .u8 ((V[j]'(by omega)).toNat : Int)) ∧ wk.frozen? ⟨gv, j, none⟩ = false) := by
                        intro wk hk
                        have gk := grown_trans hg hk
                        obtain ⟨h1, h2, h3, h4, h5⟩ := SZ.out
                        refine ⟨?_, own_cell (h4.grown gk) j (by rw [HXl.out]; exact hlt4), own_cell (h1.grown gk) j (by rw [h2]; exact hlt4), own_cell (hown.grown hk) j (by omega), own_free (hown.grown hk) j⟩
                        obtain ⟨_, _, hv, _, _, _, hq⟩ := h5.grown gk
                        simp at hv
                        obtain ⟨b, o, e, hc⟩ := hq j (by rw [HN.out]; exact hlt4)
                        rw [← hv.1] at e
                        simp at e
                        obtain ⟨rfl, rfl⟩ := e
                        exact hc
                      have SN0 : Hid (Own ((wr.drew).setCell ⟨gv, j, none⟩ (.int .u8 ((D[j]'(by omega)).toNat : Int))) gv (.slice (some ⟨gv, 0, none⟩) n n) (V.set j (D[j]'(by omega))) ∧ (V.set j (D[j]'(by omega))).length = n ∧ (V.set j (D[j]'(by omega))).take (j + 1) = D.take (j + 1) ∧ wz.grownBy ((wr.drew).setCell ⟨gv, j, none⟩ (.int .u8 ((D[j]'(by omega)).toNat : Int))) none) := by
                        refine ⟨own_store (hown.grown (grown_drew _ none)) j _ _ rfl, by rw [List.length_set]; exact hVl, take_set_next V D j (by omega) (by omega) hVD, ?_⟩
                        exact grown_new (grown_trans hg (grown_drew _ none)) (grown_setCell _ gv j _) (by intro x hx; have := HGV.out; simp at hx; omega)
                      obtain ⟨xb, hxb⟩ : ∃ xb : Nat, (L[j]'(by rw [HN.out]; exact hlt4)).toNat = xb := ⟨_, rfl⟩
                      obtain ⟨xx, hxx⟩ : ∃ xx : Nat, (X[j]'(by rw [HXl.out]; exact hlt4)).toNat = xx := ⟨_, rfl⟩
                      obtain ⟨xz, hxz⟩ : ∃ xz : Nat, (Z[j]'(by rw [SZ.out.2.1]; exact hlt4)).toNat = xz := ⟨_, rfl⟩
                      obtain ⟨xv, hxv⟩ : ∃ xv : Nat, (V[j]'(by omega)).toNat = xv := ⟨_, rfl⟩
                      have lb := byte_lt (L[j]'(by rw [HN.out]; exact hlt4))
                      have lx := byte_lt (X[j]'(by rw [HXl.out]; exact hlt4))
                      have lz := byte_lt (Z[j]'(by rw [SZ.out.2.1]; exact hlt4))
                      rw [hxb] at hDj lb
                      rw [hxx] at hDj lx
                      rw [hxz] at hDj lz
                      rw [hxb, hxx, hxz, hxv] at HCC0
                      have HCC : Hid _ := HCC0.out
                      have le1 : xb ^^^ xx < 256 := byte_xor xb xx lb lx
                      have x1 : bits .xor .u8 (xb : Int) (xx : Int) = ((xb ^^^ xx : Nat) : Int) := u8_xor_nat xb xx lb lx
                      obtain ⟨e1, he1⟩ : ∃ e1, xb ^^^ xx = e1 := ⟨_, rfl⟩
                      rw [he1] at le1 x1 hDj
                      have x2 : bits .xor .u8 (e1 : Int) (xz : Int) = ((e1 ^^^ xz : Nat) : Int) := u8_xor_nat e1 xz le1 lz
                      obtain ⟨d, hd⟩ : ∃ d, (D[j]'(by omega)).toNat = d := ⟨_, rfl⟩
                      rw [hd] at hDj
                      rw [← hDj] at x2
                      rw [hd] at SN0
                      have SN : Hid _ := SN0.out
                      have hjD : j < D.length := by omega
                      clear hDj HCC0 SN0 hxb hxx hxz hxv hd he1 hown hVD hg
                      go_wp2_with fail
                      refine wp_region_noPanic ?_
                      refine wp_region_grow 17 (by kernel_rfl) ?_
                      refine wpGrow_take (i := 0) (d := some 170) (v := .slice (some ⟨gv, 0, none⟩) n n) rfl rfl (by kernel_rfl) (by kernel_rfl) (by kernel_rfl) (by kernel_rfl) (fun _ _ _ h => h) (by rfl) ?_ ?_
                      · intro wk hk
                        go_simp
                        try with_reducible rfl
                      try simp only [Act.put, List.setIfInBounds_toArray, List.set_cons_zero, List.set_cons_succ]
                      refine wpGrow_take (i := 1) (d := some 171) (v := .int .i64 j) rfl rfl (by kernel_rfl) (by kernel_rfl) (by kernel_rfl) (by kernel_rfl) (fun _ _ _ h => h) (by rfl) ?_ ?_
                      · intro wk hk
                        go_simp
                        try with_reducible rfl
                      try simp only [Act.put, List.setIfInBounds_toArray, List.set_cons_zero, List.set_cons_succ]
                      refine wpGrow_take (i := 2) (d := some 172) (v := .slice (some ⟨bb, off, none⟩) n capb) rfl rfl (by kernel_rfl) (by kernel_rfl) (by kernel_rfl) (by kernel_rfl) (fun _ _ _ h => h) (by rfl) ?_ ?_
                      · intro wk hk
                        go_simp
                        try with_reducible rfl
                      try simp only [Act.put, List.setIfInBounds_toArray, List.set_cons_zero, List.set_cons_succ]
                      refine wpGrow_take (i := 3) (d := some 173) (v := .int .i64 j) rfl rfl (by kernel_rfl) (by kernel_rfl) (by kernel_rfl) (by kernel_rfl) (fun _ _ _ h => h) (by rfl) ?_ ?_
                      · intro wk hk
                        go_simp
                        try with_reducible rfl
                      try simp only [Act.put, List.setIfInBounds_toArray, List.set_cons_zero, List.set_cons_succ]
                      refine wpGrow_take (i := 4) (d := some 174) (v := .pointer (some ⟨bb, off + j, none⟩)) rfl rfl (by kernel_rfl) (by kernel_rfl) (by kernel_rfl) (by kernel_rfl) (fun _ _ _ h => h) (by rfl) ?_ ?_
                      · intro wk hk
                        go_simp
                        try with_reducible rfl
                      try simp only [Act.put, List.setIfInBounds_toArray, List.set_cons_zero, List.set_cons_succ]
                      refine wpGrow_take (i := 5) (d := some 175) (v := .int .u8 xb) rfl rfl (by kernel_rfl) (by kernel_rfl) (by kernel_rfl) (by kernel_rfl) (fun _ _ _ h => h) (by rfl) ?_ ?_
                      · intro wk hk
                        obtain ⟨cb, cx, cz, cw, fw⟩ := HCC.out wk (grown_trans (grown_drew wr none) hk)
                        go_simp
                        try with_reducible rfl
                      try simp only [Act.put, List.setIfInBounds_toArray, List.set_cons_zero, List.set_cons_succ]
                      refine wpGrow_take (i := 6) (d := some 176) (v := .slice (some ⟨g, 0, none⟩) n cap) rfl rfl (by kernel_rfl) (by kernel_rfl) (by kernel_rfl) (by kernel_rfl) (fun _ _ _ h => h) (by rfl) ?_ ?_
                      · intro wk hk
                        go_simp
                        try with_reducible rfl
                      try simp only [Act.put, List.setIfInBounds_toArray, List.set_cons_zero, List.set_cons_succ]
                      refine wpGrow_take (i := 7) (d := some 177) (v := .int .i64 j) rfl rfl (by kernel_rfl) (by kernel_rfl) (by kernel_rfl) (by kernel_rfl) (fun _ _ _ h => h) (by rfl) ?_ ?_
                      · intro wk hk
                        go_simp
                        try with_reducible rfl
                      try simp only [Act.put, List.setIfInBounds_toArray, List.set_cons_zero, List.set_cons_succ]
                      refine wpGrow_take (i := 8) (d := some 178) (v := .pointer (some ⟨g, j, none⟩)) rfl rfl (by kernel_rfl) (by kernel_rfl) (by kernel_rfl) (by kernel_rfl) (fun _ _ _ h => h) (by rfl) ?_ ?_
                      · intro wk hk
                        go_simp
                        try with_reducible rfl
                      try simp only [Act.put, List.setIfInBounds_toArray, List.set_cons_zero, List.set_cons_succ]
                      refine wpGrow_take (i := 9) (d := some 179) (v := .int .u8 xx) rfl rfl (by kernel_rfl) (by kernel_rfl) (by kernel_rfl) (by kernel_rfl) (fun _ _ _ h => h) (by rfl) ?_ ?_
                      · intro wk hk
                        obtain ⟨cb, cx, cz, cw, fw⟩ := HCC.out wk (grown_trans (grown_drew wr none) hk)
                        go_simp
                        try with_reducible rfl
                      try simp only [Act.put, List.setIfInBounds_toArray, List.set_cons_zero, List.set_cons_succ]
                      refine wpGrow_take (i := 10) (d := some 180) (v := .int .u8 e1) rfl rfl (by kernel_rfl) (by kernel_rfl) (by kernel_rfl) (by kernel_rfl) (fun _ _ _ h => h) (by rfl) ?_ ?_
                      · intro wk hk
                        go_simp
                        try with_reducible rfl
                      try simp only [Act.put, List.setIfInBounds_toArray, List.set_cons_zero, List.set_cons_succ]
                      refine wpGrow_take (i := 11) (d := some 181) (v := .slice (some ⟨gz, 0, none⟩) n n) rfl rfl (by kernel_rfl) (by kernel_rfl) (by kernel_rfl) (by kernel_rfl) (fun _ _ _ h => h) (by rfl) ?_ ?_
                      · intro wk hk
                        go_simp
                        try with_reducible rfl
                      try simp only [Act.put, List.setIfInBounds_toArray, List.set_cons_zero, List.set_cons_succ]
                      refine wpGrow_take (i := 12) (d := some 182) (v := .int .i64 j) rfl rfl (by kernel_rfl) (by kernel_rfl) (by kernel_rfl) (by kernel_rfl) (fun _ _ _ h => h) (by rfl) ?_ ?_
                      · intro wk hk
                        go_simp
                        try with_reducible rfl
                      try simp only [Act.put, List.setIfInBounds_toArray, List.set_cons_zero, List.set_cons_succ]
                      refine wpGrow_take (i := 13) (d := some 183) (v := .pointer (some ⟨gz, j, none⟩)) rfl rfl (by kernel_rfl) (by kernel_rfl) (by kernel_rfl) (by kernel_rfl) (fun _ _ _ h => h) (by rfl) ?_ ?_
                      · intro wk hk
                        go_simp
                        try with_reducible rfl
                      try simp only [Act.put, List.setIfInBounds_toArray, List.set_cons_zero, List.set_cons_succ]
                      refine wpGrow_take (i := 14) (d := some 184) (v := .int .u8 xz) rfl rfl (by kernel_rfl) (by kernel_rfl) (by kernel_rfl) (by kernel_rfl) (fun _ _ _ h => h) (by rfl) ?_ ?_
                      · intro wk hk
                        obtain ⟨cb, cx, cz, cw, fw⟩ := HCC.out wk (grown_trans (grown_drew wr none) hk)
                        go_simp
                        try with_reducible rfl
                      try simp only [Act.put, List.setIfInBounds_toArray, List.set_cons_zero, List.set_cons_succ]
                      refine wpGrow_take (i := 15) (d := some 185) (v := .int .u8 d) rfl rfl (by kernel_rfl) (by kernel_rfl) (by kernel_rfl) (by kernel_rfl) (fun _ _ _ h => h) (by rfl) ?_ ?_
                      · intro wk hk
                        go_simp
                        try with_reducible rfl
                      try simp only [Act.put, List.setIfInBounds_toArray, List.set_cons_zero, List.set_cons_succ]
                      refine wpGrow_take (i := 16) (d := some 186) (v := .pointer (some ⟨gv, j, none⟩)) rfl rfl (by kernel_rfl) (by kernel_rfl) (by kernel_rfl) (by kernel_rfl) (fun _ _ _ h => h) (by rfl) ?_ ?_
                      · intro wk hk
                        go_simp
                        try with_reducible rfl
                      try simp only [Act.put, List.setIfInBounds_toArray, List.set_cons_zero, List.set_cons_succ]
                      refine wpGrow_one (i := 17) rfl (by kernel_rfl) (by rfl) (fun K hK => ?_)
                      obtain ⟨cb, cx, cz, cw, fw⟩ := HCC.out wr (grown_refl _ _)
                      go_wp2_with fail
                      refine hK.out _ _ (fun h => absurd rfl h) ?_
                      clear hK K cb cx cz cw fw
                      refine wpGrow_done (by kernel_rfl) ?_
                      refine (‹∀ (a : Act) (w : World), Code.wp Try.prog (Code.region 34 _ _) _ a w → _› _ _ ?_)
                      go_wp2_with fail
                      go_roundw
                      case rel => exact ⟨j + 1, V.set j D[j], by omega, by go_num, SN.out.1, SN.out.2.1, SN.out.2.2.1, SN.out.2.2.2⟩
                      case measure => simp [intOf]; omega
                    · have b5 : decide ((j : Int) < (n : Int)) = false := by simp; omega
                      have ej : j = n := by omega
                      have hVe : V = D := by
                        have h := hVD
                        rw [ej, List.take_of_length_le (by omega), List.take_of_length_le (by omega)] at h
                        exact h
                      subst hVe
                      have HS3 : Hid (sum L ^^^ sum X ^^^ sum Z = sum V) := sum_three (by rw [HN.out, HXl.out]) (by rw [HN.out, SZ.out.2.1]) (by rw [HN.out, hVl]) HDn.out
                      have S11 : Hid (w.grownBy wr none ∧ Seg wr (.slice (some ⟨bb, off, none⟩) n capb) L ∧ Own wr w1.heap.size (.slice (some ⟨g, 0, none⟩) n cap) X ∧ Own wr gz (.slice (some ⟨gz, 0, none⟩) n n) Z ∧ Own wr gv (.slice (some ⟨gv, 0, none⟩) n n) V) := by
                        obtain ⟨h1, h2, h3, h4, h5⟩ := SZ.out
                        exact ⟨grown_trans h3 hg, h5.grown hg, h4.grown hg, h1.grown hg, hown⟩
                      have tl := sum_lt L
                      have tx := sum_lt X
                      have tz := sum_lt Z
                      obtain ⟨sz, hsz⟩ : ∃ sz, sum Z = sz := ⟨_, rfl⟩
                      obtain ⟨sv, hsv⟩ : ∃ sv, sum V = sv := ⟨_, rfl⟩
                      have HSZ : Hid (sum Z = sz ∧ sum V = sv) := ⟨hsz, hsv⟩
                      rw [HSS.out.2] at tl HS3
                      rw [HSS.out.1] at tx HS3
                      rw [hsz] at tz HS3
                      rw [hsv] at HS3
                      have x1 : bits .xor .u32 (sl : Int) (sx : Int) = ((sl ^^^ sx : Nat) : Int) := u32_xor_nat sl sx tl tx
                      have l1 : sl ^^^ sx < 4294967296 := Nat.xor_lt_two_pow (n := 32) tl tx
                      have x2 : bits .xor .u32 ((sl ^^^ sx : Nat) : Int) (sz : Int) = ((sl ^^^ sx ^^^ sz : Nat) : Int) := u32_xor_nat _ sz l1 tz
                      rw [HS3.out] at x2
                      obtain ⟨q1, hq1⟩ : ∃ q1, sl ^^^ sx = q1 := ⟨_, rfl⟩
                      rw [hq1] at x1 x2
                      clear hown hVl hVD hg hsz hsv hq1 HS3 l1 S10 HDj HDn
                      go_wp2_with fail
                      refine (sum7 _ [L] _ (segs_one S11.out.2.1)).mono ?_
                      rw [show [L].flatten = L by simp, HSS.out.2]
                      rintro e w8 ⟨rfl, g8⟩
                      have G8 : Hid (wr.grownBy w8 none) := grown_trans (World.grownBy_alloc _ _ none) g8
                      clear g8
                      go_wp2_with fail
                      refine (sum7 _ [X] _ (segs_one (S11.out.2.2.1.grown G8.out).seg)).mono ?_
                      rw [show [X].flatten = X by simp, HSS.out.1]
                      rintro e w9 ⟨rfl, g9⟩
                      have G9 : Hid (wr.grownBy w9 none) := grown_trans G8.out (grown_trans (World.grownBy_alloc _ _ none) g9)
                      clear g9 G8
                      go_wp2_with fail
                      refine (sum7 _ [Z] _ (segs_one (S11.out.2.2.2.1.grown G9.out).seg)).mono ?_
                      rw [show [Z].flatten = Z by simp, HSZ.out.1]
                      rintro e w10 ⟨rfl, g10⟩
                      have G10 : Hid (wr.grownBy w10 none) := grown_trans G9.out (grown_trans (World.grownBy_alloc _ _ none) g10)
                      clear g10 G9
                      go_wp2_with fail
                      refine (sum7 _ [V] _ (segs_one (S11.out.2.2.2.2.grown G10.out).seg)).mono ?_
                      rw [show [V].flatten = V by simp, HSZ.out.2]
                      rintro e w11 ⟨rfl, g11⟩
                      have G11 : Hid (wr.grownBy w11 none) := grown_trans G10.out (grown_trans (World.grownBy_alloc _ _ none) g11)
                      clear g11 G10
                      go_wp2_with fail
                      refine (known6 _).mono ?_
                      rintro e w12 ⟨rfl, g12⟩
                      have G12 : Hid (w.grownBy w12 none) := grown_trans S11.out.1 (grown_trans G11.out g12)
                      clear g12 G11
                      go_wp2_with fail
                      go_ret
                      exact ⟨rfl, G12.out⟩
end Go.Proofs.Ytdmnnfppjhpdkaa
