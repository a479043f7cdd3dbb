/-
  One bit of a frame other.
-/
import Derived.Test.YtdfdlkpljgpckaaKn
import Derived.Test.YtdfdlkpljgpckaaWireAll
namespace Go.Proofs.Ytdfdlkpljgpckaa
open Go.RowKit Disk

theorem wrap_pow (t : Nat) (h : t < 8) : IntKind.u8.wrap ((2 : Int) ^ t) = ((2 ^ t : Nat) : Int) := by
  have : t = 0 ∨ t = 1 ∨ t = 2 ∨ t = 3 ∨ t = 4 ∨ t = 5 ∨ t = 6 ∨ t = 7 := by omega
  rcases this with rfl | rfl | rfl | rfl | rfl | rfl | rfl | rfl <;> rfl

set_option maxRecDepth 100000 in
set_option maxHeartbeats 4000000 in
theorem other19 (kd bit : Int) (v : Value) (L : List UInt8) (w : World) (hs : Seg w v L) (hL : L.length ≤ 1048576) (hk : 0 ≤ kd ∧ kd ≤ 255) (_hb : -9223372036854775808 ≤ bit ∧ bit ≤ 9223372036854775807) : Calls Try.prog 19 #[.agg #[.int .i64 kd, v], .int .i64 bit] w fun e w' => e = .returned (.bool true) ∧ w.grownBy w' none := by
  obtain ⟨ao, cap, hv⟩ := hs.shape
  subst hv
  have HS : Hid (Seg w (.slice ao L.length cap) L) := hs
  have HK : Hid (Kinds [(kd, L)]) := by
    intro f hf
    simp at hf
    subst hf
    exact hk
  have HKK : Hid _ := hk
  have HL : Hid _ := hL
  clear hs hL hk
  go_enter Try.func19, Try.ntmps19
  go_wp2_with fail
  refine (put8 kd _ L _ (HS.out.grown (World.grownBy_alloc _ _ _)) (by have := HL.out; omega)).mono ?_
  rintro e w1 ⟨g1, _, hok⟩
  obtain ⟨u, rfl, ou⟩ := hok HK.out
  obtain ⟨F, hF⟩ : ∃ F, flat [(kd, L)] = F := ⟨_, rfl⟩
  have HF : Hid (F = frm kd.toNat L) := by rw [← hF, flat_cons, flat_nil, List.append_nil]; rfl
  rw [hF] at ou
  obtain ⟨N, hN⟩ : ∃ N, F.length = N := ⟨_, rfl⟩
  have hN2 : N = 9 + L.length := by rw [← hN, HF.out, frm_len]
  have HN : Hid (F.length = N) := hN
  have H1 : Hid (Disk.Own w1 (w.heap.size + 1) u F ∧ w.grownBy w1 none) := ⟨by have := ou; simpa using this, grown_trans (World.grownBy_alloc _ _ _) g1⟩
  obtain ⟨au, cu, hu⟩ := ou.seg.shape
  rw [hN] at hu
  subst hu
  obtain ⟨g, hg⟩ : ∃ g, au = some ⟨g, 0, none⟩ := by
    rcases H1.out.1.2 with ⟨e, h1⟩ | ⟨g, c, cur, e, _⟩
    · have := HN.out; omega
    · simp at e
      exact ⟨g, e.1⟩
  subst hg
  have hN9 : 9 ≤ N := by omega
  have hNm : N ≤ 1048585 := by have := HL.out; omega
  have HN2 : Hid _ := hN2
  clear hF hN g1 hok ou hN2
  have n0 : ¬ (N : Int) = 0 := by omega
  have n8 : ¬ (8 * (N : Int)) = 0 := by omega
  go_upto_region 5 with (first | (go_at_call 10; refine (num10 _ _).mono ?_; rintro e wx ⟨rfl, hx⟩; rw [hx]; clear hx))
  obtain ⟨r, hr⟩ : ∃ r, bit.tmod (8 * (N : Int)) = r := ⟨_, rfl⟩
  have hra : r.natAbs < 8 * N := by
    rw [← hr, Int.natAbs_tmod]
    have : (8 * (N : Int)).natAbs = 8 * N := by omega
    rw [this]
    exact Nat.mod_lt _ (by omega)
  rw [hr]
  clear hr n0 n8
  obtain ⟨q, hq⟩ : ∃ q, r.natAbs = q := ⟨_, rfl⟩
  rw [hq] at hra
  by_cases hneg : r < 0
  · obtain rfl : r = -(q : Int) := by omega
    have hq0 : ¬ q = 0 := by omega
    have hn0 : -(q : Int) < 0 := hneg
    clear hq
    go_upto_region 7 with fail
    have q8 : (q : Int).tdiv 8 = ((q / 8 : Nat) : Int) := by rw [Int.tdiv_eq_ediv_of_nonneg (by omega)]; omega
    have q9 : (q : Int).tmod 8 = ((q % 8 : Nat) : Int) := by rw [Int.tmod_eq_emod_of_nonneg (by omega)]; omega
    have q6 : (q : Int) / 8 = ((q / 8 : Nat) : Int) := by omega
    have q7 : (q : Int) % 8 = ((q % 8 : Nat) : Int) := by omega
    obtain ⟨j, hj⟩ : ∃ j, q / 8 = j := ⟨_, rfl⟩
    obtain ⟨t, ht⟩ : ∃ t, q % 8 = t := ⟨_, rfl⟩
    have hjN : j < N := by omega
    have ht8 : t < 8 := by omega
    rw [hj] at q8 q6
    rw [ht] at q9 q7
    clear hj ht
    have j0 : (0 : Int) ≤ (j : Int) := by omega
    have j1 : (j : Int) < (N : Int) := by omega
    have t0 : (0 : Int) ≤ (t : Int) := by omega
    have wj : IntKind.i64.wrap (j : Int) = (j : Int) := by rw [IntKind.wrap_i64]; omega
    have wt : IntKind.i64.wrap (t : Int) = (t : Int) := by rw [IntKind.wrap_i64]; omega
    have hjF : j < F.length := by rw [HN.out]; exact hjN
    obtain ⟨c, hc⟩ : ∃ c : UInt8, c.toNat = F[j].toNat ^^^ 2 ^ t := by
      have h1 := F[j].toNat_lt
      have h2 : (2 : Nat) ^ t < 2 ^ 8 := Nat.pow_lt_pow_right (by omega) ht8
      have h3 := Nat.xor_lt_two_pow (n := 8) h1 h2
      exact ⟨UInt8.ofNat (F[j].toNat ^^^ 2 ^ t), by rw [UInt8.toNat_ofNat']; exact Nat.mod_eq_of_lt h3⟩
    have wsh : IntKind.u8.wrap ((2 : Int) ^ t) = ((2 ^ t : Nat) : Int) := by
      exact wrap_pow t ht8
    have bx : bits .xor .u8 (F[j].toNat : Int) ((2 ^ t : Nat) : Int) = (c.toNat : Int) := by
      rw [u8_xor_nat _ _ F[j].toNat_lt (Nat.pow_lt_pow_right (by omega) ht8), hc]
    have HCC : Hid _ := hc
    clear hc
    obtain ⟨p2, hp2⟩ : ∃ p2 : Nat, 2 ^ t = p2 := ⟨_, rfl⟩
    have HP2 : Hid _ := hp2
    rw [hp2] at wsh bx
    have HQ : Hid (∀ x : World, w1.grownBy x none → x.cell? ⟨g, j, none⟩ = some (.int .u8 (F[j].toNat : Int)) ∧ x.frozen? ⟨g, j, none⟩ = false) := by
      intro x hx
      have ho := H1.out.1.grown hx
      obtain ⟨cur, hb⟩ := own_blk ho rfl
      obtain ⟨ao', cap', hv, _, _, _, h4⟩ := ho.seg
      simp at hv
      obtain ⟨b', off', e', hc⟩ := h4 j hjF
      rw [← hv.1] at e'
      simp at e'
      rw [← e'.1, ← e'.2, Nat.zero_add] at hc
      exact ⟨hc, hb.free j⟩
    refine wp_region_noPanic ?_
    refine wp_region_hold 13 (fun x => w1.grownBy x none) (by kernel_rfl) ?_
    refine wpHold_take (i := 0) (v := _) (grown_drew _ _) rfl rfl (by kernel_rfl) (by kernel_rfl) (by kernel_rfl) (by kernel_rfl) (by kernel_rfl) (fun _ _ _ h => h) (by rfl) (fun wk hk => by obtain ⟨k0, k1⟩ := HQ.out wk hk; go_simp; try rfl) ?_
    try simp only [Act.put, List.setIfInBounds_toArray, List.set_cons_zero, List.set_cons_succ]
    refine wpHold_take (i := 1) (v := _) (grown_drew _ _) rfl rfl (by kernel_rfl) (by kernel_rfl) (by kernel_rfl) (by kernel_rfl) (by kernel_rfl) (fun _ _ _ h => h) (by rfl) (fun wk hk => by obtain ⟨k0, k1⟩ := HQ.out wk hk; go_simp; try rfl) ?_
    try simp only [Act.put, List.setIfInBounds_toArray, List.set_cons_zero, List.set_cons_succ]
    refine wpHold_take (i := 2) (v := _) (grown_drew _ _) rfl rfl (by kernel_rfl) (by kernel_rfl) (by kernel_rfl) (by kernel_rfl) (by kernel_rfl) (fun _ _ _ h => h) (by rfl) (fun wk hk => by obtain ⟨k0, k1⟩ := HQ.out wk hk; go_simp; try rfl) ?_
    try simp only [Act.put, List.setIfInBounds_toArray, List.set_cons_zero, List.set_cons_succ]
    refine wpHold_take (i := 3) (v := _) (grown_drew _ _) rfl rfl (by kernel_rfl) (by kernel_rfl) (by kernel_rfl) (by kernel_rfl) (by kernel_rfl) (fun _ _ _ h => h) (by rfl) (fun wk hk => by obtain ⟨k0, k1⟩ := HQ.out wk hk; go_simp; try rfl) ?_
    try simp only [Act.put, List.setIfInBounds_toArray, List.set_cons_zero, List.set_cons_succ]
    refine wpHold_take (i := 4) (v := _) (grown_drew _ _) rfl rfl (by kernel_rfl) (by kernel_rfl) (by kernel_rfl) (by kernel_rfl) (by kernel_rfl) (fun _ _ _ h => h) (by rfl) (fun wk hk => by obtain ⟨k0, k1⟩ := HQ.out wk hk; go_simp; try rfl) ?_
    try simp only [Act.put, List.setIfInBounds_toArray, List.set_cons_zero, List.set_cons_succ]
    refine wpHold_take (i := 5) (v := _) (grown_drew _ _) rfl rfl (by kernel_rfl) (by kernel_rfl) (by kernel_rfl) (by kernel_rfl) (by kernel_rfl) (fun _ _ _ h => h) (by rfl) (fun wk hk => by obtain ⟨k0, k1⟩ := HQ.out wk hk; go_simp; try rfl) ?_
    try simp only [Act.put, List.setIfInBounds_toArray, List.set_cons_zero, List.set_cons_succ]
    refine wpHold_take (i := 6) (v := _) (grown_drew _ _) rfl rfl (by kernel_rfl) (by kernel_rfl) (by kernel_rfl) (by kernel_rfl) (by kernel_rfl) (fun _ _ _ h => h) (by rfl) (fun wk hk => by obtain ⟨k0, k1⟩ := HQ.out wk hk; go_simp; try rfl) ?_
    try simp only [Act.put, List.setIfInBounds_toArray, List.set_cons_zero, List.set_cons_succ]
    refine wpHold_take (i := 7) (v := _) (grown_drew _ _) rfl rfl (by kernel_rfl) (by kernel_rfl) (by kernel_rfl) (by kernel_rfl) (by kernel_rfl) (fun _ _ _ h => h) (by rfl) (fun wk hk => by obtain ⟨k0, k1⟩ := HQ.out wk hk; go_simp; try rfl) ?_
    try simp only [Act.put, List.setIfInBounds_toArray, List.set_cons_zero, List.set_cons_succ]
    refine wpHold_take (i := 8) (v := _) (grown_drew _ _) rfl rfl (by kernel_rfl) (by kernel_rfl) (by kernel_rfl) (by kernel_rfl) (by kernel_rfl) (fun _ _ _ h => h) (by rfl) (fun wk hk => by obtain ⟨k0, k1⟩ := HQ.out wk hk; go_simp; try rfl) ?_
    try simp only [Act.put, List.setIfInBounds_toArray, List.set_cons_zero, List.set_cons_succ]
    refine wpHold_take (i := 9) (v := _) (grown_drew _ _) rfl rfl (by kernel_rfl) (by kernel_rfl) (by kernel_rfl) (by kernel_rfl) (by kernel_rfl) (fun _ _ _ h => h) (by rfl) (fun wk hk => by obtain ⟨k0, k1⟩ := HQ.out wk hk; go_simp; try rfl) ?_
    try simp only [Act.put, List.setIfInBounds_toArray, List.set_cons_zero, List.set_cons_succ]
    refine wpHold_take (i := 10) (v := _) (grown_drew _ _) rfl rfl (by kernel_rfl) (by kernel_rfl) (by kernel_rfl) (by kernel_rfl) (by kernel_rfl) (fun _ _ _ h => h) (by rfl) (fun wk hk => by obtain ⟨k0, k1⟩ := HQ.out wk hk; go_simp; try rfl) ?_
    try simp only [Act.put, List.setIfInBounds_toArray, List.set_cons_zero, List.set_cons_succ]
    refine wpHold_take (i := 11) (v := _) (grown_drew _ _) rfl rfl (by kernel_rfl) (by kernel_rfl) (by kernel_rfl) (by kernel_rfl) (by kernel_rfl) (fun _ _ _ h => h) (by rfl) (fun wk hk => by obtain ⟨k0, k1⟩ := HQ.out wk hk; go_simp; try rfl) ?_
    try simp only [Act.put, List.setIfInBounds_toArray, List.set_cons_zero, List.set_cons_succ]
    refine wpHold_take (i := 12) (v := _) (grown_drew _ _) rfl rfl (by kernel_rfl) (by kernel_rfl) (by kernel_rfl) (by kernel_rfl) (by kernel_rfl) (fun _ _ _ h => h) (by rfl) (fun wk hk => by obtain ⟨k0, k1⟩ := HQ.out wk hk; go_simp; try rfl) ?_
    try simp only [Act.put, List.setIfInBounds_toArray, List.set_cons_zero, List.set_cons_succ]
    refine wpHold_one (i := 13) rfl (by kernel_rfl) (by rfl) (fun K hK => ?_)
    obtain ⟨k0, k1⟩ := HQ.out w1.drew (grown_drew _ _)
    go_wp2_with fail
    refine hK.out _ _ (fun h => absurd rfl h) ?_
    clear hK K k0 k1
    try simp only [Act.put, List.setIfInBounds_toArray, List.set_cons_zero, List.set_cons_succ]
    refine wpHold_done (by kernel_rfl) ?_
    refine (‹∀ (a : Act) (w : World), Code.wp Try.prog _ _ a w → _› _ _ ?_)
    have H2 : Hid (Disk.Own (w1.setCell ⟨g, j, none⟩ (.int .u8 (c.toNat : Int))).drew (w.heap.size + 1) (.slice (some ⟨g, 0, none⟩) N cu) (F.set j c) ∧ w.grownBy (w1.setCell ⟨g, j, none⟩ (.int .u8 (c.toNat : Int))).drew none) := by
      have h1 : Disk.Own (w1.setCell ⟨g, j, none⟩ (.int .u8 (c.toNat : Int))) (w.heap.size + 1) (.slice (some ⟨g, 0, none⟩) N cu) (F.set j c) := Wire.own_store H1.out.1 j _ c rfl
      refine ⟨h1.grown (grown_drew _ none), grown_trans (grown_new H1.out.2 (grown_setCell _ _ _ _) (fun x hx => ?_)) (grown_drew _ _)⟩
      have := (H1.out.1.lt x hx).1
      omega
    generalize (w1.setCell ⟨g, j, none⟩ (.int .u8 (c.toNat : Int))).drew = w2 at H2 ⊢
    have HNO : Hid (¬ isOne (F.set j c)) := by
      intro h1
      have h2 := h1.2
      have h0 := h1.1
      have hl := HN2.out
      have hcc := HCC.out
      have hf := HF.out
      have hn := HN.out
      subst hf
      refine frm_bit (s := t) (by have := HKK.out; omega) (by have := HL.out; omega) hjF ht8 hcc h0 ?_
      rw [List.length_set, hn] at h2
      omega
    go_wp2_with fail
    refine (one17 _ (F.set j c) _ H2.out.1.seg).mono ?_
    rintro e w3 ⟨g3, hno, _⟩
    have he := hno HNO.out
    subst he
    have G3 : Hid (w.grownBy (w3.alloc (.cells #[.int .i64 0, .slice none 0 0] 25)) none) := grown_trans H2.out.2 (grown_trans g3 (World.grownBy_alloc _ _ _))
    clear g3 hno
    go_wp2_with (first | (go_at_call 10; refine (num10 _ _).mono ?_; rintro e wx ⟨rfl, hx⟩; rw [hx]; clear hx))
    go_ret
    exact ⟨rfl, G3.out⟩
  · obtain rfl : r = (q : Int) := by omega
    clear hq
    go_upto_region 7 with fail
    have q8 : (q : Int).tdiv 8 = ((q / 8 : Nat) : Int) := by rw [Int.tdiv_eq_ediv_of_nonneg (by omega)]; omega
    have q9 : (q : Int).tmod 8 = ((q % 8 : Nat) : Int) := by rw [Int.tmod_eq_emod_of_nonneg (by omega)]; omega
    have q6 : (q : Int) / 8 = ((q / 8 : Nat) : Int) := by omega
    have q7 : (q : Int) % 8 = ((q % 8 : Nat) : Int) := by omega
    obtain ⟨j, hj⟩ : ∃ j, q / 8 = j := ⟨_, rfl⟩
    obtain ⟨t, ht⟩ : ∃ t, q % 8 = t := ⟨_, rfl⟩
    have hjN : j < N := by omega
    have ht8 : t < 8 := by omega
    rw [hj] at q8 q6
    rw [ht] at q9 q7
    clear hj ht
    have j0 : (0 : Int) ≤ (j : Int) := by omega
    have j1 : (j : Int) < (N : Int) := by omega
    have t0 : (0 : Int) ≤ (t : Int) := by omega
    have wj : IntKind.i64.wrap (j : Int) = (j : Int) := by rw [IntKind.wrap_i64]; omega
    have wt : IntKind.i64.wrap (t : Int) = (t : Int) := by rw [IntKind.wrap_i64]; omega
    have hjF : j < F.length := by rw [HN.out]; exact hjN
    obtain ⟨c, hc⟩ : ∃ c : UInt8, c.toNat = F[j].toNat ^^^ 2 ^ t := by
      have h1 := F[j].toNat_lt
      have h2 : (2 : Nat) ^ t < 2 ^ 8 := Nat.pow_lt_pow_right (by omega) ht8
      have h3 := Nat.xor_lt_two_pow (n := 8) h1 h2
      exact ⟨UInt8.ofNat (F[j].toNat ^^^ 2 ^ t), by rw [UInt8.toNat_ofNat']; exact Nat.mod_eq_of_lt h3⟩
    have wsh : IntKind.u8.wrap ((2 : Int) ^ t) = ((2 ^ t : Nat) : Int) := by
      exact wrap_pow t ht8
    have bx : bits .xor .u8 (F[j].toNat : Int) ((2 ^ t : Nat) : Int) = (c.toNat : Int) := by
      rw [u8_xor_nat _ _ F[j].toNat_lt (Nat.pow_lt_pow_right (by omega) ht8), hc]
    have HCC : Hid _ := hc
    clear hc
    obtain ⟨p2, hp2⟩ : ∃ p2 : Nat, 2 ^ t = p2 := ⟨_, rfl⟩
    have HP2 : Hid _ := hp2
    rw [hp2] at wsh bx
    have HQ : Hid (∀ x : World, w1.grownBy x none → x.cell? ⟨g, j, none⟩ = some (.int .u8 (F[j].toNat : Int)) ∧ x.frozen? ⟨g, j, none⟩ = false) := by
      intro x hx
      have ho := H1.out.1.grown hx
      obtain ⟨cur, hb⟩ := own_blk ho rfl
      obtain ⟨ao', cap', hv, _, _, _, h4⟩ := ho.seg
      simp at hv
      obtain ⟨b', off', e', hc⟩ := h4 j hjF
      rw [← hv.1] at e'
      simp at e'
      rw [← e'.1, ← e'.2, Nat.zero_add] at hc
      exact ⟨hc, hb.free j⟩
    refine wp_region_noPanic ?_
    refine wp_region_hold 13 (fun x => w1.grownBy x none) (by kernel_rfl) ?_
    refine wpHold_take (i := 0) (v := _) (grown_drew _ _) rfl rfl (by kernel_rfl) (by kernel_rfl) (by kernel_rfl) (by kernel_rfl) (by kernel_rfl) (fun _ _ _ h => h) (by rfl) (fun wk hk => by obtain ⟨k0, k1⟩ := HQ.out wk hk; go_simp; try rfl) ?_
    try simp only [Act.put, List.setIfInBounds_toArray, List.set_cons_zero, List.set_cons_succ]
    refine wpHold_take (i := 1) (v := _) (grown_drew _ _) rfl rfl (by kernel_rfl) (by kernel_rfl) (by kernel_rfl) (by kernel_rfl) (by kernel_rfl) (fun _ _ _ h => h) (by rfl) (fun wk hk => by obtain ⟨k0, k1⟩ := HQ.out wk hk; go_simp; try rfl) ?_
    try simp only [Act.put, List.setIfInBounds_toArray, List.set_cons_zero, List.set_cons_succ]
    refine wpHold_take (i := 2) (v := _) (grown_drew _ _) rfl rfl (by kernel_rfl) (by kernel_rfl) (by kernel_rfl) (by kernel_rfl) (by kernel_rfl) (fun _ _ _ h => h) (by rfl) (fun wk hk => by obtain ⟨k0, k1⟩ := HQ.out wk hk; go_simp; try rfl) ?_
    try simp only [Act.put, List.setIfInBounds_toArray, List.set_cons_zero, List.set_cons_succ]
    refine wpHold_take (i := 3) (v := _) (grown_drew _ _) rfl rfl (by kernel_rfl) (by kernel_rfl) (by kernel_rfl) (by kernel_rfl) (by kernel_rfl) (fun _ _ _ h => h) (by rfl) (fun wk hk => by obtain ⟨k0, k1⟩ := HQ.out wk hk; go_simp; try rfl) ?_
    try simp only [Act.put, List.setIfInBounds_toArray, List.set_cons_zero, List.set_cons_succ]
    refine wpHold_take (i := 4) (v := _) (grown_drew _ _) rfl rfl (by kernel_rfl) (by kernel_rfl) (by kernel_rfl) (by kernel_rfl) (by kernel_rfl) (fun _ _ _ h => h) (by rfl) (fun wk hk => by obtain ⟨k0, k1⟩ := HQ.out wk hk; go_simp; try rfl) ?_
    try simp only [Act.put, List.setIfInBounds_toArray, List.set_cons_zero, List.set_cons_succ]
    refine wpHold_take (i := 5) (v := _) (grown_drew _ _) rfl rfl (by kernel_rfl) (by kernel_rfl) (by kernel_rfl) (by kernel_rfl) (by kernel_rfl) (fun _ _ _ h => h) (by rfl) (fun wk hk => by obtain ⟨k0, k1⟩ := HQ.out wk hk; go_simp; try rfl) ?_
    try simp only [Act.put, List.setIfInBounds_toArray, List.set_cons_zero, List.set_cons_succ]
    refine wpHold_take (i := 6) (v := _) (grown_drew _ _) rfl rfl (by kernel_rfl) (by kernel_rfl) (by kernel_rfl) (by kernel_rfl) (by kernel_rfl) (fun _ _ _ h => h) (by rfl) (fun wk hk => by obtain ⟨k0, k1⟩ := HQ.out wk hk; go_simp; try rfl) ?_
    try simp only [Act.put, List.setIfInBounds_toArray, List.set_cons_zero, List.set_cons_succ]
    refine wpHold_take (i := 7) (v := _) (grown_drew _ _) rfl rfl (by kernel_rfl) (by kernel_rfl) (by kernel_rfl) (by kernel_rfl) (by kernel_rfl) (fun _ _ _ h => h) (by rfl) (fun wk hk => by obtain ⟨k0, k1⟩ := HQ.out wk hk; go_simp; try rfl) ?_
    try simp only [Act.put, List.setIfInBounds_toArray, List.set_cons_zero, List.set_cons_succ]
    refine wpHold_take (i := 8) (v := _) (grown_drew _ _) rfl rfl (by kernel_rfl) (by kernel_rfl) (by kernel_rfl) (by kernel_rfl) (by kernel_rfl) (fun _ _ _ h => h) (by rfl) (fun wk hk => by obtain ⟨k0, k1⟩ := HQ.out wk hk; go_simp; try rfl) ?_
    try simp only [Act.put, List.setIfInBounds_toArray, List.set_cons_zero, List.set_cons_succ]
    refine wpHold_take (i := 9) (v := _) (grown_drew _ _) rfl rfl (by kernel_rfl) (by kernel_rfl) (by kernel_rfl) (by kernel_rfl) (by kernel_rfl) (fun _ _ _ h => h) (by rfl) (fun wk hk => by obtain ⟨k0, k1⟩ := HQ.out wk hk; go_simp; try rfl) ?_
    try simp only [Act.put, List.setIfInBounds_toArray, List.set_cons_zero, List.set_cons_succ]
    refine wpHold_take (i := 10) (v := _) (grown_drew _ _) rfl rfl (by kernel_rfl) (by kernel_rfl) (by kernel_rfl) (by kernel_rfl) (by kernel_rfl) (fun _ _ _ h => h) (by rfl) (fun wk hk => by obtain ⟨k0, k1⟩ := HQ.out wk hk; go_simp; try rfl) ?_
    try simp only [Act.put, List.setIfInBounds_toArray, List.set_cons_zero, List.set_cons_succ]
    refine wpHold_take (i := 11) (v := _) (grown_drew _ _) rfl rfl (by kernel_rfl) (by kernel_rfl) (by kernel_rfl) (by kernel_rfl) (by kernel_rfl) (fun _ _ _ h => h) (by rfl) (fun wk hk => by obtain ⟨k0, k1⟩ := HQ.out wk hk; go_simp; try rfl) ?_
    try simp only [Act.put, List.setIfInBounds_toArray, List.set_cons_zero, List.set_cons_succ]
    refine wpHold_take (i := 12) (v := _) (grown_drew _ _) rfl rfl (by kernel_rfl) (by kernel_rfl) (by kernel_rfl) (by kernel_rfl) (by kernel_rfl) (fun _ _ _ h => h) (by rfl) (fun wk hk => by obtain ⟨k0, k1⟩ := HQ.out wk hk; go_simp; try rfl) ?_
    try simp only [Act.put, List.setIfInBounds_toArray, List.set_cons_zero, List.set_cons_succ]
    refine wpHold_one (i := 13) rfl (by kernel_rfl) (by rfl) (fun K hK => ?_)
    obtain ⟨k0, k1⟩ := HQ.out w1.drew (grown_drew _ _)
    go_wp2_with fail
    refine hK.out _ _ (fun h => absurd rfl h) ?_
    clear hK K k0 k1
    try simp only [Act.put, List.setIfInBounds_toArray, List.set_cons_zero, List.set_cons_succ]
    refine wpHold_done (by kernel_rfl) ?_
    refine (‹∀ (a : Act) (w : World), Code.wp Try.prog _ _ a w → _› _ _ ?_)
    have H2 : Hid (Disk.Own (w1.setCell ⟨g, j, none⟩ (.int .u8 (c.toNat : Int))).drew (w.heap.size + 1) (.slice (some ⟨g, 0, none⟩) N cu) (F.set j c) ∧ w.grownBy (w1.setCell ⟨g, j, none⟩ (.int .u8 (c.toNat : Int))).drew none) := by
      have h1 : Disk.Own (w1.setCell ⟨g, j, none⟩ (.int .u8 (c.toNat : Int))) (w.heap.size + 1) (.slice (some ⟨g, 0, none⟩) N cu) (F.set j c) := Wire.own_store H1.out.1 j _ c rfl
      refine ⟨h1.grown (grown_drew _ none), grown_trans (grown_new H1.out.2 (grown_setCell _ _ _ _) (fun x hx => ?_)) (grown_drew _ _)⟩
      have := (H1.out.1.lt x hx).1
      omega
    generalize (w1.setCell ⟨g, j, none⟩ (.int .u8 (c.toNat : Int))).drew = w2 at H2 ⊢
    have HNO : Hid (¬ isOne (F.set j c)) := by
      intro h1
      have h2 := h1.2
      have h0 := h1.1
      have hl := HN2.out
      have hcc := HCC.out
      have hf := HF.out
      have hn := HN.out
      subst hf
      refine frm_bit (s := t) (by have := HKK.out; omega) (by have := HL.out; omega) hjF ht8 hcc h0 ?_
      rw [List.length_set, hn] at h2
      omega
    go_wp2_with fail
    refine (one17 _ (F.set j c) _ H2.out.1.seg).mono ?_
    rintro e w3 ⟨g3, hno, _⟩
    have he := hno HNO.out
    subst he
    have G3 : Hid (w.grownBy (w3.alloc (.cells #[.int .i64 0, .slice none 0 0] 25)) none) := grown_trans H2.out.2 (grown_trans g3 (World.grownBy_alloc _ _ _))
    clear g3 hno
    go_wp2_with (first | (go_at_call 10; refine (num10 _ _).mono ?_; rintro e wx ⟨rfl, hx⟩; rw [hx]; clear hx))
    go_ret
    exact ⟨rfl, G3.out⟩
end Go.Proofs.Ytdfdlkpljgpckaa
