/-
  The document's Begin: a length beyond the bound; bytes that are not all there.
-/
import Derived.Test.YtdfdlkpljgpckaaSm
namespace Go.Proofs.Ytdfdlkpljgpckaa
open Go.RowKit Disk

set_option maxRecDepth 100000 in
set_option maxHeartbeats 4000000 in
theorem begin27_long (ao : Option Addr) (cap : Nat) (L : List UInt8) (w : World) (hs : Seg w (.slice ao L.length cap) L) (hL : 9 ≤ L.length) (hmax : L.length ≤ 140737488355328) (HH1 : 2147483647 < lenOf L) : Calls Try.prog 27 #[.slice ao L.length cap] w (BegPost L w) := by
  have HX1 : Hid _ := HH1
  clear HH1
  obtain ⟨n, hn⟩ : ∃ n, L.length = n := ⟨_, rfl⟩
  have HS : Hid (Seg w (.slice ao n cap) L) := by rw [← hn]; exact hs
  have HN : Hid _ := hn
  have hcap : n ≤ cap ∧ cap ≤ 9223372036854775807 ∧ ∃ b off, ao = some ⟨b, off, none⟩ ∧ ∀ j (hj : j < L.length), w.cell? ⟨b, off + j, none⟩ = some (.int .u8 (L[j].toNat : Int)) := by
    obtain ⟨ao', cap', hv, h1, h2, h3, h4⟩ := hs
    simp at hv
    obtain ⟨rfl, rfl⟩ := hv
    obtain ⟨b, off, e, _⟩ := h4 0 (by omega)
    unfold maxLen at h2
    refine ⟨by omega, by omega, b, off, e, fun j hj => ?_⟩
    obtain ⟨b', off', e', hc⟩ := h4 j hj
    rw [e] at e'
    simp at e'
    obtain ⟨rfl, rfl⟩ := e'
    exact hc
  obtain ⟨hcap, hcap2, b, off, rfl, hcells⟩ := hcap
  have HCS : Hid _ := hcells
  rw [hn] at hL hmax ⊢
  clear hn hs hcells
  obtain ⟨a0, a1, a2, a3, a4, ha⟩ : ∃ a0 a1 a2 a3 a4 : UInt8, L[0]? = some a0 ∧ L[1]? = some a1 ∧ L[2]? = some a2 ∧ L[3]? = some a3 ∧ L[4]? = some a4 := by
    have hl := HN.out
    exact ⟨L[0], L[1], L[2], L[3], L[4], by simp, by simp, by simp, by simp, by simp⟩
  have HK : Hid (kindOf L = a0.toNat ∧ lenOf L = unbe a1 a2 a3 a4) := by
    obtain ⟨h0, h1, h2, h3, h4⟩ := ha
    unfold Hid kindOf lenOf
    simp [h0, h1, h2, h3, h4]
  have HCL : Hid (∀ x : World, w.grownBy x none → x.cell? ⟨b, off, none⟩ = some (.int .u8 a0.toNat) ∧ x.cell? ⟨b, off + 1, none⟩ = some (.int .u8 a1.toNat) ∧ x.cell? ⟨b, off + 2, none⟩ = some (.int .u8 a2.toNat) ∧ x.cell? ⟨b, off + 3, none⟩ = some (.int .u8 a3.toNat) ∧ x.cell? ⟨b, off + 4, none⟩ = some (.int .u8 a4.toNat)) := fun x hx => by
    obtain ⟨h0, h1, h2, h3, h4⟩ := ha
    have hl := HN.out
    have q : ∀ j c, L[j]? = some c → x.cell? ⟨b, off + j, none⟩ = some (.int .u8 c.toNat) := fun j c hj => by
      obtain ⟨hj1, hj2⟩ := List.getElem?_eq_some_iff.1 hj
      have := hx.cell (HCS.out j hj1) (by simp)
      rw [hj2] at this
      exact this
    exact ⟨q 0 a0 h0, q 1 a1 h1, q 2 a2 h2, q 3 a3 h3, q 4 a4 h4⟩
  clear ha
  have t0 := a0.toNat_lt
  have t1 := a1.toNat_lt
  have t2 := a2.toNat_lt
  have t3 := a3.toNat_lt
  have t4 := a4.toNat_lt
  have hU : unbe a1 a2 a3 a4 = a1.toNat * 16777216 + a2.toNat * 65536 + a3.toNat * 256 + a4.toNat := rfl
  obtain ⟨m, hm⟩ : ∃ m, unbe a1 a2 a3 a4 = m := ⟨_, rfl⟩
  rw [hm] at HK hU
  have hml : m < 4294967296 := by rw [← hm]; exact unbe_lt _ _ _ _
  clear hm
  generalize a0.toNat = b0 at *
  generalize a1.toNat = b1 at *
  generalize a2.toNat = b2 at *
  generalize a3.toNat = b3 at *
  generalize a4.toNat = b4 at *
  have HU : Hid _ := hU
  clear hU
  have hi : ¬ (n : Int) < 9 := by omega
  have n0 : (0 : Int) < (n : Int) := by omega
  have n1 : (1 : Int) < (n : Int) := by omega
  have n2 : (2 : Int) < (n : Int) := by omega
  have n3 : (3 : Int) < (n : Int) := by omega
  have n4 : (4 : Int) < (n : Int) := by omega
  go_enter Try.func27, Try.ntmps27
  go_wp2_with fail
  have HW : Hid (w.grownBy (w.alloc (.cells #[.int .i64 0, .slice none 0 0] 25)) none ∧ Blk (w.alloc (.cells #[.int .i64 0, .slice none 0 0] 25)) w.heap.size 25 #[.int .i64 0, .slice none 0 0]) := ⟨World.grownBy_alloc _ _ _, heap_alloc_new _ _⟩
  generalize w.alloc (.cells #[.int .i64 0, .slice none 0 0] 25) = w1 at HW ⊢
  obtain ⟨r0, r1, r2, r3, r4⟩ := HCL.out _ HW.out.1
  go_quiet (fail)
  have hmz : (b1 : Int) * 16777216 + (b2 : Int) * 65536 + (b3 : Int) * 256 + (b4 : Int) = (m : Int) := by have := HU.out; omega
  rw [hmz]
  refine (‹∀ (a : Act) (w : World), Code.wp Try.prog _ _ a w → _› _ _ ?_)
  have H2 : Hid (w.grownBy (w1.drewN nq) none ∧ Blk (w1.drewN nq) w.heap.size 25 #[.int .i64 0, .slice none 0 0]) := ⟨grown_trans HW.out.1 (grown_drewN _ _ _), HW.out.2.grown (grown_drewN _ _ none) (by simp)⟩
  generalize w1.drewN nq = w2 at H2 ⊢
  clear HW r0 r1 r2 r3 r4 hmz
  have q0 := H2.out.2.cell 0
  have q1 := H2.out.2.cell 1
  have f0 := H2.out.2.free 0
  have f1 := H2.out.2.free 1
  simp at q0 q1
  have hm1 : 2147483647 < m := by have := HX1.out; rw [HK.out.2] at this; exact this
  have hmi : (2147483647 : Int) < (m : Int) := by omega
  have hmj : ¬ (m : Int) ≤ 2147483647 := by omega
  have HC : Hid (code L = 141) := by unfold Hid code; rw [show spl L = 141 from by unfold spl; rw [HN.out, HK.out.2, if_neg (by omega), if_pos hm1]]; rfl
  go_wp2_with fail
  refine bodyPost_ret (told3 rfl (load25 (stored_pair _ _ H2.out.2)) rfl rfl rfl) rfl ?_
  exact ⟨grown_pair _ _ H2.out.1 (Nat.le_refl _), fun _ => by rw [HC.out]; rfl, fun h => absurd h (by rw [HC.out]; decide)⟩

set_option maxRecDepth 100000 in
set_option maxHeartbeats 4000000 in
theorem begin27_torn (ao : Option Addr) (cap : Nat) (L : List UInt8) (w : World) (hs : Seg w (.slice ao L.length cap) L) (hL : 9 ≤ L.length) (hmax : L.length ≤ 140737488355328) (HH1 : ¬ 2147483647 < lenOf L) (HH2 : L.length < 9 + lenOf L) : Calls Try.prog 27 #[.slice ao L.length cap] w (BegPost L w) := by
  have HX1 : Hid _ := HH1
  have HX2 : Hid _ := HH2
  clear HH1 HH2
  obtain ⟨n, hn⟩ : ∃ n, L.length = n := ⟨_, rfl⟩
  have HS : Hid (Seg w (.slice ao n cap) L) := by rw [← hn]; exact hs
  have HN : Hid _ := hn
  have hcap : n ≤ cap ∧ cap ≤ 9223372036854775807 ∧ ∃ b off, ao = some ⟨b, off, none⟩ ∧ ∀ j (hj : j < L.length), w.cell? ⟨b, off + j, none⟩ = some (.int .u8 (L[j].toNat : Int)) := by
    obtain ⟨ao', cap', hv, h1, h2, h3, h4⟩ := hs
    simp at hv
    obtain ⟨rfl, rfl⟩ := hv
    obtain ⟨b, off, e, _⟩ := h4 0 (by omega)
    unfold maxLen at h2
    refine ⟨by omega, by omega, b, off, e, fun j hj => ?_⟩
    obtain ⟨b', off', e', hc⟩ := h4 j hj
    rw [e] at e'
    simp at e'
    obtain ⟨rfl, rfl⟩ := e'
    exact hc
  obtain ⟨hcap, hcap2, b, off, rfl, hcells⟩ := hcap
  have HCS : Hid _ := hcells
  rw [hn] at hL hmax ⊢
  clear hn hs hcells
  obtain ⟨a0, a1, a2, a3, a4, ha⟩ : ∃ a0 a1 a2 a3 a4 : UInt8, L[0]? = some a0 ∧ L[1]? = some a1 ∧ L[2]? = some a2 ∧ L[3]? = some a3 ∧ L[4]? = some a4 := by
    have hl := HN.out
    exact ⟨L[0], L[1], L[2], L[3], L[4], by simp, by simp, by simp, by simp, by simp⟩
  have HK : Hid (kindOf L = a0.toNat ∧ lenOf L = unbe a1 a2 a3 a4) := by
    obtain ⟨h0, h1, h2, h3, h4⟩ := ha
    unfold Hid kindOf lenOf
    simp [h0, h1, h2, h3, h4]
  have HCL : Hid (∀ x : World, w.grownBy x none → x.cell? ⟨b, off, none⟩ = some (.int .u8 a0.toNat) ∧ x.cell? ⟨b, off + 1, none⟩ = some (.int .u8 a1.toNat) ∧ x.cell? ⟨b, off + 2, none⟩ = some (.int .u8 a2.toNat) ∧ x.cell? ⟨b, off + 3, none⟩ = some (.int .u8 a3.toNat) ∧ x.cell? ⟨b, off + 4, none⟩ = some (.int .u8 a4.toNat)) := fun x hx => by
    obtain ⟨h0, h1, h2, h3, h4⟩ := ha
    have hl := HN.out
    have q : ∀ j c, L[j]? = some c → x.cell? ⟨b, off + j, none⟩ = some (.int .u8 c.toNat) := fun j c hj => by
      obtain ⟨hj1, hj2⟩ := List.getElem?_eq_some_iff.1 hj
      have := hx.cell (HCS.out j hj1) (by simp)
      rw [hj2] at this
      exact this
    exact ⟨q 0 a0 h0, q 1 a1 h1, q 2 a2 h2, q 3 a3 h3, q 4 a4 h4⟩
  clear ha
  have t0 := a0.toNat_lt
  have t1 := a1.toNat_lt
  have t2 := a2.toNat_lt
  have t3 := a3.toNat_lt
  have t4 := a4.toNat_lt
  have hU : unbe a1 a2 a3 a4 = a1.toNat * 16777216 + a2.toNat * 65536 + a3.toNat * 256 + a4.toNat := rfl
  obtain ⟨m, hm⟩ : ∃ m, unbe a1 a2 a3 a4 = m := ⟨_, rfl⟩
  rw [hm] at HK hU
  have hml : m < 4294967296 := by rw [← hm]; exact unbe_lt _ _ _ _
  clear hm
  generalize a0.toNat = b0 at *
  generalize a1.toNat = b1 at *
  generalize a2.toNat = b2 at *
  generalize a3.toNat = b3 at *
  generalize a4.toNat = b4 at *
  have HU : Hid _ := hU
  clear hU
  have hi : ¬ (n : Int) < 9 := by omega
  have n0 : (0 : Int) < (n : Int) := by omega
  have n1 : (1 : Int) < (n : Int) := by omega
  have n2 : (2 : Int) < (n : Int) := by omega
  have n3 : (3 : Int) < (n : Int) := by omega
  have n4 : (4 : Int) < (n : Int) := by omega
  go_enter Try.func27, Try.ntmps27
  go_wp2_with fail
  have HW : Hid (w.grownBy (w.alloc (.cells #[.int .i64 0, .slice none 0 0] 25)) none ∧ Blk (w.alloc (.cells #[.int .i64 0, .slice none 0 0] 25)) w.heap.size 25 #[.int .i64 0, .slice none 0 0]) := ⟨World.grownBy_alloc _ _ _, heap_alloc_new _ _⟩
  generalize w.alloc (.cells #[.int .i64 0, .slice none 0 0] 25) = w1 at HW ⊢
  obtain ⟨r0, r1, r2, r3, r4⟩ := HCL.out _ HW.out.1
  go_quiet (fail)
  have hmz : (b1 : Int) * 16777216 + (b2 : Int) * 65536 + (b3 : Int) * 256 + (b4 : Int) = (m : Int) := by have := HU.out; omega
  rw [hmz]
  refine (‹∀ (a : Act) (w : World), Code.wp Try.prog _ _ a w → _› _ _ ?_)
  have H2 : Hid (w.grownBy (w1.drewN nq) none ∧ Blk (w1.drewN nq) w.heap.size 25 #[.int .i64 0, .slice none 0 0]) := ⟨grown_trans HW.out.1 (grown_drewN _ _ _), HW.out.2.grown (grown_drewN _ _ none) (by simp)⟩
  generalize w1.drewN nq = w2 at H2 ⊢
  clear HW r0 r1 r2 r3 r4 hmz
  have q0 := H2.out.2.cell 0
  have q1 := H2.out.2.cell 1
  have f0 := H2.out.2.free 0
  have f1 := H2.out.2.free 1
  simp at q0 q1
  have hm1 : ¬ 2147483647 < m := by have := HX1.out; rw [HK.out.2] at this; exact this
  have hm2' : n < 9 + m := by have := HX2.out; rw [HK.out.2, HN.out] at this; exact this
  have hmi : ¬ (2147483647 : Int) < (m : Int) := by omega
  have hmj : (m : Int) ≤ 2147483647 := by omega
  obtain ⟨p, hp⟩ : ∃ p, 9 + m = p := ⟨_, rfl⟩
  have HP : Hid _ := hp
  have hpi : (9 : Int) + (m : Int) = (p : Int) := by omega
  have hm2 : n < p := by omega
  have hmk : (n : Int) < (p : Int) := by omega
  have HC : Hid (code L = 140) := by unfold Hid code; rw [show spl L = 140 from by unfold spl; rw [HN.out, HK.out.2, if_neg (by omega), if_neg hm1, if_pos (by omega)]]; rfl
  clear hp
  go_wp2_with fail
  refine bodyPost_ret (told3 rfl (load25 (stored_pair _ _ H2.out.2)) rfl rfl rfl) rfl ?_
  exact ⟨grown_pair _ _ H2.out.1 (Nat.le_refl _), fun _ => by rw [HC.out]; rfl, fun h => absurd h (by rw [HC.out]; decide)⟩
end Go.Proofs.Ytdfdlkpljgpckaa
