/-
  Bytes that pass, by the table.
-/
import Derived.Test.YtdfdlkpljgpckaaCrcB
namespace Go.Proofs.Ytdfdlkpljgpckaa.Crc
open Go.RowKit

theorem and_15 {y : Nat} (hy : y < 4294967296) : bits .and .u32 (y : Int) 15 = ((y % 16 : Nat) : Int) := by
  have h := u32_and_nat y 15 hy (by omega)
  have e : y &&& 15 = y % 16 := Nat.and_two_pow_sub_one_eq_mod y 4
  rw [e] at h
  exact h

theorem shift_xor {y x : Nat} (hy : y < 4294967296) (hx : x < 4294967296) : bits .xor .u32 ((y : Int) / 16) (x : Int) = ((y / 16 ^^^ x : Nat) : Int) := by
  rw [show (y : Int) / 16 = ((y / 16 : Nat) : Int) by omega]
  exact u32_xor_nat _ _ (by omega) hx

theorem seg_alloc {w : World} {v : Value} {L : List UInt8} (h : Seg w v L) (o : Obj) : Seg (w.alloc o) v L := h.grown (World.grownBy_alloc _ _ _)

theorem Seg.shape {w : World} {v : Value} {L : List UInt8} (h : Seg w v L) : ∃ ao cap, v = .slice ao L.length cap := by obtain ⟨ao, cap, h, _⟩ := h; exact ⟨ao, cap, h⟩

set_option maxRecDepth 100000 in
set_option maxHeartbeats 400000 in
theorem behind18 (s : Nat) (v : Value) (L : List UInt8) (w : World) (hs : s < 4294967296) (hL : Seg w v L) :
    Calls Try.prog 36 #[.agg tabV, .int .u32 s, v] w fun e w' => e = .returned (.int .u32 (crcL s L)) ∧ w.grownBy w' none := by
  obtain ⟨ao, cap, rfl⟩ := hL.shape
  have hlen := hL.len
  have HL : Hid (Seg (w.alloc (.cells tabV 68)) (.slice ao L.length cap) L) := seg_alloc hL _
  have HC : Hid (∀ j, j < 16 → (w.alloc (.cells tabV 68)).cell? ⟨w.heap.size, j, none⟩ = some (.int .u32 (Tn 4 j))) := by
    intro j hj
    rw [cell_of_row _ _ j _ _ _ (heap_alloc_new w (.cells tabV 68))]
    exact rowV_get 16 _ j hj
  have HG : Hid (w.grownBy (w.alloc (.cells tabV 68)) none) := World.grownBy_alloc _ _ _
  clear hL
  go_enter Try.func36, Try.ntmps36
  go_wp2_with fail
  obtain ⟨W, hW⟩ : ∃ W, w.alloc (.cells tabV 68) = W := ⟨_, rfl⟩
  rw [hW] at HL HC HG ⊢
  clear hW
  go_loopw [1, 12] (fun x i wr => ∃ k : Nat, k ≤ L.length ∧ x = .int .u32 (crcL s (L.take k)) ∧ i = .int .i64 k ∧ wr = W) (fun _ i _ => L.length - (intOf i).toNat)
  case atStart => exact ⟨0, by omega, by simp [crcL], rfl, rfl⟩
  case round =>
    obtain ⟨k, hk, rfl, rfl, rfl⟩ := hrel
    by_cases hlt : k < L.length
    · have ha := crcL_lt (L.take k) hs
      have e1 : crcL s (L.take (k + 1)) = crcB (crcL s (L.take k)) L[k] := by
        rw [List.take_succ_eq_append_getElem hlt, crcL_snoc]
      obtain ⟨a, hea⟩ : ∃ a, crcL s (L.take k) = a := ⟨_, rfl⟩
      obtain ⟨_, _, hv, _, _, _, h4⟩ := HL.out
      simp at hv
      obtain ⟨rfl, rfl⟩ := hv
      obtain ⟨bb, off, rfl, hcell⟩ := h4 k hlt
      obtain ⟨c, hc⟩ : ∃ c : UInt8, L[k] = c := ⟨_, rfl⟩
      rw [hc] at hcell e1
      have hx := byte_lt c
      rw [hea] at ha e1 ⊢
      rw [crcB_nib] at e1
      obtain ⟨x, hex⟩ : ∃ x : Nat, c.toNat = x := ⟨_, rfl⟩
      rw [hex] at hcell e1 hx
      have f1 : bits .xor .u32 (a : Int) (x : Int) = ((a ^^^ x : Nat) : Int) := u32_xor_nat a x ha (by omega)
      have hy1 : a ^^^ x < 4294967296 := Nat.xor_lt_two_pow (n := 32) ha (by omega)
      obtain ⟨y1, hey1⟩ : ∃ y, a ^^^ x = y := ⟨_, rfl⟩
      rw [hey1] at f1 hy1 e1
      have f2 := and_15 hy1
      obtain ⟨l1, hl1⟩ : ∃ l, y1 % 16 = l := ⟨_, rfl⟩
      have hl1b : l1 < 16 := by omega
      have d1 := HC.out l1 hl1b
      rw [hl1] at f2 e1
      have ht1 := Tn_lt 4 (s := l1) (by omega)
      obtain ⟨t1, het1⟩ : ∃ t, Tn 4 l1 = t := ⟨_, rfl⟩
      rw [het1] at d1 e1 ht1
      have f3 := shift_xor hy1 ht1
      have hy2 : y1 / 16 ^^^ t1 < 4294967296 := Nat.xor_lt_two_pow (n := 32) (by omega) ht1
      obtain ⟨y2, hey2⟩ : ∃ y, y1 / 16 ^^^ t1 = y := ⟨_, rfl⟩
      rw [hey2] at f3 hy2 e1
      have f4 := and_15 hy2
      obtain ⟨l2, hl2⟩ : ∃ l, y2 % 16 = l := ⟨_, rfl⟩
      have hl2b : l2 < 16 := by omega
      have d2 := HC.out l2 hl2b
      rw [hl2] at f4 e1
      have ht2 := Tn_lt 4 (s := l2) (by omega)
      obtain ⟨t2, het2⟩ : ∃ t, Tn 4 l2 = t := ⟨_, rfl⟩
      rw [het2] at d2 e1 ht2
      have f5 := shift_xor hy2 ht2
      rw [← e1] at f5
      have i1 : (0 : Int) ≤ (k : Int) := by omega
      have i2 : (k : Int) < (L.length : Int) := by omega
      have wx : IntKind.u32.wrap (x : Int) = (x : Int) := by rw [IntKind.wrap_u32']; omega
      clear e1 hea h4 hc hex hey1 hl1 het1 hey2 hl2 het2
      go_wp2_with fail
      go_roundw
      case rel => exact ⟨k + 1, by omega, rfl, by go_num, trivial⟩
      case measure => simp [intOf]; omega
    · have e : k = L.length := by omega
      subst e
      rw [List.take_length]
      go_wp2_with fail
      go_ret
      exact ⟨rfl, HG.out⟩
end Go.Proofs.Ytdfdlkpljgpckaa.Crc
