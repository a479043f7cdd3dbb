/-
  A word through a row: the document's way.
-/
import Derived.Test.YtdmnnfppjhpdkaaF
namespace Go.Proofs.Ytdmnnfppjhpdkaa
open Go.RowKit
attribute [local go_sem ↓] Go.wp_at_zero Go.wp_at_succ

set_option maxRecDepth 100000 in
set_option maxHeartbeats 400000 in
theorem through20 (N x : Nat) (w : World) (hx : x < 4294967296) :
    Calls Try.prog 20 #[.agg (matV N), .int .u32 x] w fun e w' => e = .returned (.int .u32 (Tn N x)) ∧ w.grownBy w' none := by
  have HG : Hid (w.grownBy (w.alloc (.cells (matV N) 43)) none) := World.grownBy_alloc _ _ _
  have HB : Hid (∀ j, j < 32 → (w.alloc (.cells (matV N) 43)).cell? ⟨w.heap.size, j, none⟩ = some (.int .u32 (Tn N (2 ^ j)))) := by
    intro j hj
    rw [cell_of_row _ _ j _ _ _ (heap_alloc_new _ _)]
    exact rowV_get 32 _ j hj
  go_enter Try.func20, Try.ntmps20
  go_wp2_with fail
  obtain ⟨W, hW⟩ : ∃ W, w.alloc (.cells (matV N) 43) = W := ⟨_, rfl⟩
  rw [hW] at HG HB ⊢
  clear hW
  go_loopw [5, 6] (fun u i wr => ∃ k : Nat, k ≤ 32 ∧ u = .int .u32 (Tn N (x % 2 ^ k)) ∧ i = .int .i64 k ∧ wr = W) (fun _ i _ => 32 - (intOf i).toNat)
  case atStart => exact ⟨0, by omega, by simp [Nat.mod_one, Tn_zero], rfl, rfl⟩
  case round =>
    obtain ⟨k, hk, rfl, rfl, rfl⟩ := hrel
    by_cases hlt : k < 32
    · have HE : Hid _ := bit_step N x k
      have hu : Tn N (x % 2 ^ k) < 4294967296 := Tn_lt N (Nat.lt_of_le_of_lt (Nat.mod_le _ _) hx)
      have hmk := mat_lt N hlt
      have ck := HB.out k hlt
      have hd : (x : Int) / 2 ^ k = ((x / 2 ^ k : Nat) : Int) := by simp
      obtain ⟨b, hb0⟩ : ∃ b, x / 2 ^ k = b := ⟨_, rfl⟩
      obtain ⟨u, hu0⟩ : ∃ u, Tn N (x % 2 ^ k) = u := ⟨_, rfl⟩
      obtain ⟨m, hm0⟩ : ∃ m, Tn N (2 ^ k) = m := ⟨_, rfl⟩
      rw [hb0] at HE hd
      rw [hu0] at HE hu ⊢
      rw [hm0] at HE hmk ck
      clear hb0 hu0 hm0
      have i1 : (0 : Int) ≤ (k : Int) := by omega
      have i2 : (k : Int) < 32 := by omega
      have i3 : (k : Int) ≤ 32 := by omega
      by_cases ho : b % 2 = 1
      · have g1 : ((b : Int) % 2 == 1) = true := by simp; omega
        have a4 : bits .xor .u32 (u : Int) (m : Int) = ((u ^^^ m : Nat) : Int) := u32_xor_nat u m hu hmk
        rw [if_pos ho] at HE
        rw [← HE.out] at a4
        go_wp2_with fail
        go_roundw
        case rel => exact ⟨k + 1, by omega, by go_num, by go_num, trivial⟩
        case measure => simp [intOf]; omega
      · have g1 : ((b : Int) % 2 == 1) = false := by simp; omega
        rw [if_neg ho, Nat.xor_zero] at HE
        go_wp2_with fail
        go_roundw
        case rel => exact ⟨k + 1, by omega, by rw [HE.out], by go_num, trivial⟩
        case measure => simp [intOf]; omega
    · have e : k = 32 := by omega
      subst e
      have e2 : x % 2 ^ 32 = x := Nat.mod_eq_of_lt hx
      rw [e2]
      go_wp2_with fail
      go_ret
      exact ⟨rfl, HG.out⟩
end Go.Proofs.Ytdmnnfppjhpdkaa
