/-
  The document's step: eight halvings.
-/
import Derived.Test.YtdfdlkpljgpckaaCrcW
import Derived.Laws.BitsAllLaws
namespace Go.Proofs.Ytdfdlkpljgpckaa.Crc
open Go.RowKit

theorem half_xor {y : Nat} (hy : y < 4294967296) : bits .xor .u32 ((y : Int) / 2) 2197175160 = ((y / 2 ^^^ 2197175160 : Nat) : Int) := by
  rw [show (y : Int) / 2 = ((y / 2 : Nat) : Int) by omega]
  exact u32_xor_nat _ 2197175160 (by omega) (by omega)

set_option maxRecDepth 100000 in
set_option maxHeartbeats 400000 in
theorem step19 (s : Nat) (hs : s < 4294967296) (w : World) : Calls Try.prog 34 #[.int .u32 s] w fun e w' => e = .returned (.int .u32 (Tn 8 s)) ∧ w' = w := by
  go_enter Try.func34, Try.ntmps34
  go_wp2
  go_loopw [0, 3] (fun x i w2 => ∃ k : Nat, k ≤ 8 ∧ x = .int .u32 (Tn k s) ∧ i = .int .i64 k ∧ w2 = w) (fun _ i _ => 8 - (intOf i).toNat)
  case atStart => exact ⟨0, by omega, rfl, rfl, rfl⟩
  case round =>
    obtain ⟨k, hk, rfl, rfl, rfl⟩ := hrel
    by_cases hlt : k < 8
    · have hb := Tn_lt k hs
      have e1 := Tn_succ k s
      obtain ⟨y, hy⟩ : ∃ y, Tn k s = y := ⟨_, rfl⟩
      rw [hy] at hb e1 ⊢
      have HE : Hid _ := e1
      have HY : Hid _ := hy
      clear hy e1
      by_cases ho : y % 2 = 1
      · have g1 : ((y : Int) % 2 == 1) = true := by simp; omega
        have HX : Hid _ := half_xor hb
        have e2 : Hid (T y = y / 2 ^^^ 2197175160) := by unfold Hid T; rw [if_pos ho]
        go_wp2_with fail
        go_roundw
        case rel => exact ⟨k + 1, by omega, by rw [HE.out, e2.out, HX.out], by go_num, trivial⟩
        case measure => simp [intOf]; omega
      · have g1 : ((y : Int) % 2 == 1) = false := by simp; omega
        have e2 : Hid (T y = y / 2) := by unfold Hid T; rw [if_neg ho]
        go_wp2_with fail
        go_roundw
        case rel => exact ⟨k + 1, by omega, by rw [HE.out, e2.out]; go_num, by go_num, trivial⟩
        case measure => simp [intOf]; omega
    · have e : k = 8 := by omega
      subst e
      go_wp2_with fail
      go_ret
      exact ⟨rfl, rfl⟩
end Go.Proofs.Ytdfdlkpljgpckaa.Crc
