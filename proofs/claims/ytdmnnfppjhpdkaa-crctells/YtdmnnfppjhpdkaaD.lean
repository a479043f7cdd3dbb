/-
  A word through a step: the program's way, and the document's.
-/
import Derived.Test.YtdmnnfppjhpdkaaC
namespace Go.Proofs.Ytdmnnfppjhpdkaa
open Go.RowKit

/-- The step of N halvings: what becomes of each bit. -/
def matV (N : Nat) : Array Value := rowV 32 (fun i => Tn N (2 ^ i))

theorem pow_lt {i : Nat} (h : i < 32) : 2 ^ i < 4294967296 := Nat.pow_lt_pow_right (by omega) (by omega : i < 32)
theorem mat_lt (N : Nat) {i : Nat} (h : i < 32) : Tn N (2 ^ i) < 4294967296 := Tn_lt N (pow_lt h)

theorem Try.size46 : (Try.prog.info? 46).map (·.size) = some 32 := by kernel_rfl
theorem Try.size43 : (Try.prog.info? 43).map (·.size) = some 32 := by kernel_rfl

theorem and_ones {m : Nat} (h : m < 4294967296) : bits .and .u32 (m : Int) 4294967295 = (m : Int) := by
  have h1 := u32_and_nat m 4294967295 h (by omega)
  have e : m &&& 4294967295 = m % 4294967296 := Nat.and_two_pow_sub_one_eq_mod m 32
  rw [e, Nat.mod_eq_of_lt h] at h1
  exact h1

theorem and_none {m : Nat} (h : m < 4294967296) : bits .and .u32 (m : Int) 0 = 0 := by
  have h1 := u32_and_nat m 0 h (by omega)
  rw [Nat.and_zero] at h1
  exact h1

theorem xor_none {m : Nat} (h : m < 4294967296) : bits .xor .u32 (m : Int) 0 = (m : Int) := by
  have h1 := u32_xor_nat m 0 h (by omega)
  rw [Nat.xor_zero] at h1
  exact h1

theorem run_index46 (c : Array Value) (k m : Nat) (w : World) (hk : k < 32) (h : c[k]? = some (.int .u32 m)) : (Instr.index 46 (.agg c) (.int .i64 k)).run Try.prog w = .ok (.int .u32 m) w := by
  have hn : (0 : Int) ≤ (k : Int) ∧ (k : Int) < 32 := by omega
  simp [Instr.index, run_underlying Try.underlying46, asIntOf, go_sem, h]
  intro h2
  omega

set_option maxRecDepth 100000 in
set_option maxHeartbeats 400000 in
theorem after23 (N x : Nat) (w : World) (hx : x < 4294967296) :
    Calls Try.prog 23 #[.agg (matV N), .int .u32 x] w fun e w' => e = .returned (.int .u32 (Tn N x)) ∧ w.grownBy w' none := by
  have hm : Hid (∀ j, j < 32 → (matV N)[j]? = some (.int .u32 (Tn N (2 ^ j)))) := fun j hj => rowV_get 32 _ j hj
  have hms : (matV N).size = 32 := rowV_size _ _
  obtain ⟨c, hc⟩ : ∃ c, matV N = c := ⟨_, rfl⟩
  rw [hc] at hm hms ⊢
  have HG : Hid (w.grownBy (w.alloc (.cells c 46)) none) := World.grownBy_alloc _ _ _
  have HB : Hid ((w.alloc (.cells c 46)).heap[w.heap.size]? = some (.cells c 46 (0, 0))) := heap_alloc_new _ _
  clear hc
  go_enter Try.func23, Try.ntmps23
  go_wp2_with (first | (refine wpList_load_row _ rfl (.tmp 2) 46 rfl w.heap.size 32 23 c Try.underlying46 (by rw [hms]; exact Try.size46) rfl HB.out ?_))
  obtain ⟨W, hW⟩ : ∃ W, w.alloc (.cells c 46) = W := ⟨_, rfl⟩
  rw [hW] at HG ⊢
  clear hW HB
  go_loopw [1, 5, 9] (fun s u i wr => ∃ k : Nat, k ≤ 32 ∧ s = .int .u32 ((x / 2 ^ k : Nat) : Int) ∧ u = .int .u32 (Tn N (x % 2 ^ k)) ∧ i = .int .i64 k ∧ wr = W) (fun _ _ i _ => 32 - (intOf i).toNat)
  case atStart => exact ⟨0, by omega, by simp, by simp [Nat.mod_one, Tn_zero], rfl, rfl⟩
  case round =>
    obtain ⟨k, hk, rfl, rfl, rfl, rfl⟩ := hrel
    by_cases hlt : k < 32
    · have HE : Hid _ := bit_step N x k
      have HD : Hid (x / 2 ^ (k + 1) = x / 2 ^ k / 2) := by unfold Hid; rw [Nat.pow_succ, Nat.div_div_eq_div_mul]
      have hb : x / 2 ^ k < 4294967296 := Nat.lt_of_le_of_lt (Nat.div_le_self _ _) hx
      have hu : Tn N (x % 2 ^ k) < 4294967296 := Tn_lt N (Nat.lt_of_le_of_lt (Nat.mod_le _ _) hx)
      have hmk := mat_lt N hlt
      have ck := hm.out k hlt
      obtain ⟨b, hb0⟩ : ∃ b, x / 2 ^ k = b := ⟨_, rfl⟩
      obtain ⟨u, hu0⟩ : ∃ u, Tn N (x % 2 ^ k) = u := ⟨_, rfl⟩
      obtain ⟨m, hm0⟩ : ∃ m, Tn N (2 ^ k) = m := ⟨_, rfl⟩
      rw [hb0] at HE HD hb ⊢
      rw [hu0] at HE hu ⊢
      rw [hm0] at HE hmk ck
      clear hb0 hu0 hm0
      have ix : ∀ w', (Instr.index 46 (.agg c) (.int .i64 k)).run Try.prog w' = .ok (.int .u32 m) w' := fun w' => run_index46 c k m w' hlt ck
      have a1 := and_one hb
      have i1 : (0 : Int) ≤ (k : Int) := by omega
      have i2 : (k : Int) < 32 := by omega
      have hkc : k < c.size := by omega
      by_cases ho : b % 2 = 1
      · have a2 := odd_neg ho
        have a3 := and_ones hmk
        have a4 : bits .xor .u32 (u : Int) (m : Int) = ((u ^^^ m : Nat) : Int) := u32_xor_nat u m hu hmk
        rw [if_pos ho] at HE
        rw [← HE.out] at a4
        go_wp2_with fail
        go_roundw
        case rel => exact ⟨k + 1, by omega, by rw [HD.out]; go_num, by go_num, by go_num, trivial⟩
        case measure => simp [intOf]; omega
      · have a2 := even_neg (y := b) (by omega)
        have a3 := and_none hmk
        have a5 : (b : Int) % 2 = 0 := by omega
        have a4 := xor_none hu
        rw [if_neg ho, Nat.xor_zero] at HE
        go_wp2_with fail
        go_roundw
        case rel => exact ⟨k + 1, by omega, by rw [HD.out]; go_num, by rw [HE.out], by go_num, trivial⟩
        case measure => simp [intOf]; omega
    · have e : k = 32 := by omega
      subst e
      have e2 : x % 2 ^ 32 = x := Nat.mod_eq_of_lt hx
      rw [e2]
      go_wp2_with fail
      go_ret
      exact ⟨rfl, HG.out⟩
end Go.Proofs.Ytdmnnfppjhpdkaa
