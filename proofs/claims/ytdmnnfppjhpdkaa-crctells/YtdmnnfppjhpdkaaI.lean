/-
  A register behind n bytes 0, by squares: the program's way.
-/
import Derived.Test.YtdmnnfppjhpdkaaH
namespace Go.Proofs.Ytdmnnfppjhpdkaa
open Go.RowKit
attribute [local go_sem ↓] Go.wp_at_zero Go.wp_at_succ

theorem and_one64 (m : Nat) (h : m ≤ 9223372036854775807) : bits .and .i64 (m : Int) 1 = ((m % 2 : Nat) : Int) := by
  have h1 : (BitVec.ofInt 64 (m : Int)).toNat = m := ofInt_u64 m (by omega)
  have h2 : (BitVec.ofInt 64 (1 : Int)).toNat = 1 := by decide
  show IntKind.i64.wrap ((BitVec.ofInt 64 (m : Int) &&& BitVec.ofInt 64 1).toNat : Int) = _
  rw [BitVec.toNat_and, h1, h2, Nat.and_one_is_mod]
  simp only [IntKind.wrap, IntKind.bits, IntKind.signed]
  simp
  omega

set_option maxRecDepth 100000 in
set_option maxHeartbeats 400000 in
theorem behindZeros21_none (s : Nat) (n : Int) (w : World) (hn : n ≤ 0) :
    Calls Try.prog 21 #[.int .u32 s, .int .i64 n] w fun e w' => e = .returned (.int .u32 s) ∧ w.grownBy w' none := by
  have g0 : decide (n ≤ 0) = true := by simp; omega
  have HG : Hid _ := grown_refl w none
  go_enter Try.func21, Try.ntmps21
  go_wp2_with fail
  go_ret
  exact ⟨rfl, HG.out⟩

set_option maxRecDepth 100000 in
set_option maxHeartbeats 1000000 in
theorem behindZeros21_some (s n : Nat) (w : World) (hs : s < 4294967296) (hn : n ≤ 9223372036854775807) (hp : 1 ≤ n) :
    Calls Try.prog 21 #[.int .u32 s, .int .i64 n] w fun e w' => e = .returned (.int .u32 (zeros s n)) ∧ w.grownBy w' none := by
  have g0 : decide ((n : Int) ≤ 0) = false := by simp; omega
  go_enter Try.func21, Try.ntmps21
  go_wp2_with fail
  refine (oneZero22 _).mono ?_
  rintro e w1 ⟨rfl, g1⟩
  have G1 : Hid (w.grownBy (w1.alloc (.cells (matV 8) 46)) none ∧ Blk (w1.alloc (.cells (matV 8) 46)) w1.heap.size 46 (matV 8)) := ⟨grown_trans g1 (World.grownBy_alloc _ _ _), heap_alloc_new _ _⟩
  have hw1 : Hid (w.heap.size ≤ w1.heap.size) := g1.size
  clear g1
  go_wp2_with (first | (refine wpList_store_row _ rfl rfl (.tmp 5) (.tmp 9) 46 rfl w1.heap.size (matV 8) (Array.replicate 32 (.int .u32 0)) (matV_size46 8) (by rw [matV_size]; simp) (rowV_one _ _) rfl rfl (heap_alloc_new w1 _) ?_; rw [World.setRow_alloc_new]))
  go_loopw [0, 1] (fun sv nv wr => ∃ t m N : Nat, sv = .int .u32 t ∧ nv = .int .i64 m ∧ t < 4294967296 ∧ 1 ≤ m ∧ m ≤ n ∧ Tn (N * m) t = zeros s n ∧ Blk wr w1.heap.size 46 (matV N) ∧ w.grownBy wr none) (fun _ nv _ => (intOf nv).toNat)
  case atStart => exact ⟨s, n, 8, rfl, rfl, hs, hp, by omega, rfl, G1.out.2, G1.out.1⟩
  case round =>
    obtain ⟨t, m, N, rfl, rfl, ht, hm1, hm, hinv, hblk, hgr⟩ := hrel
    have HI : Hid _ := hinv
    have HR : Hid (Blk wr w1.heap.size 46 (matV N) ∧ w.grownBy wr none) := ⟨hblk, hgr⟩
    clear hinv hblk hgr
    have a1 := and_one64 m (by omega)
    obtain ⟨r, hr⟩ : ∃ r, m % 2 = r := ⟨_, rfl⟩
    rw [hr] at a1
    by_cases hpos : 1 < m
    · obtain ⟨m2, hm2⟩ : ∃ m2 : Nat, m / 2 = m2 := ⟨_, rfl⟩
      have hd2 : (m : Int) / 2 = (m2 : Int) := by omega
      have HM2 : Hid (m / 2 = m2) := hm2
      have hmm : 1 ≤ m2 ∧ m2 < m := by omega
      have HR0 : Hid (m % 2 = r) := hr
      have g3 : decide ((m : Int) > 1) = true := by simp; omega
      by_cases ho : r = 1
      · subst ho
        clear hm2 hr
        go_wp2_with (first | (refine wpList_load_row _ rfl (.tmp 5) 46 rfl w1.heap.size 32 23 (matV N) Try.underlying46 (matV_size46 N) rfl HR.out.1 ?_))
        refine (after23 N t _ ht).mono ?_
        rintro e w2 ⟨rfl, g2⟩
        have HR2 : Hid (Blk w2 w1.heap.size 46 (matV N) ∧ w.grownBy w2 none) := ⟨HR.out.1.kept g2 (by simp), grown_trans HR.out.2 g2⟩
        have HI2 : Hid _ := sq_odd HI.out HR0.out
        have ht2 := Tn_lt N ht
        obtain ⟨t2, het2⟩ : ∃ t2, Tn N t = t2 := ⟨_, rfl⟩
        rw [het2] at HI2 ht2 ⊢
        rw [HM2.out] at HI2
        clear g2 HR het2 HI
        go_wp2_with (first | (refine wpList_load_row _ rfl (.tmp 5) 46 rfl w1.heap.size 32 23 (matV N) Try.underlying46 (matV_size46 N) rfl HR2.out.1 ?_))
        refine (square24 N _).mono ?_
        rintro e w3 ⟨rfl, g3⟩
        have HR3 : Hid (Blk w3 w1.heap.size 46 (matV N) ∧ w.grownBy w3 none) := ⟨HR2.out.1.kept g3 (by simp), grown_trans HR2.out.2 g3⟩
        have HR4 : Hid (Blk (w3.setRow w1.heap.size (matV (N + N))) w1.heap.size 46 (matV (N + N)) ∧ w.grownBy (w3.setRow w1.heap.size (matV (N + N))) none) := ⟨HR3.out.1.row _, grown_new HR3.out.2 (grown_setRow _ _ _) (by intro x hx; have := hw1.out; simp at hx; omega)⟩
        clear g3 HR2
        go_wp2_with (first | (refine wpList_store_row _ rfl rfl (.tmp 5) (.tmp 21) 46 rfl w1.heap.size (matV (N + N)) (matV N) (matV_size46 _) (by rw [matV_size, matV_size]) (rowV_one _ _) rfl rfl HR3.out.1 ?_))
        go_roundw
        case rel => exact ⟨t2, m2, N + N, rfl, by go_num, ht2, by omega, by omega, HI2.out, HR4.out.1, HR4.out.2⟩
        case measure => simp [intOf]; omega
      · have e0 : r = 0 := by omega
        subst e0
        clear hm2 hr
        have HI2 : Hid _ := sq_even HI.out HR0.out
        rw [HM2.out] at HI2
        clear HI
        go_wp2_with (first | (refine wpList_load_row _ rfl (.tmp 5) 46 rfl w1.heap.size 32 23 (matV N) Try.underlying46 (matV_size46 N) rfl HR.out.1 ?_))
        refine (square24 N _).mono ?_
        rintro e w3 ⟨rfl, g3⟩
        have HR3 : Hid (Blk w3 w1.heap.size 46 (matV N) ∧ w.grownBy w3 none) := ⟨HR.out.1.kept g3 (by simp), grown_trans HR.out.2 g3⟩
        have HR4 : Hid (Blk (w3.setRow w1.heap.size (matV (N + N))) w1.heap.size 46 (matV (N + N)) ∧ w.grownBy (w3.setRow w1.heap.size (matV (N + N))) none) := ⟨HR3.out.1.row _, grown_new HR3.out.2 (grown_setRow _ _ _) (by intro x hx; have := hw1.out; simp at hx; omega)⟩
        clear g3 HR
        go_wp2_with (first | (refine wpList_store_row _ rfl rfl (.tmp 5) (.tmp 21) 46 rfl w1.heap.size (matV (N + N)) (matV N) (matV_size46 _) (by rw [matV_size, matV_size]) (rowV_one _ _) rfl rfl HR3.out.1 ?_))
        go_roundw
        case rel => exact ⟨t, m2, N + N, rfl, by go_num, ht, by omega, by omega, HI2.out, HR4.out.1, HR4.out.2⟩
        case measure => simp [intOf]; omega
    · have e1 : m = 1 := by omega
      subst e1
      have e2 : Hid (Tn N t = zeros s n) := by have h := HI.out; rw [Nat.mul_one] at h; exact h
      clear HI a1 hr
      go_wp2_with (first | (refine wpList_load_row _ rfl (.tmp 5) 46 rfl w1.heap.size 32 23 (matV N) Try.underlying46 (matV_size46 N) rfl HR.out.1 ?_))
      refine (after23 N t _ ht).mono ?_
      rw [e2.out]
      rintro e w2 ⟨rfl, g2⟩
      have HR2 : Hid (w.grownBy w2 none) := grown_trans HR.out.2 g2
      clear g2
      go_wp2_with fail
      go_ret
      exact ⟨rfl, HR2.out⟩

/-- The program's way, at any number. -/
theorem behindZeros21 (s : Nat) (n : Int) (w : World) (hs : s < 4294967296) (hn : n ≤ 9223372036854775807) :
    Calls Try.prog 21 #[.int .u32 s, .int .i64 n] w fun e w' => e = .returned (.int .u32 (zeros s n.toNat)) ∧ w.grownBy w' none := by
  by_cases h : n ≤ 0
  · have e : n.toNat = 0 := by omega
    rw [e]
    exact behindZeros21_none s n w h
  · have e : n = (n.toNat : Int) := by omega
    rw [e, Int.toNat_natCast]
    exact behindZeros21_some s n.toNat w hs (by omega) (by omega)
end Go.Proofs.Ytdmnnfppjhpdkaa
