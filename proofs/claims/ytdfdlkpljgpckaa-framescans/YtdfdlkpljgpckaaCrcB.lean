/-
  The table of sixteen numbers; bytes that pass, by the table.
-/
import Derived.Test.YtdfdlkpljgpckaaCrcL
namespace Go.Proofs.Ytdfdlkpljgpckaa.Crc
open Go.RowKit

/-- A row of words: n of them, those below i as f says. -/
def Filled (n i : Nat) (f : Nat → Nat) (c : Array Value) : Prop := c.size = n ∧ (∀ j, j < n → ∃ x : Nat, c[j]? = some (.int .u32 x)) ∧ ∀ j, j < i → c[j]? = some (.int .u32 (f j))

theorem Filled.set {n i : Nat} {f : Nat → Nat} {c : Array Value} (h : Filled n i f c) (x : Nat) (hx : x = f i) (hi : i < n) : Filled n (i + 1) f (c.setIfInBounds i (.int .u32 x)) := by
  obtain ⟨h1, h2, h3⟩ := h
  refine ⟨by simpa using h1, fun j hj => ?_, fun j hj => ?_⟩
  · by_cases e : i = j
    · subst e
      exact ⟨x, by rw [Array.getElem?_setIfInBounds_self_of_lt (by omega)]⟩
    · obtain ⟨y, hy⟩ := h2 j hj
      exact ⟨y, by rw [Array.getElem?_setIfInBounds_ne e]; exact hy⟩
  · by_cases e : i = j
    · subst e
      rw [Array.getElem?_setIfInBounds_self_of_lt (by omega), hx]
    · rw [Array.getElem?_setIfInBounds_ne e]; exact h3 j (by omega)

/-- The row itself. -/
def rowV (n : Nat) (f : Nat → Nat) : Array Value := ((List.range n).map fun j => Value.int .u32 (f j : Nat)).toArray

theorem rowV_get (n : Nat) (f : Nat → Nat) (j : Nat) (h : j < n) : (rowV n f)[j]? = some (.int .u32 (f j)) := by
  unfold rowV; simp [h]

theorem rowV_size (n : Nat) (f : Nat → Nat) : (rowV n f).size = n := by unfold rowV; simp

theorem Filled.all {n : Nat} {f : Nat → Nat} {c : Array Value} (h : Filled n n f c) : c = rowV n f := by
  apply Array.ext_getElem?
  intro j
  by_cases hj : j < n
  · rw [h.2.2 j hj, rowV_get n f j hj]
  · rw [Array.getElem?_eq_none (by have := h.1; omega), Array.getElem?_eq_none (by rw [rowV_size]; omega)]

theorem filled_zero (n : Nat) (f : Nat → Nat) : Filled n 0 f (Array.replicate n (.int .u32 0)) := by
  refine ⟨by simp, fun j hj => ⟨0, by simp [hj]⟩, fun j hj => absurd hj (by omega)⟩

theorem rowV_one (n : Nat) (f : Nat → Nat) : (rowV n f).all (·.oneCell') = true := by
  unfold rowV; simp [Value.oneCell']

theorem Try.size68 : (Try.prog.info? 68).map (·.size) = some 16 := by kernel_rfl

/-- The table of sixteen. -/
def tabV : Array Value := rowV 16 (Tn 4)

theorem and_one {y : Nat} (hy : y < 4294967296) : bits .and .u32 (y : Int) 1 = ((y % 2 : Nat) : Int) := by
  have h := u32_and_nat y 1 hy (by omega)
  rw [Nat.and_one_is_mod] at h
  exact h

theorem half_zero {y : Nat} (hy : y < 4294967296) : bits .xor .u32 ((y : Int) / 2) 0 = ((y / 2 : Nat) : Int) := by
  rw [show (y : Int) / 2 = ((y / 2 : Nat) : Int) by omega]
  have h := u32_xor_nat (y / 2) 0 (by omega) (by omega)
  rw [Nat.xor_zero] at h
  exact h

theorem odd_neg {y : Nat} (h : y % 2 = 1) : IntKind.u32.wrap (-((y % 2 : Nat) : Int)) = 4294967295 := by rw [h]; rfl
theorem even_neg {y : Nat} (h : y % 2 = 0) : IntKind.u32.wrap (-((y % 2 : Nat) : Int)) = 0 := by rw [h]; rfl

set_option maxRecDepth 100000 in
set_option maxHeartbeats 400000 in
theorem nibbles17 (w : World) : Calls Try.prog 35 #[] w fun e w' => e = .returned (.agg tabV) ∧ w.grownBy w' none := by
  go_enter Try.func35, Try.ntmps35
  go_wp2
  go_loopw [5] (fun i wr => ∃ (k : Nat) (z c : Array Value), k ≤ 16 ∧ i = .int .i64 k ∧ z.size = 16 ∧ Filled 16 k (Tn 4) c ∧ wr = (w.alloc (.cells z 68)).alloc (.cells c 68)) (fun i _ => 16 - (intOf i).toNat)
  case atStart => exact ⟨0, _, _, by omega, rfl, rfl, filled_zero 16 _, rfl⟩
  case round =>
    obtain ⟨k, z, c, hk, rfl, hz, hc, rfl⟩ := hrel
    by_cases hlt : k < 16
    · have HC : Hid _ := hc
      clear hc
      have hk32 : IntKind.u32.wrap (k : Int) = (k : Int) := by rw [IntKind.wrap_u32']; omega
      go_wp2_with fail
      go_loopw [3, 10] (fun x i wr => ∃ m : Nat, m ≤ 4 ∧ x = .int .u32 (Tn m k) ∧ i = .int .i64 m ∧ wr = (w.alloc (.cells z 68)).alloc (.cells c 68)) (fun _ i _ => 4 - (intOf i).toNat)
      case atStart => exact ⟨0, by omega, rfl, rfl, rfl⟩
      case round =>
        obtain ⟨m, hm, rfl, rfl, rfl⟩ := hrel
        by_cases hlt4 : m < 4
        · have hb := Tn_lt m (s := k) (by omega)
          have e1 := Tn_succ m k
          obtain ⟨y, hy⟩ : ∃ y, Tn m k = y := ⟨_, rfl⟩
          rw [hy] at hb e1 ⊢
          have HE : Hid _ := e1
          clear hy e1
          have a1 := and_one hb
          by_cases ho : y % 2 = 1
          · have a2 := odd_neg ho
            have a3 : bits .and .u32 2197175160 4294967295 = 2197175160 := by decide
            have HX : Hid _ := half_xor hb
            have e2 : Hid (T y = y / 2 ^^^ 2197175160) := by unfold Hid T; rw [if_pos ho]
            go_wp2_with fail
            go_roundw
            case rel => exact ⟨m + 1, by omega, by rw [HE.out, e2.out, HX.out], by go_num, trivial⟩
            case measure => simp [intOf]; omega
          · have a2 := even_neg (y := y) (by omega)
            have a3 : bits .and .u32 2197175160 0 = 0 := by decide
            have a5 : (y : Int) % 2 = 0 := by omega
            have HX : Hid (bits .xor .u32 ((y : Int) / 2) 0 = ((y / 2 : Nat) : Int)) := half_zero hb
            have e2 : Hid (T y = y / 2) := by unfold Hid T; rw [if_neg ho]
            go_wp2_with fail
            go_roundw
            case rel => exact ⟨m + 1, by omega, by rw [HE.out, e2.out, HX.out], by go_num, trivial⟩
            case measure => simp [intOf]; omega
        · have e : m = 4 := by omega
          subst e
          have i1 : (0 : Int) ≤ (k : Int) := by omega
          have i2 : (k : Int) < 16 := by omega
          obtain ⟨x0, hx0⟩ := HC.out.2.1 k hlt
          have hsz := HC.out.1
          have hkc : k < c.size := by omega
          go_wp2_with fail
          go_roundw
          case rel => exact ⟨k + 1, z, _, by omega, by go_num, hz, Filled.set HC.out (Tn 4 k) rfl hlt, rfl⟩
          case measure => simp [intOf]; omega
    · have e : k = 16 := by omega
      subst e
      have e2 := hc.all
      subst e2
      clear hc
      have h38 : Hid (((w.alloc (.cells z 68)).alloc (.cells (rowV 16 (Tn 4)) 68)).heap[w.heap.size + 1]? = some (.cells (rowV 16 (Tn 4)) 68 (0, 0))) := by
        exact heap_alloc2_new w _ _
      have hz38 : Hid (((w.alloc (.cells z 68)).alloc (.cells (rowV 16 (Tn 4)) 68)).heap[w.heap.size]? = some (.cells z 68 (0, 0))) := heap_alloc2_old w _ _
      have hgr : Hid (w.grownBy ((w.alloc (.cells z 68)).alloc (.cells (rowV 16 (Tn 4)) 68)) none) := grown_trans (World.grownBy_alloc _ _ _) (World.grownBy_alloc _ _ _)
      obtain ⟨W, hW⟩ : ∃ W, (w.alloc (.cells z 68)).alloc (.cells (rowV 16 (Tn 4)) 68) = W := ⟨_, rfl⟩
      rw [hW] at h38 hz38 hgr ⊢
      clear hW
      go_wp2_with (first | (refine wpList_load_row _ rfl (.tmp 1) 68 rfl (w.heap.size + 1) 16 50 (rowV 16 (Tn 4)) Try.underlying68 (by rw [rowV_size]; exact Try.size68) rfl h38.out ?_) | (refine wpList_store_row _ rfl rfl (.tmp 0) (.tmp 26) 68 rfl w.heap.size (rowV 16 (Tn 4)) z (by rw [rowV_size]; exact Try.size68) (by rw [rowV_size]; exact hz) (rowV_one _ _) rfl rfl hz38.out ?_))
      refine bodyPost_ret (results_cell_row rfl _ _ w.heap.size 68 (rowV 16 (Tn 4)) (0, 0) _ rfl (setRow_heap _ _ z _ _ _ hz38.out) Try.underlying68 rfl (by rw [rowV_size]; exact Try.size68)) rfl ⟨rfl, ?_⟩
      exact grown_new hgr.out (grown_setRow _ _ _) (by intro x hx; simp at hx; omega)
end Go.Proofs.Ytdfdlkpljgpckaa.Crc
