/-
  The forms: what wire's Number writes, and what the document's Number writes.
-/
import Derived.Test.YtneppkbbnajpnaaC
namespace Go.Proofs.Ytneppkbbnajpnaa
open Go.RowKit

set_option maxRecDepth 100000 in
set_option maxHeartbeats 1000000 in
theorem number9 (n : Nat) (hn : n < 2 ^ 64) (w : World) :
    Calls Try.prog 9 #[.int .u64 n] w fun e w' => ∃ u, e = .returned u ∧ Own w' w.heap.size u (numForm n) ∧ w.grownBy w' none := by
  have HN : Hid (n < 2 ^ 64) := hn
  clear hn
  go_enter Try.func9, Try.ntmps9
  go_wp2
  go_loopw [0, 3] (fun x v wr => ∃ (m : Nat) (P : List UInt8), x = .int .u64 m ∧ Own wr w.heap.size v P ∧ Hid (P ++ numForm m = numForm n) ∧ w.grownBy wr none ∧ Hid (m < 2 ^ 64)) (fun x _ _ => (intOf x).toNat)
  case atStart => exact ⟨n, [], rfl, Own.nil _ _, rfl, grown_refl _ _, HN⟩
  case round =>
    obtain ⟨m, P, rfl, hown, HP, hg, HM⟩ := hrel
    have hPl : P.length ≤ 10 := by
      have h1 := numForm_len10 n HN.out
      rw [← HP.out] at h1; simp at h1; omega
    have hsz := hg.size
    by_cases hm : m < 128
    · go_wp2_with (at_builtin; refine app23 _ rfl _ _ rfl w.heap.size _ P _ [UInt8.ofNat m] rfl rfl (hown.alloc _) (seg_one _ _ _ ?c0) ?c1 ?c2 ?_)
      case c0 => simp; omega
      case c1 => simp; omega
      case c2 => simp; omega
      intro v' w1 hown' hg'
      have F : Hid _ := And.intro hown' (grown_new (grown_trans hg (World.grownBy_alloc wr _ none)) hg' hown.lt)
      clear hown' hg' hg hown
      go_wp2_with fail
      go_ret
      obtain ⟨h1, h2⟩ := F.out
      refine ⟨_, rfl, ?_, h2⟩
      rw [← HP.out, numForm_small hm]
      exact h1
    · have hm64 : m ≤ 18446744073709551615 := by have := HM.out; omega
      obtain ⟨c, hc⟩ : ∃ c : UInt8, c = UInt8.ofNat (m % 128 + 128) := ⟨_, rfl⟩
      have HC : Hid _ := hc
      clear hc
      go_wp2_with (at_builtin; refine app23 _ rfl _ _ rfl w.heap.size _ P _ [c] rfl rfl (hown.alloc _) (seg_one _ _ _ ?d0) ?d1 ?d2 ?_)
      case d0 => rw [HC.out]; simp; omega
      case d1 => simp; omega
      case d2 => simp; omega
      intro v' w1 hown' hg'
      have F : Hid _ := And.intro hown' (grown_new (grown_trans hg (World.grownBy_alloc wr _ none)) hg' hown.lt)
      clear hown' hg' hg hown
      go_wp2_with fail
      obtain ⟨h1, h2⟩ := F.out
      have h3 : m / 128 < 2 ^ 64 := Nat.lt_of_le_of_lt (Nat.div_le_self _ _) HM.out
      go_roundw
      case rel => exact ⟨m / 128, P ++ [c], by go_num, h1, by have := HP.out; rw [numForm_big hm, ← HC.out] at this; simpa [Hid] using this, h2, h3⟩
      case measure => simp [intOf]; omega

set_option maxRecDepth 100000 in
set_option maxHeartbeats 1000000 in
theorem number12 (n : Nat) (hn : n < 2 ^ 64) (w : World) :
    Calls Try.prog 12 #[.int .u64 n] w fun e w' => ∃ u, e = .returned u ∧ Own w' w.heap.size u (numForm n) ∧ w.grownBy w' none := by
  have HN : Hid (n < 2 ^ 64) := hn
  clear hn
  go_enter Try.func12, Try.ntmps12
  go_wp2
  go_loopw [0, 3] (fun x v wr => ∃ (m : Nat) (P : List UInt8), x = .int .u64 m ∧ Own wr w.heap.size v P ∧ Hid (P ++ numForm m = numForm n) ∧ w.grownBy wr none ∧ Hid (m < 2 ^ 64)) (fun x _ _ => (intOf x).toNat)
  case atStart => exact ⟨n, [], rfl, Own.nil _ _, rfl, grown_refl _ _, HN⟩
  case round =>
    obtain ⟨m, P, rfl, hown, HP, hg, HM⟩ := hrel
    have hPl : P.length ≤ 10 := by
      have h1 := numForm_len10 n HN.out
      rw [← HP.out] at h1; simp at h1; omega
    have hsz := hg.size
    by_cases hm : m < 128
    · go_wp2_with (at_builtin; refine app23 _ rfl _ _ rfl w.heap.size _ P _ [UInt8.ofNat m] rfl rfl (hown.alloc _) (seg_one _ _ _ ?c0) ?c1 ?c2 ?_)
      case c0 => simp; omega
      case c1 => simp; omega
      case c2 => simp; omega
      intro v' w1 hown' hg'
      have F : Hid _ := And.intro hown' (grown_new (grown_trans hg (World.grownBy_alloc wr _ none)) hg' hown.lt)
      clear hown' hg' hg hown
      go_wp2_with fail
      go_ret
      obtain ⟨h1, h2⟩ := F.out
      refine ⟨_, rfl, ?_, h2⟩
      rw [← HP.out, numForm_small hm]
      exact h1
    · have hm64 : m ≤ 18446744073709551615 := by have := HM.out; omega
      obtain ⟨c, hc⟩ : ∃ c : UInt8, c = UInt8.ofNat (m % 128 + 128) := ⟨_, rfl⟩
      have HC : Hid _ := hc
      clear hc
      go_wp2_with (at_builtin; refine app23 _ rfl _ _ rfl w.heap.size _ P _ [c] rfl rfl (hown.alloc _) (seg_one _ _ _ ?d0) ?d1 ?d2 ?_)
      case d0 => rw [HC.out]; simp; omega
      case d1 => simp; omega
      case d2 => simp; omega
      intro v' w1 hown' hg'
      have F : Hid _ := And.intro hown' (grown_new (grown_trans hg (World.grownBy_alloc wr _ none)) hg' hown.lt)
      clear hown' hg' hg hown
      go_wp2_with fail
      obtain ⟨h1, h2⟩ := F.out
      have h3 : m / 128 < 2 ^ 64 := Nat.lt_of_le_of_lt (Nat.div_le_self _ _) HM.out
      go_roundw
      case rel => exact ⟨m / 128, P ++ [c], by go_num, h1, by have := HP.out; rw [numForm_big hm, ← HC.out] at this; simpa [Hid] using this, h2, h3⟩
      case measure => simp [intOf]; omega

end Go.Proofs.Ytneppkbbnajpnaa
