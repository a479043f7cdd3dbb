/-
  The forms of a signed number, of a flag, of bytes; and pieces joined: wire's and the document's.
-/
import Derived.Test.YtneppkbbnajpnaaT
namespace Go.Proofs.Ytneppkbbnajpnaa
open Go.RowKit

/-- A form in new memory. -/
def FormPost (L : List UInt8) (w : World) (e : Ending) (w' : World) : Prop := ∃ u, e = .returned u ∧ Own w' w.heap.size u L ∧ w.grownBy w' none

def foldZ (n : Int) : Nat := if n < 0 then (-2 * n - 1).toNat else (2 * n).toNat

theorem foldZ_val (n : Int) : (n < 0 → ((foldZ n : Nat) : Int) = -2 * n - 1) ∧ (0 ≤ n → ((foldZ n : Nat) : Int) = 2 * n) := by
  unfold foldZ; constructor <;> intro h
  · rw [if_pos h]; omega
  · rw [if_neg (by omega)]; omega

theorem number9_int (x : Int) (n : Nat) (hx : x = n) (hn : n < 2 ^ 64) (w : World) : Calls Try.prog 9 #[.int .u64 x] w (FormPost (numForm n) w) := by subst hx; exact number9 n hn w
theorem number12_int (x : Int) (n : Nat) (hx : x = n) (hn : n < 2 ^ 64) (w : World) : Calls Try.prog 12 #[.int .u64 x] w (FormPost (numForm n) w) := by subst hx; exact number12 n hn w

set_option maxHeartbeats 400000 in
theorem signed13 (n : Int) (h1 : -9223372036854775808 ≤ n) (h2 : n ≤ 9223372036854775807) (w : World) : Calls Try.prog 13 #[.int .i64 n] w (FormPost (numForm (foldZ n)) w) := by
  by_cases hn : n < 0
  · go_enter Try.func13, Try.ntmps13
    go_wp2_with fail
    refine (number9_int _ (foldZ n) ?_ ?_ _).mono ?_
    · have := foldZ_val n; omega
    · have := foldZ_val n; omega
    rintro e w' ⟨u, rfl, h3, h4⟩
    have F : Hid _ := And.intro h3 h4
    clear h3 h4
    go_wp2_with fail
    go_ret
    exact ⟨_, rfl, F.out⟩
  · go_enter Try.func13, Try.ntmps13
    go_wp2_with fail
    refine (number9_int _ (foldZ n) ?_ ?_ _).mono ?_
    · have := foldZ_val n; omega
    · have := foldZ_val n; omega
    rintro e w' ⟨u, rfl, h3, h4⟩
    have F : Hid _ := And.intro h3 h4
    clear h3 h4
    go_wp2_with fail
    go_ret
    exact ⟨_, rfl, F.out⟩

set_option maxHeartbeats 400000 in
theorem folded37 (n : Int) (h1 : -9223372036854775808 ≤ n) (h2 : n ≤ 9223372036854775807) (w : World) : Calls Try.prog 37 #[.int .i64 n] w fun e w' => e = .returned (.int .u64 (foldZ n)) ∧ w' = w := by
  by_cases hn : n < 0
  · have e : Hid (2 * -(n + 1) + 1 = ((foldZ n : Nat) : Int)) := by have := foldZ_val n; unfold Hid; omega
    go_enter Try.func37, Try.ntmps37
    go_wp2_with fail
    go_ret
    exact ⟨by rw [← e.out]; rfl, rfl⟩
  · have e : Hid (2 * n = ((foldZ n : Nat) : Int)) := by have := foldZ_val n; unfold Hid; omega
    go_enter Try.func37, Try.ntmps37
    go_wp2_with fail
    go_ret
    exact ⟨by rw [← e.out]; rfl, rfl⟩

theorem foldZ_lt (n : Int) (h1 : -9223372036854775808 ≤ n) (h2 : n ≤ 9223372036854775807) : foldZ n < 2 ^ 64 := by
  unfold foldZ; split <;> omega

theorem unfold_fold (n : Int) : unfoldZ (foldZ n) = n := by
  unfold unfoldZ foldZ; split <;> split <;> omega

set_option maxHeartbeats 400000 in
theorem signed14 (n : Int) (h1 : -9223372036854775808 ≤ n) (h2 : n ≤ 9223372036854775807) (w : World) : Calls Try.prog 14 #[.int .i64 n] w (FormPost (numForm (foldZ n)) w) := by
  have HF : Hid _ := foldZ_lt n h1 h2
  go_enter Try.func14, Try.ntmps14
  go_wp2_with fail
  refine (folded37 n h1 h2 _).mono ?_
  rintro e w' ⟨rfl, he⟩
  subst he
  go_wp2_with fail
  refine (number12_int _ (foldZ n) rfl HF.out _).mono ?_
  rintro e w' ⟨u, rfl, h3, h4⟩
  have F : Hid _ := And.intro h3 h4
  clear h3 h4
  go_wp2_with fail
  go_ret
  exact ⟨_, rfl, F.out⟩

def flagForm (is : Bool) : List UInt8 := if is then [1] else [0]

theorem own_lit (w : World) (x : Int) (c : UInt8) (hx : x = (c.toNat : Int)) : Own (w.alloc (.cells #[.int .u8 x] 5)) w.heap.size (.slice (some ⟨w.heap.size, 0, none⟩) 1 1) [c] := by
  subst hx
  exact World.ownsRow_lit (base := w.heap.size) (e := 5) (size := 1) w #[.int .u8 (c.toNat : Int)] 1 (Nat.le_refl _) (by unfold maxLen; omega) rfl

set_option maxHeartbeats 400000 in
theorem flag15 (is : Bool) (w : World) : Calls Try.prog 15 #[.bool is] w (FormPost (flagForm is) w) := by
  cases is
  · go_enter Try.func15, Try.ntmps15
    go_wp2_with fail
    go_ret
    exact ⟨_, rfl, own_lit w 0 0 rfl, World.grownBy_alloc _ _ _⟩
  · go_enter Try.func15, Try.ntmps15
    go_wp2_with fail
    go_ret
    exact ⟨_, rfl, own_lit w 1 1 rfl, World.grownBy_alloc _ _ _⟩

set_option maxHeartbeats 400000 in
theorem flag16 (is : Bool) (w : World) : Calls Try.prog 16 #[.bool is] w (FormPost (flagForm is) w) := by
  cases is
  · go_enter Try.func16, Try.ntmps16
    go_wp2_with fail
    go_ret
    exact ⟨_, rfl, own_lit w 0 0 rfl, World.grownBy_alloc _ _ _⟩
  · go_enter Try.func16, Try.ntmps16
    go_wp2_with fail
    go_ret
    exact ⟨_, rfl, own_lit w 1 1 rfl, World.grownBy_alloc _ _ _⟩

/-- A slice of slices of bytes. -/
def Segs (w : World) (v : Value) (Ls : List (List UInt8)) : Prop :=
  ∃ ao cap, v = .slice ao Ls.length cap ∧ Ls.length ≤ 9223372036854775807 ∧ ∀ j (hj : j < Ls.length), ∃ b off x, ao = some ⟨b, off, none⟩ ∧ w.cell? ⟨b, off + j, none⟩ = some x ∧ Seg w x Ls[j]

theorem Segs.grown {w w' : World} {v : Value} {Ls : List (List UInt8)} (h : Segs w v Ls) (hg : w.grownBy w' none) : Segs w' v Ls := by
  obtain ⟨ao, cap, hv, h1, h2⟩ := h
  refine ⟨ao, cap, hv, h1, fun j hj => ?_⟩
  obtain ⟨b, off, x, e, hc, hx⟩ := h2 j hj
  exact ⟨b, off, x, e, hg.cell hc (by simp), hx.grown hg⟩

theorem flatten_take_le (Ls : List (List UInt8)) (k : Nat) : (Ls.take k).flatten.length ≤ Ls.flatten.length := by
  have := congrArg List.length (congrArg List.flatten (List.take_append_drop k Ls))
  simp only [List.flatten_append, List.length_append] at this
  omega

theorem flatten_take_succ (Ls : List (List UInt8)) (k : Nat) (h : k < Ls.length) : (Ls.take (k + 1)).flatten = (Ls.take k).flatten ++ Ls[k] := by
  rw [List.take_succ_eq_append_getElem h, List.flatten_append, List.flatten_cons, List.flatten_nil, List.append_nil]

set_option maxRecDepth 100000 in
set_option maxHeartbeats 1000000 in
theorem join10 (v : Value) (Ls : List (List UInt8)) (w : World) (hs : Segs w v Ls) (hsz : Ls.flatten.length ≤ 140737488355328) : Calls Try.prog 10 #[v] w (FormPost Ls.flatten w) := by
  have HS : Hid (Segs w v Ls) := hs
  have HZ : Hid (Ls.flatten.length ≤ 140737488355328) := hsz
  obtain ⟨ao, cap, rfl, hlen, h4⟩ := hs
  have H4 : Hid _ := h4
  clear h4 hsz
  go_enter Try.func10, Try.ntmps10
  go_wp2
  go_loopw [3, 8] (fun x i wr => ∃ k : Nat, k ≤ Ls.length ∧ i = .int .i64 k ∧ Own wr w.heap.size x (Ls.take k).flatten ∧ w.grownBy wr none) (fun _ i _ => Ls.length - (intOf i).toNat)
  case atStart => exact ⟨0, by omega, rfl, by simpa using Own.nil _ _, grown_refl _ _⟩
  case round =>
    obtain ⟨k, hk, rfl, hown, hg⟩ := hrel
    by_cases hlt : k < Ls.length
    · obtain ⟨b, off, x, rfl, hc, hx⟩ := H4.out k hlt
      have hcr : wr.cell? ⟨b, off + k, none⟩ = some x := hg.cell hc (by simp)
      have HX : Hid (Seg wr x Ls[k]) := hx.grown hg
      obtain ⟨ao2, cap2, rfl⟩ := hx.shape
      have hle : (Ls.take k).flatten.length + Ls[k].length ≤ Ls.flatten.length := by
        have := flatten_take_le Ls (k + 1)
        rw [flatten_take_succ Ls k hlt, List.length_append] at this; exact this
      have hsz := hg.size
      have HLE : Hid _ := hle
      clear hc hx hle
      obtain ⟨M, hM⟩ : ∃ M, Ls[k] = M := ⟨_, rfl⟩
      obtain ⟨A, hA⟩ : ∃ A, (Ls.take k).flatten = A := ⟨_, rfl⟩
      have HT : Hid ((Ls.take (k + 1)).flatten = A ++ M) := by rw [← hM, ← hA]; exact flatten_take_succ Ls k hlt
      rw [hM] at HX HLE hcr
      rw [hA] at hown HLE
      clear hM hA
      go_wp2_with (at_builtin; refine app23 _ rfl _ _ rfl w.heap.size _ A _ M rfl rfl hown HX.out ?c1 ?c2 ?_)
      case c1 => have := HLE.out; have := HZ.out; omega
      case c2 => omega
      intro v' w1 hown' hg'
      have F : Hid _ := And.intro hown' (grown_new hg hg' hown.lt)
      clear hown' hg' hg hown hcr
      go_wp2_with fail
      obtain ⟨h1, h2⟩ := F.out
      go_roundw
      case rel => exact ⟨k + 1, by omega, by go_num, by rw [HT.out]; exact h1, h2⟩
      case measure => simp [intOf]; omega
    · have F : Hid _ := And.intro hown hg
      clear hown hg
      go_wp2_with fail
      go_ret
      obtain ⟨h1, h2⟩ := F.out
      rw [List.take_of_length_le (by omega)] at h1
      exact ⟨_, rfl, h1, h2⟩
end Go.Proofs.Ytneppkbbnajpnaa
