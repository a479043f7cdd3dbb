/-
  The program's disk: its smallest functions, at a disk that is there and at one that is not.
-/
import Derived.Test.YtegacmcekladfaaB
namespace Go.Proofs.Ytegacmcekladfaa
open Go.RowKit

/-- A disk that is not there: nil, or a zero one. -/
def Gone (w : World) (v : Value) : Prop := v = .pointer none ∨ ∃ b, v = .pointer (some ⟨b, 0, none⟩) ∧ w.cell? ⟨b, 0, none⟩ = some (.int .i64 0)

theorem Gone.grown {w w' : World} {v : Value} (h : Gone w v) (hg : w.grownBy w' none) : Gone w' v := by
  rcases h with rfl | ⟨b, rfl, hc⟩
  · exact .inl rfl
  · exact .inr ⟨b, rfl, hg.cell hc (by simp)⟩

set_option maxHeartbeats 400000 in
theorem there43_gone (v : Value) (w : World) (h : Gone w v) : Calls Try.prog 43 #[v] w fun e w' => e = .returned (.bool false) ∧ w' = w := by
  rcases h with rfl | ⟨b, rfl, hc⟩
  all_goals
    go_enter Try.func43, Try.ntmps43
    go_wp2
    go_ret
    exact ⟨rfl, rfl⟩

set_option maxHeartbeats 400000 in
theorem there43 (b c : Nat) (w : World) (hc : w.cell? ⟨b, 0, none⟩ = some (.int .i64 c)) (h1 : 1 ≤ c) : Calls Try.prog 43 #[.pointer (some ⟨b, 0, none⟩)] w fun e w' => e = .returned (.bool true) ∧ w' = w := by
  have h0 : 0 < c := h1
  go_enter Try.func43, Try.ntmps43
  go_wp2
  go_ret
  exact ⟨rfl, rfl⟩

set_option maxHeartbeats 400000 in
theorem step46_gone (v : Value) (w : World) (h : Gone w v) : Calls Try.prog 46 #[v] w fun e w' => e = .returned (.bool false) ∧ w' = w := by
  have H : Hid _ := h
  clear h
  go_enter Try.func46, Try.ntmps46
  go_wp2_with fail
  refine (there43_gone _ _ H.out).mono ?_
  rintro e w1 ⟨rfl, he⟩; subst he
  go_wp2_with fail
  go_ret
  exact ⟨rfl, rfl⟩

set_option maxHeartbeats 400000 in
theorem step46 (b c n : Nat) (w : World) (hc : w.cell? ⟨b, 0, none⟩ = some (.int .i64 c)) (h1 : 1 ≤ c) (hn : w.cell? ⟨b, 8, none⟩ = some (.int .i64 n)) (hf : w.frozen? ⟨b, 8, none⟩ = false) (hm : n < 9223372036854775807) :
    Calls Try.prog 46 #[.pointer (some ⟨b, 0, none⟩)] w fun e w' => e = .returned (.bool true) ∧ w' = w.setCell ⟨b, 8, none⟩ (.int .i64 ((n + 1 : Nat) : Int)) := by
  go_enter Try.func46, Try.ntmps46
  go_wp2_with fail
  refine (there43 _ _ _ hc h1).mono ?_
  rintro e w1 ⟨rfl, he⟩; subst he
  go_wp2_with fail
  go_ret
  exact ⟨rfl, by push_cast; rfl⟩

set_option maxHeartbeats 400000 in
theorem spare47 (b l : Nat) (w : World) (hl : w.cell? ⟨b, 7, none⟩ = some (.int .i64 l)) (h1 : l ≤ 1) : Calls Try.prog 47 #[.pointer (some ⟨b, 0, none⟩)] w fun e w' => e = .returned (.int .i64 ((1 - l : Nat) : Int)) ∧ w' = w := by
  go_enter Try.func47, Try.ntmps47
  go_wp2_with fail
  go_ret
  exact ⟨by rw [show ((1 - l : Nat) : Int) = 1 - (l : Int) by omega]; rfl, rfl⟩

set_option maxHeartbeats 400000 in
theorem int15_gone (v : Value) (w : World) (h : Gone w v) : Calls Try.prog 15 #[v] w fun e w' => e = .returned (.int .i64 0) ∧ w' = w := by
  have H : Hid _ := h
  clear h
  go_enter Try.func15, Try.ntmps15
  go_wp2_with fail
  refine (there43_gone _ _ H.out).mono ?_
  rintro e w1 ⟨rfl, he⟩; subst he
  go_wp2_with fail
  go_ret
  exact ⟨rfl, rfl⟩

set_option maxHeartbeats 400000 in
theorem sure15 (b c s : Nat) (w : World) (hc : w.cell? ⟨b, 0, none⟩ = some (.int .i64 c)) (h1 : 1 ≤ c) (hs : w.cell? ⟨b, 2, none⟩ = some (.int .i64 s)) :
    Calls Try.prog 15 #[.pointer (some ⟨b, 0, none⟩)] w fun e w' => e = .returned (.int .i64 s) ∧ w' = w := by
  go_enter Try.func15, Try.ntmps15
  go_wp2_with fail
  refine (there43 _ _ _ hc h1).mono ?_
  rintro e w1 ⟨rfl, he⟩; subst he
  go_wp2_with fail
  go_ret
  exact ⟨rfl, rfl⟩

set_option maxHeartbeats 400000 in
theorem int32_gone (v : Value) (w : World) (h : Gone w v) : Calls Try.prog 32 #[v] w fun e w' => e = .returned (.int .i64 0) ∧ w' = w := by
  have H : Hid _ := h
  clear h
  go_enter Try.func32, Try.ntmps32
  go_wp2_with fail
  refine (there43_gone _ _ H.out).mono ?_
  rintro e w1 ⟨rfl, he⟩; subst he
  go_wp2_with fail
  go_ret
  exact ⟨rfl, rfl⟩

set_option maxHeartbeats 400000 in
theorem steps32 (b c s : Nat) (w : World) (hc : w.cell? ⟨b, 0, none⟩ = some (.int .i64 c)) (h1 : 1 ≤ c) (hs : w.cell? ⟨b, 8, none⟩ = some (.int .i64 s)) :
    Calls Try.prog 32 #[.pointer (some ⟨b, 0, none⟩)] w fun e w' => e = .returned (.int .i64 s) ∧ w' = w := by
  go_enter Try.func32, Try.ntmps32
  go_wp2_with fail
  refine (there43 _ _ _ hc h1).mono ?_
  rintro e w1 ⟨rfl, he⟩; subst he
  go_wp2_with fail
  go_ret
  exact ⟨rfl, rfl⟩

set_option maxHeartbeats 400000 in
theorem int31_gone (v : Value) (w : World) (h : Gone w v) : Calls Try.prog 31 #[v] w fun e w' => e = .returned (.int .i64 0) ∧ w' = w := by
  have H : Hid _ := h
  clear h
  go_enter Try.func31, Try.ntmps31
  go_wp2_with fail
  refine (there43_gone _ _ H.out).mono ?_
  rintro e w1 ⟨rfl, he⟩; subst he
  go_wp2_with fail
  go_ret
  exact ⟨rfl, rfl⟩

theorem run_max0 (ts : Array TypeId) (t : TypeId) (n : Int) (w : World) : (Builtin.max_ ts t #[.int .i64 0, .int .i64 n]).run Try.prog w = .ok (.int .i64 (n.toNat : Nat)) w := by
  by_cases h : n ≤ 0
  · have e : (n.toNat : Int) = 0 := by omega
    rw [e]
    simp [Builtin.max_, Builtin.max2]
    try omega
  · have e : (n.toNat : Int) = n := by omega
    rw [e]
    simp [Builtin.max_, Builtin.max2]
    try omega
theorem run_maxn (ts : Array TypeId) (t : TypeId) (n : Int) (w : World) : (Builtin.max_ ts t #[.int .i64 n, .int .i64 0]).run Try.prog w = .ok (.int .i64 (n.toNat : Nat)) w := by
  by_cases h : n ≤ 0
  · have e : (n.toNat : Int) = 0 := by omega
    rw [e]
    simp [Builtin.max_, Builtin.max2]
    try omega
  · have e : (n.toNat : Int) = n := by omega
    rw [e]
    simp [Builtin.max_, Builtin.max2]
    try omega
theorem run_minn (ts : Array TypeId) (t : TypeId) (m n : Nat) (w : World) : (Builtin.min_ ts t #[.int .i64 m, .int .i64 n]).run Try.prog w = .ok (.int .i64 ((min m n : Nat) : Int)) w := by
  by_cases h : m ≤ n
  · rw [Nat.min_eq_left h]
    simp [Builtin.min_, Builtin.min2]
    try omega
  · rw [Nat.min_eq_right (by omega)]
    simp [Builtin.min_, Builtin.min2]
    try omega

attribute [local go_sem ↓] run_max0 run_maxn run_minn

set_option maxHeartbeats 400000 in
theorem room31 (b c n cap : Nat) (ao : Option Addr) (w : World) (hc : w.cell? ⟨b, 0, none⟩ = some (.int .i64 c)) (h1 : 1 ≤ c) (hs : w.cell? ⟨b, 1, none⟩ = some (.slice ao n cap)) (h2 : c ≤ 1048576) (hn : n ≤ 140737488355328) :
    Calls Try.prog 31 #[.pointer (some ⟨b, 0, none⟩)] w fun e w' => e = .returned (.int .i64 ((c - n : Nat) : Int)) ∧ w.grownBy w' none ∧ w'.heap = w.heap := by
  go_enter Try.func31, Try.ntmps31
  go_wp2_with fail
  refine (there43 _ _ _ hc h1).mono ?_
  rintro e w1 ⟨rfl, he⟩; subst he
  go_wp2_with fail
  go_quiet (fail)
  go_wp2_with fail
  go_ret
  exact ⟨rfl, grown_drewN _ _ _, rfl⟩
end Go.Proofs.Ytegacmcekladfaa
