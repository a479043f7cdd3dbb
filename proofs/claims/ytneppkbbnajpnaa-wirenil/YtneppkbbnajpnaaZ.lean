/-
  WireNil's walk: readers and functions that are not there, a zero reader, empty lists.
-/
import Derived.Test.YtneppkbbnajpnaaK
namespace Go.Proofs.Ytneppkbbnajpnaa
open Go.RowKit

set_option maxRecDepth 100000 in
set_option maxHeartbeats 1000000 in
theorem nothing36_nil (w : World) : Calls Try.prog 36 #[.pointer none] w fun e w' => e = .returned (.bool true) ∧ w.grownBy w' none := by
  go_enter Try.func36, Try.ntmps36
  go_wp2_with fail
  refine (number25_nil _).mono ?_
  rintro e w1 ⟨rfl, he⟩; subst he
  go_wp2_with fail
  refine (signed26_nil _).mono ?_
  rintro e w1 ⟨rfl, he⟩; subst he
  go_wp2_with fail
  refine (flag28_nil _).mono ?_
  rintro e w1 ⟨rfl, he⟩; subst he
  go_wp2_with fail
  refine (bytes27_nil _ _).mono ?_
  rintro e w1 ⟨rfl, hg⟩
  have G : Hid _ := hg
  clear hg
  go_wp2_with fail
  refine (num_any _ _).mono ?_
  rintro e w2 ⟨rfl, he⟩; subst he
  go_wp2_with fail
  refine (num_any _ _).mono ?_
  rintro e w2 ⟨rfl, he⟩; subst he
  go_wp2_with fail
  refine (num_any _ _).mono ?_
  rintro e w2 ⟨rfl, he⟩; subst he
  go_wp2_with fail
  refine (num_any _ _).mono ?_
  rintro e w2 ⟨rfl, he⟩; subst he
  go_wp2_with fail
  refine (end_nil _).mono ?_
  rintro e w2 ⟨rfl, he⟩; subst he
  go_wp2_with fail
  refine (num_any _ _).mono ?_
  rintro e w2 ⟨rfl, he⟩; subst he
  go_wp2_with fail
  refine (left_nil _).mono ?_
  rintro e w2 ⟨rfl, he⟩; subst he
  go_wp2_with fail
  go_ret
  exact ⟨rfl, G.out⟩

set_option maxRecDepth 100000 in
set_option maxHeartbeats 1000000 in
theorem nothing36_zero (b : Nat) (w : World) (hr : RdB w b false (.slice none 0 0)) : Calls Try.prog 36 #[.pointer (some ⟨b, 0, none⟩)] w fun e w' => e = .returned (.bool true) ∧ w.grownBy w' none := by
  have HR : Hid _ := hr
  clear hr
  go_enter Try.func36, Try.ntmps36
  go_wp2_with fail
  refine (number25_zero b _ _ HR.out).mono ?_
  rintro e w1 ⟨rfl, he⟩; subst he
  go_wp2_with fail
  refine (signed26_zero b _ _ HR.out).mono ?_
  rintro e w1 ⟨rfl, he⟩; subst he
  go_wp2_with fail
  refine (flag28_zero b _ _ HR.out).mono ?_
  rintro e w1 ⟨rfl, he⟩; subst he
  go_wp2_with fail
  refine (bytes27_zero b _ _ _ HR.out).mono ?_
  rintro e w2 ⟨rfl, hg⟩
  have G : Hid (w1.grownBy w2 none ∧ RdB w2 b false (.slice none 0 0)) := ⟨hg, RdB.kept HR.out hg (by simp)⟩
  clear hg HR
  go_wp2_with fail
  refine (num_any _ _).mono ?_
  rintro e w3 ⟨rfl, he⟩; subst he
  go_wp2_with fail
  refine (num_any _ _).mono ?_
  rintro e w3 ⟨rfl, he⟩; subst he
  go_wp2_with fail
  refine (num_any _ _).mono ?_
  rintro e w3 ⟨rfl, he⟩; subst he
  go_wp2_with fail
  refine (num_any _ _).mono ?_
  rintro e w3 ⟨rfl, he⟩; subst he
  go_wp2_with fail
  refine (end_zero b _ _ G.out.2).mono ?_
  rintro e w3 ⟨rfl, he⟩; subst he
  go_wp2_with fail
  refine (num_any _ _).mono ?_
  rintro e w3 ⟨rfl, he⟩; subst he
  go_wp2_with fail
  refine (left_any b false _ [] _ G.out.2 (seg_nil _)).mono ?_
  rintro e w3 ⟨rfl, he⟩; subst he
  go_wp2_with fail
  go_ret
  exact ⟨rfl, G.out.1⟩

theorem eq68 (w : World) : (binOp .eql 68 .nilFunc .nilFunc).run Try.prog w = .ok (.bool true) w := by kernel_rfl
theorem ne68 (w : World) : (binOp .eql 68 (.func (.func 34) #[] #[]) .nilFunc).run Try.prog w = .ok (.bool false) w := by kernel_rfl
theorem eq98 (w : World) : (binOp .eql 98 .nilFunc .nilFunc).run Try.prog w = .ok (.bool true) w := by kernel_rfl
theorem ne64 (w : World) : (binOp .eql 64 (.func (.func 32) #[] #[]) .nilFunc).run Try.prog w = .ok (.bool false) w := by kernel_rfl

set_option maxRecDepth 100000 in
set_option maxHeartbeats 400000 in
theorem put33_nil (w : World) : Calls Try.prog 33 #[.slice none 0 0, .nilFunc] w fun e w' => e = .returned (.tuple #[.slice none 0 0, .int .i64 1]) ∧ w' = w := by
  have q1 := eq68
  have q2 := ne68
  go_enter Try.func33, Try.ntmps33
  go_wp2_with fail
  go_ret2
  exact ⟨rfl, rfl⟩

theorem numForm0 : numForm 0 = [0] := by rw [numForm_small (by decide)]; rfl

set_option maxRecDepth 100000 in
set_option maxHeartbeats 400000 in
theorem put33_none (w : World) : Calls Try.prog 33 #[.slice none 0 0, .func (.func 34) #[] #[]] w fun e w' => ∃ u, e = .returned (.tuple #[u, .int .i64 0]) ∧ Own w' w.heap.size u [0] ∧ w.grownBy w' none := by
  have q1 := eq68
  have q2 := ne68
  go_enter Try.func33, Try.ntmps33
  go_wp2_with fail
  refine (number9_int _ 0 rfl (by decide) _).mono ?_
  rw [numForm0]
  rintro e w1 ⟨u, rfl, h1, h2⟩
  have F : Hid _ := And.intro h1 h2
  clear h1 h2
  go_wp2_with fail
  refine wp_loop_rounds 1 ?_
  rw [rounds_succ]
  go_wp2_with fail
  go_ret2
  exact ⟨_, rfl, F.out⟩

set_option maxRecDepth 100000 in
set_option maxHeartbeats 400000 in
theorem take35_nil (r : Value) (most : Int) (w : World) : Calls Try.prog 35 #[r, .int .i64 most, .nilFunc] w fun e w' => e = .returned (.tuple #[.slice none 0 0, .int .i64 1]) ∧ w.grownBy w' none := by
  have q1 := eq98
  go_enter Try.func35, Try.ntmps35
  go_wp2_with fail
  go_ret2
  exact ⟨rfl, grown_trans (World.grownBy_alloc _ _ _) (World.grownBy_alloc _ _ _)⟩

set_option maxRecDepth 100000 in
set_option maxHeartbeats 400000 in
theorem take31_nil (most : Int) (w : World) : Calls Try.prog 31 #[.pointer none, .int .i64 most, .func (.func 32) #[] #[]] w fun e w' => e = .returned (.tuple #[.slice none 0 0, .int .i64 1]) ∧ w.grownBy w' none := by
  have q1 := ne64
  go_enter Try.func31, Try.ntmps31
  go_wp2_with fail
  refine (whole54_nil _ _).mono ?_
  rintro e w1 ⟨rfl, he⟩; subst he
  go_wp2_with fail
  go_ret2
  exact ⟨rfl, grown_trans (World.grownBy_alloc _ _ _) (World.grownBy_alloc _ _ _)⟩
end Go.Proofs.Ytneppkbbnajpnaa
