/-
  do: Back.
-/
import Derived.Test.YtignmnmhigncjaaDa
namespace Go.Proofs.Ytignmnmhigncjaa
open Go.RowKit Disk S

set_option maxRecDepth 100000 in
set_option maxHeartbeats 4000000 in
theorem do11_4 (Q : Nat → Prop) (b : Nat) (v : Value) (n rb : Nat) (tv bv : Value) (L : List (Option ByteArray)) (z : Int) (x : ByteArray) (w : World) (h : Two Q w b v n rb tv bv L) (hL : L.length ≤ 600000) :
    Calls Try.prog 11 #[.pointer (some ⟨b, 0, none⟩), .pointer (some ⟨rb, 0, none⟩), .agg #[.int .i64 4, .int .i64 z, .string x]] w (DoP Q b v n rb tv bv L w) := by
  have HN : Hid (Two Q w b v n rb tv bv L ∧ L.length ≤ 600000 ∧ n ≤ 64) := ⟨h, hL, h.win.size.2⟩
  clear h hL
  go_enter Try.func11, Try.ntmps11
  go_upto_region 1 with fail
  obtain ⟨w1, hw1, H1⟩ := al1 w #[.int .i64 4, .int .i64 z, .string x] 35
  rw [hw1]
  obtain ⟨p, hp⟩ : ∃ p, w.heap.size = p := ⟨_, rfl⟩
  rw [hp] at H1 ⊢
  have H2 : Hid (Two Q w1 b v n rb tv bv L ∧ Blk w1 p 35 #[.int .i64 4, .int .i64 z, .string x] ∧ w.grownBy w1 none) := ⟨HN.out.1.grown H1.out.2.1, H1.out.1, H1.out.2.1⟩
  have c0 := H2.out.2.1.cell 0
  have c1 := H2.out.2.1.cell 1
  have c2 := H2.out.2.1.cell 2
  simp at c0 c1 c2
  clear hw1 hp H1
  go_wp2_with fail
  refine (back_yes b v n L z w1 H2.out.1.win (by have := HN.out; omega)).mono ?_
  rintro e w2 ⟨rfl, hw, hf⟩
  obtain ⟨T, Ks, hR, hz⟩ := H2.out.1.mid hf
  have HR : Hid (Rw w2 rb tv bv n T Ks ∧ zipL T Ks = L) := ⟨hR, hz⟩
  have HW : Hid (Win Q w2 b v n (putL L z none) (lead (putL L z none)) ∧ Fr w1 w2 (FN b v)) := ⟨hw, hf⟩
  clear c0 c1 c2
  have c1 := (H2.out.1.win.other hf H2.out.2.1 (by decide) (by decide)).cell 1
  simp at c1
  clear hR hz hw hf
  obtain ⟨gs, hgs⟩ : ∃ y, (getD L z).1 = y := ⟨_, rfl⟩
  obtain ⟨ge, hge⟩ : ∃ y, (getD L z).2 = y := ⟨_, rfl⟩
  have HGG : Hid ((getD L z).1 = gs ∧ (getD L z).2 = ge) := ⟨hgs, hge⟩
  rw [hgs, hge]
  clear hgs hge
  go_wp2_with fail
  refine (rback36 rb tv bv n T Ks z w2 HR.out.1).mono ?_
  rintro e w3 ⟨rfl, hr⟩
  rw [HR.out.2] at hr
  have HF : Hid (DoP Q b v n rb tv bv L w (.returned (.bool true)) w3) := doP_of HN.out.1 H2.out.2.2 HW.out.1 HW.out.2 (fun i hi => .inl hi) hr (back_len _ _ _) (grown_refl _ _)
  clear hr
  rw [HR.out.2, HGG.out.1, HGG.out.2]
  have s1 : (gs.toList == gs.toList) = true := by simp
  have s2 : (ge == ge) = true := by simp
  try clear c0
  try clear c1
  try clear c2
  go_wp2_with fail
  refine (num7 ge w3).mono ?_
  rintro e w4 ⟨rfl, rfl⟩
  go_wp2_with fail
  go_ret
  exact HF.out
end Go.Proofs.Ytignmnmhigncjaa
