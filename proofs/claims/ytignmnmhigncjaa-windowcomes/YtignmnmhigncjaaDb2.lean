/-
  do: Get.
-/
import Derived.Test.YtignmnmhigncjaaDa
namespace Go.Proofs.Ytignmnmhigncjaa
open Go.RowKit Disk S

set_option maxRecDepth 100000 in
set_option maxHeartbeats 4000000 in
theorem do11_2 (Q : Nat → Prop) (b : Nat) (v : Value) (n rb : Nat) (tv bv : Value) (L : List (Option ByteArray)) (z : Int) (x : ByteArray) (w : World) (h : Two Q w b v n rb tv bv L) (hL : L.length ≤ 600000) :
    Calls Try.prog 11 #[.pointer (some ⟨b, 0, none⟩), .pointer (some ⟨rb, 0, none⟩), .agg #[.int .i64 2, .int .i64 z, .string x]] w (DoP Q b v n rb tv bv L w) := by
  have HN : Hid (Two Q w b v n rb tv bv L ∧ L.length ≤ 600000 ∧ n ≤ 64) := ⟨h, hL, h.win.size.2⟩
  clear h hL
  go_enter Try.func11, Try.ntmps11
  go_upto_region 1 with fail
  obtain ⟨w1, hw1, H1⟩ := al1 w #[.int .i64 2, .int .i64 z, .string x] 35
  rw [hw1]
  obtain ⟨p, hp⟩ : ∃ p, w.heap.size = p := ⟨_, rfl⟩
  rw [hp] at H1 ⊢
  have H2 : Hid (Two Q w1 b v n rb tv bv L ∧ Blk w1 p 35 #[.int .i64 2, .int .i64 z, .string x] ∧ w.grownBy w1 none) := ⟨HN.out.1.grown H1.out.2.1, H1.out.1, H1.out.2.1⟩
  have c0 := H2.out.2.1.cell 0
  have c1 := H2.out.2.1.cell 1
  have c2 := H2.out.2.1.cell 2
  simp at c0 c1 c2
  clear hw1 hp H1
  go_wp2_with fail
  refine (get_yes b v n L (lead L) z w1 H2.out.1.win (by have := HN.out; omega)).mono ?_
  rintro e w2 ⟨rfl, rfl⟩
  obtain ⟨T, Ks, hR, hz⟩ := H2.out.1.ref
  have HR : Hid (Rw w2 rb tv bv n T Ks ∧ zipL T Ks = L) := ⟨hR, hz⟩
  have HF : Hid (DoP Q b v n rb tv bv L w (.returned (.bool true)) w2) := doP_of HN.out.1 H2.out.2.2 H2.out.1.win (Fr.of (grown_refl _ none) (by simp)) (fun i hi => .inl hi) (by rw [← HR.out.2]; exact RTo.refl HR.out.1) (by omega) (grown_refl _ _)
  clear hR hz
  obtain ⟨gs, hgs⟩ : ∃ y, (getD L z).1 = y := ⟨_, rfl⟩
  obtain ⟨ge, hge⟩ : ∃ y, (getD L z).2 = y := ⟨_, rfl⟩
  have HGG : Hid ((getD L z).1 = gs ∧ (getD L z).2 = ge) := ⟨hgs, hge⟩
  rw [hgs, hge]
  clear hgs hge
  go_wp2_with fail
  refine (rget33 rb tv bv n T Ks z w2 HR.out.1).mono ?_
  rintro e w3 ⟨rfl, rfl⟩
  rw [HR.out.2, HGG.out.1, HGG.out.2]
  have s1 : (gs.toList == gs.toList) = true := by simp
  have s2 : (ge == ge) = true := by simp
  try clear c0
  try clear c1
  try clear c2
  go_wp2_with fail
  refine (num7 ge w3).mono ?_
  rintro e w4 ⟨rfl, rfl⟩
  go_wp2_with fail
  go_ret
  exact HF.out
end Go.Proofs.Ytignmnmhigncjaa
