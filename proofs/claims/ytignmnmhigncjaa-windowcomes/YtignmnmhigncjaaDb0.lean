/-
  do: any other kind.
-/
import Derived.Test.YtignmnmhigncjaaDa
namespace Go.Proofs.Ytignmnmhigncjaa
open Go.RowKit Disk S

set_option maxRecDepth 100000 in
set_option maxHeartbeats 4000000 in
theorem do11_0 (Q : Nat → Prop) (b : Nat) (v : Value) (n rb : Nat) (tv bv : Value) (L : List (Option ByteArray)) (kd : Int) (hkd : ¬ kd = 1 ∧ ¬ kd = 2 ∧ ¬ kd = 3 ∧ ¬ kd = 4 ∧ ¬ kd = 5) (z : Int) (x : ByteArray) (w : World) (h : Two Q w b v n rb tv bv L) (hL : L.length ≤ 600000) :
    Calls Try.prog 11 #[.pointer (some ⟨b, 0, none⟩), .pointer (some ⟨rb, 0, none⟩), .agg #[.int .i64 kd, .int .i64 z, .string x]] w (DoP Q b v n rb tv bv L w) := by
  have HN : Hid (Two Q w b v n rb tv bv L ∧ L.length ≤ 600000 ∧ n ≤ 64) := ⟨h, hL, h.win.size.2⟩
  clear h hL
  have k1 : (kd == 1) = false := by simp; omega
  have k2 : (kd == 2) = false := by simp; omega
  have k3 : (kd == 3) = false := by simp; omega
  have k4 : (kd == 4) = false := by simp; omega
  have k5 : (kd == 5) = false := by simp; omega
  have l1 : (kd = 1) = False := eq_false (by omega)
  have l2 : (kd = 2) = False := eq_false (by omega)
  have l3 : (kd = 3) = False := eq_false (by omega)
  have l4 : (kd = 4) = False := eq_false (by omega)
  have l5 : (kd = 5) = False := eq_false (by omega)
  clear hkd
  go_enter Try.func11, Try.ntmps11
  go_upto_region 1 with fail
  obtain ⟨w1, hw1, H1⟩ := al1 w #[.int .i64 kd, .int .i64 z, .string x] 35
  rw [hw1]
  obtain ⟨p, hp⟩ : ∃ p, w.heap.size = p := ⟨_, rfl⟩
  rw [hp] at H1 ⊢
  have H2 : Hid (Two Q w1 b v n rb tv bv L ∧ Blk w1 p 35 #[.int .i64 kd, .int .i64 z, .string x] ∧ w.grownBy w1 none) := ⟨HN.out.1.grown H1.out.2.1, H1.out.1, H1.out.2.1⟩
  have c0 := H2.out.2.1.cell 0
  have c1 := H2.out.2.1.cell 1
  have c2 := H2.out.2.1.cell 2
  simp at c0 c1 c2
  clear hw1 hp H1
  obtain ⟨T, Ks, hR, hz⟩ := H2.out.1.ref
  have HF : Hid (DoP Q b v n rb tv bv L w (.returned (.bool true)) w1) := doP_of HN.out.1 H2.out.2.2 H2.out.1.win (Fr.of (grown_refl _ none) (by simp)) (fun i hi => .inl hi) (by rw [← hz]; exact RTo.refl hR) (by omega) (grown_refl _ _)
  clear hR hz
  go_wp2_with fail
  go_ret
  exact HF.out
end Go.Proofs.Ytignmnmhigncjaa
