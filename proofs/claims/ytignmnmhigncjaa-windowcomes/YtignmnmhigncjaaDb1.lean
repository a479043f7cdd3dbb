/-
  do: Give.
-/
import Derived.Test.YtignmnmhigncjaaDa
namespace Go.Proofs.Ytignmnmhigncjaa
open Go.RowKit Disk S

set_option maxRecDepth 100000 in
set_option maxHeartbeats 4000000 in
theorem do11_1 (Q : Nat → Prop) (b : Nat) (v : Value) (n rb : Nat) (tv bv : Value) (L : List (Option ByteArray)) (z : Int) (x : ByteArray) (w : World) (h : Two Q w b v n rb tv bv L) (hL : L.length ≤ 600000) :
    Calls Try.prog 11 #[.pointer (some ⟨b, 0, none⟩), .pointer (some ⟨rb, 0, none⟩), .agg #[.int .i64 1, .int .i64 z, .string x]] w (DoP Q b v n rb tv bv L w) := by
  have HN : Hid (Two Q w b v n rb tv bv L ∧ L.length ≤ 600000 ∧ n ≤ 64) := ⟨h, hL, h.win.size.2⟩
  clear h hL
  go_enter Try.func11, Try.ntmps11
  go_upto_region 1 with fail
  obtain ⟨w1, hw1, H1⟩ := al1 w #[.int .i64 1, .int .i64 z, .string x] 35
  rw [hw1]
  obtain ⟨p, hp⟩ : ∃ p, w.heap.size = p := ⟨_, rfl⟩
  rw [hp] at H1 ⊢
  have H2 : Hid (Two Q w1 b v n rb tv bv L ∧ Blk w1 p 35 #[.int .i64 1, .int .i64 z, .string x] ∧ w.grownBy w1 none) := ⟨HN.out.1.grown H1.out.2.1, H1.out.1, H1.out.2.1⟩
  have c0 := H2.out.2.1.cell 0
  have c1 := H2.out.2.1.cell 1
  have c2 := H2.out.2.1.cell 2
  simp at c0 c1 c2
  clear hw1 hp H1
  go_wp2_with fail
  refine (give_yes b v n L (lead L) x w1 H2.out.1.win (by have := HN.out; omega)).mono ?_
  rintro e w2 hgp
  clear c0 c1 c2
  rcases hgp with ⟨hl, rfl, hw, hf⟩ | ⟨hl, rfl, hw, hf⟩
  · obtain ⟨T, Ks, hR, hz⟩ := H2.out.1.mid hf
    have HR : Hid (Rw w2 rb tv bv n T Ks ∧ zipL T Ks = L ∧ L.length = lead L + n ∧ T.length = L.length) := ⟨hR, hz, hl, by rw [← hz, zipL_len hR.same]⟩
    have HW : Hid (Win Q w2 b v n L (lead L) ∧ Fr w1 w2 (FN b v)) := ⟨hw, hf⟩
    have c2 := (H2.out.1.win.other hf H2.out.2.1 (by decide) (by decide)).cell 2
    simp at c2
    clear hR hz hl hw hf
    go_wp2_with fail
    refine (rgive31 rb tv bv n T Ks x w2 HR.out.1 (by have := HR.out; have := HN.out; omega) HN.out.2.2).mono ?_
    rintro e w3 hrg
    rw [HR.out.2.1] at hrg
    rcases hrg with ⟨_, rfl, hr⟩ | ⟨hlt, _⟩
    · have HF : Hid (DoP Q b v n rb tv bv L w (.returned (.bool true)) w3) := doP_of HN.out.1 H2.out.2.2 HW.out.1 HW.out.2 (fun i hi => .inl hi) hr (by omega) (grown_refl _ _)
      clear hr c2
      go_wp2_with fail
      refine (num7 7 w3).mono ?_
      rintro e w4 ⟨rfl, rfl⟩
      go_wp2_with fail
      go_ret
      exact HF.out
    · exact absurd hlt (by have := HR.out; omega)
  · obtain ⟨T, Ks, hR, hz⟩ := H2.out.1.mid hf
    have HR : Hid (Rw w2 rb tv bv n T Ks ∧ zipL T Ks = L ∧ L.length < lead L + n ∧ T.length = L.length) := ⟨hR, hz, hl, by rw [← hz, zipL_len hR.same]⟩
    have HW : Hid (Win (Qn Q w1 w2) w2 b v n (L ++ [some x]) (lead (L ++ [some x])) ∧ Fr w1 w2 (FN b v)) := ⟨by rw [lead_push]; exact hw, hf⟩
    have c2 := (H2.out.1.win.other hf H2.out.2.1 (by decide) (by decide)).cell 2
    simp at c2
    obtain ⟨ll, hll⟩ : ∃ ll, L.length + 1 = ll := ⟨_, rfl⟩
    have HL : Hid (L.length + 1 = ll) := hll
    rw [hll]
    clear hR hz hl hw hf hll
    go_wp2_with fail
    refine (rgive31 rb tv bv n T Ks x w2 HR.out.1 (by have := HR.out; have := HN.out; omega) HN.out.2.2).mono ?_
    rintro e w3 hrg
    rw [HR.out.2.1] at hrg
    rcases hrg with ⟨hge, _⟩ | ⟨_, rfl, hr⟩
    · exact absurd hge (by have := HR.out; omega)
    · have HF : Hid (DoP Q b v n rb tv bv L w (.returned (.bool true)) w3) := doP_of HN.out.1 H2.out.2.2 HW.out.1 HW.out.2 (fun i hi => hi) hr (by simp) (grown_refl _ _)
      rw [HL.out]
      have s1 : ((ll : Int) == (ll : Int)) = true := by simp
      clear hr c2
      go_wp2_with fail
      refine (num7 0 w3).mono ?_
      rintro e w4 ⟨rfl, rfl⟩
      go_wp2_with fail
      go_ret
      exact HF.out
end Go.Proofs.Ytignmnmhigncjaa
