/-
  do: Set.
-/
import Derived.Test.YtignmnmhigncjaaDa
namespace Go.Proofs.Ytignmnmhigncjaa
open Go.RowKit Disk S

set_option maxRecDepth 100000 in
set_option maxHeartbeats 4000000 in
theorem do11_3 (Q : Nat → Prop) (b : Nat) (v : Value) (n rb : Nat) (tv bv : Value) (L : List (Option ByteArray)) (z : Int) (x : ByteArray) (w : World) (h : Two Q w b v n rb tv bv L) (hL : L.length ≤ 600000) :
    Calls Try.prog 11 #[.pointer (some ⟨b, 0, none⟩), .pointer (some ⟨rb, 0, none⟩), .agg #[.int .i64 3, .int .i64 z, .string x]] w (DoP Q b v n rb tv bv L w) := by
  have HN : Hid (Two Q w b v n rb tv bv L ∧ L.length ≤ 600000 ∧ n ≤ 64) := ⟨h, hL, h.win.size.2⟩
  clear h hL
  go_enter Try.func11, Try.ntmps11
  go_upto_region 1 with fail
  obtain ⟨w1, hw1, H1⟩ := al1 w #[.int .i64 3, .int .i64 z, .string x] 35
  rw [hw1]
  obtain ⟨p, hp⟩ : ∃ p, w.heap.size = p := ⟨_, rfl⟩
  rw [hp] at H1 ⊢
  have H2 : Hid (Two Q w1 b v n rb tv bv L ∧ Blk w1 p 35 #[.int .i64 3, .int .i64 z, .string x] ∧ w.grownBy w1 none) := ⟨HN.out.1.grown H1.out.2.1, H1.out.1, H1.out.2.1⟩
  have c0 := H2.out.2.1.cell 0
  have c1 := H2.out.2.1.cell 1
  have c2 := H2.out.2.1.cell 2
  simp at c0 c1 c2
  clear hw1 hp H1
  go_upto_region 11 with fail
  refine wp_region_noPanic ?_
  refine wp_region_hold 1000 (fun y => Blk y p 35 #[.int .i64 3, .int .i64 z, .string x]) (by kernel_rfl) ?_
  have HD : Hid (Two Q w1.drew b v n rb tv bv L ∧ Blk w1.drew p 35 #[.int .i64 3, .int .i64 z, .string x] ∧ w.grownBy w1.drew none) := ⟨H2.out.1.grown (grown_drew _ _), H2.out.2.1.grown (r := none) (grown_drew _ _) (by simp), grown_trans H2.out.2.2 (grown_drew _ _)⟩
  generalize w1.drew = wd at HD ⊢
  clear c0 c1 c2
  have J : Idx [0, 1, 2, 3, 4, 7, 8, 9, 10, 11] := trivial
  iterate 10 (refine tk J (HD.out.2.1) rfl rfl (fun wk hk => by have k1 := hk.cell 1; have k2 := hk.cell 2; simp at k1 k2; go_simp; try rfl) ?_; replace J := J.tl; try simp only [Act.put, List.setIfInBounds_toArray, List.set_cons_zero, List.set_cons_succ])
  clear J
  refine wpHold_one (i := 5) rfl (by kernel_rfl) (by rfl) (fun K hK => ?_)
  go_wp2_with fail
  refine (set_yes b v n L (lead L) z x wd HD.out.1.win (by have := HN.out; omega)).mono ?_
  rintro e w2 ⟨rfl, hw, hf⟩
  obtain ⟨T, Ks, hR, hz⟩ := HD.out.1.mid hf
  have HR : Hid (Rw w2 rb tv bv n T Ks ∧ zipL T Ks = L) := ⟨hR, hz⟩
  have HW : Hid (Win (Qn Q wd w2) w2 b v n (putL L z (some x)) (lead (putL L z (some x))) ∧ Fr wd w2 (FN b v)) := ⟨by rw [lead_putL]; exact hw, hf⟩
  have HB : Hid (Blk w2 p 35 #[.int .i64 3, .int .i64 z, .string x]) := HD.out.1.win.other hf HD.out.2.1 (by decide) (by decide)
  clear hR hz hw hf
  obtain ⟨ge, hge⟩ : ∃ y, (getD L z).2 = y := ⟨_, rfl⟩
  have HGG : Hid ((getD L z).2 = ge) := hge
  rw [hge]
  clear hge
  go_wp2_with fail
  refine hK.out _ _ (fun _ => HB.out) ?_
  clear hK K
  try simp only [Act.put, List.setIfInBounds_toArray, List.set_cons_zero, List.set_cons_succ]
  refine wpHold_one (i := 6) rfl (by kernel_rfl) (by rfl) (fun K hK => ?_)
  go_wp2_with fail
  refine (num7 ge w2).mono ?_
  rintro e w3 ⟨rfl, rfl⟩
  go_wp2_with fail
  refine hK.out _ _ (fun _ => HB.out) ?_
  clear hK K
  try simp only [Act.put, List.setIfInBounds_toArray, List.set_cons_zero, List.set_cons_succ]
  refine wpHold_one (i := 12) rfl (by kernel_rfl) (by rfl) (fun K hK => ?_)
  go_wp2_with fail
  refine (rset35 rb tv bv n T Ks z x w3 HR.out.1).mono ?_
  rintro e w4 ⟨rfl, hr⟩
  rw [HR.out.2] at hr
  rw [HR.out.2, HGG.out]
  have HF : Hid (DoP Q b v n rb tv bv L w (.returned (.bool true)) w4 ∧ Blk w4 p 35 #[.int .i64 3, .int .i64 z, .string x]) := by
    refine ⟨doP_of HN.out.1 HD.out.2.2 HW.out.1 HW.out.2 (fun i hi => hi) hr (back_len _ _ _) (grown_refl _ _), ?_⟩
    obtain ⟨tv', bv', T', K', _, _, hf, _⟩ := hr
    refine HB.out.same (hf.block p HB.out.lt fun e => ?_)
    obtain ⟨t, C, hC, ht⟩ := HR.out.1.typ p e
    have := blk_type HB.out hC
    omega
  clear hr
  go_wp2_with fail
  refine hK.out _ _ (fun _ => HF.out.2) ?_
  clear hK K
  have s2 : (ge == ge) = true := by simp
  try simp only [Act.put, List.setIfInBounds_toArray, List.set_cons_zero, List.set_cons_succ]
  have J : Idx [13, 14] := trivial
  iterate 2 (refine tk J (HF.out.2) rfl rfl (fun wk hk => by have k1 := hk.cell 1; have k2 := hk.cell 2; simp at k1 k2; go_simp; try rfl) ?_; replace J := J.tl; try simp only [Act.put, List.setIfInBounds_toArray, List.set_cons_zero, List.set_cons_succ])
  clear J
  refine wpHold_done (by kernel_rfl) ?_
  refine (‹∀ (a : Act) (w : World), Code.wp Try.prog _ _ a w → _› _ _ ?_)
  go_wp2_with fail
  go_ret
  exact HF.out.1
end Go.Proofs.Ytignmnmhigncjaa
