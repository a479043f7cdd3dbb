/-
  WireLists' walk.
-/
import Derived.Test.YtneppkbbnajpnaaQp
import Derived.Test.YtneppkbbnajpnaaQ
import Derived.Test.YtneppkbbnajpnaaEq
import Derived.Deep.DeepCutAuto
namespace Go.Proofs.Ytneppkbbnajpnaa
open Go.RowKit
attribute [local go_sem ↓] Go.wp_at_zero Go.wp_at_succ

theorem OwnP.shape {w : World} {B : Nat} {v : Value} {ps : List (Nat × Nat)} (h : OwnP w B v ps) : (v = .slice none 0 0 ∧ ps = []) ∨ ∃ g cap, v = .slice (some ⟨g, 0, none⟩) ps.length cap ∧ B ≤ g ∧ g < w.heap.size := by
  rcases h.2 with ⟨rfl, hn⟩ | ⟨g, cap, cur, rfl, hb, hg, _⟩
  · exact .inl ⟨rfl, List.eq_nil_of_length_eq_zero hn⟩
  · exact .inr ⟨g, cap, rfl, hb, (Array.getElem?_eq_some_iff.1 hg).1⟩

theorem segp_take {w : World} {ao : Option Addr} {cap : Nat} {ps : List (Nat × Nat)} (m : Nat) (hm : m ≤ ps.length) (h : SegP w (.slice ao ps.length cap) ps) : SegP w (.slice ao m cap) (ps.take m) := by
  obtain ⟨ao', cap', hv, h1, h2, h3, h4⟩ := h
  simp at hv; obtain ⟨rfl, rfl⟩ := hv
  refine ⟨ao, cap, by simp [hm], by simp; omega, h2, h3, fun j hj => ?_⟩
  simp at hj
  obtain ⟨b, off, e, hc⟩ := h4 j (by omega)
  exact ⟨b, off, e, by simpa using hc⟩

set_option maxRecDepth 100000 in
set_option maxHeartbeats 10000000 in
theorem lists6 (v : Value) (ps : List (Nat × Nat)) (cut : Int) (w : World) (hv : SegP w v ps) (hs : Small ps) (hz : ps.length ≤ 8796093021952) (hc1 : -9223372036854775808 ≤ cut) (hc2 : cut ≤ 9223372036854775807) :
    Calls Try.prog 6 #[v, .int .i64 cut] w fun e w' => e = .returned (.bool true) ∧ w.grownBy w' none := by
  obtain ⟨ao, cp, rfl⟩ := hv.shape
  have HV : Hid (SegP w (.slice ao ps.length cp) ps) := hv
  have HS : Hid (Small ps) := hs
  obtain ⟨n, hn⟩ : ∃ n, ps.length = n := ⟨_, rfl⟩
  have HN : Hid (ps.length = n) := hn
  rw [hn] at HV hz ⊢
  clear hv hs hn
  go_enter Try.func6, Try.ntmps6
  go_wp2_with (first | (at_builtin; refine app58 _ rfl (.const (.slice none 0 0)) (.tmp 19) rfl w.heap.size _ [] _ ps rfl rfl (OwnP.nil _ _) HV.out (by simp; rw [HN.out]; omega) (Nat.le_refl _) ?_; intro v1 w1 o1 g1) | (at_builtin; refine app58 _ rfl (.tmp 20) (.tmp 22) rfl w.heap.size _ ps _ [(7, 71)] rfl rfl (OwnP.grown o1 (World.grownBy_alloc _ _ none)) (segp_one w1 (7, 71)) (by simp; rw [HN.out]; omega) (by have := g1.size; rw [size_alloc]; omega) ?_; intro v2 w2 o2 g2))
  have S2 : Hid (OwnP w2 w.heap.size v2 (ps ++ [(7, 71)]) ∧ w.grownBy w2 none) := by
    have h1 : w.grownBy w1 none := grown_weak g1 none
    exact ⟨o2, grown_new (grown_trans h1 (World.grownBy_alloc _ _ _)) g2 (by intro x hx; have := OwnP.lt o1 x hx; omega)⟩
  obtain ⟨m, cap, hv2, hg⟩ : ∃ g cap, v2 = .slice (some ⟨g, 0, none⟩) (n + 1) cap ∧ w.heap.size ≤ g ∧ g < w2.heap.size := by
    rcases o2.shape with ⟨_, h⟩ | ⟨g, cap, h, h2⟩
    · simp at h
    · exact ⟨g, cap, by rw [h]; simp [HN.out], h2⟩
  subst hv2
  clear g2 o2 g1 o1
  have hcap : n + 1 ≤ cap ∧ cap ≤ 9223372036854775807 := by
    obtain ⟨ao', cap', hv, h1, h2, _⟩ := S2.out.1.seg
    simp [HN.out] at hv h1; unfold maxLen at h2; omega
  obtain ⟨hcap1, hcap2⟩ := hcap
  have ic1 : (n : Int) ≤ (cap : Int) := by omega
  have ic2 : (n : Int) + 1 ≤ (cap : Int) := by omega
  have ic0 : (0 : Int) ≤ (n : Int) := by omega
  have ic3 : (0 : Int) ≤ (n : Int) + 1 := by omega
  have HO : Hid (SegP w2 (.slice (some ⟨m, 0, none⟩) n cap) ps) := by
    have h := S2.out.1.seg
    have e : n + 1 = (ps ++ [(7, 71)]).length := by simp [HN.out]
    rw [e] at h
    have h2 := segp_take n (by simp [HN.out]) h
    rw [← HN.out, List.take_left] at h2
    rw [← HN.out]
    exact h2
  go_wp2_with fail
  go_simp
  go_wp2_with fail
  refine (put29 _ ps w2 HO.out HS.out (by rw [HN.out]; omega)).mono ?_
  rintro e w3 ⟨u, rfl, o3, g3⟩
  obtain ⟨LF, hLF⟩ : ∃ LF, listForm ps = LF := ⟨_, rfl⟩
  have HLF : Hid (listForm ps = LF) := hLF
  rw [hLF] at o3
  have S3 : Hid (OwnP w3 w.heap.size (.slice (some ⟨m, 0, none⟩) (n + 1) cap) (ps ++ [(7, 71)]) ∧ w.grownBy w3 none ∧ Own w3 w.heap.size u LF ∧ SegP w3 (.slice ao n cp) ps) := ⟨S2.out.1.grown g3, grown_trans S2.out.2 g3, o3.mono S2.out.2.size, HV.out.grown (grown_trans S2.out.2 g3)⟩
  clear o3 g3 S2 hLF HO
  have cm0 : w3.cell? ⟨m, n * 2, none⟩ = some (.int .u64 7) := by
    obtain ⟨_, _, hv, _, _, _, h4⟩ := S3.out.1.seg
    simp at hv
    obtain ⟨b, off, e, q0, _⟩ := h4 n (by simp [HN.out])
    rw [← hv.1] at e
    simp at e
    obtain ⟨rfl, rfl⟩ := e
    simpa [HN.out] using q0
  have cm1 : w3.cell? ⟨m, n * 2 + 1, none⟩ = some (.int .u64 71) := by
    obtain ⟨_, _, hv, _, _, _, h4⟩ := S3.out.1.seg
    simp at hv
    obtain ⟨b, off, e, _, q1⟩ := h4 n (by simp [HN.out])
    rw [← hv.1] at e
    simp at e
    obtain ⟨rfl, rfl⟩ := e
    simpa [HN.out] using q1
  go_wp2_with fail
  refine (num_any _ _).mono ?_
  rintro e wx ⟨rfl, he⟩; subst he
  have wn1 : IntKind.i64.wrap ((n : Int) + 1) = (n : Int) + 1 := by
    simp only [IntKind.wrap, IntKind.bits, IntKind.signed]; simp; omega
  have in1 : (n : Int) < (n : Int) + 1 := by omega
  have nq59 := neq59
  have wu : IntKind.u64.wrap (n : Int) = (n : Int) := by rw [IntKind.wrap_u64]; omega
  go_wp2_with fail
  refine (number12_int _ n rfl (by omega) wx).mono ?_
  rintro e w4 ⟨r4, rfl, o4, g4⟩
  have S4 : Hid (Own w4 wx.heap.size r4 (numForm n) ∧ wx.grownBy w4 none) := ⟨o4, g4⟩
  clear o4 g4 cm0 cm1
  go_wp2_with fail
  go_loopw [8, 9] (fun x i wr => ∃ k : Nat, k ≤ n ∧ i = .int .i64 k ∧ Own wr wx.heap.size x (numForm n ++ pairsForm (ps.take k)) ∧ wx.grownBy wr none) (fun _ i _ => n - (intOf i).toNat)
  case atStart => exact ⟨0, by omega, rfl, by simpa [pairsForm] using S4.out.1, S4.out.2⟩
  case round =>
    obtain ⟨k, hk, rfl, hown, hg⟩ := hrel
    by_cases hlt : k < n
    · have hkp : k < ps.length := by rw [HN.out]; exact hlt
      have hsm := HS.out ps[k] (List.getElem_mem hkp)
      have HE : Hid _ := pairsForm_take hkp
      obtain ⟨bb, off, hao, HCC0⟩ : ∃ bb off, ao = some ⟨bb, off, none⟩ ∧ ∀ x, wx.grownBy x none → x.cell? ⟨bb, off + k * 2, none⟩ = some (.int .u64 (ps[k].1 : Int)) ∧ x.cell? ⟨bb, off + k * 2 + 1, none⟩ = some (.int .u64 (ps[k].2 : Int)) := by
        obtain ⟨_, _, hv, _, _, _, h4⟩ := S3.out.2.2.2
        simp at hv
        obtain ⟨b, o, e, q0, q1⟩ := h4 k hkp
        exact ⟨b, o, by rw [hv.1, e], fun x hx => ⟨hx.cell q0 (by simp), hx.cell q1 (by simp)⟩⟩
      have HMM : wr.cell? ⟨m, k * 2, none⟩ = some (.int .u64 (ps[k].1 : Int)) ∧ wr.cell? ⟨m, k * 2 + 1, none⟩ = some (.int .u64 (ps[k].2 : Int)) := by
        obtain ⟨_, _, hv, _, _, _, h4⟩ := (S3.out.1.grown hg).seg
        simp at hv
        obtain ⟨b, o, e, q0, q1⟩ := h4 k (by simp; omega)
        rw [← hv.1] at e
        simp at e
        obtain ⟨rfl, rfl⟩ := e
        simpa [List.getElem_append_left hkp] using And.intro q0 q1
      subst hao
      obtain ⟨p, hp⟩ : ∃ p, ps[k] = p := ⟨_, rfl⟩
      rw [hp] at hsm HE HCC0 HMM
      obtain ⟨a, c⟩ := p
      simp only at hsm HCC0 HMM
      obtain ⟨m0, m1⟩ := HMM
      obtain ⟨l0, l1⟩ := HCC0 wr hg
      have HCC : Hid _ := HCC0
      have hl1 := pairsForm_len (ps.take k) (Small.take HS.out k)
      have hl2 := numForm_len10 n (by omega)
      have hl3 := numForm_len10 a hsm.1
      have hl4 := numForm_len10 c hsm.2
      have HLL : Hid ((numForm n ++ pairsForm (ps.take k)).length + (numForm a).length ≤ 225179981368000 ∧ (numForm n ++ pairsForm (ps.take k) ++ numForm a).length + (numForm c).length ≤ 225179981368000) := by
        unfold Hid
        simp at hl1 ⊢
        omega
      have i1 : (0 : Int) ≤ (k : Int) := by omega
      have i2 : (k : Int) < (n : Int) := by omega
      have i3 : (k : Int) < (n : Int) + 1 := by omega
      have SO0 : Hid (Own wr wx.heap.size u8 (numForm n ++ pairsForm (ps.take k)) ∧ wx.grownBy wr none) := ⟨hown, hg⟩
      clear hown hg hp hl1 hl2 hl3 hl4 HCC0 hkp
      go_wp2_with fail
      go_quiet (fail)
      have SO : Hid (Own (wr.drewN nq).drew wx.heap.size u8 (numForm n ++ pairsForm (ps.take k))) := SO0.out.1.grown (grown_trans (grown_drewN _ _ _) (grown_drew _ _))
      have SG : Hid (wx.grownBy (wr.drewN nq).drew none) := grown_trans SO0.out.2 (grown_trans (grown_drewN _ _ _) (grown_drew _ _))
      clear SO0 m0 m1 l0 l1
      go_wp2_with fail
      refine wp_region_noPanic ?_
      refine wp_region_hold (fun x => wx.grownBy x none) (by kernel_rfl) ?_
      refine wpHold_take (i := 0) (d := some 67) (v := u8) SG.out rfl rfl (by kernel_rfl) (by kernel_rfl) (by kernel_rfl) (fun _ _ _ h => h) (by rfl) ?_ ?_
      · intro wk hk
        go_simp
        try with_reducible rfl
      try simp only [Act.put, List.setIfInBounds_toArray, List.set_cons_zero, List.set_cons_succ]
      refine wpHold_take (i := 1) (d := some 68) (v := .slice (some ⟨bb, off, none⟩) n cp) SG.out rfl rfl (by kernel_rfl) (by kernel_rfl) (by kernel_rfl) (fun _ _ _ h => h) (by rfl) ?_ ?_
      · intro wk hk
        go_simp
        try with_reducible rfl
      try simp only [Act.put, List.setIfInBounds_toArray, List.set_cons_zero, List.set_cons_succ]
      refine wpHold_take (i := 2) (d := some 69) (v := .int .i64 k) SG.out rfl rfl (by kernel_rfl) (by kernel_rfl) (by kernel_rfl) (fun _ _ _ h => h) (by rfl) ?_ ?_
      · intro wk hk
        go_simp
        try with_reducible rfl
      try simp only [Act.put, List.setIfInBounds_toArray, List.set_cons_zero, List.set_cons_succ]
      refine wpHold_take (i := 3) (d := some 70) (v := .pointer (some ⟨bb, off + k * 2, none⟩)) SG.out rfl rfl (by kernel_rfl) (by kernel_rfl) (by kernel_rfl) (fun _ _ _ h => h) (by rfl) ?_ ?_
      · intro wk hk
        go_simp
        try with_reducible rfl
      try simp only [Act.put, List.setIfInBounds_toArray, List.set_cons_zero, List.set_cons_succ]
      refine wpHold_take (i := 4) (d := some 71) (v := .pointer (some ⟨bb, off + k * 2, none⟩)) SG.out rfl rfl (by kernel_rfl) (by kernel_rfl) (by kernel_rfl) (fun _ _ _ h => h) (by rfl) ?_ ?_
      · intro wk hk
        go_simp
        try with_reducible rfl
      try simp only [Act.put, List.setIfInBounds_toArray, List.set_cons_zero, List.set_cons_succ]
      refine wpHold_take (i := 5) (d := some 72) (v := .int .u64 a) SG.out rfl rfl (by kernel_rfl) (by kernel_rfl) (by kernel_rfl) (fun _ _ _ h => h) (by rfl) ?_ ?_
      · intro wk hk
        obtain ⟨k0, k1⟩ := HCC.out wk hk
        go_simp
        try with_reducible rfl
      try simp only [Act.put, List.setIfInBounds_toArray, List.set_cons_zero, List.set_cons_succ]
      refine wpHold_take (i := 8) (d := some 75) (v := .slice (some ⟨bb, off, none⟩) n cp) SG.out rfl rfl (by kernel_rfl) (by kernel_rfl) (by kernel_rfl) (fun _ _ _ h => h) (by rfl) ?_ ?_
      · intro wk hk
        go_simp
        try with_reducible rfl
      try simp only [Act.put, List.setIfInBounds_toArray, List.set_cons_zero, List.set_cons_succ]
      refine wpHold_take (i := 9) (d := some 76) (v := .int .i64 k) SG.out rfl rfl (by kernel_rfl) (by kernel_rfl) (by kernel_rfl) (fun _ _ _ h => h) (by rfl) ?_ ?_
      · intro wk hk
        go_simp
        try with_reducible rfl
      try simp only [Act.put, List.setIfInBounds_toArray, List.set_cons_zero, List.set_cons_succ]
      refine wpHold_take (i := 10) (d := some 77) (v := .pointer (some ⟨bb, off + k * 2, none⟩)) SG.out rfl rfl (by kernel_rfl) (by kernel_rfl) (by kernel_rfl) (fun _ _ _ h => h) (by rfl) ?_ ?_
      · intro wk hk
        go_simp
        try with_reducible rfl
      try simp only [Act.put, List.setIfInBounds_toArray, List.set_cons_zero, List.set_cons_succ]
      refine wpHold_take (i := 11) (d := some 78) (v := .pointer (some ⟨bb, off + k * 2 + 1, none⟩)) SG.out rfl rfl (by kernel_rfl) (by kernel_rfl) (by kernel_rfl) (fun _ _ _ h => h) (by rfl) ?_ ?_
      · intro wk hk
        go_simp
        try with_reducible rfl
      try simp only [Act.put, List.setIfInBounds_toArray, List.set_cons_zero, List.set_cons_succ]
      refine wpHold_take (i := 12) (d := some 79) (v := .int .u64 c) SG.out rfl rfl (by kernel_rfl) (by kernel_rfl) (by kernel_rfl) (fun _ _ _ h => h) (by rfl) ?_ ?_
      · intro wk hk
        obtain ⟨k0, k1⟩ := HCC.out wk hk
        go_simp
        try with_reducible rfl
      try simp only [Act.put, List.setIfInBounds_toArray, List.set_cons_zero, List.set_cons_succ]
      refine wpHold_one (i := 6) rfl (by kernel_rfl) (by rfl) (fun K hK => ?_)
      go_simp
      refine (number12_int _ a rfl hsm.1 _).mono ?_
      rintro e w5 ⟨r5, rfl, o5, g5⟩
      have G5 : wx.grownBy w5 none := grown_trans SG.out g5
      have O5 : Own w5 wx.heap.size u8 (numForm n ++ pairsForm (ps.take k)) := SO.out.grown g5
      go_wp2_with fail
      refine hK.out _ _ G5 ?_
      clear hK K
      try simp only [Act.put, List.setIfInBounds_toArray, List.set_cons_zero, List.set_cons_succ]
      refine wpHold_one (i := 7) rfl (by kernel_rfl) (by rfl) (fun K hK => ?_)
      refine app23_wpf _ (.tmp 67) (.tmp 73) rfl wx.heap.size u8 _ r5 (numForm a) rfl rfl O5 o5.seg HLL.out.1 G5.size ?_
      intro v6 w6 o6 g6
      have G6 : wx.grownBy w6 none := grown_new G5 g6 (fun x hx => O5.lt x hx)
      refine hK.out _ _ G6 ?_
      clear hK K
      try simp only [Act.put, List.setIfInBounds_toArray, List.set_cons_zero, List.set_cons_succ]
      refine wpHold_one (i := 13) rfl (by kernel_rfl) (by rfl) (fun K hK => ?_)
      go_simp
      refine (number12_int _ c rfl hsm.2 _).mono ?_
      rintro e w7 ⟨r7, rfl, o7, g7⟩
      have G7 : wx.grownBy w7 none := grown_trans G6 g7
      have O7 : Own w7 wx.heap.size v6 (numForm n ++ pairsForm (ps.take k) ++ numForm a) := o6.grown g7
      go_wp2_with fail
      refine hK.out _ _ G7 ?_
      clear hK K
      try simp only [Act.put, List.setIfInBounds_toArray, List.set_cons_zero, List.set_cons_succ]
      refine wpHold_one (i := 14) rfl (by kernel_rfl) (by rfl) (fun K hK => ?_)
      refine app23_wpf _ (.tmp 74) (.tmp 80) rfl wx.heap.size v6 _ r7 (numForm c) rfl rfl O7 o7.seg HLL.out.2 G7.size ?_
      intro v8 w8 o8 g8
      have G8 : wx.grownBy w8 none := grown_new G7 g8 (fun x hx => O7.lt x hx)
      refine hK.out _ _ G8 ?_
      clear hK K
      try simp only [Act.put, List.setIfInBounds_toArray, List.set_cons_zero, List.set_cons_succ]
      have SE : Hid (Own w8 wx.heap.size v8 (numForm n ++ pairsForm (ps.take (k + 1))) ∧ wx.grownBy w8 none) := by
        refine ⟨?_, G8⟩
        rw [HE.out]
        have e : numForm n ++ (pairsForm (ps.take k) ++ pairForm (a, c)) = numForm n ++ pairsForm (ps.take k) ++ numForm a ++ numForm c := by
          unfold pairForm
          simp
        rw [e]
        exact o8
      clear o5 o6 o7 o8 g5 g6 g7 g8 G5 G6 G7 G8 O5 O7
      refine wpHold_one (i := 15) rfl (by kernel_rfl) (by rfl) (fun K hK => ?_)
      go_wp2_with fail
      refine hK.out _ _ SE.out.2 ?_
      clear hK K
      refine wpHold_done (by kernel_rfl) ?_
      refine (‹∀ (a : Act) (w : World), Code.wp Try.prog (Code.region 8 _ _) _ a w → _› _ _ ?_)
      go_wp2_with fail
      go_roundw
      case rel => exact ⟨k + 1, by omega, by go_num, SE.out.1, SE.out.2⟩
      case measure => simp [intOf]; omega
    · have e : k = n := by omega
      subst e
      have hlf : numForm k ++ pairsForm (ps.take k) = LF := by
        rw [← HN.out, List.take_length, ← HLF.out]
        rfl
      rw [hlf] at hown
      obtain ⟨wy, hwy⟩ : ∃ wy, wy = wr := ⟨_, rfl⟩
      subst hwy
      have hLl : LF.length ≤ 175921860439050 := by
        have h := listForm_len ps HS.out (by rw [HN.out]; omega)
        rw [HLF.out, HN.out] at h
        omega
      have HLL : Hid (LF.length ≤ 175921860439050) := hLl
      have S5 : Hid (w.grownBy wy none ∧ Own wy w.heap.size u LF ∧ SegP wy (.slice ao k cp) ps ∧ Own wy w.heap.size u8 LF) := by
        obtain ⟨h1, h2, h3, h4⟩ := S3.out
        exact ⟨grown_trans h2 hg, h3.grown hg, h4.grown hg, hown.mono h2.size⟩
      obtain ⟨aou, capu, hu⟩ := S5.out.2.1.seg.shape
      obtain ⟨lf, hlfl⟩ : ∃ lf, LF.length = lf := ⟨_, rfl⟩
      have HLf : Hid (LF.length = lf) := hlfl
      rw [hlfl] at hu
      subst hu
      clear hown hg hlf S4 S3 hLl hlfl wn1 in1 hk hlt
      go_wp2_with fail
      refine (open19 _ LF _ S5.out.2.1.seg (by have := HLL.out; omega)).mono ?_
      rintro e w6 ⟨b, rfl, hb6, hr6, g6⟩
      have S6 : Hid (w.grownBy w6 none ∧ Own w6 w.heap.size (.slice aou lf capu) LF ∧ SegP w6 (.slice ao k cp) ps ∧ Own w6 w.heap.size u8 LF ∧ Rd w6 b LF ∧ wy.heap.size ≤ b) := by
        obtain ⟨h1, h2, h3, h4⟩ := S5.out
        exact ⟨grown_trans h1 g6, h2.grown g6, h3.grown g6, h4.grown g6, hr6, hb6⟩
      have cvb := seg_str S6.out.2.1.seg
      have cvw := seg_str S6.out.2.2.2.1.seg
      have hbw : Hid (w.heap.size ≤ b) := Nat.le_trans S5.out.1.size hb6
      clear hb6 hr6 g6 S5
      go_upto_if 95 with fail
      go_cut [] (fun wc => Rd wc b LF ∧ w6.grownBy wc (some b))
      case first =>
        by_cases hk0 : 0 < k
        · have b1 : decide ((k : Int) > 0) = true := by simp; omega
          have wk1 : IntKind.i64.wrap ((k : Int) - 1) = (k : Int) - 1 := by
            simp only [IntKind.wrap, IntKind.bits, IntKind.signed]; simp; omega
          go_wp2_with fail
          refine (take31 b LF ((k : Int) - 1) _ S6.out.2.2.2.2.1 (by omega) (by omega)).mono ?_
          have hfe := rdListP_fewer ps (by rw [HN.out]; omega) (by rw [HN.out]; exact hk0)
          rw [HLF.out, HN.out] at hfe
          rw [hfe]
          rintro e w7 ⟨v7, rfl, o7, q7, g7⟩
          have hl : ∃ x c, v7 = .slice x 0 c := by
            rcases o7.shape with ⟨rfl, _⟩ | ⟨g, cap, rfl, _, _⟩
            · exact ⟨_, _, rfl⟩
            · exact ⟨_, _, rfl⟩
          obtain ⟨x7, c7, rfl⟩ := hl
          have S7 : Hid (Rd w7 b LF ∧ w6.grownBy w7 (some b)) := ⟨q7, g7⟩
          clear o7 q7 g7 hfe
          go_wp2_with fail
          refine (num_any _ _).mono ?_
          rintro e wz ⟨rfl, he⟩; subst he
          go_wp2_with fail
          refine (left21 b LF _ S7.out.1).mono ?_
          rw [HLf.out]
          rintro e wz2 ⟨rfl, he⟩; subst he
          go_wp2_with fail
          go_meet
          case rel => exact S7.out
        · have b1 : decide ((k : Int) > 0) = false := by simp; omega
          have S7 : Hid (Rd w6 b LF ∧ w6.grownBy w6 (some b)) := ⟨S6.out.2.2.2.2.1, grown_refl _ _⟩
          go_wp2_with fail
          go_meet
          case rel => exact S7.out
      case rest =>
      have S8 : Hid (w.grownBy wc none ∧ Own wc w.heap.size (.slice aou lf capu) LF ∧ SegP wc (.slice ao k cp) ps ∧ Rd wc b LF) := by
        obtain ⟨q1, q2⟩ := hcut
        obtain ⟨h1, h2, h3, h4, h5, h6⟩ := S6.out
        have hw : w.grownBy wc none := grown_new h1 q2 (by intro x hx; have := hbw.out; simp at hx; omega)
        exact ⟨hw, Own.grownRd h2 h5 q2, SegP.grown HV.out hw, q1⟩
      clear hcut S6 cvb cvw
      go_wp2_with fail
      refine (take31 b LF (k : Int) _ S8.out.2.2.2 (by omega) (by omega)).mono ?_
      have hfo := rdListP_form ps HS.out (by rw [HN.out]; omega)
      rw [HLF.out, HN.out] at hfo
      rw [hfo]
      rintro e w9 ⟨v9, rfl, o9, q9, g9⟩
      have hl : ∃ x c, v9 = .slice x k c := by
        rcases o9.shape with ⟨rfl, h⟩ | ⟨g, cap, rfl, _, _⟩
        · have hk0 : k = 0 := by
            have h2 : ps = [] := h
            rw [← HN.out, h2]; rfl
          exact ⟨none, 0, by rw [hk0]⟩
        · exact ⟨some ⟨g, 0, none⟩, cap, by rw [← HN.out]⟩
      obtain ⟨x9, c9, rfl⟩ := hl
      have S9 : Hid (w.grownBy w9 none ∧ Own w9 w.heap.size (.slice aou lf capu) LF ∧ SegP w9 (.slice ao k cp) ps ∧ Rd w9 b [] ∧ SegP w9 (.slice x9 k c9) ps) := by
        obtain ⟨h1, h2, h3, h4⟩ := S8.out
        have hw : w.grownBy w9 none := grown_new h1 g9 (by intro x hx; have := hbw.out; simp at hx; omega)
        exact ⟨hw, Own.grownRd h2 h4 g9, SegP.grown HV.out hw, q9, o9.seg⟩
      clear o9 q9 g9 hfo S8
      go_wp2_with fail
      refine (num_any _ _).mono ?_
      rintro e wz ⟨rfl, he⟩; subst he
      go_wp2_with fail
      refine (left21 b [] _ S9.out.2.2.2.1).mono ?_
      rintro e wz2 ⟨rfl, he⟩; subst he
      go_wp2_with fail
      go_loopw [15] (fun i wr => ∃ j q : Nat, j ≤ k ∧ i = .int .i64 j ∧ wr = wz2.drewN q) (fun i _ => k - (intOf i).toNat)
      case atStart => exact ⟨0, 0, by omega, rfl, rfl⟩
      case round =>
        obtain ⟨j, q, hj, rfl, rfl⟩ := hrel
        by_cases hlt2 : j < k
        · have hjp : j < ps.length := by rw [HN.out]; exact hlt2
          obtain ⟨_, _, hvl, _, _, _, h4l⟩ := S9.out.2.2.1
          obtain ⟨_, _, hvb, _, _, _, h4b⟩ := S9.out.2.2.2.2
          simp at hvl hvb
          obtain ⟨bb, off, el, l0, l1⟩ := h4l j hjp
          obtain ⟨b2, off2, eb, m0, m1⟩ := h4b j hjp
          have e1 : ao = some ⟨bb, off, none⟩ := by rw [hvl.1, el]
          have e2 : x9 = some ⟨b2, off2, none⟩ := by rw [hvb.1, eb]
          subst e1 e2
          obtain ⟨p, hp⟩ : ∃ p, ps[j] = p := ⟨_, rfl⟩
          rw [hp] at l0 l1 m0 m1
          obtain ⟨a, c⟩ := p
          simp only at l0 l1 m0 m1
          have i1 : (0 : Int) ≤ (j : Int) := by omega
          have i2 : (j : Int) < (k : Int) := by omega
          clear h4l h4b hvl hvb el eb hp hjp
          go_wp2_with fail
          go_quiet (fail)
          go_wp2_with fail
          go_roundw
          case rel => exact ⟨j + 1, _, by omega, by go_num, rfl⟩
          case measure => simp [intOf]; omega
        · have ej : j = k := by omega
          have S10 : Hid (w.grownBy (wz2.drewN q) none ∧ Own (wz2.drewN q) w.heap.size (.slice aou lf capu) LF) := ⟨grown_trans S9.out.1 (grown_drewN _ _ _), S9.out.2.1.grown (grown_drewN _ _ _)⟩
          obtain ⟨wt, hwt⟩ : ∃ wt, wz2.drewN q = wt := ⟨_, rfl⟩
          rw [hwt] at S10 ⊢
          clear hwt S9
          have hcu : lf ≤ capu ∧ capu ≤ 9223372036854775807 := by
            obtain ⟨ao', cap', hv, h1, h2, _⟩ := S10.out.2.seg
            simp at hv; unfold maxLen at h2
            have := HLf.out
            omega
          have HK : Hid _ := known18 wt
          by_cases hneg : cut < 0
          · have b1 : decide (cut < 0) = true := by simp; omega
            go_wp2_with fail
            refine Calls.mono HK.out ?_
            rintro e w11 ⟨rfl, g11⟩
            have S11 : Hid (w.grownBy w11 none) := grown_trans S10.out.1 g11
            clear g11
            go_wp2_with fail
            go_ret
            exact ⟨rfl, S11.out⟩
          · have b1 : decide (cut < 0) = false := by simp; omega
            by_cases hbig : (lf : Int) ≤ cut
            · have b2 : decide (cut ≥ (lf : Int)) = true := by simp; omega
              go_wp2_with fail
              refine Calls.mono HK.out ?_
              rintro e w11 ⟨rfl, g11⟩
              have S11 : Hid (w.grownBy w11 none) := grown_trans S10.out.1 g11
              clear g11
              go_wp2_with fail
              go_ret
              exact ⟨rfl, S11.out⟩
            · obtain ⟨ct, hct⟩ : ∃ ct : Nat, cut = (ct : Int) := ⟨cut.toNat, by omega⟩
              subst hct
              have b2 : decide ((ct : Int) ≥ (lf : Int)) = false := by simp; omega
              have hclf : ct < lf := by omega
              have ic1 : (ct : Int) ≤ (capu : Int) := by omega
              have ic0 : (0 : Int) ≤ (ct : Int) := by omega
              have HSC : Hid (Seg wt (.slice aou ct capu) (LF.take ct)) := by
                have h := S10.out.2.seg
                rw [← HLf.out] at h
                exact seg_take ct (by rw [HLf.out]; omega) h
              obtain ⟨T, hT⟩ : ∃ T, LF.take ct = T := ⟨_, rfl⟩
              have HTl : Hid (T.length = ct) := by
                unfold Hid
                rw [← hT]
                have := HLf.out
                simp; omega
              have hsh := rdListP_short ps HS.out (by rw [HN.out]; omega) ct (by rw [HLF.out, HLf.out]; exact hclf)
              rw [HLF.out, HN.out, hT] at hsh
              have HSH : Hid _ := hsh
              rw [hT] at HSC
              have HTz : Hid (T.length ≤ 175921860439050) := by
                have h1 := HTl.out
                have h2 := HLL.out
                have h3 := HLf.out
                unfold Hid
                omega
              clear hsh hT HK hneg hbig
              go_wp2_with fail
              go_simp
              go_wp2_with fail
              refine (open19 _ T _ HSC.out (by have := HTz.out; omega)).mono ?_
              rintro e w11 ⟨b3, rfl, hb11, hr11, g11⟩
              have S11 : Hid (w.grownBy w11 none ∧ Rd w11 b3 T ∧ w.heap.size ≤ b3) := ⟨grown_trans S10.out.1 g11, hr11, Nat.le_trans S10.out.1.size hb11⟩
              clear hb11 hr11 g11
              go_wp2_with fail
              refine (take31 b3 T (k : Int) _ S11.out.2.1 (by omega) (by omega)).mono ?_
              rw [HSH.out]
              rintro e w12 ⟨v12, rfl, o12, q12, g12⟩
              have hl2 : ∃ x c, v12 = .slice x 0 c := by
                rcases o12.shape with ⟨rfl, _⟩ | ⟨g, cap, rfl, _, _⟩
                · exact ⟨_, _, rfl⟩
                · exact ⟨_, _, rfl⟩
              obtain ⟨x12, c12, rfl⟩ := hl2
              have S12 : Hid (w.grownBy w12 none ∧ Rd w12 b3 T) := ⟨grown_new S11.out.1 g12 (by intro x hx; have := S11.out.2.2; simp at hx; omega), q12⟩
              clear o12 q12 g12 S11
              go_wp2_with fail
              refine (num_any _ _).mono ?_
              rintro e wz3 ⟨rfl, he⟩; subst he
              go_wp2_with fail
              refine (left21 b3 T _ S12.out.2).mono ?_
              rw [HTl.out]
              rintro e wz4 ⟨rfl, he⟩; subst he
              go_wp2_with fail
              refine (known18 _).mono ?_
              rintro e w13 ⟨rfl, g13⟩
              have S13 : Hid (w.grownBy w13 none) := grown_trans S12.out.1 g13
              clear g13
              go_wp2_with fail
              go_ret
              exact ⟨rfl, S13.out⟩
end Go.Proofs.Ytneppkbbnajpnaa
