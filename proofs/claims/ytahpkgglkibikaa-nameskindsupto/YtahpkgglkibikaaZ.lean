/-
  Read of the document.
-/
import Derived.Test.YtahpkgglkibikaaY
import Derived.Test.YtahpkgglkibikaaR
namespace Go.Proofs.Ytahpkgglkibikaa
open Go.RowKit Disk

theorem val_lt (c : UInt8) : val c < 256 := by
  have := byte_lt c
  unfold val
  split <;> omega

theorem read_doc {s : List UInt8} (h : s ≠ [37]) (h0 : s ≠ []) : (txt (ld s) = s → readL s = ld s ∧ readE s = 0) ∧ (txt (ld s) ≠ s → readL s = [] ∧ readE s = 4) := by
  have e : txt (ld s) = s ↔ body (ld s) = s := by
    unfold txt
    by_cases hl : ld s = []
    · rw [if_pos hl, hl, body_nil]
      exact ⟨fun e => absurd e.symm h, fun e => absurd e.symm h0⟩
    · rw [if_neg hl]
  constructor
  · intro h1
    unfold readL readE
    rw [if_pos ⟨h, h0, e.1 h1⟩, if_neg (fun x => x.2 ⟨h0, e.1 h1⟩)]
    exact ⟨rfl, rfl⟩
  · intro h1
    unfold readL readE
    rw [if_neg (fun x => h1 (e.2 x.2.2)), if_pos ⟨h, fun x => h1 (e.2 x.2)⟩]
    exact ⟨rfl, rfl⟩

set_option maxRecDepth 100000 in
set_option maxHeartbeats 2000000 in
theorem read8 (s : List UInt8) (w : World) (hl : 3 * s.length ≤ 140737488355328) :
    Calls Try.prog 8 #[Str s] w fun e w' => ∃ x, e = .returned (.tuple #[x, .int .i64 (readE s)]) ∧ Seg w' x (readL s) ∧ w.grownBy w' none := by
  by_cases hs : s = [37]
  · subst hs
    obtain ⟨h1, h2⟩ := read_mark
    rw [h1, h2]
    show Calls Try.prog 8 #[.string ⟨#[37]⟩] w _
    go_enter Try.func8, Try.ntmps8
    go_wp2_with fail
    go_ret2
    exact ⟨_, rfl, seg_nil _, grown_refl _ _⟩
  · unfold Str
    have hne : ((⟨s.toArray⟩ : ByteArray).toList == [37]) = false := by
      rw [beq_eq_false_iff_ne, ByteArray.toList_mk]
      exact hs
    obtain ⟨X, hX⟩ : ∃ X, (⟨s.toArray⟩ : ByteArray) = X := ⟨_, rfl⟩
    obtain ⟨n, hn⟩ : ∃ n, s.length = n := ⟨_, rfl⟩
    have hsz : X.size = n := by rw [← hX, str_size, hn]
    have HX : Hid ((⟨s.toArray⟩ : ByteArray) = X ∧ s.length = n ∧ s ≠ [37]) := ⟨hX, hn, hs⟩
    rw [hX] at hne ⊢
    rw [hn] at hl
    obtain ⟨E, hE⟩ : ∃ E, readE s = E := ⟨_, rfl⟩
    have HE : Hid (readE s = E) := hE
    rw [hE]
    clear hX hn hs hE
    go_enter Try.func8, Try.ntmps8
    go_wp2_with fail
    clear hne
    go_loopw [4, 5] (fun x i wr => ∃ (k : Nat) (b : List UInt8), k ≤ n ∧ b.length ≤ k ∧ i = .int .i64 k ∧ ld s = b ++ ld (s.drop k) ∧ Disk.Own wr w.heap.size x b ∧ w.grownBy wr none) (fun _ i _ => n - (intOf i).toNat)
    case atStart => exact ⟨0, [], by omega, by simp, rfl, rfl, Own.nil _ _, grown_refl _ _⟩
    case round =>
      obtain ⟨k, b, hk, hbk, rfl, hld, hown, hg⟩ := hrel
      have HO : Hid (ld s = b ++ ld (s.drop k) ∧ Disk.Own wr w.heap.size u4 b ∧ w.grownBy wr none ∧ b.length ≤ k) := ⟨hld, hown, hg, hbk⟩
      clear hld hown hg hbk
      by_cases hlt : k < n
      · have hka : k < s.length := by rw [HX.out.2.1]; exact hlt
        have hidx := run_index9 s k hka
        rw [HX.out.1] at hidx
        have i1 : (0 : Int) ≤ (k : Int) := by omega
        have i2 : (k : Int) < (n : Int) := by omega
        by_cases hc : s[k].toNat = 37 ∧ k + 2 < n
        · obtain ⟨hc1, hc2⟩ := hc
          have hl2 := ld_two (by rw [HX.out.2.1]; exact hc2) hc1
          obtain ⟨k1, hk1⟩ : ∃ q, k + 1 = q := ⟨_, rfl⟩
          obtain ⟨k2, hk2⟩ : ∃ q, k + 2 = q := ⟨_, rfl⟩
          have hidx1 := run_index9 s (k + 1) (by rw [HX.out.2.1]; omega)
          have hidx2 := run_index9 s (k + 2) (by rw [HX.out.2.1]; omega)
          obtain ⟨y1, hy1⟩ : ∃ y, s[k + 1]'(by rw [HX.out.2.1]; omega) = y := ⟨_, rfl⟩
          obtain ⟨y2, hy2⟩ : ∃ y, s[k + 2]'(by rw [HX.out.2.1]; omega) = y := ⟨_, rfl⟩
          rw [hy1] at hidx1 hl2
          rw [hy2] at hidx2 hl2
          rw [HX.out.1, hk1] at hidx1
          rw [HX.out.1, hk2] at hidx2
          rw [hc1] at hidx
          have w1 : IntKind.i64.wrap ((k : Int) + 1) = (k1 : Int) := by rw [IntKind.wrap_i64]; omega
          have w2 : IntKind.i64.wrap ((k : Int) + 2) = (k2 : Int) := by rw [IntKind.wrap_i64]; omega
          have wk1 : IntKind.i64.wrap (k1 : Int) = (k1 : Int) := by rw [IntKind.wrap_i64]; omega
          have wk2 : IntKind.i64.wrap (k2 : Int) = (k2 : Int) := by rw [IntKind.wrap_i64]; omega
          have w1b : ((k : Int) + 1) = (k1 : Int) := by omega
          have w2b : ((k : Int) + 2) = (k2 : Int) := by omega
          have i3 : (k2 : Int) < (n : Int) := by omega
          have i4 : (k1 : Int) < (n : Int) := by omega
          obtain ⟨e1, he1⟩ : ∃ e, 16 * val y1 % 256 = e := ⟨_, rfl⟩
          obtain ⟨e2, he2⟩ : ∃ e, (e1 + val y2) % 256 = e := ⟨_, rfl⟩
          have v1 := val_lt y1
          have v2 := val_lt y2
          have hlo : (loose2 y1 y2).toNat = e2 := by
            unfold loose2
            rw [he1, he2, UInt8.toNat_ofNat_of_lt' (by have : UInt8.size = 256 := rfl; omega)]
          have m1 : IntKind.u8.wrap (16 * (val y1 : Int)) = (e1 : Int) := by simp [IntKind.wrap, IntKind.bits, IntKind.signed]; omega
          have m2 : IntKind.u8.wrap ((e1 : Int) + (val y2 : Int)) = (e2 : Int) := by simp [IntKind.wrap, IntKind.bits, IntKind.signed]; omega
          obtain ⟨c, hcc⟩ : ∃ c, loose2 y1 y2 = c := ⟨_, rfl⟩
          rw [hcc] at hl2 hlo
          have HB : Hid (ld s = (b ++ [c]) ++ ld (s.drop (k + 3)) ∧ c.toNat = e2) := by
            refine ⟨?_, hlo⟩
            rw [HO.out.1, hl2]
            simp
          clear hl2 hy1 hy2 hc1 he1 he2 hlo hcc hka v1 v2
          go_wp2_with fail
          refine wp_region_noPanic ?_
          refine wp_region_hold 1000 (fun _ => True) (by kernel_rfl) ?_
          refine wpHold_take (i := 0) (v := _) (trivial) rfl rfl (by kernel_rfl) (by kernel_rfl) (by kernel_rfl) (by kernel_rfl) (by kernel_rfl) (fun _ _ _ h => h) (by rfl) (fun wk hk => by skip; go_simp; try rfl) ?_
          try simp only [Act.put, List.setIfInBounds_toArray, List.set_cons_zero, List.set_cons_succ]
          refine wpHold_take (i := 1) (v := _) (trivial) rfl rfl (by kernel_rfl) (by kernel_rfl) (by kernel_rfl) (by kernel_rfl) (by kernel_rfl) (fun _ _ _ h => h) (by rfl) (fun wk hk => by skip; go_simp; try rfl) ?_
          try simp only [Act.put, List.setIfInBounds_toArray, List.set_cons_zero, List.set_cons_succ]
          refine wpHold_take (i := 2) (v := _) (trivial) rfl rfl (by kernel_rfl) (by kernel_rfl) (by kernel_rfl) (by kernel_rfl) (by kernel_rfl) (fun _ _ _ h => h) (by rfl) (fun wk hk => by skip; go_simp; try rfl) ?_
          try simp only [Act.put, List.setIfInBounds_toArray, List.set_cons_zero, List.set_cons_succ]
          refine wpHold_take (i := 3) (v := _) (trivial) rfl rfl (by kernel_rfl) (by kernel_rfl) (by kernel_rfl) (by kernel_rfl) (by kernel_rfl) (fun _ _ _ h => h) (by rfl) (fun wk hk => by skip; go_simp; try rfl) ?_
          try simp only [Act.put, List.setIfInBounds_toArray, List.set_cons_zero, List.set_cons_succ]
          refine wpHold_take (i := 4) (v := _) (trivial) rfl rfl (by kernel_rfl) (by kernel_rfl) (by kernel_rfl) (by kernel_rfl) (by kernel_rfl) (fun _ _ _ h => h) (by rfl) (fun wk hk => by skip; go_simp; try rfl) ?_
          try simp only [Act.put, List.setIfInBounds_toArray, List.set_cons_zero, List.set_cons_succ]
          refine wpHold_take (i := 7) (v := _) (trivial) rfl rfl (by kernel_rfl) (by kernel_rfl) (by kernel_rfl) (by kernel_rfl) (by kernel_rfl) (fun _ _ _ h => h) (by rfl) (fun wk hk => by skip; go_simp; try rfl) ?_
          try simp only [Act.put, List.setIfInBounds_toArray, List.set_cons_zero, List.set_cons_succ]
          refine wpHold_take (i := 8) (v := _) (trivial) rfl rfl (by kernel_rfl) (by kernel_rfl) (by kernel_rfl) (by kernel_rfl) (by kernel_rfl) (fun _ _ _ h => h) (by rfl) (fun wk hk => by skip; go_simp; try rfl) ?_
          try simp only [Act.put, List.setIfInBounds_toArray, List.set_cons_zero, List.set_cons_succ]
          refine wpHold_take (i := 9) (v := _) (trivial) rfl rfl (by kernel_rfl) (by kernel_rfl) (by kernel_rfl) (by kernel_rfl) (by kernel_rfl) (fun _ _ _ h => h) (by rfl) (fun wk hk => by skip; go_simp; try rfl) ?_
          try simp only [Act.put, List.setIfInBounds_toArray, List.set_cons_zero, List.set_cons_succ]
          refine wpHold_take (i := 10) (v := _) (trivial) rfl rfl (by kernel_rfl) (by kernel_rfl) (by kernel_rfl) (by kernel_rfl) (by kernel_rfl) (fun _ _ _ h => h) (by rfl) (fun wk hk => by skip; go_simp; try rfl) ?_
          try simp only [Act.put, List.setIfInBounds_toArray, List.set_cons_zero, List.set_cons_succ]
          refine wpHold_one (i := 5) rfl (by kernel_rfl) (by rfl) (fun K hK => ?_)
          go_simp
          refine (value32 y1 _).mono ?_
          rintro e wq ⟨rfl, hq⟩
          rw [hq]
          clear hq
          go_wp2_with fail
          refine hK.out _ _ (fun _ => trivial) ?_
          clear hK K
          try simp only [Act.put, List.setIfInBounds_toArray, List.set_cons_zero, List.set_cons_succ]
          refine wpHold_take (i := 6) (v := _) (trivial) rfl rfl (by kernel_rfl) (by kernel_rfl) (by kernel_rfl) (by kernel_rfl) (by kernel_rfl) (fun _ _ _ h => h) (by rfl) (fun wk hk => by skip; go_simp; try rfl) ?_
          try simp only [Act.put, List.setIfInBounds_toArray, List.set_cons_zero, List.set_cons_succ]
          refine wpHold_one (i := 11) rfl (by kernel_rfl) (by rfl) (fun K hK => ?_)
          go_simp
          refine (value32 y2 _).mono ?_
          rintro e wq ⟨rfl, hq⟩
          rw [hq]
          clear hq
          go_wp2_with fail
          refine hK.out _ _ (fun _ => trivial) ?_
          clear hK K
          try simp only [Act.put, List.setIfInBounds_toArray, List.set_cons_zero, List.set_cons_succ]
          refine wpHold_take (i := 12) (v := _) (trivial) rfl rfl (by kernel_rfl) (by kernel_rfl) (by kernel_rfl) (by kernel_rfl) (by kernel_rfl) (fun _ _ _ h => h) (by rfl) (fun wk hk => by skip; go_simp; try rfl) ?_
          try simp only [Act.put, List.setIfInBounds_toArray, List.set_cons_zero, List.set_cons_succ]
          refine wpHold_one (i := 13) rfl (by kernel_rfl) (by rfl) (fun K hK => ?_)
          go_wp2_with fail
          refine hK.out _ _ (fun _ => trivial) ?_
          clear hK K
          try simp only [Act.put, List.setIfInBounds_toArray, List.set_cons_zero, List.set_cons_succ]
          refine wpHold_one (i := 14) rfl (by kernel_rfl) (by rfl) (fun K hK => ?_)
          refine app22_wp _ _ _ rfl w.heap.size _ b _ [c] rfl rfl (HO.out.2.1.grown (grown_trans (grown_drew _ _) (World.grownBy_alloc _ _ _))) (seg_lit _ _ _ [c] (by simp [BV, HB.out.2]) (by simp)) ?f0 ?f1 ?_
          case f0 => have := HO.out.2.2.2; simp; omega
          case f1 => have := HO.out.2.2.1.size; simp; omega
          intro v1 w3 hown hg hl3
          have H1 : Hid (Disk.Own w3 w.heap.size v1 (b ++ [c]) ∧ w.grownBy w3 none) := ⟨hown, grown_new (grown_trans (grown_trans HO.out.2.2.1 (grown_drew _ _)) (World.grownBy_alloc _ _ none)) hg (fun x hx => (HO.out.2.1.lt x hx).1)⟩
          clear hown hg hl3
          refine hK.out _ _ (fun _ => trivial) ?_
          clear hK K
          try simp only [Act.put, List.setIfInBounds_toArray, List.set_cons_zero, List.set_cons_succ]
          refine wpHold_take (i := 15) (v := _) (trivial) rfl rfl (by kernel_rfl) (by kernel_rfl) (by kernel_rfl) (by kernel_rfl) (by kernel_rfl) (fun _ _ _ h => h) (by rfl) (fun wk hk => by skip; go_simp; try rfl) ?_
          try simp only [Act.put, List.setIfInBounds_toArray, List.set_cons_zero, List.set_cons_succ]
          refine wpHold_done (by kernel_rfl) ?_
          refine (‹∀ (a : Act) (w : World), Code.wp Try.prog _ _ a w → _› _ _ ?_)
          have w3 : IntKind.i64.wrap ((k2 : Int) + 1) = ((k + 3 : Nat) : Int) := by rw [IntKind.wrap_i64]; omega
          go_wp2_with fail
          go_roundw
          case rel => exact ⟨k + 3, b ++ [c], by omega, by have := HO.out.2.2.2; simp; omega, by first | rfl | (congr 1; omega) | go_num, HB.out.1, H1.out.1, H1.out.2⟩
          case measure => simp [intOf]; omega
        · have hl1 := ld_one hka (by rw [HX.out.2.1]; exact hc)
          obtain ⟨c, hcc⟩ : ∃ c, s[k] = c := ⟨_, rfl⟩
          rw [hcc] at hl1 hidx hc
          have HB : Hid (ld s = (b ++ [c]) ++ ld (s.drop (k + 1))) := by
            show ld s = (b ++ [c]) ++ ld (s.drop (k + 1))
            rw [HO.out.1, hl1]
            simp
          obtain ⟨k2, hk2⟩ : ∃ q, k + 2 = q := ⟨_, rfl⟩
          have w2 : IntKind.i64.wrap ((k : Int) + 2) = (k2 : Int) := by rw [IntKind.wrap_i64]; omega
          have w2b : ((k : Int) + 2) = (k2 : Int) := by omega
          have wk2 : IntKind.i64.wrap (k2 : Int) = (k2 : Int) := by rw [IntKind.wrap_i64]; omega
          clear hl1 hcc hka
          by_cases hx : c.toNat = 37
          · have i3 : ¬ (k2 : Int) < (n : Int) := by omega
            rw [hx] at hidx
            have HCC : Hid (c = 37) := UInt8.toNat_inj.1 hx
            go_wp2_with (at_builtin; refine app22 _ rfl _ _ rfl w.heap.size _ b _ [37] rfl rfl (HO.out.2.1.alloc _) (seg_lit _ _ _ [37] rfl (by simp)) ?c0 ?c1 ?_)
            case c0 => have := HO.out.2.2.2; simp; omega
            case c1 => have := HO.out.2.2.1.size; simp; omega
            intro v1 w1 hown hg hl3
            have H1 : Hid (Disk.Own w1 w.heap.size v1 (b ++ [c]) ∧ w.grownBy w1 none) := ⟨by rw [HCC.out]; exact hown, grown_new (grown_trans HO.out.2.2.1 (World.grownBy_alloc _ _ none)) hg (fun x hx => (HO.out.2.1.lt x hx).1)⟩
            clear hown hg hl3
            go_wp2_with fail
            go_roundw
            case rel => exact ⟨k + 1, b ++ [c], by omega, by have := HO.out.2.2.2; simp; omega, by go_num, HB.out, H1.out.1, H1.out.2⟩
            case measure => simp [intOf]; omega
          · have i3 : ¬ (c.toNat : Int) = 37 := by omega
            go_wp2_with (at_builtin; refine app22 _ rfl _ _ rfl w.heap.size _ b _ [c] rfl rfl (HO.out.2.1.alloc _) (seg_lit _ _ _ [c] rfl (by simp)) ?c0 ?c1 ?_)
            case c0 => have := HO.out.2.2.2; simp; omega
            case c1 => have := HO.out.2.2.1.size; simp; omega
            intro v1 w1 hown hg hl3
            have H1 : Hid (Disk.Own w1 w.heap.size v1 (b ++ [c]) ∧ w.grownBy w1 none) := ⟨hown, grown_new (grown_trans HO.out.2.2.1 (World.grownBy_alloc _ _ none)) hg (fun x hx => (HO.out.2.1.lt x hx).1)⟩
            clear hown hg hl3
            go_wp2_with fail
            go_roundw
            case rel => exact ⟨k + 1, b ++ [c], by omega, by have := HO.out.2.2.2; simp; omega, by go_num, HB.out, H1.out.1, H1.out.2⟩
            case measure => simp [intOf]; omega
      · have hb : ld s = b := by
          rw [HO.out.1, List.drop_of_length_le (by rw [HX.out.2.1]; omega), ld, List.append_nil]
        by_cases h0 : n = 0
        · have hs0 : s = [] := List.eq_nil_of_length_eq_zero (by rw [HX.out.2.1]; exact h0)
          have hd := read_bad HX.out.2.2 (fun h => absurd hs0 h)
          have e : E = 4 := by rw [← HE.out]; exact hd.2
          subst e
          have HD : Hid (readL s = []) := hd.1
          subst h0
          clear hd hs0 hb
          go_wp2_with fail
          go_ret2
          exact ⟨_, rfl, by rw [HD.out]; exact seg_nil _, HO.out.2.2.1⟩
        · have hs0 : s ≠ [] := by intro e; have := HX.out.2.1; rw [e] at this; simp at this; omega
          obtain ⟨q1, q2⟩ := read_doc HX.out.2.2 hs0
          rw [hb] at q1 q2
          have i3 : ¬ (n : Int) = 0 := by omega
          have HT : Hid (3 * b.length ≤ 140737488355328) := by have := HO.out.2.2.2; show 3 * b.length ≤ _; omega
          by_cases ht : txt b = s
          · obtain ⟨q3, q4⟩ := q1 ht
            have e : E = 0 := by rw [← HE.out]; exact q4
            subst e
            have HD : Hid (readL s = b) := q3
            have hq : (txt b == X.toList) = true := by
              rw [← HX.out.1, ht, ByteArray.toList_mk]
              simp
            clear q1 q2 q3 q4 hs0 hb ht
            go_wp2_with (first | (go_at_call 16; refine (text16 _ b _ HO.out.2.1.seg HT.out).mono ?_; rintro e w2 ⟨rfl, g2⟩; unfold Str))
            go_ret2
            exact ⟨_, rfl, by rw [HD.out]; exact HO.out.2.1.seg.grown g2, grown_trans HO.out.2.2.1 g2⟩
          · obtain ⟨q3, q4⟩ := q2 ht
            have e : E = 4 := by rw [← HE.out]; exact q4
            subst e
            have HD : Hid (readL s = []) := q3
            have hq : (txt b == X.toList) = false := by
              rw [← HX.out.1, ByteArray.toList_mk]
              simp [ht]
            clear q1 q2 q3 q4 hs0 hb ht
            go_wp2_with (first | (go_at_call 16; refine (text16 _ b _ HO.out.2.1.seg HT.out).mono ?_; rintro e w2 ⟨rfl, g2⟩; unfold Str))
            go_ret2
            exact ⟨_, rfl, by rw [HD.out]; exact seg_nil _, grown_trans HO.out.2.2.1 g2⟩
end Go.Proofs.Ytahpkgglkibikaa
