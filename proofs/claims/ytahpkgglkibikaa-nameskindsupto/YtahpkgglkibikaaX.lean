/-
  Text: the program's, the document's.
-/
import Derived.Test.YtahpkgglkibikaaV
import Derived.Test.YtahpkgglkibikaaM
import Derived.Test.YtahpkgglkibikaaDiskJh
import Derived.Laws.MakeOwn
namespace Go.Proofs.Ytahpkgglkibikaa
open Go.RowKit Disk

theorem make22 (n : Nat) (hn : n ≤ 140737488355328) (w : World) : ∃ w', (Instr.makeSlice 22 (.int .i64 0) (.int .i64 (n : Int))).run Try.prog w = .ok (.slice (some ⟨w.heap.size, 0, none⟩) 0 n) w' ∧ Disk.Own w' w.heap.size (.slice (some ⟨w.heap.size, 0, none⟩) 0 n) [] ∧ w.grownBy w' none := by
  obtain ⟨i0, hi, hz0, hz1, hz2⟩ := info_parts Try.info5
  exact run_make_own (P := Try.prog) w w.heap.size 22 5 i0 (.int .u8 0) 1 Try.underlying22 hi hz0 hz1 .i64 .i64 n (by rw [hz2]; omega) (by unfold maxLen; omega) (Nat.le_refl _)

theorem dig_all : ((List.range 16).all fun n => digits16.getD n 0 == dig n) = true := by kernel_rfl
theorem index_dig (n : Nat) (hn : n < 16) (w : World) : (Instr.index 9 (.string { data := #[48, 49, 50, 51, 52, 53, 54, 55, 56, 57, 65, 66, 67, 68, 69, 70] }) (.int .u8 (n : Int))).run Try.prog w = .ok (.int .u8 ((dig n).toNat : Int)) w := by
  have h := eq_of_beq (List.all_eq_true.1 dig_all n (List.mem_range.2 hn))
  rw [run_index_string w 9 _ _ _ Try.underlying9]
  have hs : ({ data := #[48, 49, 50, 51, 52, 53, 54, 55, 56, 57, 65, 66, 67, 68, 69, 70] } : ByteArray).size = 16 := rfl
  rw [dif_pos ⟨by omega, by rw [hs]; omega⟩, ← h]
  have hl : n < digits16.length := hn
  rw [List.getD_eq_getElem?_getD, List.getElem?_eq_getElem hl]
  rfl

theorem and_all : ((List.range 256).all fun n => bits .and .u8 (n : Int) 15 == ((n % 16 : Nat) : Int)) = true := by kernel_rfl
theorem and_15 (c : UInt8) : bits .and .u8 (c.toNat : Int) 15 = ((c.toNat % 16 : Nat) : Int) := eq_of_beq (List.all_eq_true.1 and_all c.toNat (List.mem_range.2 (byte_lt c)))

theorem body_take_succ (A : List UInt8) (k : Nat) (hk : k < A.length) : body (A.take (k + 1)) = body (A.take k) ++ esc A[k] := by
  rw [List.take_succ_eq_append_getElem hk, body_snoc]
theorem body_take_len (A : List UInt8) (k : Nat) (hk : k < A.length) : (body (A.take k)).length + 3 ≤ 3 * A.length := by
  have := (body_len (A.take k)).2
  rw [List.length_take] at this
  omega

set_option maxRecDepth 100000 in
set_option maxHeartbeats 2000000 in
theorem text15 (v : Value) (A : List UInt8) (w : World) (hs : Seg w v A) (hL : 3 * A.length ≤ 140737488355328) :
    Calls Try.prog 15 #[v] w fun e w' => e = .returned (Str (txt A)) ∧ w.grownBy w' none := by
  obtain ⟨ao, n, cap, rfl, hn, hlen, HS⟩ := seg_open hs
  have HN : Hid (A.length = n ∧ 3 * A.length ≤ 140737488355328) := ⟨hn, hL⟩
  rw [hn] at hL
  clear hs hn
  obtain ⟨R, hR⟩ : ∃ R, Str (txt A) = R := ⟨_, rfl⟩
  have HR : Hid (Str (txt A) = R) := hR
  rw [hR]
  clear hR
  by_cases h0 : n = 0
  · have e : R = .string { data := #[37] } := by
      rw [← HR.out, List.eq_nil_of_length_eq_zero (by rw [HN.out.1]; exact h0 : A.length = 0)]
      rfl
    subst e; subst h0
    go_enter Try.func15, Try.ntmps15
    go_wp2_with fail
    refine wp_scope_straight ?_
    go_wp2_with fail
    first | rw [Exit.noGoto_ret] | skip
    go_ret
    exact ⟨rfl, grown_refl _ _⟩
  · obtain ⟨w0, hmk, ho0, hg0⟩ := make22 n (by omega) w
    have H0 : Hid (Disk.Own w0 w.heap.size (.slice (some ⟨w.heap.size, 0, none⟩) 0 n) [] ∧ w.grownBy w0 none) := ⟨ho0, hg0⟩
    have i0 : ¬ (n : Int) = 0 := by omega
    clear ho0 hg0
    go_enter Try.func15, Try.ntmps15
    go_wp2_with fail
    refine wp_scope_straight ?_
    go_wp2_with fail
    refine wp_label ?_
    refine (‹∀ (a : Act) (w : World), Code.wp Try.prog _ _ a w → _› _ _ ?_)
    clear hmk
    go_wp2_with fail
    have hz : ((n : Int) == 0) = false := by simp; omega
    rw [hz]
    go_loopw [3, 14] (fun x i wr => ∃ k : Nat, k ≤ n ∧ i = .int .i64 k ∧ Disk.Own wr w.heap.size x (body (A.take k)) ∧ w.grownBy wr none) (fun _ i _ => n - (intOf i).toNat)
    case atStart => exact ⟨0, by omega, rfl, H0.out.1, H0.out.2⟩
    case round =>
      obtain ⟨k, hk, rfl, hown, hg⟩ := hrel
      have HO : Hid (Disk.Own wr w.heap.size u3 (body (A.take k)) ∧ w.grownBy wr none) := ⟨hown, hg⟩
      clear hown hg
      by_cases hlt : k < n
      · have hka : k < A.length := by rw [HN.out.1]; exact hlt
        obtain ⟨b1, o1, rfl, x1⟩ := seg_at (HS.out.grown HO.out.2) k hka
        have hbs := body_take_succ A k hka
        have hbl := body_take_len A k hka
        rw [HN.out.1] at hbl
        obtain ⟨c, hc⟩ : ∃ c, A[k] = c := ⟨_, rfl⟩
        rw [hc] at x1 hbs
        have HB : Hid (body (A.take (k + 1)) = body (A.take k) ++ esc c ∧ (body (A.take k)).length + 3 ≤ 3 * n) := ⟨hbs, hbl⟩
        have i1 : (0 : Int) ≤ (k : Int) := by omega
        have i2 : (k : Int) < (n : Int) := by omega
        obtain ⟨p, hp⟩ : ∃ p, plainB c = p := ⟨_, rfl⟩
        have HP : Hid (plainB c = p) := hp
        clear hc hbs hbl hp hka
        cases p with
        | true =>
          go_wp2_with (first | (go_at_call 33; refine (goes33 _ _).mono ?_; rintro e w1 ⟨rfl, h1⟩; rw [h1, HP.out]; clear h1) | (at_builtin; refine app22 _ rfl _ _ rfl w.heap.size _ (body (A.take k)) _ [c] rfl rfl (HO.out.1.alloc _) (seg_lit _ _ _ [c] rfl (by simp)) ?c0 ?c1 ?_))
          case c0 => have := HB.out.2; simp; omega
          case c1 => have := HO.out.2.size; simp; omega
          intro v1 w1 hown hg hl
          have H1 : Hid (Disk.Own w1 w.heap.size v1 (body (A.take (k + 1))) ∧ w.grownBy w1 none) := by
            refine ⟨?_, grown_new (grown_trans HO.out.2 (World.grownBy_alloc _ _ none)) hg (fun x hx => (HO.out.1.lt x hx).1)⟩
            rw [HB.out.1]
            unfold esc
            rw [if_pos HP.out]
            exact hown
          clear hown hg hl
          go_wp2_with fail
          go_roundw
          case rel => exact ⟨k + 1, by omega, by go_num, H1.out.1, H1.out.2⟩
          case measure => simp [intOf]; omega
        | false =>
          have hcl := byte_lt c
          have hesc : esc c = [37, dig (c.toNat / 16), dig (c.toNat % 16)] := by unfold esc; rw [if_neg (by rw [HP.out]; simp)]
          obtain ⟨d1, hd1⟩ : ∃ d, c.toNat / 16 = d := ⟨_, rfl⟩
          obtain ⟨d2, hd2⟩ : ∃ d, c.toNat % 16 = d := ⟨_, rfl⟩
          have l1 : d1 < 16 := by omega
          have l2 : d2 < 16 := by omega
          rw [hd1, hd2] at hesc
          have x27 : ((c.toNat : Int)) / 16 = (d1 : Int) := by omega
          have x30 : bits .and .u8 (c.toNat : Int) 15 = (d2 : Int) := by rw [and_15 c, hd2]
          have xi1 := index_dig d1 l1
          have xi2 := index_dig d2 l2
          have HE : Hid (esc c = [37, dig d1, dig d2]) := hesc
          clear hesc hd1 hd2
          go_wp2_with (first | (go_at_call 33; refine (goes33 _ _).mono ?_; rintro e w1 ⟨rfl, h1⟩; rw [h1, HP.out]; clear h1))
          refine wp_region_noPanic ?_
          refine wp_region_hold 1000 (fun _ => True) (by kernel_rfl) ?_
          refine wpHold_take (i := 0) (v := _) (trivial) rfl rfl (by kernel_rfl) (by kernel_rfl) (by kernel_rfl) (by kernel_rfl) (by kernel_rfl) (fun _ _ _ h => h) (by rfl) (fun wk hk => by skip; go_simp; try rfl) ?_
          try simp only [Act.put, List.setIfInBounds_toArray, List.set_cons_zero, List.set_cons_succ]
          refine wpHold_take (i := 1) (v := _) (trivial) rfl rfl (by kernel_rfl) (by kernel_rfl) (by kernel_rfl) (by kernel_rfl) (by kernel_rfl) (fun _ _ _ h => h) (by rfl) (fun wk hk => by skip; go_simp; try rfl) ?_
          try simp only [Act.put, List.setIfInBounds_toArray, List.set_cons_zero, List.set_cons_succ]
          refine wpHold_take (i := 2) (v := _) (trivial) rfl rfl (by kernel_rfl) (by kernel_rfl) (by kernel_rfl) (by kernel_rfl) (by kernel_rfl) (fun _ _ _ h => h) (by rfl) (fun wk hk => by skip; go_simp; try rfl) ?_
          try simp only [Act.put, List.setIfInBounds_toArray, List.set_cons_zero, List.set_cons_succ]
          refine wpHold_take (i := 3) (v := _) (trivial) rfl rfl (by kernel_rfl) (by kernel_rfl) (by kernel_rfl) (by kernel_rfl) (by kernel_rfl) (fun _ _ _ h => h) (by rfl) (fun wk hk => by skip; go_simp; try rfl) ?_
          try simp only [Act.put, List.setIfInBounds_toArray, List.set_cons_zero, List.set_cons_succ]
          refine wpHold_take (i := 4) (v := _) (trivial) rfl rfl (by kernel_rfl) (by kernel_rfl) (by kernel_rfl) (by kernel_rfl) (by kernel_rfl) (fun _ _ _ h => h) (by rfl) (fun wk hk => by skip; go_simp; try rfl) ?_
          try simp only [Act.put, List.setIfInBounds_toArray, List.set_cons_zero, List.set_cons_succ]
          refine wpHold_take (i := 5) (v := _) (trivial) rfl rfl (by kernel_rfl) (by kernel_rfl) (by kernel_rfl) (by kernel_rfl) (by kernel_rfl) (fun _ _ _ h => h) (by rfl) (fun wk hk => by skip; go_simp; try rfl) ?_
          try simp only [Act.put, List.setIfInBounds_toArray, List.set_cons_zero, List.set_cons_succ]
          refine wpHold_take (i := 6) (v := _) (trivial) rfl rfl (by kernel_rfl) (by kernel_rfl) (by kernel_rfl) (by kernel_rfl) (by kernel_rfl) (fun _ _ _ h => h) (by rfl) (fun wk hk => by skip; go_simp; try rfl) ?_
          try simp only [Act.put, List.setIfInBounds_toArray, List.set_cons_zero, List.set_cons_succ]
          refine wpHold_one (i := 7) rfl (by kernel_rfl) (by rfl) (fun K hK => ?_)
          go_wp2_with fail
          refine hK.out _ _ (fun _ => trivial) ?_
          clear hK K
          try simp only [Act.put, List.setIfInBounds_toArray, List.set_cons_zero, List.set_cons_succ]
          refine wpHold_one (i := 8) rfl (by kernel_rfl) (by rfl) (fun K hK => ?_)
          refine app22_wp _ _ _ rfl w.heap.size _ (body (A.take k)) _ [37, dig d1, dig d2] rfl rfl (HO.out.1.grown (grown_trans (grown_drew _ _) (World.grownBy_alloc _ _ _))) (seg_lit _ _ _ [37, dig d1, dig d2] rfl (by simp)) ?f0 ?f1 ?_
          case f0 => have := HB.out.2; simp; omega
          case f1 => have := HO.out.2.size; simp; omega
          intro v1 w1 hown hg hl
          have H1 : Hid (Disk.Own w1 w.heap.size v1 (body (A.take (k + 1))) ∧ w.grownBy w1 none) := by
            refine ⟨?_, grown_new (grown_trans (grown_trans HO.out.2 (grown_drew _ _)) (World.grownBy_alloc _ _ none)) hg (fun x hx => (HO.out.1.lt x hx).1)⟩
            rw [HB.out.1, HE.out]
            exact hown
          clear hown hg hl
          refine hK.out _ _ (fun _ => trivial) ?_
          clear hK K
          try simp only [Act.put, List.setIfInBounds_toArray, List.set_cons_zero, List.set_cons_succ]
          refine wpHold_take (i := 9) (v := _) (trivial) rfl rfl (by kernel_rfl) (by kernel_rfl) (by kernel_rfl) (by kernel_rfl) (by kernel_rfl) (fun _ _ _ h => h) (by rfl) (fun wk hk => by skip; go_simp; try rfl) ?_
          try simp only [Act.put, List.setIfInBounds_toArray, List.set_cons_zero, List.set_cons_succ]
          refine wpHold_done (by kernel_rfl) ?_
          refine (‹∀ (a : Act) (w : World), Code.wp Try.prog _ _ a w → _› _ _ ?_)
          go_wp2_with fail
          go_roundw
          case rel => exact ⟨k + 1, by omega, by go_num, H1.out.1, H1.out.2⟩
          case measure => simp [intOf]; omega
      · have e : body (A.take k) = txt A := by
          unfold txt
          rw [if_neg (by intro e; have := HN.out.1; rw [e] at this; simp at this; omega), List.take_of_length_le (by rw [HN.out.1]; omega)]
        have cv := seg_str HO.out.1.seg
        rw [e, show Value.string ⟨(txt A).toArray⟩ = R from HR.out] at cv
        go_wp2_with fail
        first | rw [Exit.noGoto_ret] | skip
        go_ret
        exact ⟨rfl, HO.out.2⟩
end Go.Proofs.Ytahpkgglkibikaa
