/-
  TableHalves: the walk.
-/
import Derived.Test.YtlehikdlkdbacaaG
namespace Go.Proofs.Ytlehikdlkdbacaa
open Go.RowKit Disk
open Names (cmpL keyB valueB)

theorem stps_one {w : World} {f g : Option Addr} {n m c d : Nat} {K V : Bs} (w1 : World) (hb : Blk w1 w.heap.size 32 #[.int .i64 0, .slice f n c, .slice g m d, .int .i64 0]) (h1 : Seg w1 (.slice f n c) K) (h2 : Seg w1 (.slice g m d) V) : Stps w1 (.slice (some ⟨w.heap.size, 0, none⟩) 1 1) [⟨0, K, V, 0⟩] := by
  refine ⟨[(.slice f n c, .slice g m d)], rfl, ⟨_, 1, rfl, Nat.le_refl _, by unfold maxLen; omega, by simp, rfl, fun j u hj => ⟨_, 0, rfl, ?_⟩⟩, fun j a b => ?_⟩
  · rw [hb.cell, Nat.zero_add]
    simpa [scells] using hj
  · simp at a
    subst a
    exact ⟨h1, h2⟩
theorem rws_of_apn {w : World} {B : Nat} {v : Value} {n : Nat} {ks : List (Value × Value)} {l : List PRow} (h : Apn w B 45 2 v n (rcells ks)) (hn : n = l.length) (hs : RSeg w ks l) : Rws w v l := by
  subst hn
  exact ⟨ks, hs, h.vec⟩
theorem RSeg.append {w : World} {ks ls : List (Value × Value)} {l m : List PRow} (h : RSeg w ks l) (k : RSeg w ls m) : RSeg w (ks ++ ls) (l ++ m) := by
  refine ⟨by simp [h.1, k.1], fun j a b => ?_⟩
  have := h.1
  rw [List.getElem_append, List.getElem_append]
  split <;> split
  · exact h.2 _ _ _
  · omega
  · omega
  · have := k.2 (j - ks.length) (by simp at a; omega) (by simp at b; omega)
    simp only [h.1] at this ⊢
    exact this
theorem rws_piece {w : World} {ao : Option Addr} {n cap : Nat} {l : List PRow} (h : Rws w (.slice ao n cap) l) (lo hi : Nat) (h1 : lo ≤ hi) (h2 : hi ≤ n) : Rws w (sliced ao lo hi cap 2) ((l.drop lo).take (hi - lo)) := by
  obtain ⟨ks, ha, hv⟩ := h
  have hv' := hv
  obtain ⟨ao1, c1, e1, _⟩ := hv'
  simp at e1
  obtain ⟨rfl, rfl, rfl⟩ := e1
  have := vec_piece hv lo hi h1 h2
  refine ⟨(ks.drop lo).take (hi - lo), ⟨by simp [ha.1], fun j a b => ?_⟩, ?_⟩
  · simp only [List.getElem_take, List.getElem_drop]
    exact ha.2 _ _ _
  · rw [rcells_take, rcells_drop, List.length_take, List.length_drop, Nat.min_eq_left (by omega)]
    exact this
theorem rws_one {w : World} {f g : Option Addr} {n m c d : Nat} {K V : Bs} (w1 : World) (hb : Blk w1 w.heap.size 45 #[.slice f n c, .slice g m d]) (h1 : Seg w1 (.slice f n c) K) (h2 : Seg w1 (.slice g m d) V) : Rws w1 (.slice (some ⟨w.heap.size, 0, none⟩) 1 1) [(K, V)] := by
  refine ⟨[(.slice f n c, .slice g m d)], ⟨rfl, fun j a b => ?_⟩, vec_two w _ _ w1 hb⟩
  simp at a
  subst a
  exact ⟨h1, h2⟩

/-- A table beside one that is changed. -/
theorem tb_off {w w' : World} {b c : Nat} {l m : List PRow} (h : Tb w b l) (hc : Tb w c m) (hg : w.grownBy w' (some c)) (hne : b ≠ c) : Tb w' b l := by
  obtain ⟨v, h1, h2⟩ := h
  obtain ⟨ao, n, cap, HB, _⟩ := tb_open hc
  exact ⟨v, h1.grown hg (by simp; omega), off_rows hg HB.out.1 h2⟩

set_option maxRecDepth 100000 in
set_option maxHeartbeats 16000000 in
theorem halves5 (v kv vv : Value) (l : List PRow) (k x : Bs) (w : World) (hv : Rws w v l) (hk : Seg w kv k) (hx : Seg w vv x) :
    Calls Try.prog 5 #[v, kv, vv] w fun e w' => e = .returned (.bool true) ∧ w.grownBy w' none := by
  obtain ⟨ak, nk, ck, rfl, hnk, _, HK⟩ := Names.seg_open hk
  obtain ⟨ax, nx, cx, rfl, _, _, HX⟩ := Names.seg_open hx
  have HV : Hid (Rws w v l) := hv
  have HNK : Hid (k.length = nk) := hnk
  clear hv hk hx hnk
  go_enter Try.func5, Try.ntmps5
  go_wp2_with (go_at_call 8; refine (known8 w).mono ?_)
  rintro e w1 ⟨rfl, g1⟩
  have G1 : Hid (w.grownBy w1 none) := g1
  clear g1
  go_wp2_with fail
  obtain ⟨w2, hw2, H2⟩ := al w1 #[.int .i64 0, .slice ak nk ck, .slice ax nx cx, .int .i64 0] 32
  rw [hw2]
  clear hw2
  have G2 : Hid (w.grownBy w2 none) := grown_trans G1.out H2.out.2.1
  refine (much7 v _ l [⟨0, k, x, 0⟩] w2 (HV.out.grown G2.out) (stps_one w2 H2.out.1 (HK.out.grown G2.out) (HX.out.grown G2.out))).mono ?_
  rintro e w3 ⟨b, rfl, hfew, hw3⟩
  rw [hw3]
  clear hw3 H2
  cases b with
  | true =>
    go_wp2_with fail
    go_ret
    exact ⟨rfl, G2.out⟩
  | false =>
    have HF : Hid (Few l [⟨0, k, x, 0⟩]) := hfew rfl
    clear hfew
    go_wp2_with fail
    refine (new22 v l (by have := HF.out.1; omega) w2 (HV.out.grown G2.out)).mono ?_
    rintro e w3 (⟨hgd, b, rfl, hb, ht, g3⟩ | ⟨_, rfl, g3⟩)
    · have HG : Hid (Good l ∧ l.length ≤ 300) := ⟨hgd, HF.out.1⟩
      have H3 : Hid (Tb w3 b l ∧ w.grownBy w3 none ∧ w.heap.size ≤ b) := ⟨ht, grown_trans G2.out g3, Nat.le_trans G2.out.size hb⟩
      clear hgd hb ht g3
      go_wp2_with (go_at_call 21; refine (num21 _ _).mono ?_; rintro e wx ⟨rfl, hx⟩; rw [hx]; clear hx)
      refine (len23g _ true l w3 H3.out.1.tl).mono ?_
      rintro e w4 ⟨rfl, hw4⟩
      rw [hw4]
      clear hw4
      obtain ⟨n, hn⟩ : ∃ n, l.length = n := ⟨_, rfl⟩
      have HN : Hid (l.length = n) := hn
      rw [hn]
      have hn3 : n ≤ 300 := by rw [← hn]; exact HG.out.2
      clear hn
      go_wp2_with fail
      have S1 := scan_all l
      rw [HN.out] at S1
      refine (scan24 _ true _ _ n l [] [] HG.out.1 w3 H3.out.1.tl (seg_nil _) (seg_nil _)).mono ?_
      rintro e w4 ⟨v4, rfl, t4, g4⟩
      rw [S1] at t4
      obtain ⟨a4, n4, c4, rfl, hn4, hc4, hc4', _⟩ := rws_open t4.rws
      have e4 : n4 = n := by rw [← hn4, HN.out]
      subst e4
      have H4 : Hid (Tb w4 b l ∧ w.grownBy w4 none ∧ Rws w4 (.slice a4 n4 c4) l) := ⟨H3.out.1.grown g4, grown_trans H3.out.2.1 g4, t4.rws⟩
      clear S1 t4 g4 hn4
      go_wp2_with fail
      refine (scan24 _ true _ _ n4 l [] k HG.out.1 w4 H4.out.1.tl (seg_nil _) (HK.out.grown H4.out.2.1)).mono ?_
      rintro e w5 ⟨v5, rfl, t5, g5⟩
      obtain ⟨a5, n5, c5, rfl, _, _, _, _⟩ := rws_open t5.rws
      have H5 : Hid (Tb w5 b l ∧ w.grownBy w5 none ∧ Rws w5 (.slice a4 n4 c4) l ∧ TRws w5 w4.heap.size (.slice a5 n5 c5) (scanL l [] k n4)) := ⟨H4.out.1.grown g5, grown_trans H4.out.2.1 g5, H4.out.2.2.grown g5, t5⟩
      clear t5 g5
      go_wp2_with fail
      have S2 := scan_above l k
      rw [HN.out] at S2
      refine (scan24 _ true _ _ n4 l k [] HG.out.1 w5 H5.out.1.tl (HK.out.grown H5.out.2.1) (seg_nil _)).mono ?_
      rintro e w6 ⟨v6, rfl, t6, g6⟩
      rw [S2] at t6
      obtain ⟨a6, n6, c6, rfl, hn6, _, _, _⟩ := rws_open t6.rws
      have H6 : Hid (Tb w6 b l ∧ w.grownBy w6 none ∧ Rws w6 (.slice a4 n4 c4) l ∧ TRws w6 w4.heap.size (.slice a5 n5 c5) (scanL l [] k n4) ∧ TRws w6 w5.heap.size (.slice a6 n6 c6) (l.drop (rankL l k))) := ⟨H5.out.1.grown g6, grown_trans H5.out.2.1 g6, H5.out.2.2.1.grown g6, H5.out.2.2.2.grown g6, t6⟩
      obtain ⟨rk, hrk⟩ : ∃ r, rankL l k = r := ⟨_, rfl⟩
      have HRK : Hid (rankL l k = rk ∧ rk ≤ n4 ∧ n6 = n4 - rk) := ⟨hrk, by rw [← hrk, ← HN.out]; exact rank_le l k, by rw [← hn6, List.length_drop, HN.out, hrk]⟩
      have hrk4 : rk ≤ n4 := HRK.out.2.1
      have hn64 : n6 ≤ n4 := by have := HRK.out.2.2; omega
      clear S2 t6 g6 hn6 hrk
      go_upto_if 67 with fail
      go_cut [11] (fun y wc => w6 = wc ∧ ∃ a7 c7, y = .slice a7 rk c7 ∧ TRws w6 w4.heap.size (.slice a7 rk c7) (l.take rk))
      case first =>
        by_cases h0 : nk = 0
        · have h1 : (nk : Int) = 0 := by omega
          have HK0 : Hid (k = []) := List.eq_nil_of_length_eq_zero (by rw [HNK.out]; exact h0)
          have HR0 : Hid (rk = 0) := by rw [Hid, ← HRK.out.1, HK0.out, rank_nil]
          go_wp2_with fail
          go_meet
          case rel => exact ⟨rfl, none, 0, by rw [HR0.out], by rw [HR0.out]; exact TRws.nil _ _⟩
        · have h1 : ¬ (nk : Int) = 0 := by omega
          have HS : Hid (scanL l [] k n4 = l.take rk) := by
            have := scan_below l k (fun e => h0 (by rw [← HNK.out, e]; rfl))
            rw [HN.out, HRK.out.1] at this
            exact this
          go_wp2_with fail
          go_meet
          case rel =>
            have ht := H6.out.2.2.2.1
            rw [HS.out] at ht
            have e5 : n5 = rk := by
              obtain ⟨ks, h1, _⟩ := ht
              have := (vec_of_owns h1).shape
              obtain ⟨_, _, e, _⟩ := this
              simp at e
              rw [e.2.1, HN.out]
              exact Nat.min_eq_left hrk4
            subst e5
            exact ⟨rfl, _, _, rfl, ht⟩
      case rest =>
        obtain ⟨hwc, a7, c7, rfl, ht7⟩ := hcut
        rw [← hwc]
        clear hwc
        have H7 : Hid (TRws w6 w4.heap.size (.slice a7 rk c7) (l.take rk)) := ht7
        clear ht7
        refine (‹∀ (a : Act) (w : World), Code.wp Try.prog _ _ a w → _› _ _ ?_)
        obtain ⟨ks7, ho7, hr7⟩ := H7.out
        obtain ⟨ks6, ho6, hr6⟩ := H6.out.2.2.2.2
        have hl7 : (l.take rk).length = rk := by rw [List.length_take, HN.out]; exact Nat.min_eq_left hrk4
        have hl6 : (l.drop (rankL l k)).length = n6 := by rw [List.length_drop, HN.out, HRK.out.1, HRK.out.2.2]
        rw [hl7] at ho7
        rw [hl6] at ho6
        have HO : Hid (Vec w6 2 (.slice a7 rk c7) rk (rcells ks7) ∧ Vec w6 2 (.slice a6 n6 c6) n6 (rcells ks6) ∧ RSeg w6 ks7 (l.take rk) ∧ RSeg w6 ks6 (l.drop rk) ∧ (∀ u ∈ rcells ks7, u.oneCell' = true) ∧ (∀ u ∈ rcells ks6, u.oneCell' = true)) := ⟨vec_of_owns ho7, vec_of_owns ho6, hr7.seg, by have := hr6.seg; rw [HRK.out.1] at this; exact this, hr7.one, hr6.one⟩
        clear ho7 hr7 ho6 hr6 hl7 hl6
        go_wp2_with (at_builtin; refine app_at w6 rfl _ _ 22 45 _ 2 48 Try.info45 ut22' rfl (by decide) rfl w6.heap.size _ 0 [] _ rk (rcells ks7) rfl rfl (apn_nil _ _ _ _) HO.out.1 HO.out.2.2.2.2.1 ?c0 ?c1 (Nat.le_refl _) ?_)
        case c0 => omega
        case c1 => unfold maxLen; omega
        intro v8 w8 hv8 hg8 _
        obtain ⟨a8, c8, e8, _, _⟩ := hv8.vec.shape
        have H8 : Hid (Apn w8 w6.heap.size 45 2 v8 rk (rcells ks7) ∧ w6.grownBy w8 none) := by
          exact ⟨by simpa using hv8, hg8.none (Nat.le_refl _)⟩
        try rw [Nat.zero_add] at e8
        subst e8
        clear hv8 hg8
        go_wp2_with (at_builtin; refine app_at w8 rfl _ _ 22 45 _ 2 48 Try.info45 ut22' rfl (by decide) rfl w6.heap.size _ rk (rcells ks7) _ n6 (rcells ks6) rfl rfl H8.out.1 (HO.out.2.1.grown H8.out.2) HO.out.2.2.2.2.2 ?c0 ?c1 H8.out.2.size ?_)
        case c0 => omega
        case c1 => unfold maxLen; omega
        intro v9 w9 hv9 hg9 _
        obtain ⟨a9, c9, e9, _, _⟩ := hv9.vec.shape
        have H9 : Hid (Tb w9 b l ∧ w.grownBy w9 none ∧ Rws w9 (.slice a4 n4 c4) l ∧ Rws w9 v9 l) := by
          have g69 : w6.grownBy w9 none := hg9.after H8.out.2 (Nat.le_refl _)
          refine ⟨H6.out.1.grown g69, grown_trans H6.out.2.1 g69, H6.out.2.2.1.grown g69, ?_⟩
          rw [← rcells_append] at hv9
          refine rws_of_apn hv9 (by rw [HN.out]; have := HRK.out.2.2; omega) ?_
          have := (HO.out.2.2.1.grown g69).append (HO.out.2.2.2.1.grown g69)
          rwa [List.take_append_drop] at this
        subst e9
        clear hv9 hg9 H8 HO H7
        go_wp2_with fail
        refine (same15 _ _ l l w9 H9.out.2.2.2 H9.out.2.2.1).mono ?_
        rintro e w10 ⟨rfl, m10, hw10⟩
        rw [hw10, show decide (l = l) = true from decide_eq_true rfl]
        have H10 : Hid (Tb (w9.drewN m10) b l ∧ w.grownBy (w9.drewN m10) none ∧ Rws (w9.drewN m10) (.slice a4 n4 c4) l) := ⟨H9.out.1.grown (grown_drewN _ _ _), grown_trans H9.out.2.1 (grown_drewN _ _ _), H9.out.2.2.1.grown (grown_drewN _ _ _)⟩
        generalize w9.drewN m10 = w11 at H10 ⊢
        clear hw10 H9
        go_wp2_with fail
        refine (rank25 _ true _ l k HG.out.1.1 HG.out.1.2.2 w11 H10.out.1.tl (HK.out.grown H10.out.2.1)).mono ?_
        rintro e w12 ⟨rfl, g12⟩
        rw [HRK.out.1]
        have H12 : Hid (Tb w12 b l ∧ w.grownBy w12 none ∧ Rws w12 (.slice a4 n4 c4) l) := ⟨H10.out.1.grown g12, grown_trans H10.out.2.1 g12, H10.out.2.2.grown g12⟩
        clear g12 H10
        go_wp2_with fail
        go_loopw [13] (fun i wr => ∃ (j : Nat), j ≤ n4 ∧ j ≤ 40 ∧ i = .int .i64 (j : Int) ∧ Tb wr b l ∧ w.grownBy wr none ∧ Rws wr (.slice a4 n4 c4) l) (fun i _ => 40 - (intOf i).toNat)
        case atStart => exact ⟨0, Nat.zero_le _, Nat.zero_le _, rfl, H12.out⟩
        case round =>
          obtain ⟨j, hj1, hj2, rfl, hr1, hr2, hr3⟩ := hrel
          have HR : Hid (Tb wr b l ∧ w.grownBy wr none ∧ Rws wr (.slice a4 n4 c4) l) := ⟨hr1, hr2, hr3⟩
          clear hr1 hr2 hr3
          by_cases hgo : j < n4 ∧ j < 40
          · obtain ⟨hg1, hg2⟩ := hgo
            have hjl : j < l.length := by rw [HN.out]; exact hg1
            have i0 : (j : Int) < (n4 : Int) := by omega
            have i1 : (j : Int) < 40 := by omega
            have i2 : (0 : Int) ≤ (j : Int) := by omega
            have HA : Hid (atC l (j : Int) = 0 ∧ atR l (j : Int) = l[j]) := by
              unfold Hid atC atR
              rw [if_pos ⟨by omega, by omega⟩, if_pos ⟨by omega, by omega⟩]
              simp [hjl]
            go_wp2_with fail
            refine (at26 b j l HG.out.1 wr HR.out.1).mono ?_
            rintro e w13 ⟨x13, y13, rfl, ox, oy, g13⟩
            rw [HA.out.1]
            rw [HA.out.2] at ox oy
            obtain ⟨fx, qx, ex⟩ := ox.seg.shape
            obtain ⟨fy, qy, ey⟩ := oy.seg.shape
            obtain ⟨mx, hmx⟩ : ∃ m, l[j].1.length = m := ⟨_, rfl⟩
            obtain ⟨my, hmy⟩ : ∃ m, l[j].2.length = m := ⟨_, rfl⟩
            rw [hmx] at ex
            rw [hmy] at ey
            subst ex ey
            have H13 : Hid (Tb w13 b l ∧ w.grownBy w13 none ∧ Rws w13 (.slice a4 n4 c4) l ∧ Seg w13 (.slice fx mx qx) l[j].1 ∧ Seg w13 (.slice fy my qy) l[j].2) := ⟨HR.out.1.grown g13, grown_trans HR.out.2.1 g13, HR.out.2.2.grown g13, ox.seg, oy.seg⟩
            clear ox oy g13 HR hmx hmy
            go_upto_region 19 with fail
            obtain ⟨w14, hw14, H14⟩ := al w13 #[.slice fx mx qx, .slice fy my qy] 45
            rw [hw14]
            clear hw14
            have HS : Hid (Tb w14 b l ∧ w.grownBy w14 none ∧ Rws w14 (.slice a4 n4 c4) l ∧ Seg w14 (.slice fx mx qx) l[j].1 ∧ Seg w14 (.slice fy my qy) l[j].2) := ⟨H13.out.1.grown H14.out.2.1, grown_trans H13.out.2.1 H14.out.2.1, H13.out.2.2.1.grown H14.out.2.1, H13.out.2.2.2.1.grown H14.out.2.1, H13.out.2.2.2.2.grown H14.out.2.1⟩
            have HM : Hid (∀ y : World, w14.grownBy y none → y.cell? ⟨w13.heap.size, 0, none⟩ = some (.slice fx mx qx) ∧ y.cell? ⟨w13.heap.size, 1, none⟩ = some (.slice fy my qy)) := fun y hy => ⟨(H14.out.1.grown hy (by simp)).cell 0, (H14.out.1.grown hy (by simp)).cell 1⟩
            obtain ⟨sv, hsv⟩ : ∃ v, sliced a4 j (j + 1) c4 2 = v := ⟨_, rfl⟩
            have hsl : ∀ wk, (Instr.slice 22 (.slice a4 n4 c4) (some (.int .i64 (j : Int))) (some (.int .i64 ((j : Int) + 1))) none).run Try.prog wk = .ok sv wk := fun wk => by rw [← hsv]; exact run_piece 22 2 ut22 size22 a4 n4 c4 j (j + 1) (by omega) (by omega) wk
            have hpc := rws_piece HS.out.2.2.1 j (j + 1) (by omega) (by omega)
            rw [hsv, show (l.drop j).take (j + 1 - j) = [l[j]] from by
              rw [show j + 1 - j = 1 by omega, List.drop_eq_getElem_cons hjl]
              rfl] at hpc
            have HP : Hid (Rws w14 sv [l[j]]) := hpc
            have hwr1 : IntKind.i64.wrap ((j : Int) + 1) = (j : Int) + 1 := by rw [IntKind.wrap_i64]; omega
            clear hpc hsv H13
            refine wp_region_noPanic ?_
            refine wp_region_hold 1000 (fun y => w14.grownBy y none) (by kernel_rfl) ?_
            have G0 : Hid (w14.grownBy w14.drew none) := grown_drew _ _
            generalize w14.drew = wd at G0 ⊢
            refine wpHold_take (i := 0) (v := _) (G0.out) rfl rfl (by kernel_rfl) (by kernel_rfl) (by kernel_rfl) (by kernel_rfl) (by kernel_rfl) (fun _ _ _ h => h) (by rfl) (fun wk hk => by obtain ⟨z0, z1⟩ := HM.out wk hk; go_simp; try rfl) ?_
            try simp only [Act.put, List.setIfInBounds_toArray, List.set_cons_zero, List.set_cons_succ]
            refine wpHold_one (i := 1) rfl (by kernel_rfl) (by rfl) (fun K hK => ?_)
            go_wp2_with (go_at_call 21; refine (num21 _ _).mono ?_; rintro e wx ⟨rfl, hx⟩; rw [hx]; clear hx)
            refine hK.out _ _ (fun _ => G0.out) ?_
            clear hK K
            try simp only [Act.put, List.setIfInBounds_toArray, List.set_cons_zero, List.set_cons_succ]
            refine wpHold_take (i := 2) (v := _) (G0.out) rfl rfl (by kernel_rfl) (by kernel_rfl) (by kernel_rfl) (by kernel_rfl) (by kernel_rfl) (fun _ _ _ h => h) (by rfl) (fun wk hk => by obtain ⟨z0, z1⟩ := HM.out wk hk; go_simp; try rfl) ?_
            try simp only [Act.put, List.setIfInBounds_toArray, List.set_cons_zero, List.set_cons_succ]
            refine wpHold_take (i := 3) (v := _) (G0.out) rfl rfl (by kernel_rfl) (by kernel_rfl) (by kernel_rfl) (by kernel_rfl) (by kernel_rfl) (fun _ _ _ h => h) (by rfl) (fun wk hk => by obtain ⟨z0, z1⟩ := HM.out wk hk; go_simp; try rfl) ?_
            try simp only [Act.put, List.setIfInBounds_toArray, List.set_cons_zero, List.set_cons_succ]
            refine wpHold_take (i := 4) (v := _) (G0.out) rfl rfl (by kernel_rfl) (by kernel_rfl) (by kernel_rfl) (by kernel_rfl) (by kernel_rfl) (fun _ _ _ h => h) (by rfl) (fun wk hk => by obtain ⟨z0, z1⟩ := HM.out wk hk; go_simp; try rfl) ?_
            try simp only [Act.put, List.setIfInBounds_toArray, List.set_cons_zero, List.set_cons_succ]
            refine wpHold_take (i := 5) (v := _) (G0.out) rfl rfl (by kernel_rfl) (by kernel_rfl) (by kernel_rfl) (by kernel_rfl) (by kernel_rfl) (fun _ _ _ h => h) (by rfl) (fun wk hk => by obtain ⟨z0, z1⟩ := HM.out wk hk; go_simp; try rfl) ?_
            try simp only [Act.put, List.setIfInBounds_toArray, List.set_cons_zero, List.set_cons_succ]
            refine wpHold_take (i := 6) (v := _) (G0.out) rfl rfl (by kernel_rfl) (by kernel_rfl) (by kernel_rfl) (by kernel_rfl) (by kernel_rfl) (fun _ _ _ h => h) (by rfl) (fun wk hk => by obtain ⟨z0, z1⟩ := HM.out wk hk; go_simp; try rfl) ?_
            try simp only [Act.put, List.setIfInBounds_toArray, List.set_cons_zero, List.set_cons_succ]
            refine wpHold_take (i := 8) (v := _) (G0.out) rfl rfl (by kernel_rfl) (by kernel_rfl) (by kernel_rfl) (by kernel_rfl) (by kernel_rfl) (fun _ _ _ h => h) (by rfl) (fun wk hk => by obtain ⟨z0, z1⟩ := HM.out wk hk; go_simp; try rfl) ?_
            try simp only [Act.put, List.setIfInBounds_toArray, List.set_cons_zero, List.set_cons_succ]
            refine wpHold_one (i := 7) rfl (by kernel_rfl) (by rfl) (fun K hK => ?_)
            go_wp2_with (go_at_call 25; refine (rank25 _ true _ l l[j].1 HG.out.1.1 HG.out.1.2.2 wd (HS.out.1.grown G0.out).tl (HS.out.2.2.2.1.grown G0.out)).mono ?_)
            rintro e w15 ⟨rfl, g15⟩
            rw [rank_self HG.out.1.1 hjl]
            have G15 : Hid (w14.grownBy w15 none) := grown_trans G0.out g15
            clear g15
            go_wp2_with fail
            refine hK.out _ _ (fun _ => G15.out) ?_
            clear hK K
            try simp only [Act.put, List.setIfInBounds_toArray, List.set_cons_zero, List.set_cons_succ]
            refine wpHold_take (i := 9) (v := _) (G15.out) rfl rfl (by kernel_rfl) (by kernel_rfl) (by kernel_rfl) (by kernel_rfl) (by kernel_rfl) (fun _ _ _ h => h) (by rfl) (fun wk hk => by obtain ⟨z0, z1⟩ := HM.out wk hk; go_simp; try rfl) ?_
            try simp only [Act.put, List.setIfInBounds_toArray, List.set_cons_zero, List.set_cons_succ]
            refine wpHold_take (i := 10) (v := _) (G15.out) rfl rfl (by kernel_rfl) (by kernel_rfl) (by kernel_rfl) (by kernel_rfl) (by kernel_rfl) (fun _ _ _ h => h) (by rfl) (fun wk hk => by obtain ⟨z0, z1⟩ := HM.out wk hk; go_simp; try rfl) ?_
            try simp only [Act.put, List.setIfInBounds_toArray, List.set_cons_zero, List.set_cons_succ]
            refine wpHold_take (i := 11) (v := _) (G15.out) rfl rfl (by kernel_rfl) (by kernel_rfl) (by kernel_rfl) (by kernel_rfl) (by kernel_rfl) (fun _ _ _ h => h) (by rfl) (fun wk hk => by obtain ⟨z0, z1⟩ := HM.out wk hk; go_simp; try rfl) ?_
            try simp only [Act.put, List.setIfInBounds_toArray, List.set_cons_zero, List.set_cons_succ]
            refine wpHold_take (i := 12) (v := _) (G15.out) rfl rfl (by kernel_rfl) (by kernel_rfl) (by kernel_rfl) (by kernel_rfl) (by kernel_rfl) (fun _ _ _ h => h) (by rfl) (fun wk hk => by obtain ⟨z0, z1⟩ := HM.out wk hk; go_simp; try rfl) ?_
            try simp only [Act.put, List.setIfInBounds_toArray, List.set_cons_zero, List.set_cons_succ]
            refine wpHold_take (i := 14) (v := _) (G15.out) rfl rfl (by kernel_rfl) (by kernel_rfl) (by kernel_rfl) (by kernel_rfl) (by kernel_rfl) (fun _ _ _ h => h) (by rfl) (fun wk hk => by obtain ⟨z0, z1⟩ := HM.out wk hk; go_simp; try rfl) ?_
            try simp only [Act.put, List.setIfInBounds_toArray, List.set_cons_zero, List.set_cons_succ]
            refine wpHold_take (i := 15) (v := _) (G15.out) rfl rfl (by kernel_rfl) (by kernel_rfl) (by kernel_rfl) (by kernel_rfl) (by kernel_rfl) (fun _ _ _ h => h) (by rfl) (fun wk hk => by obtain ⟨z0, z1⟩ := HM.out wk hk; go_simp; try rfl) ?_
            try simp only [Act.put, List.setIfInBounds_toArray, List.set_cons_zero, List.set_cons_succ]
            refine wpHold_take (i := 16) (v := _) (G15.out) rfl rfl (by kernel_rfl) (by kernel_rfl) (by kernel_rfl) (by kernel_rfl) (by kernel_rfl) (fun _ _ _ h => h) (by rfl) (fun wk hk => by obtain ⟨z0, z1⟩ := HM.out wk hk; go_simp; try rfl) ?_
            try simp only [Act.put, List.setIfInBounds_toArray, List.set_cons_zero, List.set_cons_succ]
            refine wpHold_take (i := 17) (v := _) (G15.out) rfl rfl (by kernel_rfl) (by kernel_rfl) (by kernel_rfl) (by kernel_rfl) (by kernel_rfl) (fun _ _ _ h => h) (by rfl) (fun wk hk => by obtain ⟨z0, z1⟩ := HM.out wk hk; go_simp; try rfl) ?_
            try simp only [Act.put, List.setIfInBounds_toArray, List.set_cons_zero, List.set_cons_succ]
            refine wpHold_take (i := 18) (v := _) (G15.out) rfl rfl (by kernel_rfl) (by kernel_rfl) (by kernel_rfl) (by kernel_rfl) (by kernel_rfl) (fun _ _ _ h => h) (by rfl) (fun wk hk => by obtain ⟨z0, z1⟩ := HM.out wk hk; go_simp; try rfl) ?_
            try simp only [Act.put, List.setIfInBounds_toArray, List.set_cons_zero, List.set_cons_succ]
            refine wpHold_one (i := 13) rfl (by kernel_rfl) (by rfl) (fun K hK => ?_)
            go_wp2_with fail
            obtain ⟨w16, hw16, H16⟩ := al w15 #[.slice fx mx qx, .slice fy my qy] 45
            rw [hw16]
            clear hw16
            have G16 : Hid (w14.grownBy w16 none) := grown_trans G15.out H16.out.2.1
            refine hK.out _ _ (fun _ => G16.out) ?_
            clear hK K
            try simp only [Act.put, List.setIfInBounds_toArray, List.set_cons_zero, List.set_cons_succ]
            refine wpHold_one (i := 19) rfl (by kernel_rfl) (by rfl) (fun K hK => ?_)
            go_wp2_with (go_at_call 15; refine (same15b _ _ [l[j]] [l[j]] true w16 (rws_one w16 H16.out.1 (HS.out.2.2.2.1.grown G16.out) (HS.out.2.2.2.2.grown G16.out)) (HP.out.grown G16.out) (decide_eq_true rfl)).mono ?_)
            rintro e w17 ⟨rfl, m17, hw17⟩
            rw [hw17]
            have G17 : Hid (w14.grownBy (w16.drewN m17) none) := grown_trans G16.out (grown_drewN _ _ _)
            generalize w16.drewN m17 = w18 at G17 ⊢
            clear hw17
            go_wp2_with fail
            refine hK.out _ _ (fun _ => G17.out) ?_
            clear hK K
            try simp only [Act.put, List.setIfInBounds_toArray, List.set_cons_zero, List.set_cons_succ]
            refine wpHold_take (i := 20) (v := _) (G17.out) rfl rfl (by kernel_rfl) (by kernel_rfl) (by kernel_rfl) (by kernel_rfl) (by kernel_rfl) (fun _ _ _ h => h) (by rfl) (fun wk hk => by obtain ⟨z0, z1⟩ := HM.out wk hk; go_simp; try rfl) ?_
            try simp only [Act.put, List.setIfInBounds_toArray, List.set_cons_zero, List.set_cons_succ]
            refine wpHold_take (i := 21) (v := _) (G17.out) rfl rfl (by kernel_rfl) (by kernel_rfl) (by kernel_rfl) (by kernel_rfl) (by kernel_rfl) (fun _ _ _ h => h) (by rfl) (fun wk hk => by obtain ⟨z0, z1⟩ := HM.out wk hk; go_simp; try rfl) ?_
            try simp only [Act.put, List.setIfInBounds_toArray, List.set_cons_zero, List.set_cons_succ]
            refine wpHold_done (by kernel_rfl) ?_
            refine (‹∀ (a : Act) (w : World), Code.wp Try.prog _ _ a w → _› _ _ ?_)
            clear hsl
            go_wp2_with fail
            go_roundw
            case rel => exact ⟨j + 1, by omega, by omega, by go_num, HS.out.1.grown G17.out, grown_trans HS.out.2.1 G17.out, HS.out.2.2.1.grown G17.out⟩
            case measure => simp [intOf]; omega
          · have HTL : Hid (Tb wr b l ∧ w.grownBy wr none) := ⟨HR.out.1, HR.out.2.1⟩
            clear HR
            by_cases g1 : (j : Int) < (n4 : Int)
            · have g2 : ¬ (j : Int) < 40 := by omega
              go_upto_region 21 with fail
              go_wp2_with fail
              refine (copy10 b l wr HTL.out.1).mono ?_
              rintro e w20 ⟨rfl, ht20, g20⟩
              obtain ⟨cb, hcb⟩ : ∃ c, wr.heap.size = c := ⟨_, rfl⟩
              rw [hcb] at ht20 ⊢
              have H20 : Hid (Tb w20 b l ∧ Tb w20 cb l ∧ w.grownBy w20 none ∧ w.heap.size ≤ cb ∧ b ≠ cb) := ⟨HTL.out.1.grown g20, ht20, grown_trans HTL.out.2 g20, by rw [← hcb]; exact HTL.out.2.size, by
                obtain ⟨_, hbb, _⟩ := HTL.out.1
                have := hbb.lt
                omega⟩
              clear ht20 g20 hcb HTL
              go_wp2_with fail
              refine (put17 cb _ _ l k x HG.out.1.1 HG.out.1.2.2 w20 H20.out.2.1 (HK.out.grown H20.out.2.2.1) (HX.out.grown H20.out.2.2.1)).mono ?_
              rintro e w21 ⟨rfl, ht21, g21⟩
              have H21 : Hid (Tb w21 b l ∧ Tb w21 cb (putA l k x) ∧ w.grownBy w21 none) := ⟨tb_off H20.out.1 H20.out.2.1 g21 H20.out.2.2.2.2, ht21, grown_new H20.out.2.2.1 g21 (fun q hq => by simp at hq; have := H20.out.2.2.2.1; omega)⟩
              have HCB : Hid (w.heap.size ≤ cb ∧ b ≠ cb) := H20.out.2.2.2
              clear ht21 g21 H20
              cases hok : okP k x
              · have HO : Hid (okP k x = false) := hok
                have e1 : putC k x = 2 := by unfold putC; rw [hok]; rfl
                have e2 : putA l k x = l := by unfold putA; rw [hok]; rfl
                rw [e1]
                rw [e2] at H21
                clear e1 e2 hok
                go_wp2_with (go_at_call 21; refine (num21 _ _).mono ?_; rintro e wx ⟨rfl, hx⟩; rw [hx]; clear hx)
                refine (same11 _ _ true true l l w21 H21.out.2.1.tl H21.out.1.tl).mono ?_
                rintro e w22 ⟨rfl, m22, hw22⟩
                rw [hw22, show (decide (true = true) && decide (l = l)) = true from by simp]
                clear hw22
                go_wp2_with fail
                go_ret
                exact ⟨rfl, grown_trans H21.out.2.2 (grown_drewN _ _ _)⟩
              · have HO : Hid (okP k x = true ∧ keyB k = true) := ⟨hok, by unfold okP at hok; simp at hok; exact hok.1⟩
                have e1 : putC k x = 0 := by unfold putC; rw [hok]; rfl
                have e2 : putA l k x = putL l k x := by unfold putA; rw [hok]; rfl
                have e3 : putB l k x = hasL l k := by unfold putB; rw [hok]; rfl
                rw [e1, e3]
                rw [e2] at H21
                have HGP : Hid (Good (putL l k x) ∧ gotL (putL l k x) k = x ∧ getC (putL l k x) k = 0) := ⟨good_put HG.out.1 hok (by have := HG.out.2; omega), got_put hok⟩
                clear e1 e2 e3 hok
                go_wp2_with (go_at_call 21; refine (num21 _ _).mono ?_; rintro e wx ⟨rfl, hx⟩; rw [hx]; clear hx)
                refine (get27 cb _ (putL l k x) k HGP.out.1.1 HGP.out.1.2.2 (good_vals HGP.out.1) w21 H21.out.2.1 (HK.out.grown H21.out.2.2)).mono ?_
                rintro e w22 ⟨x22, rfl, o22, g22⟩
                rw [HGP.out.2.2]
                rw [HGP.out.2.1] at o22
                have H22 : Hid (Tb w22 b l ∧ Tb w22 cb (putL l k x) ∧ w.grownBy w22 none ∧ Seg w22 x22 x) := ⟨H21.out.1.grown g22, H21.out.2.1.grown g22, grown_trans H21.out.2.2 g22, o22.seg⟩
                clear o22 g22 H21
                go_wp2_with fail
                refine (delete19 cb _ (putL l k x) k HGP.out.1.1 HGP.out.1.2.2 w22 H22.out.2.1 (HK.out.grown H22.out.2.2.1)).mono ?_
                rintro e w23 ⟨rfl, ht23, g23⟩
                rw [show delB (putL l k x) k = true from by unfold delB; rw [HO.out.2, has_put]; rfl, show delC k = 0 from by unfold delC; rw [HO.out.2]; rfl]
                rw [show delA (putL l k x) k = delL l k from by unfold delA; rw [HO.out.2, if_pos rfl, del_put]] at ht23
                have H23 : Hid (Tb w23 b l ∧ Tb w23 cb (delL l k) ∧ w.grownBy w23 none ∧ Seg w23 x22 x) := by
                  obtain ⟨q1, q2, q3, HQ, _⟩ := tb_open H22.out.2.1
                  exact ⟨tb_off H22.out.1 H22.out.2.1 g23 HCB.out.2, ht23, grown_new H22.out.2.2.1 g23 (fun q hq => by simp at hq; have := HCB.out.1; omega), off_seg g23 HQ.out.1 H22.out.2.2.2⟩
                clear ht23 g23 H22
                have HGD : Hid (Good (delL l k) ∧ getC (delL l k) k = 5) := ⟨good_del HG.out.1 k, got_del HG.out.1.1 HO.out.2⟩
                go_wp2_with fail
                refine (get27 cb _ (delL l k) k HGD.out.1.1 HGD.out.1.2.2 (good_vals HGD.out.1) w23 H23.out.2.1 (HK.out.grown H23.out.2.2.1)).mono ?_
                rintro e w24 ⟨x24, rfl, _, g24⟩
                rw [HGD.out.2]
                have H24 : Hid (Tb w24 b l ∧ Tb w24 cb (delL l k) ∧ w.grownBy w24 none ∧ Seg w24 x22 x) := ⟨H23.out.1.grown g24, H23.out.2.1.grown g24, grown_trans H23.out.2.2.1 g24, H23.out.2.2.2.grown g24⟩
                clear g24 H23
                have cs1 := seg_str H24.out.2.2.2
                have cs2 := seg_str (HX.out.grown H24.out.2.2.1)
                obtain ⟨X, hX⟩ : ∃ X, (⟨x.toArray⟩ : ByteArray) = X := ⟨_, rfl⟩
                rw [hX] at cs1 cs2
                clear hX
                go_wp2_with (go_at_call 21; refine (num21 _ _).mono ?_; rintro e wx ⟨rfl, hx⟩; rw [hx]; clear hx)
                refine (copy10 b l w24 H24.out.1).mono ?_
                rintro e w25 ⟨rfl, ht25, g25⟩
                have H25 : Hid (Tb w25 b l ∧ Tb w25 cb (delL l k) ∧ w.grownBy w25 none ∧ Tb w25 w24.heap.size l) := ⟨H24.out.1.grown g25, H24.out.2.1.grown g25, grown_trans H24.out.2.2.1 g25, ht25⟩
                clear ht25 g25 H24 cs1 cs2
                go_wp2_with fail
                refine (same11 _ _ true true l l w25 H25.out.1.tl H25.out.2.2.2.tl).mono ?_
                rintro e w26 ⟨rfl, m26, hw26⟩
                rw [hw26, show (decide (true = true) && decide (l = l)) = true from by simp]
                have H26 : Hid (Tb (w25.drewN m26) b l ∧ Tb (w25.drewN m26) cb (delL l k) ∧ w.grownBy (w25.drewN m26) none) := ⟨H25.out.1.grown (grown_drewN _ _ _), H25.out.2.1.grown (grown_drewN _ _ _), grown_trans H25.out.2.2.1 (grown_drewN _ _ _)⟩
                generalize w25.drewN m26 = w27 at H26 ⊢
                clear hw26 H25
                cases hh : hasL l k
                · have HD : Hid (delL l k = l) := del_none hh
                  rw [HD.out] at H26
                  clear hh
                  go_wp2_with fail
                  refine (same11 _ _ true true l l w27 H26.out.2.1.tl H26.out.1.tl).mono ?_
                  rintro e w28 ⟨rfl, m28, hw28⟩
                  rw [hw28, show (decide (true = true) && decide (l = l)) = true from by simp]
                  clear hw28
                  go_wp2_with fail
                  go_ret
                  exact ⟨rfl, grown_trans H26.out.2.2 (grown_drewN _ _ _)⟩
                · obtain ⟨hd1, hd2, hd3⟩ := del_ne hh
                  rw [HN.out] at hd1 hd2
                  have HD : Hid ((delL l k).length = n4 - 1 ∧ delL l k ≠ l) := ⟨hd1, hd3⟩
                  have hsub : (n4 : Int) - 1 = ((n4 - 1 : Nat) : Int) := by omega
                  clear hh hd1 hd3
                  go_wp2_with fail
                  refine (len23g _ true (delL l k) w27 H26.out.2.1.tl).mono ?_
                  rintro e w28 ⟨rfl, hw28⟩
                  rw [hw28, HD.out.1]
                  clear hw28
                  go_wp2_with fail
                  refine (same11 _ _ true true (delL l k) l w27 H26.out.2.1.tl H26.out.1.tl).mono ?_
                  rintro e w28 ⟨rfl, m28, hw28⟩
                  rw [hw28, show (decide (true = true) && decide (delL l k = l)) = false from by simp [HD.out.2]]
                  clear hw28
                  go_wp2_with fail
                  go_ret
                  exact ⟨rfl, grown_trans H26.out.2.2 (grown_drewN _ _ _)⟩
            · have g2 : True := trivial
              go_upto_region 21 with fail
              go_wp2_with fail
              refine (copy10 b l wr HTL.out.1).mono ?_
              rintro e w20 ⟨rfl, ht20, g20⟩
              obtain ⟨cb, hcb⟩ : ∃ c, wr.heap.size = c := ⟨_, rfl⟩
              rw [hcb] at ht20 ⊢
              have H20 : Hid (Tb w20 b l ∧ Tb w20 cb l ∧ w.grownBy w20 none ∧ w.heap.size ≤ cb ∧ b ≠ cb) := ⟨HTL.out.1.grown g20, ht20, grown_trans HTL.out.2 g20, by rw [← hcb]; exact HTL.out.2.size, by
                obtain ⟨_, hbb, _⟩ := HTL.out.1
                have := hbb.lt
                omega⟩
              clear ht20 g20 hcb HTL
              go_wp2_with fail
              refine (put17 cb _ _ l k x HG.out.1.1 HG.out.1.2.2 w20 H20.out.2.1 (HK.out.grown H20.out.2.2.1) (HX.out.grown H20.out.2.2.1)).mono ?_
              rintro e w21 ⟨rfl, ht21, g21⟩
              have H21 : Hid (Tb w21 b l ∧ Tb w21 cb (putA l k x) ∧ w.grownBy w21 none) := ⟨tb_off H20.out.1 H20.out.2.1 g21 H20.out.2.2.2.2, ht21, grown_new H20.out.2.2.1 g21 (fun q hq => by simp at hq; have := H20.out.2.2.2.1; omega)⟩
              have HCB : Hid (w.heap.size ≤ cb ∧ b ≠ cb) := H20.out.2.2.2
              clear ht21 g21 H20
              cases hok : okP k x
              · have HO : Hid (okP k x = false) := hok
                have e1 : putC k x = 2 := by unfold putC; rw [hok]; rfl
                have e2 : putA l k x = l := by unfold putA; rw [hok]; rfl
                rw [e1]
                rw [e2] at H21
                clear e1 e2 hok
                go_wp2_with (go_at_call 21; refine (num21 _ _).mono ?_; rintro e wx ⟨rfl, hx⟩; rw [hx]; clear hx)
                refine (same11 _ _ true true l l w21 H21.out.2.1.tl H21.out.1.tl).mono ?_
                rintro e w22 ⟨rfl, m22, hw22⟩
                rw [hw22, show (decide (true = true) && decide (l = l)) = true from by simp]
                clear hw22
                go_wp2_with fail
                go_ret
                exact ⟨rfl, grown_trans H21.out.2.2 (grown_drewN _ _ _)⟩
              · have HO : Hid (okP k x = true ∧ keyB k = true) := ⟨hok, by unfold okP at hok; simp at hok; exact hok.1⟩
                have e1 : putC k x = 0 := by unfold putC; rw [hok]; rfl
                have e2 : putA l k x = putL l k x := by unfold putA; rw [hok]; rfl
                have e3 : putB l k x = hasL l k := by unfold putB; rw [hok]; rfl
                rw [e1, e3]
                rw [e2] at H21
                have HGP : Hid (Good (putL l k x) ∧ gotL (putL l k x) k = x ∧ getC (putL l k x) k = 0) := ⟨good_put HG.out.1 hok (by have := HG.out.2; omega), got_put hok⟩
                clear e1 e2 e3 hok
                go_wp2_with (go_at_call 21; refine (num21 _ _).mono ?_; rintro e wx ⟨rfl, hx⟩; rw [hx]; clear hx)
                refine (get27 cb _ (putL l k x) k HGP.out.1.1 HGP.out.1.2.2 (good_vals HGP.out.1) w21 H21.out.2.1 (HK.out.grown H21.out.2.2)).mono ?_
                rintro e w22 ⟨x22, rfl, o22, g22⟩
                rw [HGP.out.2.2]
                rw [HGP.out.2.1] at o22
                have H22 : Hid (Tb w22 b l ∧ Tb w22 cb (putL l k x) ∧ w.grownBy w22 none ∧ Seg w22 x22 x) := ⟨H21.out.1.grown g22, H21.out.2.1.grown g22, grown_trans H21.out.2.2 g22, o22.seg⟩
                clear o22 g22 H21
                go_wp2_with fail
                refine (delete19 cb _ (putL l k x) k HGP.out.1.1 HGP.out.1.2.2 w22 H22.out.2.1 (HK.out.grown H22.out.2.2.1)).mono ?_
                rintro e w23 ⟨rfl, ht23, g23⟩
                rw [show delB (putL l k x) k = true from by unfold delB; rw [HO.out.2, has_put]; rfl, show delC k = 0 from by unfold delC; rw [HO.out.2]; rfl]
                rw [show delA (putL l k x) k = delL l k from by unfold delA; rw [HO.out.2, if_pos rfl, del_put]] at ht23
                have H23 : Hid (Tb w23 b l ∧ Tb w23 cb (delL l k) ∧ w.grownBy w23 none ∧ Seg w23 x22 x) := by
                  obtain ⟨q1, q2, q3, HQ, _⟩ := tb_open H22.out.2.1
                  exact ⟨tb_off H22.out.1 H22.out.2.1 g23 HCB.out.2, ht23, grown_new H22.out.2.2.1 g23 (fun q hq => by simp at hq; have := HCB.out.1; omega), off_seg g23 HQ.out.1 H22.out.2.2.2⟩
                clear ht23 g23 H22
                have HGD : Hid (Good (delL l k) ∧ getC (delL l k) k = 5) := ⟨good_del HG.out.1 k, got_del HG.out.1.1 HO.out.2⟩
                go_wp2_with fail
                refine (get27 cb _ (delL l k) k HGD.out.1.1 HGD.out.1.2.2 (good_vals HGD.out.1) w23 H23.out.2.1 (HK.out.grown H23.out.2.2.1)).mono ?_
                rintro e w24 ⟨x24, rfl, _, g24⟩
                rw [HGD.out.2]
                have H24 : Hid (Tb w24 b l ∧ Tb w24 cb (delL l k) ∧ w.grownBy w24 none ∧ Seg w24 x22 x) := ⟨H23.out.1.grown g24, H23.out.2.1.grown g24, grown_trans H23.out.2.2.1 g24, H23.out.2.2.2.grown g24⟩
                clear g24 H23
                have cs1 := seg_str H24.out.2.2.2
                have cs2 := seg_str (HX.out.grown H24.out.2.2.1)
                obtain ⟨X, hX⟩ : ∃ X, (⟨x.toArray⟩ : ByteArray) = X := ⟨_, rfl⟩
                rw [hX] at cs1 cs2
                clear hX
                go_wp2_with (go_at_call 21; refine (num21 _ _).mono ?_; rintro e wx ⟨rfl, hx⟩; rw [hx]; clear hx)
                refine (copy10 b l w24 H24.out.1).mono ?_
                rintro e w25 ⟨rfl, ht25, g25⟩
                have H25 : Hid (Tb w25 b l ∧ Tb w25 cb (delL l k) ∧ w.grownBy w25 none ∧ Tb w25 w24.heap.size l) := ⟨H24.out.1.grown g25, H24.out.2.1.grown g25, grown_trans H24.out.2.2.1 g25, ht25⟩
                clear ht25 g25 H24 cs1 cs2
                go_wp2_with fail
                refine (same11 _ _ true true l l w25 H25.out.1.tl H25.out.2.2.2.tl).mono ?_
                rintro e w26 ⟨rfl, m26, hw26⟩
                rw [hw26, show (decide (true = true) && decide (l = l)) = true from by simp]
                have H26 : Hid (Tb (w25.drewN m26) b l ∧ Tb (w25.drewN m26) cb (delL l k) ∧ w.grownBy (w25.drewN m26) none) := ⟨H25.out.1.grown (grown_drewN _ _ _), H25.out.2.1.grown (grown_drewN _ _ _), grown_trans H25.out.2.2.1 (grown_drewN _ _ _)⟩
                generalize w25.drewN m26 = w27 at H26 ⊢
                clear hw26 H25
                cases hh : hasL l k
                · have HD : Hid (delL l k = l) := del_none hh
                  rw [HD.out] at H26
                  clear hh
                  go_wp2_with fail
                  refine (same11 _ _ true true l l w27 H26.out.2.1.tl H26.out.1.tl).mono ?_
                  rintro e w28 ⟨rfl, m28, hw28⟩
                  rw [hw28, show (decide (true = true) && decide (l = l)) = true from by simp]
                  clear hw28
                  go_wp2_with fail
                  go_ret
                  exact ⟨rfl, grown_trans H26.out.2.2 (grown_drewN _ _ _)⟩
                · obtain ⟨hd1, hd2, hd3⟩ := del_ne hh
                  rw [HN.out] at hd1 hd2
                  have HD : Hid ((delL l k).length = n4 - 1 ∧ delL l k ≠ l) := ⟨hd1, hd3⟩
                  have hsub : (n4 : Int) - 1 = ((n4 - 1 : Nat) : Int) := by omega
                  clear hh hd1 hd3
                  go_wp2_with fail
                  refine (len23g _ true (delL l k) w27 H26.out.2.1.tl).mono ?_
                  rintro e w28 ⟨rfl, hw28⟩
                  rw [hw28, HD.out.1]
                  clear hw28
                  go_wp2_with fail
                  refine (same11 _ _ true true (delL l k) l w27 H26.out.2.1.tl H26.out.1.tl).mono ?_
                  rintro e w28 ⟨rfl, m28, hw28⟩
                  rw [hw28, show (decide (true = true) && decide (delL l k = l)) = false from by simp [HD.out.2]]
                  clear hw28
                  go_wp2_with fail
                  go_ret
                  exact ⟨rfl, grown_trans H26.out.2.2 (grown_drewN _ _ _)⟩
    · have H3 : Hid (w.grownBy w3 none) := grown_trans G2.out g3
      clear g3
      go_wp2_with (go_at_call 21; refine (num21 _ _).mono ?_; rintro e wx ⟨rfl, hx⟩; rw [hx]; clear hx)
      go_ret
      exact ⟨rfl, H3.out⟩
end Go.Proofs.Ytlehikdlkdbacaa
