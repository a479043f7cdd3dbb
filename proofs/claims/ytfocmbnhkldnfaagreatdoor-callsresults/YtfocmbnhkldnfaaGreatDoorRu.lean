/-
  The document's ReadResult.
-/
import Derived.Test.YtfocmbnhkldnfaaGreatDoorRs
import Derived.Test.YtfocmbnhkldnfaaGreatDoorRt
import Derived.Deep.DeepCutAuto
namespace Go.Proofs.YtfocmbnhkldnfaaGreatDoor
open Go.RowKit Disk
open Names (Str)

def NumP (d ob : Nat) (ao : Option Addr) (cap : Nat) (L : Bs) (k : Nat) (b : Bool) (w : World) (e : Ending) (w' : World) : Prop := ∃ n k' b', e = .returned (.int .i64 ((n : Nat) : Int)) ∧ n < 1073741824 ∧ DkPost d ob ao cap L k' b' w w' ∧ NS L k b n k' b'
def PieceP (d ob : Nat) (ao : Option Addr) (cap : Nat) (L : Bs) (k : Nat) (b : Bool) (w : World) (e : Ending) (w' : World) : Prop := ∃ v out k' b', e = .returned v ∧ Own w' w.heap.size v out ∧ DkPost d ob ao cap L k' b' w w' ∧ PS L k b out k' b'
def FlagP (d ob : Nat) (ao : Option Addr) (cap : Nat) (L : Bs) (k : Nat) (b : Bool) (w : World) (e : Ending) (w' : World) : Prop := ∃ is k' b', e = .returned (.bool is) ∧ DkPost d ob ao cap L k' b' w w' ∧ FS L k b is k' b'
theorem number49s (d ob : Nat) (ao : Option Addr) (cap : Nat) (L : Bs) (k : Nat) (b : Bool) (w : World) (h : RK w d ob ao cap L k b) : Calls Tryz.prog 49 #[.pointer (some ⟨d, 0, none⟩), .pointer (some ⟨ob, 0, none⟩)] w (NumP d ob ao cap L k b w) := number49 d ob ao cap L k b w h
theorem piece63s (d ob : Nat) (ao : Option Addr) (cap : Nat) (L : Bs) (k : Nat) (b : Bool) (w : World) (h : RK w d ob ao cap L k b) : Calls Tryz.prog 63 #[.pointer (some ⟨d, 0, none⟩), .pointer (some ⟨ob, 0, none⟩)] w (PieceP d ob ao cap L k b w) := piece63 d ob ao cap L k b w h
theorem flag62s (d ob : Nat) (ao : Option Addr) (cap : Nat) (L : Bs) (k : Nat) (b : Bool) (w : World) (h : RK w d ob ao cap L k b) : Calls Tryz.prog 62 #[.pointer (some ⟨d, 0, none⟩), .pointer (some ⟨ob, 0, none⟩)] w (FlagP d ob ao cap L k b w) := flag62 d ob ao cap L k b w h

set_option maxRecDepth 100000 in
set_option maxHeartbeats 16000000 in
theorem read29 (v : Value) (L : Bs) (w : World) (hs : Seg w v L) (hz : L.length ≤ 10000) : Calls Tryz.prog 29 #[v] w (ReadRPost w (readR L)) := by
  have hs0 := hs
  obtain ⟨ao, cap, e⟩ := hs.shape
  subst e
  obtain ⟨lm, hlm⟩ : ∃ m, L.length = m := ⟨_, rfl⟩
  have HS : Hid (Seg w (.slice ao L.length cap) L ∧ L.length = lm ∧ L.length ≤ 10000) := ⟨hs0, hlm, hz⟩
  rw [hlm]
  clear hs hs0 hlm hz
  go_enter Tryz.func29, Tryz.ntmps29
  go_upto_region 3 with fail
  have S0 : Hid (Blk (((w.alloc (.cells #[.int .i64 0, .int .i64 0, .slice none 0 0] 51)).alloc (.cells #[.slice ao lm cap, .int .i64 0] 89)).alloc (.cells #[.bool true] 4)) w.heap.size 51 #[.int .i64 0, .int .i64 0, .slice none 0 0] ∧ RK (((w.alloc (.cells #[.int .i64 0, .int .i64 0, .slice none 0 0] 51)).alloc (.cells #[.slice ao lm cap, .int .i64 0] 89)).alloc (.cells #[.bool true] 4)) (w.heap.size + 1) (w.heap.size + 1 + 1) ao cap L 0 true ∧ w.grownBy (((w.alloc (.cells #[.int .i64 0, .int .i64 0, .slice none 0 0] 51)).alloc (.cells #[.slice ao lm cap, .int .i64 0] 89)).alloc (.cells #[.bool true] 4)) none) := by
    have b0 := heap_alloc_new w (.cells #[.int .i64 0, .int .i64 0, .slice none 0 0] 51)
    have b1 := heap_alloc_new (w.alloc (.cells #[.int .i64 0, .int .i64 0, .slice none 0 0] 51)) (.cells #[.slice ao lm cap, .int .i64 0] 89)
    have b2 := heap_alloc_new ((w.alloc (.cells #[.int .i64 0, .int .i64 0, .slice none 0 0] 51)).alloc (.cells #[.slice ao lm cap, .int .i64 0] 89)) (.cells #[.bool true] 4)
    have g0 := World.grownBy_alloc w (.cells #[.int .i64 0, .int .i64 0, .slice none 0 0] 51) none
    have g1 := World.grownBy_alloc (w.alloc (.cells #[.int .i64 0, .int .i64 0, .slice none 0 0] 51)) (.cells #[.slice ao lm cap, .int .i64 0] 89) none
    have g2 := World.grownBy_alloc ((w.alloc (.cells #[.int .i64 0, .int .i64 0, .slice none 0 0] 51)).alloc (.cells #[.slice ao lm cap, .int .i64 0] 89)) (.cells #[.bool true] 4) none
    have ga := grown_trans g0 (grown_trans g1 g2)
    refine ⟨Blk.grown b0 (grown_trans g1 g2) (by simp), ⟨HS.out.1.grown ga, ?_, ?_, by omega, HS.out.2.2⟩, ga⟩
    · have := Blk.grown b1 g2 (by simp)
      rw [HS.out.2.1]
      simpa [Blk] using this
    · simpa [Blk] using b2
  generalize (((w.alloc (.cells #[.int .i64 0, .int .i64 0, .slice none 0 0] 51)).alloc (.cells #[.slice ao lm cap, .int .i64 0] 89)).alloc (.cells #[.bool true] 4)) = W0 at S0 ⊢
  obtain ⟨d, hd⟩ : ∃ d, w.heap.size + 1 = d := ⟨_, rfl⟩
  rw [hd] at S0 ⊢
  obtain ⟨ob, hob⟩ : ∃ d', d + 1 = d' := ⟨_, rfl⟩
  rw [hob] at S0 ⊢
  have HLO : Hid (w.heap.size < d ∧ w.heap.size < ob) := ⟨by omega, by omega⟩
  clear hd hob
  go_wp2_with (go_at_call 49; refine (number49s d ob ao cap L 0 true _ S0.out.2.1).mono ?_)
  rintro e w1 ⟨a, k1, b1, rfl, ha, ⟨hrk, hfr⟩, hS⟩
  obtain ⟨X, hX⟩ : ∃ X, w1.heap.size = X := ⟨_, rfl⟩
  have D0 : Hid (Ds w X d ob ao cap L (a : Int) 0 (.slice none 0 0) [] k1 b1 (w1.alloc (.cells #[.int .i64 (a : Int), .int .i64 0, .slice none 0 0] 51)) ∧ T0 L a k1 b1) := by
    have hg := World.grownBy_alloc w1 (.cells #[.int .i64 (a : Int), .int .i64 0, .slice none 0 0] 51) none
    have gw := rfr_grown S0.out.2.2 hfr (by have := HLO.out; omega) (by have := HLO.out; omega)
    refine ⟨⟨⟨lrow_nil _ _, by simp⟩, (blk_fr S0.out.1 S0.out.2.1 hfr (by decide) (by decide)).grown hg (by simp), by rw [← hX]; exact heap_alloc_new _ _, hrk.grown hg, grown_trans gw hg, HS.out.1, HLO.out.1, HLO.out.2, ?_⟩, t0_of hS⟩
    have h1 := hrk.rf.lt
    have h2 := HLO.out.1
    omega
  clear hrk hfr hS S0
  go_upto_if 21 with fail
  try rw [hX]
  generalize (w1.alloc (.cells #[.int .i64 (a : Int), .int .i64 0, .slice none 0 0] 51)) = W1 at D0 ⊢
  clear hX
  go_cut [] (fun wc => ∃ (ab pl : Int) (v : Value) (xs : List POut) (k : Nat) (b : Bool), Ds w X d ob ao cap L ab pl v xs k b wc ∧ TF L ab pl xs b)
  case first =>
    by_cases h0 : a = 0
    · subst h0
      go_wp2_with (go_at_call 49; refine (number49s d ob ao cap L k1 b1 _ D0.out.1.rk).mono ?_)
      rintro e w2 ⟨n, k2, b2, rfl, hn, ⟨hrk, hfr⟩, hS⟩
      have D1 : Hid (Ds w X d ob ao cap L 0 0 (.slice none 0 0) [] k2 b2 w2 ∧ TN L n ∧ T1 L n 0 [] k2 b2) := ⟨D0.out.1.fr hrk hfr, t1_start D0.out.2 hS⟩
      clear hrk hfr hS D0
      go_wp2_with fail
      go_loopw [8] (fun i wr => ∃ (k k' : Nat) (b : Bool) (xs : List POut) (v : Value), k ≤ 17 ∧ k ≤ n ∧ i = .int .i64 k ∧ Hid (xs.length = k) ∧ Hid (T1 L n k xs k' b) ∧ Hid (Ds w X d ob ao cap L 0 0 v xs k' b wr)) (fun i _ => 17 - (intOf i).toNat)
      case atStart => exact ⟨0, k2, b2, [], _, by omega, by omega, rfl, rfl, D1.out.2.2, D1.out.1⟩
      case round =>
        obtain ⟨Wi, hWi⟩ : ∃ W : World, W = wr := ⟨_, rfl⟩
        subst hWi
        obtain ⟨k, k', b, xs, v, hk17, hkn, rfl, HX, HT, HO⟩ := hrel
        obtain ⟨xa, na, ya, rfl, hna⟩ := HO.out.outs.slice
        clear hna
        obtain ⟨gb, hgb⟩ : ∃ x, decide (k < n ∧ k ≤ 16 ∧ b = true) = x := ⟨_, rfl⟩
        have HGB : Hid (decide (k < n ∧ k ≤ 16 ∧ b = true) = gb) := hgb
        clear hgb
        have co : Wi.cell? ⟨ob, 0, none⟩ = some (.bool b) := HO.out.rk.ok.cell 0
        go_upto_region 8 with fail
        go_cut [36] (fun x wc => x = .bool gb ∧ wc = Wi)
        case first =>
          by_cases h1 : (k : Int) < (n : Int)
          · by_cases h2 : (k : Int) ≤ 16
            · go_wp2_with fail
              go_meet
              case rel => exact ⟨by rw [← HGB.out]; cases b <;> simp <;> omega, rfl⟩
            · go_wp2_with fail
              go_meet
              case rel => exact ⟨by rw [← HGB.out]; simp; omega, rfl⟩
          · go_wp2_with fail
            go_meet
            case rel => exact ⟨by rw [← HGB.out]; simp; omega, rfl⟩
        case rest =>
          obtain ⟨rfl, hwc⟩ := hcut
          rw [hwc]
          clear hwc co
          refine (‹∀ (a : Act) (w : World), Code.wp Tryz.prog _ _ a w → _› _ _ ?_)
          cases gb with
          | true =>
            have hgo : k < n ∧ k ≤ 16 ∧ b = true := by simpa using HGB.out
            obtain ⟨hgo1, hgo2, rfl⟩ := hgo
            clear HGB
            go_wp2_with (go_at_call 62; refine (flag62s d ob ao cap L k' true _ HO.out.rk).mono ?_)
            rintro e w3 ⟨is, k3, b3, rfl, ⟨hrk3, hfr3⟩, hS3⟩
            have D3 : Hid (Ds w X d ob ao cap L 0 0 (.slice xa na ya) xs k3 b3 w3 ∧ Fr Wi w3 (RF d ob) ∧ FS L k' true is k3 b3) := ⟨HO.out.fr hrk3 hfr3, hfr3, hS3⟩
            clear hrk3 hfr3 hS3
            go_wp2_with (go_at_call 63; refine (piece63s d ob ao cap L k3 b3 _ D3.out.1.rk).mono ?_)
            rintro e w4 ⟨vx, vl, k4, b4, rfl, ho4, ⟨hrk4, hfr4⟩, hS4⟩
            obtain ⟨x4, n4, y4, rfl⟩ := slice_of ho4
            obtain ⟨Y, hY⟩ : ∃ Y, w4.heap.size = Y := ⟨_, rfl⟩
            have D4 : Hid (Di w X d ob ao cap L (.slice xa na ya) xs Wi Y is (.slice x4 n4 y4) vl (.slice none 0 0) [] k4 b4 (w4.alloc (.cells #[.bool is, .slice x4 n4 y4, .slice none 0 0] 54)) ∧ PS L k3 b3 vl k4 b4) := by
              have hg := World.grownBy_alloc w4 (.cells #[.bool is, .slice x4 n4 y4, .slice none 0 0] 54) none
              refine ⟨⟨⟨k', true, HO.out⟩, fr_t (fr_t D3.out.2.1 hfr4) (fr_n hg), hrk4.grown hg, (ho4.mono D3.out.2.1.size).grown hg, ⟨lrow_nil _ _, by simp⟩, by rw [← hY]; exact heap_alloc_new _ _, ?_⟩, hS4⟩
              have h1 := D3.out.2.1.size
              have h2 := hfr4.size
              omega
            clear ho4 hrk4 hfr4 hS4
            go_wp2_with (go_at_call 49; refine (number49s d ob ao cap L k4 b4 _ D4.out.1.rk).mono ?_)
            rintro e w5 ⟨m, k5, b5, rfl, hm, ⟨hrk5, hfr5⟩, hS5⟩
            try rw [hY]
            have D5 : Hid (Di w X d ob ao cap L (.slice xa na ya) xs Wi Y is (.slice x4 n4 y4) vl (.slice none 0 0) [] k5 b5 w5 ∧ T2 L k is vl m 0 [] k5 b5) := ⟨D4.out.1.step hrk5 hfr5, t2_start HT.out D3.out.2.2 D4.out.2 hS5⟩
            clear hrk5 hfr5 hS5 D3 D4 hY
            go_wp2_with fail
            go_loopw [11] (fun i wr => ∃ (j kk : Nat) (bb : Bool) (rs : List PRow) (vr : Value), j ≤ 65 ∧ j ≤ m ∧ i = .int .i64 j ∧ Hid (rs.length = j) ∧ Hid (T2 L k is vl m j rs kk bb) ∧ Hid (Di w X d ob ao cap L (.slice xa na ya) xs Wi Y is (.slice x4 n4 y4) vl vr rs kk bb wr)) (fun i _ => 65 - (intOf i).toNat)
            case atStart => exact ⟨0, k5, b5, [], _, by omega, by omega, rfl, rfl, D5.out.2, D5.out.1⟩
            case round =>
              obtain ⟨j, kk, bb, rs, vr, hj65, hjm, rfl, HJL, HT2, HI⟩ := hrel
              clear D5
              obtain ⟨xr, nr, yr, rfl, hnr⟩ := HI.out.rows.slice
              clear hnr
              obtain ⟨gc, hgc⟩ : ∃ x, decide (j < m ∧ j ≤ 64 ∧ bb = true) = x := ⟨_, rfl⟩
              have HGC : Hid (decide (j < m ∧ j ≤ 64 ∧ bb = true) = gc) := hgc
              clear hgc
              have co : wr.cell? ⟨ob, 0, none⟩ = some (.bool bb) := HI.out.rk.ok.cell 0
              go_upto_region 13 with fail
              go_cut [55] (fun x wc => x = .bool gc ∧ wc = wr)
              case first =>
                by_cases h1 : (j : Int) < (m : Int)
                · by_cases h2 : (j : Int) ≤ 64
                  · go_wp2_with fail
                    go_meet
                    case rel => exact ⟨by rw [← HGC.out]; cases bb <;> simp <;> omega, rfl⟩
                  · go_wp2_with fail
                    go_meet
                    case rel => exact ⟨by rw [← HGC.out]; simp; omega, rfl⟩
                · go_wp2_with fail
                  go_meet
                  case rel => exact ⟨by rw [← HGC.out]; simp; omega, rfl⟩
              case rest =>
                obtain ⟨rfl, hwc⟩ := hcut
                rw [hwc]
                clear hwc co
                refine (‹∀ (a : Act) (w : World), Code.wp Tryz.prog _ _ a w → _› _ _ ?_)
                cases gc with
                | true =>
                  have hgo : j < m ∧ j ≤ 64 ∧ bb = true := by simpa using HGC.out
                  obtain ⟨hj1, hj2, rfl⟩ := hgo
                  clear HGC
                  go_wp2_with (go_at_call 63; refine (piece63s d ob ao cap L kk true _ HI.out.rk).mono ?_)
                  rintro e w6 ⟨vk, ky, k6, b6, rfl, ho6, ⟨hrk6, hfr6⟩, hS6⟩
                  obtain ⟨x6, n6, y6, rfl⟩ := slice_of ho6
                  have I6 : Hid (Di w X d ob ao cap L (.slice xa na ya) xs Wi Y is (.slice x4 n4 y4) vl (.slice xr nr yr) rs k6 b6 w6 ∧ Own w6 Wi.heap.size (.slice x6 n6 y6) ky ∧ PS L kk true ky k6 b6) := ⟨HI.out.step hrk6 hfr6, ho6.mono HI.out.fr.size, hS6⟩
                  clear ho6 hrk6 hfr6 hS6
                  go_upto_region 16 with fail
                  refine wp_region_hold 9 (fun x => x.cell? ⟨Y, 2, none⟩ = some (.slice xr nr yr)) (by kernel_rfl) ?_
                  have G0 : Hid (Di w X d ob ao cap L (.slice xa na ya) xs Wi Y is (.slice x4 n4 y4) vl (.slice xr nr yr) rs k6 b6 w6.drew ∧ Own w6.drew Wi.heap.size (.slice x6 n6 y6) ky) := ⟨I6.out.1.more (grown_drew _ _), I6.out.2.1.grown (grown_drew _ _)⟩
                  generalize w6.drew = wd at G0 ⊢
                  refine wt (i := 0) (G0.out.1.y.cell 2) rfl rfl (fun wk hk => by skip; go_simp; try rfl) ?_
                  try simp only [pN]
                  refine wt (i := 1) (G0.out.1.y.cell 2) rfl rfl (fun wk hk => by skip; go_simp; try rfl) ?_
                  try simp only [pN]
                  refine wt (i := 2) (G0.out.1.y.cell 2) rfl rfl (fun wk hk => by skip; go_simp; try rfl) ?_
                  try simp only [pN]
                  refine wt (i := 3) (G0.out.1.y.cell 2) rfl rfl (fun wk hk => by skip; go_simp; try rfl) ?_
                  try simp only [pN]
                  refine wpHold_one (i := 4) rfl (by kernel_rfl) (by rfl) (fun K hK => ?_)
                  go_wp2_with (go_at_call 63; refine (piece63s d ob ao cap L k6 b6 _ G0.out.1.rk).mono ?_)
                  rintro e w7 ⟨vv, va, k7, b7, rfl, ho7, ⟨hrk7, hfr7⟩, hS7⟩
                  obtain ⟨x7, n7, y7, rfl⟩ := slice_of ho7
                  have I7 : Hid ((Di w X d ob ao cap L (.slice xa na ya) xs Wi Y is (.slice x4 n4 y4) vl (.slice xr nr yr) rs k7 b7 w7 ∧ RowOwn w7 Wi.heap.size (.slice x6 n6 y6) (.slice x7 n7 y7) (ky, va)) ∧ T2 L k is vl m (j + 1) (rs ++ [(ky, va)]) k7 b7) := ⟨⟨G0.out.1.step hrk7 hfr7, own_fr G0.out.2 G0.out.1.rk hfr7, ho7.mono G0.out.1.fr.size⟩, t2_next HT2.out I6.out.2.2 hS7⟩
                  clear ho7 hrk7 hfr7 hS7 G0 I6
                  go_wp2_with fail
                  refine hK.out _ _ (fun _ => I7.out.1.1.y.cell 2) ?_
                  clear hK K
                  try simp only [pN]
                  refine wt (i := 5) (I7.out.1.1.y.cell 2) rfl rfl (fun wk hk => by skip; go_simp; try rfl) ?_
                  try simp only [pN]
                  refine wpHold_one (i := 6) rfl (by kernel_rfl) (by rfl) (fun K hK => ?_)
                  go_wp2_with fail
                  have I8 : Hid (Di w X d ob ao cap L (.slice xa na ya) xs Wi Y is (.slice x4 n4 y4) vl (.slice xr nr yr) rs k7 b7 (w7.alloc (.cells #[.slice x6 n6 y6, .slice x7 n7 y7] 56)) ∧ RowOwn (w7.alloc (.cells #[.slice x6 n6 y6, .slice x7 n7 y7] 56)) Wi.heap.size (.slice x6 n6 y6) (.slice x7 n7 y7) (ky, va) ∧ Blk (w7.alloc (.cells #[.slice x6 n6 y6, .slice x7 n7 y7] 56)) w7.heap.size 56 #[.slice x6 n6 y6, .slice x7 n7 y7]) := by
                    have hg := World.grownBy_alloc w7 (.cells #[.slice x6 n6 y6, .slice x7 n7 y7] 56) none
                    exact ⟨I7.out.1.1.more hg, I7.out.1.2.grown hg, heap_alloc_new _ _⟩
                  refine hK.out _ _ (fun _ => I8.out.1.y.cell 2) ?_
                  clear hK K
                  try simp only [pN]
                  refine wpHold_one (i := 7) rfl (by kernel_rfl) (by rfl) (fun K hK => ?_)
                  refine app56_wp _ (.tmp 61) (.tmp 66) rfl Wi.heap.size (.slice xr nr yr) rs (ky, va) _ _ _ rfl rfl I8.out.1.rows I8.out.2.2 I8.out.2.1 (by have := HJL.out; omega) I8.out.1.fr.size ?_
                  intro g' cap' w9 o9 g9 l9
                  have I9 : Hid (Di w X d ob ao cap L (.slice xa na ya) xs Wi Y is (.slice x4 n4 y4) vl (.slice (some ⟨g', 0, none⟩) (rs.length + 1) cap') (rs ++ [(ky, va)]) k7 b7 (w9.setCell ⟨Y, 2, none⟩ (.slice (some ⟨g', 0, none⟩) (rs.length + 1) cap')) ∧ Blk w9 Y 54 #[.bool is, .slice x4 n4 y4, .slice xr nr yr]) := by
                    refine ⟨I8.out.1.next g9 o9, I8.out.1.y.grown g9 (fun e => ?_)⟩
                    obtain ⟨⟨vs, hvs, _⟩, _⟩ := I8.out.1.rows
                    obtain ⟨cur, hc⟩ := owns_blk hvs e
                    exact absurd (blk_type I8.out.1.y hc) (by decide)
                  clear o9 g9 l9 I8
                  rw [HJL.out] at I9 ⊢
                  refine hK.out _ _ (fun _ => I9.out.2.cell 2) ?_
                  clear hK K
                  try simp only [pN]
                  refine wt (i := 8) (I9.out.2.cell 2) rfl rfl (fun wk hk => by skip; go_simp; try rfl) ?_
                  try simp only [pN]
                  refine wpHold_one (i := 9) rfl (by kernel_rfl) (by rfl) (fun K hK => ?_)
                  have cc := I9.out.2.cell 2
                  have zz := I9.out.2.free 2
                  go_wp2_with fail
                  refine hK.out _ _ (fun h => absurd rfl h) ?_
                  clear hK K cc zz
                  try simp only [pN]
                  refine wpHold_done (by kernel_rfl) ?_
                  refine (‹∀ (a : Act) (w : World), Code.wp Tryz.prog _ _ a w → _› _ _ ?_)
                  go_wp2_with fail
                  go_roundw
                  case rel => exact ⟨j + 1, k7, b7, rs ++ [(ky, va)], _, by omega, by omega, by go_num, by have h := HJL.out; unfold Hid; rw [List.length_append, h]; rfl, I7.out.2, I9.out.1⟩
                  case measure => simp [intOf]; omega
                | false =>
                  have hgo : ¬ (j < m ∧ j ≤ 64 ∧ bb = true) := by simpa using HGC.out
                  have HTN : Hid (T1 L n (k + 1) (xs ++ [⟨is, vl, rs⟩]) kk bb) := t1_next HT.out HT2.out hjm hgo
                  clear HGC hgo
                  have HF : Hid (Ds w X d ob ao cap L 0 0 (.slice xa na ya) xs kk bb wr ∧ OutOwn wr w.heap.size (.slice x4 n4 y4) (.slice xr nr yr) ⟨is, vl, rs⟩ ∧ Blk wr Y 54 #[.bool is, .slice x4 n4 y4, .slice xr nr yr]) := ⟨HI.out.full, ⟨HI.out.val.mono HO.out.grown.size, HI.out.rows.mono HO.out.grown.size⟩, HI.out.y⟩
                  have q0 := HF.out.1.x.cell 2
                  have q1 := HF.out.2.2.cell 0
                  have q2 := HF.out.2.2.cell 1
                  have q3 := HF.out.2.2.cell 2
                  have HX1 : Hid (OutsOwn (wr.alloc (.cells #[.bool is, .slice x4 n4 y4, .slice xr nr yr] 54)) w.heap.size (.slice xa na ya) xs ∧ Blk (wr.alloc (.cells #[.bool is, .slice x4 n4 y4, .slice xr nr yr] 54)) wr.heap.size 54 #[.bool is, .slice x4 n4 y4, .slice xr nr yr] ∧ OutOwn (wr.alloc (.cells #[.bool is, .slice x4 n4 y4, .slice xr nr yr] 54)) w.heap.size (.slice x4 n4 y4) (.slice xr nr yr) ⟨is, vl, rs⟩ ∧ w.heap.size ≤ (wr.alloc (.cells #[.bool is, .slice x4 n4 y4, .slice xr nr yr] 54)).heap.size) := by
                    have hg := World.grownBy_alloc wr (.cells #[.bool is, .slice x4 n4 y4, .slice xr nr yr] 54) none
                    exact ⟨HF.out.1.outs.grown hg, heap_alloc_new _ _, HF.out.2.1.grown hg, Nat.le_trans HF.out.1.grown.size hg.size⟩
                  go_wp2_with (at_builtin; refine app54 _ rfl (.tmp 70) (.tmp 72) rfl w.heap.size (.slice xa na ya) xs ⟨is, vl, rs⟩ _ _ _ rfl rfl HX1.out.1 HX1.out.2.1 HX1.out.2.2.1 (by have := HX.out; omega) HX1.out.2.2.2 ?_)
                  intro g' cap' w9 o9 g9 l9
                  clear q0 q1 q2 q3
                  have hF2 : Ds w X d ob ao cap L 0 0 (.slice xa na ya) xs kk bb (wr.alloc (.cells #[.bool is, .slice x4 n4 y4, .slice xr nr yr] 54)) := HF.out.1.more (World.grownBy_alloc _ _ none)
                  have I9 : Hid (Ds w X d ob ao cap L 0 0 (.slice (some ⟨g', 0, none⟩) (xs.length + 1) cap') (xs ++ [⟨is, vl, rs⟩]) kk bb (w9.setCell ⟨X, 2, none⟩ (.slice (some ⟨g', 0, none⟩) (xs.length + 1) cap')) ∧ Blk w9 X 51 #[.int .i64 0, .int .i64 0, .slice xa na ya]) := by
                    refine ⟨hF2.next g9 o9, hF2.x.grown g9 (fun e => ?_)⟩
                    obtain ⟨⟨vs, hvs, _⟩, _⟩ := hF2.outs
                    obtain ⟨cur, hc⟩ := owns_blk hvs e
                    exact absurd (blk_type hF2.x hc) (by decide)
                  clear o9 g9 l9 hF2 HX1
                  rw [HX.out] at I9
                  have cc := I9.out.2.cell 2
                  have zz := I9.out.2.free 2
                  try rw [HX.out]
                  go_wp2_with fail
                  go_roundw
                  case rel => exact ⟨k + 1, kk, bb, xs ++ [(⟨is, vl, rs⟩ : POut)], .slice (some ⟨g', 0, none⟩) (k + 1) cap', by omega, by omega, by go_num, by have h := HX.out; unfold Hid; rw [List.length_append, h]; rfl, HTN, I9.out.1⟩
                  case measure => simp [intOf]; omega
          | false =>
            have hgo : ¬ (k < n ∧ k ≤ 16 ∧ b = true) := by simpa using HGB.out
            have HTF : Hid (TF L 0 0 xs b) := tf_none D1.out.2.1 HT.out hkn hgo
            clear HGB hgo
            go_wp2_with fail
            go_meet
            case rel => exact ⟨0, 0, _, xs, k', b, HO.out, HTF.out⟩
    · have i0 : ((a : Int) == 0) = false := by simp; omega
      have i1 : (a == 0) = false := by simp; omega
      have i2 : (a = 0) = False := eq_false h0
      have HA0 : Hid (¬ a = 0) := h0
      clear h0
      go_wp2_with (go_at_call 49; refine (number49s d ob ao cap L k1 b1 _ D0.out.1.rk).mono ?_)
      rintro e w2 ⟨p, k2, b2, rfl, hp, ⟨hrk, hfr⟩, hS⟩
      have D1 : Hid (Ds w X d ob ao cap L (a : Int) 0 (.slice none 0 0) [] k2 b2 w2 ∧ TF L (a : Int) (p : Int) [] b2) := ⟨D0.out.1.fr hrk hfr, tf_why HA0.out D0.out.2 hS⟩
      clear hrk hfr hS D0
      have c1 := D1.out.1.x.cell 1
      have f1 := D1.out.1.x.free 1
      go_wp2_with fail
      go_meet
      case rel => exact ⟨a, p, _, [], k2, b2, D1.out.1.place _, D1.out.2⟩
  case rest =>
    obtain ⟨ab, pl, v, xs, k, b, hds, htf⟩ := hcut
    have HRD : Hid _ := readR_of htf
    obtain ⟨xa, na, ya, rfl, hna⟩ := hds.outs.slice
    have HO : Hid (Ds w X d ob ao cap L ab pl (.slice xa na ya) xs k b wc) := hds
    clear hna hds htf D0
    refine (‹∀ (a : Act) (w : World), Code.wp Tryz.prog _ _ a w → _› _ _ ?_)
    have HC : Hid (∀ x : World, wc.grownBy x none → x.cell? ⟨ob, 0, none⟩ = some (.bool b) ∧ x.cell? ⟨X, 0, none⟩ = some (.int .i64 ab) ∧ x.cell? ⟨X, 1, none⟩ = some (.int .i64 pl) ∧ x.cell? ⟨X, 2, none⟩ = some (.slice xa na ya) ∧ (convert 29 9 (.slice ao lm cap)).run Tryz.prog x = .ok (.string ⟨L.toArray⟩) x) := fun x hx => by
      have h := HO.out.more hx
      have hs := seg_str (HS.out.1.grown h.grown)
      rw [HS.out.2.1] at hs
      exact ⟨h.rk.ok.cell 0, h.x.cell 0, h.x.cell 1, h.x.cell 2, hs⟩
    go_upto_region 18 with fail
    refine wp_region_noPanic ?_
    cases b with
    | false =>
      have HNO : Hid (readR L = (⟨0, 0, []⟩, 4)) := by rw [HRD.out]; simp [Hid]
      refine wp_region_hold 1000 (fun x => wc.grownBy x none) (by kernel_rfl) ?_
      have G0 : Hid (wc.grownBy wc.drew none) := grown_drew _ _
      generalize wc.drew = w4 at G0 ⊢
      refine wt (i := 0) (G0.out) rfl rfl (fun wk hk => by obtain ⟨m0, m1, m2, m3, m4⟩ := HC.out wk hk; go_simp; try rfl) ?_
      try simp only [pN]
      refine wt (i := 1) (G0.out) rfl rfl (fun wk hk => by obtain ⟨m0, m1, m2, m3, m4⟩ := HC.out wk hk; go_simp; try rfl) ?_
      try simp only [pN]
      refine wt (i := 2) (G0.out) rfl rfl (fun wk hk => by obtain ⟨m0, m1, m2, m3, m4⟩ := HC.out wk hk; go_simp; try rfl) ?_
      try simp only [pN]
      refine wpHold_skip (i := 3) (G0.out) rfl rfl (by kernel_rfl) (by kernel_rfl) (by kernel_rfl) (by kernel_rfl) (by kernel_rfl) (fun _ _ _ h => h) (by rfl) ?_
      try simp only [pN]
      refine wpHold_skip (i := 4) (G0.out) rfl rfl (by kernel_rfl) (by kernel_rfl) (by kernel_rfl) (by kernel_rfl) (by kernel_rfl) (fun _ _ _ h => h) (by rfl) ?_
      try simp only [pN]
      refine wpHold_skip (i := 5) (G0.out) rfl rfl (by kernel_rfl) (by kernel_rfl) (by kernel_rfl) (by kernel_rfl) (by kernel_rfl) (fun _ _ _ h => h) (by rfl) ?_
      try simp only [pN]
      refine wt (i := 6) (G0.out) rfl rfl (fun wk hk => by obtain ⟨m0, m1, m2, m3, m4⟩ := HC.out wk hk; go_simp; try rfl) ?_
      try simp only [pN]
      refine wt (i := 7) (G0.out) rfl rfl (fun wk hk => by obtain ⟨m0, m1, m2, m3, m4⟩ := HC.out wk hk; go_simp; try rfl) ?_
      try simp only [pN]
      refine wpHold_skip (i := 8) (G0.out) rfl rfl (by kernel_rfl) (by kernel_rfl) (by kernel_rfl) (by kernel_rfl) (by kernel_rfl) (fun _ _ _ h => h) (by rfl) ?_
      try simp only [pN]
      refine wpHold_skip (i := 9) (G0.out) rfl rfl (by kernel_rfl) (by kernel_rfl) (by kernel_rfl) (by kernel_rfl) (by kernel_rfl) (fun _ _ _ h => h) (by rfl) ?_
      try simp only [pN]
      refine wpHold_skip (i := 10) (G0.out) rfl rfl (by kernel_rfl) (by kernel_rfl) (by kernel_rfl) (by kernel_rfl) (by kernel_rfl) (fun _ _ _ h => h) (by rfl) ?_
      try simp only [pN]
      refine wpHold_skip (i := 11) (G0.out) rfl rfl (by kernel_rfl) (by kernel_rfl) (by kernel_rfl) (by kernel_rfl) (by kernel_rfl) (fun _ _ _ h => h) (by rfl) ?_
      try simp only [pN]
      refine wpHold_skip (i := 12) (G0.out) rfl rfl (by kernel_rfl) (by kernel_rfl) (by kernel_rfl) (by kernel_rfl) (by kernel_rfl) (fun _ _ _ h => h) (by rfl) ?_
      try simp only [pN]
      refine wpHold_skip (i := 13) (G0.out) rfl rfl (by kernel_rfl) (by kernel_rfl) (by kernel_rfl) (by kernel_rfl) (by kernel_rfl) (fun _ _ _ h => h) (by rfl) ?_
      try simp only [pN]
      refine wt (i := 14) (G0.out) rfl rfl (fun wk hk => by obtain ⟨m0, m1, m2, m3, m4⟩ := HC.out wk hk; go_simp; try rfl) ?_
      try simp only [pN]
      refine wpHold_done (by kernel_rfl) ?_
      refine (‹∀ (a : Act) (w : World), Code.wp Tryz.prog _ _ a w → _› _ _ ?_)
      have gg : wc.grownBy w4 none := G0.out
      have E1 : Hid (Blk w4 w.heap.size 51 #[.int .i64 0, .int .i64 0, .slice none 0 0] ∧ w.grownBy w4 none) := ⟨HO.out.res.grown gg (by simp), grown_trans HO.out.grown gg⟩
      clear gg
      have cc := E1.out.1.cell 0
      have cc1 := E1.out.1.cell 1
      have cc2 := E1.out.1.cell 2
      have zz := E1.out.1.free 0
      have zz1 := E1.out.1.free 1
      have zz2 := E1.out.1.free 2
      go_wp2_with fail
      refine bodyPost_ret (v := _) (results_row_tmp rfl _ _ w.heap.size _ rfl (run_loadVar_row _ w.heap.size 51 51 _ (0, 0) _ (blk3 E1.out.1) Tryz.underlying51 rfl (by kernel_rfl))) rfl ?_
      rw [HNO.out]
      exact ⟨_, rfl, ⟨lrow_nil _ _, by simp⟩, grown_new E1.out.2 (grow3 _ _ _ _ _) (fun y hy => by simp at hy; omega)⟩
    | true =>
      cases hmy : mayRes ⟨ab, pl, xs⟩ with
      | false =>
        have HNO : Hid (readR L = (⟨0, 0, []⟩, 4)) := by rw [HRD.out]; simp [Hid, hmy]
        refine wp_region_hold 1000 (fun x => wc.grownBy x none) (by kernel_rfl) ?_
        have G0 : Hid (wc.grownBy wc.drew none) := grown_drew _ _
        generalize wc.drew = w4 at G0 ⊢
        refine wt (i := 0) (G0.out) rfl rfl (fun wk hk => by obtain ⟨m0, m1, m2, m3, m4⟩ := HC.out wk hk; go_simp; try rfl) ?_
        try simp only [pN]
        refine wt (i := 1) (G0.out) rfl rfl (fun wk hk => by obtain ⟨m0, m1, m2, m3, m4⟩ := HC.out wk hk; go_simp; try rfl) ?_
        try simp only [pN]
        refine wt (i := 2) (G0.out) rfl rfl (fun wk hk => by obtain ⟨m0, m1, m2, m3, m4⟩ := HC.out wk hk; go_simp; try rfl) ?_
        try simp only [pN]
        refine wt (i := 3) (G0.out) rfl rfl (fun wk hk => by obtain ⟨m0, m1, m2, m3, m4⟩ := HC.out wk hk; go_simp; try rfl) ?_
        try simp only [pN]
        refine wpHold_one (i := 4) rfl (by kernel_rfl) (by rfl) (fun K hK => ?_)
        go_wp2_with (go_at_call 31; refine (may31 _ ⟨ab, pl, xs⟩ _ (HO.out.outs.outs.grown G0.out)).mono ?_)
        rintro e w5 ⟨rfl, hg⟩
        rw [hmy]
        have G1 : Hid (wc.grownBy w5 none) := grown_trans G0.out hg
        clear hg
        go_wp2_with fail
        refine hK.out _ _ (fun _ => G1.out) ?_
        clear hK K
        try simp only [pN]
        refine wt (i := 5) (G1.out) rfl rfl (fun wk hk => by obtain ⟨m0, m1, m2, m3, m4⟩ := HC.out wk hk; go_simp; try rfl) ?_
        try simp only [pN]
        refine wt (i := 6) (G1.out) rfl rfl (fun wk hk => by obtain ⟨m0, m1, m2, m3, m4⟩ := HC.out wk hk; go_simp; try rfl) ?_
        try simp only [pN]
        refine wt (i := 7) (G1.out) rfl rfl (fun wk hk => by obtain ⟨m0, m1, m2, m3, m4⟩ := HC.out wk hk; go_simp; try rfl) ?_
        try simp only [pN]
        refine wpHold_skip (i := 8) (G1.out) rfl rfl (by kernel_rfl) (by kernel_rfl) (by kernel_rfl) (by kernel_rfl) (by kernel_rfl) (fun _ _ _ h => h) (by rfl) ?_
        try simp only [pN]
        refine wpHold_skip (i := 9) (G1.out) rfl rfl (by kernel_rfl) (by kernel_rfl) (by kernel_rfl) (by kernel_rfl) (by kernel_rfl) (fun _ _ _ h => h) (by rfl) ?_
        try simp only [pN]
        refine wpHold_skip (i := 10) (G1.out) rfl rfl (by kernel_rfl) (by kernel_rfl) (by kernel_rfl) (by kernel_rfl) (by kernel_rfl) (fun _ _ _ h => h) (by rfl) ?_
        try simp only [pN]
        refine wpHold_skip (i := 11) (G1.out) rfl rfl (by kernel_rfl) (by kernel_rfl) (by kernel_rfl) (by kernel_rfl) (by kernel_rfl) (fun _ _ _ h => h) (by rfl) ?_
        try simp only [pN]
        refine wpHold_skip (i := 12) (G1.out) rfl rfl (by kernel_rfl) (by kernel_rfl) (by kernel_rfl) (by kernel_rfl) (by kernel_rfl) (fun _ _ _ h => h) (by rfl) ?_
        try simp only [pN]
        refine wpHold_skip (i := 13) (G1.out) rfl rfl (by kernel_rfl) (by kernel_rfl) (by kernel_rfl) (by kernel_rfl) (by kernel_rfl) (fun _ _ _ h => h) (by rfl) ?_
        try simp only [pN]
        refine wt (i := 14) (G1.out) rfl rfl (fun wk hk => by obtain ⟨m0, m1, m2, m3, m4⟩ := HC.out wk hk; go_simp; try rfl) ?_
        try simp only [pN]
        refine wpHold_done (by kernel_rfl) ?_
        refine (‹∀ (a : Act) (w : World), Code.wp Tryz.prog _ _ a w → _› _ _ ?_)
        have gg : wc.grownBy w5 none := G1.out
        have E1 : Hid (Blk w5 w.heap.size 51 #[.int .i64 0, .int .i64 0, .slice none 0 0] ∧ w.grownBy w5 none) := ⟨HO.out.res.grown gg (by simp), grown_trans HO.out.grown gg⟩
        clear gg
        have cc := E1.out.1.cell 0
        have cc1 := E1.out.1.cell 1
        have cc2 := E1.out.1.cell 2
        have zz := E1.out.1.free 0
        have zz1 := E1.out.1.free 1
        have zz2 := E1.out.1.free 2
        go_wp2_with fail
        refine bodyPost_ret (v := _) (results_row_tmp rfl _ _ w.heap.size _ rfl (run_loadVar_row _ w.heap.size 51 51 _ (0, 0) _ (blk3 E1.out.1) Tryz.underlying51 rfl (by kernel_rfl))) rfl ?_
        rw [HNO.out]
        exact ⟨_, rfl, ⟨lrow_nil _ _, by simp⟩, grown_new E1.out.2 (grow3 _ _ _ _ _) (fun y hy => by simp at hy; omega)⟩
      | true =>
        by_cases heq : resForm ⟨ab, pl, xs⟩ = L
        · have HYES : Hid (readR L = (⟨ab, pl, xs⟩, 0)) := by rw [HRD.out, if_pos ⟨rfl, hmy, heq⟩]; rfl
          have e6 : (resForm ⟨ab, pl, xs⟩ == L) = true := by rw [heq]; simp
          have e7 : (resForm ⟨ab, pl, xs⟩ != L) = false := by rw [heq]; simp
          have HMY : Hid (mayRes ⟨ab, pl, xs⟩ = true) := hmy
          clear heq
          refine wp_region_hold 1000 (fun x => wc.grownBy x none) (by kernel_rfl) ?_
          have G0 : Hid (wc.grownBy wc.drew none) := grown_drew _ _
          generalize wc.drew = w4 at G0 ⊢
          refine wt (i := 0) (G0.out) rfl rfl (fun wk hk => by obtain ⟨m0, m1, m2, m3, m4⟩ := HC.out wk hk; go_simp; try rfl) ?_
          try simp only [pN]
          refine wt (i := 1) (G0.out) rfl rfl (fun wk hk => by obtain ⟨m0, m1, m2, m3, m4⟩ := HC.out wk hk; go_simp; try rfl) ?_
          try simp only [pN]
          refine wt (i := 2) (G0.out) rfl rfl (fun wk hk => by obtain ⟨m0, m1, m2, m3, m4⟩ := HC.out wk hk; go_simp; try rfl) ?_
          try simp only [pN]
          refine wt (i := 3) (G0.out) rfl rfl (fun wk hk => by obtain ⟨m0, m1, m2, m3, m4⟩ := HC.out wk hk; go_simp; try rfl) ?_
          try simp only [pN]
          refine wpHold_one (i := 4) rfl (by kernel_rfl) (by rfl) (fun K hK => ?_)
          go_wp2_with (go_at_call 31; refine (may31 _ ⟨ab, pl, xs⟩ _ (HO.out.outs.outs.grown G0.out)).mono ?_)
          rintro e w5 ⟨rfl, hg⟩
          rw [HMY.out]
          have G1 : Hid (wc.grownBy w5 none) := grown_trans G0.out hg
          clear hg
          go_wp2_with fail
          refine hK.out _ _ (fun _ => G1.out) ?_
          clear hK K
          try simp only [pN]
          refine wt (i := 5) (G1.out) rfl rfl (fun wk hk => by obtain ⟨m0, m1, m2, m3, m4⟩ := HC.out wk hk; go_simp; try rfl) ?_
          try simp only [pN]
          refine wt (i := 6) (G1.out) rfl rfl (fun wk hk => by obtain ⟨m0, m1, m2, m3, m4⟩ := HC.out wk hk; go_simp; try rfl) ?_
          try simp only [pN]
          refine wt (i := 7) (G1.out) rfl rfl (fun wk hk => by obtain ⟨m0, m1, m2, m3, m4⟩ := HC.out wk hk; go_simp; try rfl) ?_
          try simp only [pN]
          refine wt (i := 8) (G1.out) rfl rfl (fun wk hk => by obtain ⟨m0, m1, m2, m3, m4⟩ := HC.out wk hk; go_simp; try rfl) ?_
          try simp only [pN]
          refine wt (i := 11) (G1.out) rfl rfl (fun wk hk => by obtain ⟨m0, m1, m2, m3, m4⟩ := HC.out wk hk; go_simp; try rfl) ?_
          try simp only [pN]
          refine wt (i := 12) (G1.out) rfl rfl (fun wk hk => by obtain ⟨m0, m1, m2, m3, m4⟩ := HC.out wk hk; go_simp; try rfl) ?_
          try simp only [pN]
          refine wpHold_one (i := 9) rfl (by kernel_rfl) (by rfl) (fun K hK => ?_)
          go_wp2_with (go_at_call 32; refine (form32 _ ⟨ab, pl, xs⟩ _ HMY.out (HO.out.outs.outs.grown G1.out)).mono ?_)
          rintro e w6 ⟨u3, rfl, ho, hg⟩
          obtain ⟨f3, q3, e3⟩ := ho.seg.shape
          obtain ⟨l3, hl3⟩ : ∃ l, (resForm ⟨ab, pl, xs⟩).length = l := ⟨_, rfl⟩
          rw [hl3] at e3
          subst e3
          have G2 : Hid (wc.grownBy w6 none ∧ Seg w6 (.slice f3 l3 q3) (resForm ⟨ab, pl, xs⟩)) := ⟨grown_trans G1.out hg, ho.seg⟩
          clear hg ho hl3
          go_wp2_with fail
          refine hK.out _ _ (fun _ => G2.out.1) ?_
          clear hK K
          have m5 : (convert 29 9 (.slice f3 l3 q3)).run Tryz.prog w6 = .ok (.string ⟨(resForm ⟨ab, pl, xs⟩).toArray⟩) w6 := seg_str G2.out.2
          try simp only [pN]
          refine wpHold_one (i := 10) rfl (by kernel_rfl) (by rfl) (fun K hK => ?_)
          go_wp2_with fail
          refine hK.out _ _ (fun _ => G2.out.1) ?_
          clear hK K
          clear m5
          try simp only [pN]
          refine wpHold_one (i := 13) rfl (by kernel_rfl) (by rfl) (fun K hK => ?_)
          go_wp2_with fail
          refine hK.out _ _ (fun _ => G2.out.1) ?_
          clear hK K
          try simp only [pN]
          refine wt (i := 14) (G2.out.1) rfl rfl (fun wk hk => by obtain ⟨m0, m1, m2, m3, m4⟩ := HC.out wk hk; go_simp; try rfl) ?_
          try simp only [pN]
          refine wpHold_done (by kernel_rfl) ?_
          refine (‹∀ (a : Act) (w : World), Code.wp Tryz.prog _ _ a w → _› _ _ ?_)
          have gg : wc.grownBy w6 none := G2.out.1
          have E1 : Hid (Blk w6 w.heap.size 51 #[.int .i64 0, .int .i64 0, .slice none 0 0] ∧ w.grownBy w6 none ∧ OutsOwn w6 w.heap.size (.slice xa na ya) xs ∧ Blk w6 X 51 #[.int .i64 ab, .int .i64 pl, .slice xa na ya]) := ⟨HO.out.res.grown gg (by simp), grown_trans HO.out.grown gg, HO.out.outs.grown gg, HO.out.x.grown gg (by simp)⟩
          clear gg
          have cc := E1.out.1.cell 0
          have cc1 := E1.out.1.cell 1
          have cc2 := E1.out.1.cell 2
          have zz := E1.out.1.free 0
          have zz1 := E1.out.1.free 1
          have zz2 := E1.out.1.free 2
          have c3 := E1.out.2.2.2.cell 0
          have c4 := E1.out.2.2.2.cell 1
          have c5 := E1.out.2.2.2.cell 2
          go_wp2_with fail
          refine bodyPost_ret (v := _) (results_row_tmp rfl _ _ w.heap.size _ rfl (run_loadVar_row _ w.heap.size 51 51 _ (0, 0) _ (blk3 E1.out.1) Tryz.underlying51 rfl (by kernel_rfl))) rfl ?_
          rw [HYES.out]
          exact ⟨_, rfl, E1.out.2.2.1.set E1.out.1 (by decide) (by decide) (by decide) (grow3 _ _ _ _ _), grown_new E1.out.2.1 (grow3 _ _ _ _ _) (fun y hy => by simp at hy; omega)⟩
        · have HNO : Hid (readR L = (⟨0, 0, []⟩, 4)) := by rw [HRD.out, if_neg (fun h => heq h.2.2)]; rfl
          have e6 : (resForm ⟨ab, pl, xs⟩ == L) = false := by simpa using heq
          have e7 : (resForm ⟨ab, pl, xs⟩ != L) = true := by simpa using heq
          have HMY : Hid (mayRes ⟨ab, pl, xs⟩ = true) := hmy
          clear heq
          refine wp_region_hold 1000 (fun x => wc.grownBy x none) (by kernel_rfl) ?_
          have G0 : Hid (wc.grownBy wc.drew none) := grown_drew _ _
          generalize wc.drew = w4 at G0 ⊢
          refine wt (i := 0) (G0.out) rfl rfl (fun wk hk => by obtain ⟨m0, m1, m2, m3, m4⟩ := HC.out wk hk; go_simp; try rfl) ?_
          try simp only [pN]
          refine wt (i := 1) (G0.out) rfl rfl (fun wk hk => by obtain ⟨m0, m1, m2, m3, m4⟩ := HC.out wk hk; go_simp; try rfl) ?_
          try simp only [pN]
          refine wt (i := 2) (G0.out) rfl rfl (fun wk hk => by obtain ⟨m0, m1, m2, m3, m4⟩ := HC.out wk hk; go_simp; try rfl) ?_
          try simp only [pN]
          refine wt (i := 3) (G0.out) rfl rfl (fun wk hk => by obtain ⟨m0, m1, m2, m3, m4⟩ := HC.out wk hk; go_simp; try rfl) ?_
          try simp only [pN]
          refine wpHold_one (i := 4) rfl (by kernel_rfl) (by rfl) (fun K hK => ?_)
          go_wp2_with (go_at_call 31; refine (may31 _ ⟨ab, pl, xs⟩ _ (HO.out.outs.outs.grown G0.out)).mono ?_)
          rintro e w5 ⟨rfl, hg⟩
          rw [HMY.out]
          have G1 : Hid (wc.grownBy w5 none) := grown_trans G0.out hg
          clear hg
          go_wp2_with fail
          refine hK.out _ _ (fun _ => G1.out) ?_
          clear hK K
          try simp only [pN]
          refine wt (i := 5) (G1.out) rfl rfl (fun wk hk => by obtain ⟨m0, m1, m2, m3, m4⟩ := HC.out wk hk; go_simp; try rfl) ?_
          try simp only [pN]
          refine wt (i := 6) (G1.out) rfl rfl (fun wk hk => by obtain ⟨m0, m1, m2, m3, m4⟩ := HC.out wk hk; go_simp; try rfl) ?_
          try simp only [pN]
          refine wt (i := 7) (G1.out) rfl rfl (fun wk hk => by obtain ⟨m0, m1, m2, m3, m4⟩ := HC.out wk hk; go_simp; try rfl) ?_
          try simp only [pN]
          refine wt (i := 8) (G1.out) rfl rfl (fun wk hk => by obtain ⟨m0, m1, m2, m3, m4⟩ := HC.out wk hk; go_simp; try rfl) ?_
          try simp only [pN]
          refine wt (i := 11) (G1.out) rfl rfl (fun wk hk => by obtain ⟨m0, m1, m2, m3, m4⟩ := HC.out wk hk; go_simp; try rfl) ?_
          try simp only [pN]
          refine wt (i := 12) (G1.out) rfl rfl (fun wk hk => by obtain ⟨m0, m1, m2, m3, m4⟩ := HC.out wk hk; go_simp; try rfl) ?_
          try simp only [pN]
          refine wpHold_one (i := 9) rfl (by kernel_rfl) (by rfl) (fun K hK => ?_)
          go_wp2_with (go_at_call 32; refine (form32 _ ⟨ab, pl, xs⟩ _ HMY.out (HO.out.outs.outs.grown G1.out)).mono ?_)
          rintro e w6 ⟨u3, rfl, ho, hg⟩
          obtain ⟨f3, q3, e3⟩ := ho.seg.shape
          obtain ⟨l3, hl3⟩ : ∃ l, (resForm ⟨ab, pl, xs⟩).length = l := ⟨_, rfl⟩
          rw [hl3] at e3
          subst e3
          have G2 : Hid (wc.grownBy w6 none ∧ Seg w6 (.slice f3 l3 q3) (resForm ⟨ab, pl, xs⟩)) := ⟨grown_trans G1.out hg, ho.seg⟩
          clear hg ho hl3
          go_wp2_with fail
          refine hK.out _ _ (fun _ => G2.out.1) ?_
          clear hK K
          have m5 : (convert 29 9 (.slice f3 l3 q3)).run Tryz.prog w6 = .ok (.string ⟨(resForm ⟨ab, pl, xs⟩).toArray⟩) w6 := seg_str G2.out.2
          try simp only [pN]
          refine wpHold_one (i := 10) rfl (by kernel_rfl) (by rfl) (fun K hK => ?_)
          go_wp2_with fail
          refine hK.out _ _ (fun _ => G2.out.1) ?_
          clear hK K
          clear m5
          try simp only [pN]
          refine wpHold_one (i := 13) rfl (by kernel_rfl) (by rfl) (fun K hK => ?_)
          go_wp2_with fail
          refine hK.out _ _ (fun _ => G2.out.1) ?_
          clear hK K
          try simp only [pN]
          refine wt (i := 14) (G2.out.1) rfl rfl (fun wk hk => by obtain ⟨m0, m1, m2, m3, m4⟩ := HC.out wk hk; go_simp; try rfl) ?_
          try simp only [pN]
          refine wpHold_done (by kernel_rfl) ?_
          refine (‹∀ (a : Act) (w : World), Code.wp Tryz.prog _ _ a w → _› _ _ ?_)
          have gg : wc.grownBy w6 none := G2.out.1
          have E1 : Hid (Blk w6 w.heap.size 51 #[.int .i64 0, .int .i64 0, .slice none 0 0] ∧ w.grownBy w6 none) := ⟨HO.out.res.grown gg (by simp), grown_trans HO.out.grown gg⟩
          clear gg
          have cc := E1.out.1.cell 0
          have cc1 := E1.out.1.cell 1
          have cc2 := E1.out.1.cell 2
          have zz := E1.out.1.free 0
          have zz1 := E1.out.1.free 1
          have zz2 := E1.out.1.free 2
          go_wp2_with fail
          refine bodyPost_ret (v := _) (results_row_tmp rfl _ _ w.heap.size _ rfl (run_loadVar_row _ w.heap.size 51 51 _ (0, 0) _ (blk3 E1.out.1) Tryz.underlying51 rfl (by kernel_rfl))) rfl ?_
          rw [HNO.out]
          exact ⟨_, rfl, ⟨lrow_nil _ _, by simp⟩, grown_new E1.out.2 (grow3 _ _ _ _ _) (fun y hy => by simp at hy; omega)⟩
end Go.Proofs.YtfocmbnhkldnfaaGreatDoor
