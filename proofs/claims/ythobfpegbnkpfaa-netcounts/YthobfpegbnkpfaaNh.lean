/-
  NetCounts' walk.
-/
import Derived.Test.YthobfpegbnkpfaaNg
namespace Go.Proofs.Ythobfpegbnkpfaa
open Go.RowKit Disk I

theorem info3 : (Try.prog.info? 3).map (fun i => (i.zero, i.size, i.bytes)) = some (some (.int .i64 0), 1, 8) := by kernel_rfl
set_option maxRecDepth 100000 in
set_option maxHeartbeats 8000000 in
theorem counts4 (u0 u1 : Value) (ts ps : List Int) (tw : Bool) (w : World) (h0 : Rd w u0 (ts.map (Value.int .i64))) (h1 : Rd w u1 (ps.map (Value.int .i64))) (hl : 0 < ts.length → ∀ k, u0.ownBlock = some k → k < w.heap.size) : Calls Try.prog 4 #[u0, u1, .bool tw] w fun e w' => e = .returned (.bool true) ∧ w.grownBy w' none := by
  obtain ⟨ao, ac, rfl⟩ := h0.shape
  obtain ⟨bo, bc, rfl⟩ := h1.shape
  have hn0 := h0.len
  have hn1 := h1.len
  rw [List.length_map] at h0 hl hn0
  rw [List.length_map] at h1 hn1
  rw [List.length_map, List.length_map]
  obtain ⟨tn, htn⟩ : ∃ n, ts.length = n := ⟨_, rfl⟩
  obtain ⟨pn, hpn⟩ : ∃ n, ps.length = n := ⟨_, rfl⟩
  rw [htn] at h0 hl hn0 ⊢
  rw [hpn] at h1 hn1 ⊢
  have HS : Hid (Rd w (.slice ao tn ac) (ts.map (Value.int .i64)) ∧ Rd w (.slice bo pn bc) (ps.map (Value.int .i64)) ∧ ts.length = tn ∧ ps.length = pn ∧ (0 < tn → ∀ k, (Value.slice ao tn ac).ownBlock = some k → k < w.heap.size)) := ⟨h0, h1, htn, hpn, hl⟩
  clear h0 h1 htn hpn hl
  go_enter Try.func4, Try.ntmps4
  go_wp2_with fail
  refine (new_net w).mono ?_
  rintro e w1 ⟨rfl, hn1', hg1⟩
  obtain ⟨b, hb⟩ : ∃ b, w.heap.size = b := ⟨_, rfl⟩
  have M1 : Hid (Mine w w1 b (.slice none 0 0) [] 0 ∧ w.heap.size = b) := by rw [← hb]; exact ⟨mine_new hn1' hg1, rfl⟩
  rw [hb]
  clear hn1' hg1 hb
  by_cases hbig : 1000 < tn
  · have i1 : (1000 : Int) < (tn : Int) := by omega
    go_wp2_with fail
    refine (known18 w1).mono ?_
    rintro e w2 ⟨rfl, hg⟩
    have H2 : Hid (w.grownBy w2 none) := grown_trans M1.out.1.gr hg
    clear hg
    go_wp2_with fail
    go_ret
    exact ⟨rfl, H2.out⟩
  · have i1 : ¬ (1000 : Int) < (tn : Int) := by omega
    go_wp2_with fail
    refine (send_yes b w.heap.size (.slice none 0 0) [] 0 (.slice ao tn ac) ts w1 M1.out.1.net (HS.out.1.grown M1.out.1.gr) (fun h0 k hk => ?_) (by omega) M1.out.1.gr.size).mono ?_
    · have h1 := HS.out.2.2.2.2 (by have := HS.out.2.2.1; omega) k hk
      have h2 := M1.out.1.gr.size
      have h3 := M1.out.2
      refine ⟨by omega, fun e => ?_⟩
      rcases e with e | e
      · omega
      · simp [Value.ownBlock] at e
    · rintro e w2 (⟨h1, _⟩ | ⟨_, rfl, r, hr, hN⟩)
      · have := HS.out.2.2.1
        simp at h1
        omega
      · obtain ⟨v2, M2'⟩ := M1.out.1.to hN
        have H0 : Hid (Cnt w w2 b (.slice none 0 0) ts tw 0 0 v2 r []) := by
          have hrl : r.length = ts.length := by rw [← hr]; simp
          refine ⟨?_, Row.nil _ _ _, rfl, Nat.le_refl _, by have := HS.out; omega, fun _ x => by rw [hr]; simp⟩
          have h3 : ((0 : Int) + (ts.length : Nat)) = ((0 + r.length : Nat) : Int) := by rw [hrl]; omega
          rw [h3] at M2'
          simpa using M2'
        clear hr hN M2' M1
        go_wp2_with fail
        go_loopw [8, 9, 10] (fun x8 x9 x10 wr => ∃ cnt i : Nat, x8 = .int .i64 (cnt : Nat) ∧ x10 = .int .i64 (i : Nat) ∧ i ≤ 2000 ∧ Hid (∃ v q gs, Cnt w wr b x9 ts tw cnt i v q gs)) (fun _ _ x10 _ => 2000 - (intOf x10).toNat)
        case atStart => exact ⟨0, 0, rfl, rfl, by omega, v2, r, [], H0.out⟩
        case round =>
          obtain ⟨cnt, i, rfl, rfl, hi, HI⟩ := hrel
          obtain ⟨v, q, gs, hC⟩ := HI.out
          obtain ⟨g1, g2, rfl⟩ := hC.got.sl
          rw [List.length_map, hC.num] at hC
          obtain ⟨ql, hql⟩ : ∃ n, q.length = n := ⟨_, rfl⟩
          have HC : Hid (Cnt w wr b (.slice g1 cnt g2) ts tw cnt i v q gs ∧ gs.length = cnt ∧ q.length = ql ∧ cnt + ql ≤ 1000 + i) := ⟨hC, hC.num, hql, by rw [← hql]; exact hC.all⟩
          rw [List.length_map, hC.num]
          clear HI hC hql
          obtain ⟨gb, hgb⟩ : ∃ gb : Bool, decide (i < pn ∧ i < 2000 ∧ 0 < ql) = gb := ⟨_, rfl⟩
          have HGB : Hid (decide (i < pn ∧ i < 2000 ∧ 0 < ql) = gb) := hgb
          clear hgb
          go_upto_region 7 with fail
          go_cut [42] (fun x wc => x = .bool gb ∧ wr = wc)
          case first =>
            by_cases a1 : i < pn
            · have a1' : (i : Int) < (pn : Int) := by omega
              by_cases a2 : i < 2000
              · have a2' : (i : Int) < 2000 := by omega
                go_wp2_with fail
                refine HC.out.1.mine.len.mono ?_
                rintro e w9 ⟨rfl, rfl⟩
                rw [HC.out.2.2.1]
                by_cases a3 : 0 < ql
                · have a3' : (0 : Int) < (ql : Int) := by omega
                  have hg : gb = true := by rw [← HGB.out]; simp [a1, a2, a3]
                  go_wp2_with fail
                  go_meet
                  case rel => exact ⟨by rw [hg], rfl⟩
                · have a3' : ¬ (0 : Int) < (ql : Int) := by omega
                  have hg : gb = false := by rw [← HGB.out]; simp [a3]
                  go_wp2_with fail
                  go_meet
                  case rel => exact ⟨by rw [hg], rfl⟩
              · have a2' : ¬ (i : Int) < 2000 := by omega
                have hg : gb = false := by rw [← HGB.out]; simp [a2]
                go_wp2_with fail
                go_meet
                case rel => exact ⟨by rw [hg], rfl⟩
            · have a1' : ¬ (i : Int) < (pn : Int) := by omega
              have hg : gb = false := by rw [← HGB.out]; simp [a1]
              go_wp2_with fail
              go_meet
              case rel => exact ⟨by rw [hg], rfl⟩
          case rest =>
            obtain ⟨rfl, rfl⟩ := hcut
            cases gb
            · go_wp2_with fail
              refine (sent_yes b w.heap.size v q _ wr HC.out.1.mine.net).mono ?_
              rintro e w5 ⟨rfl, rfl⟩
              have hsum : ((cnt + q.length : Nat) : Int) = (cnt : Int) + (ql : Int) := by have := HC.out.2.2.1; omega
              rw [hsum]
              clear hsum
              have wsm : IntKind.i64.wrap ((cnt : Int) + (ql : Int)) = (cnt : Int) + (ql : Int) := by have := HC.out.2.2.2; rw [IntKind.wrap_i64]; omega
              go_wp2_with fail
              refine HC.out.1.mine.len.mono ?_
              rintro e w6 ⟨rfl, rfl⟩
              rw [HC.out.2.2.1]
              go_wp2_with fail
              have hcn : cnt ≤ 2000 := by have := HC.out.1.few; omega
              go_loopw [14] (fun x wz => ∃ k : Nat, x = .int .i64 (k : Nat) ∧ k ≤ cnt ∧ Hid (w6.grownBy wz none)) (fun x _ => cnt - (intOf x).toNat)
              case atStart => exact ⟨0, rfl, Nat.zero_le _, grown_refl _ _⟩
              case round =>
                obtain ⟨k, rfl, hk, HG⟩ := hrel
                by_cases hkc : k < cnt
                · have k1 : (k : Int) < (cnt : Int) := by omega
                  have k2 : (0 : Int) ≤ (k : Int) := by omega
                  cases htw : tw
                  · have hkg : k < gs.length := by have := HC.out.2.1; omega
                    have HRG : Hid (Row 3 wr w.heap.size (.slice g1 cnt g2) (gs.map (Value.int .i64))) := HC.out.1.got.grown HG.out
                    obtain ⟨gb, off, e1, cu⟩ := HRG.out.rd.at k (by simpa using hkg)
                    subst e1
                    obtain ⟨x, hx⟩ : ∃ x, gs[k] = x := ⟨_, rfl⟩
                    simp only [List.getElem_map, hx] at cu
                    have HX : Hid (wr.cell? ⟨gb, off + k, none⟩ = some (.int .i64 x) ∧ gs.count x ≤ ts.count x) := ⟨cu, by have := HC.out.1.same htw x; omega⟩
                    obtain ⟨c1, hc1⟩ : ∃ c, gs.count x = c := ⟨_, rfl⟩
                    obtain ⟨c2, hc2⟩ : ∃ c, ts.count x = c := ⟨_, rfl⟩
                    have HC12 : Hid (gs.count x = c1 ∧ ts.count x = c2) := ⟨hc1, hc2⟩
                    have c12 : ¬ ((c2 : Int) < (c1 : Int)) := by have := HX.out.2; omega
                    clear hc1 hc2 hkg cu hx
                    go_upto_region 25 with fail
                    refine wp_region_hold 1000 (fun y => wr.grownBy y none) (by kernel_rfl) ?_
                    have G0 : Hid (wr.grownBy wr.drew none) := grown_drew _ _
                    generalize wr.drew = wd at G0 ⊢
                    have J : Idx [0, 1, 2, 3, 4, 6, 7, 8, 9, 10] := trivial
                    iterate 10 (refine tk J (G0.out) rfl rfl (fun wk hk => by have k5 := hk.cell HX.out.1 (by simp); go_simp; try rfl) ?_; replace J := J.tl; try simp only [Act.put, List.setIfInBounds_toArray, List.set_cons_zero, List.set_cons_succ])
                    clear J
                    refine wpHold_one (i := 5) rfl (by kernel_rfl) (by rfl) (fun K hK => ?_)
                    go_wp2_with fail
                    refine (times25 (.slice (some ⟨gb, off, none⟩) cnt g2) gs x wd (HRG.out.rd.grown G0.out)).mono ?_
                    rintro e w7 ⟨rfl, rfl⟩
                    rw [HC12.out.1]
                    go_wp2_with fail
                    refine hK.out _ _ (fun _ => G0.out) ?_
                    clear hK K
                    try simp only [Act.put, List.setIfInBounds_toArray, List.set_cons_zero, List.set_cons_succ]
                    refine wpHold_one (i := 11) rfl (by kernel_rfl) (by rfl) (fun K hK => ?_)
                    go_wp2_with fail
                    refine (times25 (.slice ao tn ac) ts x w7 (HS.out.1.grown (grown_trans HC.out.1.mine.gr (grown_trans HG.out G0.out)))).mono ?_
                    rintro e w8 ⟨rfl, rfl⟩
                    rw [HC12.out.2]
                    go_wp2_with fail
                    refine hK.out _ _ (fun _ => G0.out) ?_
                    clear hK K
                    try simp only [Act.put, List.setIfInBounds_toArray, List.set_cons_zero, List.set_cons_succ]
                    have J : Idx [12] := trivial
                    iterate 1 (refine tk J (G0.out) rfl rfl (fun wk hk => by have k5 := hk.cell HX.out.1 (by simp); go_simp; try rfl) ?_; replace J := J.tl; try simp only [Act.put, List.setIfInBounds_toArray, List.set_cons_zero, List.set_cons_succ])
                    clear J
                    refine wpHold_done (by kernel_rfl) ?_
                    refine (‹∀ (a : Act) (w : World), Code.wp Try.prog _ _ a w → _› _ _ ?_)
                    go_wp2_with fail
                    go_roundw
                    case rel => exact ⟨k + 1, by go_num, by omega, grown_trans HG.out G0.out⟩
                    case measure => simp [intOf]; omega
                  · go_wp2_with fail
                    refine (known18 wr).mono ?_
                    rintro e w7 ⟨rfl, hg⟩
                    have H7 : Hid (w.grownBy w7 none) := grown_trans HC.out.1.mine.gr (grown_trans HG.out hg)
                    clear hg
                    go_wp2_with fail
                    go_ret
                    exact ⟨rfl, H7.out⟩
                · have k1 : ¬ (k : Int) < (cnt : Int) := by omega
                  go_wp2_with fail
                  refine (known18 wr).mono ?_
                  rintro e w7 ⟨rfl, hg⟩
                  have H7 : Hid (w.grownBy w7 none) := grown_trans HC.out.1.mine.gr (grown_trans HG.out hg)
                  clear hg
                  go_wp2_with fail
                  go_ret
                  exact ⟨rfl, H7.out⟩
            · have hb3 : i < pn ∧ i < 2000 ∧ 0 < ql := of_decide_eq_true HGB.out
              have hjz : i < ps.length := by have := HS.out; omega
              obtain ⟨pb, off, e1, cu⟩ := (HS.out.2.1.grown HC.out.1.mine.gr).at i (by simpa using hjz)
              subst e1
              obtain ⟨p, hp⟩ : ∃ p, ps[i] = p := ⟨_, rfl⟩
              simp only [List.getElem_map, hp] at cu
              have HP : Hid (wr.cell? ⟨pb, off + i, none⟩ = some (.int .i64 p) ∧ i < pn ∧ i < 2000 ∧ 0 < ql) := ⟨cu, hb3⟩
              clear hjz cu hp
              have b1 : (i : Int) < (pn : Int) := by omega
              have b2 : (0 : Int) ≤ (i : Int) := by omega
              have b3 : ((ql : Int) == 0) = false := by simp; omega
              have b4 : ((ql : Int) = 0) = False := eq_false (by omega)
              have b4' : (ql = 0) = False := eq_false (by omega)
              clear hb3
              go_upto_region 9 with fail
              refine wp_region_hold 1000 (fun y => wr.grownBy y none) (by kernel_rfl) ?_
              have G0 : Hid (wr.grownBy wr.drew none) := grown_drew _ _
              generalize wr.drew = wd at G0 ⊢
              have J : Idx [0, 1, 2, 3, 4] := trivial
              iterate 5 (refine tk J (G0.out) rfl rfl (fun wk hk => by have k1 := hk.cell HP.out.1 (by simp); go_simp; try rfl) ?_; replace J := J.tl; try simp only [Act.put, List.setIfInBounds_toArray, List.set_cons_zero, List.set_cons_succ])
              clear J
              refine wpHold_one (i := 5) rfl (by kernel_rfl) (by rfl) (fun K hK => ?_)
              go_wp2_with fail
              refine (HC.out.1.mine.grown G0.out).len.mono ?_
              rintro e w9 ⟨rfl, rfl⟩
              rw [HC.out.2.2.1]
              go_wp2_with fail
              refine hK.out _ _ (fun _ => G0.out) ?_
              clear hK K
              try simp only [Act.put, List.setIfInBounds_toArray, List.set_cons_zero, List.set_cons_succ]
              have J : Idx [6, 7] := trivial
              iterate 2 (refine tk J (G0.out) rfl rfl (fun wk hk => by have k1 := hk.cell HP.out.1 (by simp); go_simp; try rfl) ?_; replace J := J.tl; try simp only [Act.put, List.setIfInBounds_toArray, List.set_cons_zero, List.set_cons_succ])
              clear J
              refine wpHold_done (by kernel_rfl) ?_
              refine (‹∀ (a : Act) (w : World), Code.wp Try.prog _ _ a w → _› _ _ ?_)
              obtain ⟨z, hz⟩ : ∃ z, p.tmod (ql : Int) = z := ⟨_, rfl⟩
              have HZ : Hid (-(ql : Int) < z ∧ z < (ql : Int) ∧ ql ≤ 3000) := by
                have h1 := HP.out.2.2.2
                have h2 := HC.out.2.2.2
                have h3 := HP.out.2.2.1
                rw [← hz]
                exact ⟨Int.lt_tmod_of_pos p (by omega), Int.tmod_lt_of_pos p (by omega), by omega⟩
              rw [hz]
              clear hz b1 b2 b3 b4 b4'
              go_upto_if 53 with fail
              go_cut [11] (fun x wc => ∃ j : Nat, x = .int .i64 (j : Nat) ∧ j < ql ∧ Hid (wr.grownBy wc none))
              case first =>
                by_cases hneg : z < 0
                · go_wp2_with fail
                  refine (HC.out.1.mine.grown G0.out).len.mono ?_
                  rintro e w9 ⟨rfl, rfl⟩
                  rw [HC.out.2.2.1]
                  have wz : IntKind.i64.wrap (z + (ql : Int)) = z + (ql : Int) := by have := HZ.out; rw [IntKind.wrap_i64]; omega
                  go_wp2_with fail
                  obtain ⟨j, hj⟩ : ∃ j : Nat, z + (ql : Int) = (j : Int) := ⟨(z + (ql : Int)).toNat, by have := HZ.out; omega⟩
                  have HJ : Hid (z + (ql : Int) = (j : Int)) := hj
                  clear hj wz
                  go_meet
                  case rel => exact ⟨j, by rw [HJ.out], by have := HJ.out; omega, G0⟩
                · go_wp2_with fail
                  obtain ⟨j, hj⟩ : ∃ j : Nat, z = (j : Int) := ⟨z.toNat, by omega⟩
                  have HJ : Hid (z = (j : Int)) := hj
                  clear hj
                  go_meet
                  case rel => exact ⟨j, by rw [HJ.out], by have := HJ.out; have := HZ.out; omega, G0⟩
              case rest =>
                obtain ⟨j, rfl, hj, hg⟩ := hcut
                have HJ : Hid (Cnt w wc b (.slice g1 cnt g2) ts tw cnt i v q gs ∧ j < q.length ∧ gs.length = cnt ∧ cnt + q.length ≤ 1000 + i ∧ i < 2000) := by
                  have h := HC.out
                  have hc := h.1
                  exact ⟨⟨hc.mine.grown hg.out, hc.got.grown hg.out, hc.num, hc.few, hc.all, hc.same⟩, by omega, h.2.1, by have := h.2.2.2; have := h.2.2.1; omega, HP.out.2.2.1⟩
                clear hg HP HC HZ G0
                obtain ⟨s, hs⟩ : ∃ s : Int, ((cnt + q.length : Nat) : Int) = s := ⟨_, rfl⟩
                have HS2 : Hid (((cnt + q.length : Nat) : Int) = s ∧ s ≤ 100000) := ⟨hs, by have := HJ.out; omega⟩
                have HM : Hid (Mine w wc b v q s) := by have := HJ.out.1.mine; rw [hs] at this; exact this
                clear hs
                have htake : Hid (∃ a, q[j]? = some a ∧ atD q (j : Int) = (a.t, 0)) := by
                  have h1 := HJ.out.2.1
                  refine ⟨q[j], List.getElem?_eq_getElem h1, ?_⟩
                  unfold atD
                  rw [dif_pos ⟨by omega, by simpa using h1⟩]
                  rfl
                obtain ⟨g5, hg5⟩ : ∃ gb : Bool, (tw && decide (i % 3 = 1)) = gb := ⟨_, rfl⟩
                have HG5 : Hid ((tw && decide (i % 3 = 1)) = g5) := hg5
                clear hg5
                go_upto_region 12 with fail
                go_cut [63] (fun x wz => x = .bool g5 ∧ wc = wz)
                case first =>
                  by_cases h3 : i % 3 = 1
                  · have t3 : ((i : Int) % 3 == 1) = true := by simp; omega
                    cases tw
                    · have hg : g5 = false := by rw [← HG5.out]; rfl
                      go_wp2_with fail
                      go_meet
                      case rel => exact ⟨by rw [hg], rfl⟩
                    · have hg : g5 = true := by rw [← HG5.out]; simp [h3]
                      go_wp2_with fail
                      go_meet
                      case rel => exact ⟨by rw [hg], rfl⟩
                  · have t3 : ((i : Int) % 3 == 1) = false := by simp; omega
                    cases tw
                    · have hg : g5 = false := by rw [← HG5.out]; rfl
                      go_wp2_with fail
                      go_meet
                      case rel => exact ⟨by rw [hg], rfl⟩
                    · have hg : g5 = false := by rw [← HG5.out]; simp [h3]
                      go_wp2_with fail
                      go_meet
                      case rel => exact ⟨by rw [hg], rfl⟩
                case rest =>
                  obtain ⟨rfl, rfl⟩ := hcut
                  cases g5
                  · go_wp2_with fail
                    refine (take_yes b w.heap.size v q s j wc HM.out.net).mono ?_
                    rintro e w5 ⟨rfl, hT⟩
                    obtain ⟨a, ha1, ha2⟩ := htake.out
                    have HA : Hid (q[j]? = some a) := ha1
                    unfold TakeP at hT
                    rw [if_pos ⟨by omega, by have := HJ.out; simpa using this.2.1⟩] at hT
                    rw [ha2]
                    clear ha1 ha2 htake
                    have HR5 : Hid (Row 3 w5 w.heap.size (.slice g1 cnt g2) (gs.map (Value.int .i64))) := HM.out.row hT HJ.out.1.got (by decide) (by decide)
                    obtain ⟨v5, M5'⟩ := HM.out.to hT
                    have M5 : Hid (Mine w w5 b v5 (q.eraseIdx j) s) := by unfold Hid; simpa using M5'
                    clear hT M5'
                    go_upto_region 18 with fail
                    obtain ⟨w6, hw6, H6⟩ := al1 w5 #[.int .i64 a.t] 3
                    have HW6 : Hid (w5.alloc (.cells #[.int .i64 a.t] 3) = w6) := hw6
                    clear hw6
                    go_wp2_with (at_builtin; rw [HW6.out]; refine appR 40 3 8 _ rfl info3 rfl w6 rfl _ _ rfl w.heap.size (.slice g1 cnt g2) (gs.map (Value.int .i64)) (.slice (some ⟨w5.heap.size, 0, none⟩) 1 1) [.int .i64 a.t] rfl rfl (HR5.out.grown H6.out.2.1) (rd_blk H6.out.1) (by intro y hy; simp at hy; subst hy; rfl) ?c0 ?c1 ?c2 ?_)
                    case c0 => have := HJ.out; simp; omega
                    case c1 => have := HJ.out; unfold maxLen; simp; omega
                    case c2 => have h1 := M5.out.gr.size; have h2 := H6.out.2.1.size; omega
                    intro v7 w7 hr7 hg7 hv7
                    obtain ⟨g3, g4, e7⟩ := hr7.sl
                    have el : (gs.map (Value.int .i64) ++ [Value.int .i64 a.t]).length = cnt + 1 := by have := HJ.out; simp; omega
                    rw [el] at e7
                    subst e7
                    have HC7 : Hid (Cnt w w7 b (.slice g3 (cnt + 1) g4) ts tw (cnt + 1) (i + 1) v5 (q.eraseIdx j) (gs ++ [a.t])) := by
                      have hz := HJ.out
                      have hl := List.length_eraseIdx_of_lt hz.2.1
                      have hce := count_erase q j a HA.out
                      refine ⟨?_, by rw [List.map_append]; exact hr7, by simp; omega, by have := hz.1.few; omega, by omega, fun h x => ?_⟩
                      · have e1 : ((cnt + 1 + (q.eraseIdx j).length : Nat) : Int) = s := by have := HS2.out.1; omega
                        rw [e1]
                        refine (M5.out.grown H6.out.2.1).but hg7 fun k hk => ?_
                        obtain ⟨C, hC⟩ := (HR5.out.grown H6.out.2.1).blk k hk
                        exact ⟨((HR5.out.grown H6.out.2.1).lt k hk).1, 3, C, hC, by decide, by decide, by decide⟩
                      · have h1 := hz.1.same h x
                        have h2 := hce x
                        rw [List.count_append, List.count_cons]
                        simp only [List.count_nil, beq_iff_eq]
                        omega
                    have wc1 : IntKind.i64.wrap ((cnt : Int) + 1) = (cnt : Int) + 1 := by have := HJ.out; rw [IntKind.wrap_i64]; omega
                    clear hr7 hg7 hv7 el HR5 M5 HW6 H6
                    go_wp2_with fail
                    go_roundw
                    case rel => exact ⟨cnt + 1, i + 1, by go_num, by go_num, by have := HJ.out; omega, v5, q.eraseIdx j, gs ++ [a.t], HC7.out⟩
                    case measure => simp [intOf]; have := HJ.out; omega
                  · go_wp2_with fail
                    refine (twin_yes b w.heap.size v q s j wc HM.out.net (by have := HS2.out; omega) HM.out.gr.size).mono ?_
                    rintro e w5 (⟨h1, _⟩ | ⟨_, h1, _⟩ | ⟨a, _, h2, _, rfl, r5, hr, hN⟩)
                    · exact absurd ⟨by omega, by have := HJ.out; simpa using this.2.1⟩ h1
                    · have := HJ.out; omega
                    · obtain ⟨v5, M5⟩ := HM.out.to hN
                      have HC5 : Hid (Cnt w w5 b (.slice g1 cnt g2) ts tw cnt (i + 1) v5 (q ++ r5) gs) := by
                        have hl : r5.length = 1 := by have := congrArg List.length hr; simpa using this
                        have hz := HJ.out
                        refine ⟨?_, HM.out.row hN hz.1.got (by decide) (by decide), hz.1.num, by have := hz.1.few; omega, by simp; omega, fun h => by have := HG5.out; rw [h] at this; cases this⟩
                        have e1 : ((cnt + (q ++ r5).length : Nat) : Int) = s + 1 := by have := HS2.out.1; simp; omega
                        rw [e1]
                        exact M5
                      clear hr hN M5 h2
                      go_wp2_with fail
                      go_roundw
                      case rel => exact ⟨cnt, i + 1, rfl, by go_num, by have := HJ.out; omega, v5, q ++ r5, gs, HC5.out⟩
                      case measure => simp [intOf]; have := HJ.out; omega
end Go.Proofs.Ythobfpegbnkpfaa
