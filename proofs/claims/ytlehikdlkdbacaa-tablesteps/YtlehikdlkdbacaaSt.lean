/-
  TableSteps: the walk.
-/
import Derived.Test.YtlehikdlkdbacaaDo
import Derived.Test.YtlehikdlkdbacaaSf
import Derived.Test.YtlehikdlkdbacaaF
namespace Go.Proofs.Ytlehikdlkdbacaa
open Go.RowKit Disk

theorem tb_lt {w : World} {b : Nat} {l : List PRow} (h : Tb w b l) : b < w.heap.size := by
  obtain ⟨_, _, _, HB, _⟩ := tb_open h
  exact HB.out.1.lt

/-- The elder pair, if there is one. -/
def Elder (w : World) (o p : Value) (tb db : Nat) : Prop := (o = .pointer none ∧ p = .pointer none) ∨ ∃ tb2 db2 l2, o = .pointer (some ⟨tb2, 0, none⟩) ∧ p = .pointer (some ⟨db2, 0, none⟩) ∧ Good l2 ∧ Tb w tb2 l2 ∧ Dt w db2 l2 ∧ tb2 ≠ tb ∧ db2 ≠ db
theorem Elder.gr2 {w w' : World} {o p : Value} {tb db : Nat} (h : Elder w o p tb db) (hg : Gr2 tb db w w') (ht : Two w tb db) : Elder w' o p tb db := by
  rcases h with h | ⟨tb2, db2, l2, e1, e2, h1, h2, h3, h4, h5⟩
  · exact .inl h
  · exact .inr ⟨tb2, db2, l2, e1, e2, h1, hg.tb ht h2 h4, hg.dt ht h3 h5, h4, h5⟩
/-- The two pairs at the loop's head. -/
def StI (w : World) (x5 x6 x8 x9 : Value) (m : Nat) (wr : World) : Prop := ∃ tb db l, x5 = .pointer (some ⟨tb, 0, none⟩) ∧ x6 = .pointer (some ⟨db, 0, none⟩) ∧ Good l ∧ l.length ≤ m ∧ Tb wr tb l ∧ Dt wr db l ∧ w.heap.size ≤ tb ∧ w.heap.size ≤ db ∧ w.grownBy wr none ∧ Elder wr x8 x9 tb db

theorem same11t (a b : Value) (l : List PRow) (w : World) (ha : Tl w a true l) (hb : Tl w b true l) : Calls Try.prog 11 #[a, b] w fun e w' => e = .returned (.bool true) ∧ ∃ m, w' = w.drewN m := by
  have h := same11 a b true true l l w ha hb
  simpa using h
theorem StI.grown {w : World} {x5 x6 x8 x9 : Value} {m : Nat} {wr : World} (h : StI w x5 x6 x8 x9 m wr) : w.grownBy wr none := by
  obtain ⟨_, _, _, _, _, _, _, _, _, _, _, h, _⟩ := h
  exact h

set_option maxRecDepth 100000 in
set_option maxHeartbeats 16000000 in
theorem steps3 (v u : Value) (l : List PRow) (ss : List PStep) (w : World) (hv : Rws w v l) (hu : Stps w u ss) :
    Calls Try.prog 3 #[v, u] w fun e w' => e = .returned (.bool true) ∧ w.grownBy w' none := by
  obtain ⟨as', ns, cs', rfl, hns, hns2, HU⟩ := stps_open hu
  have HV : Hid (Rws w v l ∧ ss.length = ns) := ⟨hv, hns⟩
  obtain ⟨av, nv, cv, rfl, _, _, _, _⟩ := rws_open hv
  clear hv hu hns
  go_enter Try.func3, Try.ntmps3
  go_wp2_with fail
  refine (much7 _ _ l ss w HV.out.1 HU.out).mono ?_
  rintro e w1 ⟨b, rfl, hfew, hw1⟩
  rw [hw1]
  clear hw1
  cases b with
  | true =>
    clear hfew
    go_wp2_with fail
    refine (known8 w).mono ?_
    rintro e w2 ⟨rfl, g2⟩
    have G2 : Hid (w.grownBy w2 none) := g2
    clear g2
    go_wp2_with fail
    go_ret
    exact ⟨rfl, G2.out⟩
  | false =>
    have HF : Hid (Few l ss) := hfew rfl
    clear hfew
    go_wp2_with fail
    refine (begin9 _ l ⟨by have := HF.out.1; omega, fun r hr => by have := HF.out.2.1 r hr; omega⟩ w HV.out.1).mono ?_
    rintro e w2 (⟨hgd, tb, db, rfl, ht, hd, htb, hdb, g2⟩ | ⟨hgd, rfl, g2⟩)
    · have H2 : Hid (StI w (.pointer (some ⟨tb, 0, none⟩)) (.pointer (some ⟨db, 0, none⟩)) (.pointer none) (.pointer none) 300 w2) := ⟨tb, db, l, rfl, rfl, hgd, HF.out.1, ht, hd, htb, hdb, g2, .inl ⟨rfl, rfl⟩⟩
      clear hgd ht hd htb hdb g2
      go_wp2_with fail
      go_loopw [5, 6, 8, 9, 10] (fun x5 x6 x8 x9 i wr => ∃ (j : Nat), j ≤ ns ∧ j ≤ 60 ∧ i = .int .i64 (j : Int) ∧ StI w x5 x6 x8 x9 (300 + j) wr) (fun _ _ _ _ i _ => 60 - (intOf i).toNat)
      case atStart => exact ⟨0, Nat.zero_le _, Nat.zero_le _, rfl, H2.out⟩
      case round =>
        obtain ⟨j, hj1, hj2, rfl, hst⟩ := hrel
        have HS : Hid (StI w u5 u6 u8 u9 (300 + j) wr) := hst
        clear hst
        obtain ⟨gb, hgb⟩ : ∃ b, decide (j < ns ∧ j < 60) = b := ⟨_, rfl⟩
        have HGB : Hid (decide (j < ns ∧ j < 60) = gb) := hgb
        clear hgb
        go_upto_region 9 with fail
        go_cut [38] (fun x wc => x = .bool gb ∧ wc = wr)
        case first =>
          by_cases h1 : (j : Int) < (ns : Int)
          · by_cases h2 : (j : Int) < 60
            · go_wp2_with fail
              go_meet
              case rel => exact ⟨by rw [← HGB.out]; simp; omega, rfl⟩
            · go_wp2_with fail
              go_meet
              case rel => exact ⟨by rw [← HGB.out]; simp; omega, rfl⟩
          · go_wp2_with fail
            go_meet
            case rel => exact ⟨by rw [← HGB.out]; simp; omega, rfl⟩
        case rest =>
          obtain ⟨rfl, hwc⟩ := hcut
          rw [hwc]
          clear hwc
          cases gb with
          | true =>
            have hgo : j < ns ∧ j < 60 := by simpa using HGB.out
            clear HGB
            have hj3 : j < ss.length := by rw [HV.out.2]; exact hgo.1
            obtain ⟨bb, off, x, y, rfl, c0, c1, c2, c3, sx, sy⟩ := stps_at HU.out j hj3
            have hkl := HF.out.2.2 j hj3 hgo.2
            obtain ⟨s, hs⟩ : ∃ s, ss[j] = s := ⟨_, rfl⟩
            rw [hs] at c0 c3 sx sy hkl
            clear hs hj3
            obtain ⟨kd, kb, vb, nn⟩ := s
            simp only at c0 c3 sx sy hkl
            have HP : Hid (Seg w x kb ∧ Seg w y vb ∧ kb.length ≤ 9999 ∧ vb.length ≤ 9999) := ⟨sx, sy, hkl.1, hkl.2⟩
            obtain ⟨ak, nk, ck, rfl, _, _, _⟩ := Names.seg_open sx
            obtain ⟨ax, nx, cx, rfl, _, _, _⟩ := Names.seg_open sy
            clear sx sy hkl
            have HM : Hid (∀ z : World, w.grownBy z none → z.cell? ⟨bb, off + j * 4, none⟩ = some (.int .i64 kd) ∧ z.cell? ⟨bb, off + j * 4 + 1, none⟩ = some (.slice ak nk ck) ∧ z.cell? ⟨bb, off + j * 4 + 2, none⟩ = some (.slice ax nx cx) ∧ z.cell? ⟨bb, off + j * 4 + 3, none⟩ = some (.int .i64 nn)) := fun z hz => ⟨hz.cell c0 (by simp), hz.cell c1 (by simp), hz.cell c2 (by simp), hz.cell c3 (by simp)⟩
            clear c0 c1 c2 c3
            have i0 : (0 : Int) ≤ (j : Int) := by omega
            have i1 : (j : Int) < (ns : Int) := by omega
            have m0 := (HM.out wr HS.out.grown).1
            go_upto_if 46 with fail
            clear m0
            go_cut [5, 6, 8, 9] (fun x5 x6 x8 x9 wc => StI w x5 x6 x8 x9 (300 + j) wc)
            case first =>
              by_cases hk9 : kd = 9
              · subst hk9
                obtain ⟨tb, db, l, rfl, rfl, hgd, hln, ht, hd, htb, hdb, hgr, hel⟩ := HS.out
                have HR : Hid (Tb wr tb l ∧ Dt wr db l ∧ Good l ∧ l.length ≤ 300 + j ∧ w.grownBy wr none) := ⟨ht, hd, hgd, hln, hgr⟩
                obtain ⟨ad, nd, cd, _, _, _, HD⟩ := dt_open hd
                clear ht hd hgd hln htb hdb hgr hel HS
                go_upto_region 12 with fail
                refine wp_region_noPanic ?_
                refine wp_region_hold 1000 (fun y => wr.grownBy y none) (by kernel_rfl) ?_
                have G1 : Hid (wr.grownBy wr.drew none) := grown_drew _ _
                generalize wr.drew = we at G1 ⊢
                refine wpHold_take (i := 0) (v := _) (G1.out) rfl rfl (by kernel_rfl) (by kernel_rfl) (by kernel_rfl) (by kernel_rfl) (by kernel_rfl) (fun _ _ _ h => h) (by rfl) (fun wk hk => by have y0 := (HD.out.1.grown hk (by simp)).cell 0; go_simp; try rfl) ?_
                try simp only [Act.put, List.setIfInBounds_toArray, List.set_cons_zero, List.set_cons_succ]
                refine wpHold_take (i := 1) (v := _) (G1.out) rfl rfl (by kernel_rfl) (by kernel_rfl) (by kernel_rfl) (by kernel_rfl) (by kernel_rfl) (fun _ _ _ h => h) (by rfl) (fun wk hk => by have y0 := (HD.out.1.grown hk (by simp)).cell 0; go_simp; try rfl) ?_
                try simp only [Act.put, List.setIfInBounds_toArray, List.set_cons_zero, List.set_cons_succ]
                refine wpHold_take (i := 2) (v := _) (G1.out) rfl rfl (by kernel_rfl) (by kernel_rfl) (by kernel_rfl) (by kernel_rfl) (by kernel_rfl) (fun _ _ _ h => h) (by rfl) (fun wk hk => by have y0 := (HD.out.1.grown hk (by simp)).cell 0; go_simp; try rfl) ?_
                try simp only [Act.put, List.setIfInBounds_toArray, List.set_cons_zero, List.set_cons_succ]
                refine wpHold_take (i := 3) (v := _) (G1.out) rfl rfl (by kernel_rfl) (by kernel_rfl) (by kernel_rfl) (by kernel_rfl) (by kernel_rfl) (fun _ _ _ h => h) (by rfl) (fun wk hk => by have y0 := (HD.out.1.grown hk (by simp)).cell 0; go_simp; try rfl) ?_
                try simp only [Act.put, List.setIfInBounds_toArray, List.set_cons_zero, List.set_cons_succ]
                refine wpHold_take (i := 4) (v := _) (G1.out) rfl rfl (by kernel_rfl) (by kernel_rfl) (by kernel_rfl) (by kernel_rfl) (by kernel_rfl) (fun _ _ _ h => h) (by rfl) (fun wk hk => by have y0 := (HD.out.1.grown hk (by simp)).cell 0; go_simp; try rfl) ?_
                try simp only [Act.put, List.setIfInBounds_toArray, List.set_cons_zero, List.set_cons_succ]
                refine wpHold_take (i := 5) (v := _) (G1.out) rfl rfl (by kernel_rfl) (by kernel_rfl) (by kernel_rfl) (by kernel_rfl) (by kernel_rfl) (fun _ _ _ h => h) (by rfl) (fun wk hk => by have y0 := (HD.out.1.grown hk (by simp)).cell 0; go_simp; try rfl) ?_
                try simp only [Act.put, List.setIfInBounds_toArray, List.set_cons_zero, List.set_cons_succ]
                refine wpHold_take (i := 7) (v := _) (G1.out) rfl rfl (by kernel_rfl) (by kernel_rfl) (by kernel_rfl) (by kernel_rfl) (by kernel_rfl) (fun _ _ _ h => h) (by rfl) (fun wk hk => by have y0 := (HD.out.1.grown hk (by simp)).cell 0; go_simp; try rfl) ?_
                try simp only [Act.put, List.setIfInBounds_toArray, List.set_cons_zero, List.set_cons_succ]
                refine wpHold_one (i := 6) rfl (by kernel_rfl) (by rfl) (fun K hK => ?_)
                go_wp2_with fail
                obtain ⟨w2, hw2, H2⟩ := al we #[.slice ad nd cd] 34
                rw [hw2]
                clear hw2
                obtain ⟨db2, hdb2⟩ : ∃ b, we.heap.size = b := ⟨_, rfl⟩
                have G2 : Hid (wr.grownBy w2 none ∧ Blk w2 db2 34 #[.slice ad nd cd]) := ⟨grown_trans G1.out H2.out.2.1, by rw [← hdb2]; exact H2.out.1⟩
                rw [hdb2]
                clear H2 G1 hdb2
                refine hK.out _ _ (fun _ => G2.out.1) ?_
                clear hK K
                try simp only [Act.put, List.setIfInBounds_toArray, List.set_cons_zero, List.set_cons_succ]
                refine wpHold_take (i := 8) (v := _) (G2.out.1) rfl rfl (by kernel_rfl) (by kernel_rfl) (by kernel_rfl) (by kernel_rfl) (by kernel_rfl) (fun _ _ _ h => h) (by rfl) (fun wk hk => by have y0 := (HD.out.1.grown hk (by simp)).cell 0; go_simp; try rfl) ?_
                try simp only [Act.put, List.setIfInBounds_toArray, List.set_cons_zero, List.set_cons_succ]
                refine wpHold_done (by kernel_rfl) ?_
                refine (‹∀ (a : Act) (w : World), Code.wp Try.prog _ _ a w → _› _ _ ?_)
                go_upto_region 13 with fail
                go_cut [5, 6] (fun x5 x6 wc => ∃ tb' db', x5 = .pointer (some ⟨tb', 0, none⟩) ∧ x6 = .pointer (some ⟨db', 0, none⟩) ∧ Tb wc tb' l ∧ Blk wc db' 34 #[.slice ad nd cd] ∧ w2.grownBy wc none ∧ w2.heap.size ≤ tb' ∧ w2.heap.size ≤ db')
                case first =>
                  refine wp_region_noPanic ?_
                  refine wp_region_hold 1000 (fun y => w2.grownBy y none) (by kernel_rfl) ?_
                  have G3 : Hid (w2.grownBy w2.drew none) := grown_drew _ _
                  generalize w2.drew = wf at G3 ⊢
                  refine wpHold_take (i := 0) (v := _) (G3.out) rfl rfl (by kernel_rfl) (by kernel_rfl) (by kernel_rfl) (by kernel_rfl) (by kernel_rfl) (fun _ _ _ h => h) (by rfl) (fun wk hk => by have y0 := (HD.out.1.grown (grown_trans G2.out.1 hk) (by simp)).cell 0; go_simp; try rfl) ?_
                  try simp only [Act.put, List.setIfInBounds_toArray, List.set_cons_zero, List.set_cons_succ]
                  refine wpHold_take (i := 2) (v := _) (G3.out) rfl rfl (by kernel_rfl) (by kernel_rfl) (by kernel_rfl) (by kernel_rfl) (by kernel_rfl) (fun _ _ _ h => h) (by rfl) (fun wk hk => by have y0 := (HD.out.1.grown (grown_trans G2.out.1 hk) (by simp)).cell 0; go_simp; try rfl) ?_
                  try simp only [Act.put, List.setIfInBounds_toArray, List.set_cons_zero, List.set_cons_succ]
                  refine wpHold_take (i := 3) (v := _) (G3.out) rfl rfl (by kernel_rfl) (by kernel_rfl) (by kernel_rfl) (by kernel_rfl) (by kernel_rfl) (fun _ _ _ h => h) (by rfl) (fun wk hk => by have y0 := (HD.out.1.grown (grown_trans G2.out.1 hk) (by simp)).cell 0; go_simp; try rfl) ?_
                  try simp only [Act.put, List.setIfInBounds_toArray, List.set_cons_zero, List.set_cons_succ]
                  refine wpHold_take (i := 4) (v := _) (G3.out) rfl rfl (by kernel_rfl) (by kernel_rfl) (by kernel_rfl) (by kernel_rfl) (by kernel_rfl) (fun _ _ _ h => h) (by rfl) (fun wk hk => by have y0 := (HD.out.1.grown (grown_trans G2.out.1 hk) (by simp)).cell 0; go_simp; try rfl) ?_
                  try simp only [Act.put, List.setIfInBounds_toArray, List.set_cons_zero, List.set_cons_succ]
                  refine wpHold_take (i := 5) (v := _) (G3.out) rfl rfl (by kernel_rfl) (by kernel_rfl) (by kernel_rfl) (by kernel_rfl) (by kernel_rfl) (fun _ _ _ h => h) (by rfl) (fun wk hk => by have y0 := (HD.out.1.grown (grown_trans G2.out.1 hk) (by simp)).cell 0; go_simp; try rfl) ?_
                  try simp only [Act.put, List.setIfInBounds_toArray, List.set_cons_zero, List.set_cons_succ]
                  refine wpHold_take (i := 6) (v := _) (G3.out) rfl rfl (by kernel_rfl) (by kernel_rfl) (by kernel_rfl) (by kernel_rfl) (by kernel_rfl) (fun _ _ _ h => h) (by rfl) (fun wk hk => by have y0 := (HD.out.1.grown (grown_trans G2.out.1 hk) (by simp)).cell 0; go_simp; try rfl) ?_
                  try simp only [Act.put, List.setIfInBounds_toArray, List.set_cons_zero, List.set_cons_succ]
                  refine wpHold_two (i := 1) (j := 7) rfl rfl (by kernel_rfl) (by rfl) (by rfl) (fun K hK => ?_) (fun K hK => ?_)
                  · go_wp2_with fail
                    refine (copy10 tb l wf (HR.out.1.grown (grown_trans G2.out.1 G3.out))).mono ?_
                    rintro e w3 ⟨rfl, hc3, g3⟩
                    obtain ⟨tb', htb'⟩ : ∃ b, wf.heap.size = b := ⟨_, rfl⟩
                    have HA : Hid (Tb w3 tb' l ∧ w2.grownBy w3 none ∧ w2.heap.size ≤ tb') := by rw [← htb']; exact ⟨hc3, grown_trans G3.out g3, G3.out.size⟩
                    rw [htb']
                    clear hc3 g3 htb' G3
                    refine hK.out _ _ (fun _ => HA.out.2.1) ?_
                    clear hK K
                    try simp only [Act.put, List.setIfInBounds_toArray, List.set_cons_zero, List.set_cons_succ]
                    refine wpHold_take (i := 8) (v := _) (HA.out.2.1) rfl rfl (by kernel_rfl) (by kernel_rfl) (by kernel_rfl) (by kernel_rfl) (by kernel_rfl) (fun _ _ _ h => h) (by rfl) (fun wk hk => by have y0 := (HD.out.1.grown (grown_trans G2.out.1 hk) (by simp)).cell 0; go_simp; try rfl) ?_
                    try simp only [Act.put, List.setIfInBounds_toArray, List.set_cons_zero, List.set_cons_succ]
                    refine wpHold_one (i := 7) rfl (by kernel_rfl) (by rfl) (fun K hK => ?_)
                    go_wp2_with fail
                    obtain ⟨w4, hw4, H4⟩ := al w3 #[.slice ad nd cd] 34
                    rw [hw4]
                    clear hw4
                    obtain ⟨db', hdb'⟩ : ∃ b, w3.heap.size = b := ⟨_, rfl⟩
                    have HC : Hid (Tb w4 tb' l ∧ Blk w4 db' 34 #[.slice ad nd cd] ∧ w2.grownBy w4 none ∧ w2.heap.size ≤ tb' ∧ w2.heap.size ≤ db') := by rw [← hdb']; exact ⟨HA.out.1.grown H4.out.2.1, H4.out.1, grown_trans HA.out.2.1 H4.out.2.1, HA.out.2.2, HA.out.2.1.size⟩
                    rw [hdb']
                    clear H4 HA hdb'
                    refine hK.out _ _ (fun _ => HC.out.2.2.1) ?_
                    clear hK K
                    try simp only [Act.put, List.setIfInBounds_toArray, List.set_cons_zero, List.set_cons_succ]
                    refine wpHold_take (i := 9) (v := _) (HC.out.2.2.1) rfl rfl (by kernel_rfl) (by kernel_rfl) (by kernel_rfl) (by kernel_rfl) (by kernel_rfl) (fun _ _ _ h => h) (by rfl) (fun wk hk => by have y0 := (HD.out.1.grown (grown_trans G2.out.1 hk) (by simp)).cell 0; go_simp; try rfl) ?_
                    try simp only [Act.put, List.setIfInBounds_toArray, List.set_cons_zero, List.set_cons_succ]
                    refine wpHold_done (by kernel_rfl) ?_
                    refine (‹∀ (a : Act) (w : World), Met _ a w → _› _ _ ?_)
                    go_meet
                    case rel => exact ⟨tb', db', rfl, rfl, HC.out⟩
                  · go_wp2_with fail
                    obtain ⟨w3, hw3, H3⟩ := al wf #[.slice ad nd cd] 34
                    rw [hw3]
                    clear hw3
                    obtain ⟨db', hdb'⟩ : ∃ b, wf.heap.size = b := ⟨_, rfl⟩
                    have HA : Hid (Blk w3 db' 34 #[.slice ad nd cd] ∧ w2.grownBy w3 none ∧ w2.heap.size ≤ db') := by rw [← hdb']; exact ⟨H3.out.1, grown_trans G3.out H3.out.2.1, G3.out.size⟩
                    rw [hdb']
                    clear H3 G3 hdb'
                    refine hK.out _ _ (fun _ => HA.out.2.1) ?_
                    clear hK K
                    try simp only [Act.put, List.setIfInBounds_toArray, List.set_cons_zero, List.set_cons_succ]
                    refine wpHold_one (i := 1) rfl (by kernel_rfl) (by rfl) (fun K hK => ?_)
                    go_wp2_with fail
                    refine (copy10 tb l w3 (HR.out.1.grown (grown_trans G2.out.1 HA.out.2.1))).mono ?_
                    rintro e w4 ⟨rfl, hc4, g4⟩
                    obtain ⟨tb', htb'⟩ : ∃ b, w3.heap.size = b := ⟨_, rfl⟩
                    have HC : Hid (Tb w4 tb' l ∧ Blk w4 db' 34 #[.slice ad nd cd] ∧ w2.grownBy w4 none ∧ w2.heap.size ≤ tb' ∧ w2.heap.size ≤ db') := by rw [← htb']; exact ⟨hc4, HA.out.1.grown g4 (by simp), grown_trans HA.out.2.1 g4, HA.out.2.1.size, HA.out.2.2⟩
                    rw [htb']
                    clear hc4 g4 htb' HA
                    refine hK.out _ _ (fun _ => HC.out.2.2.1) ?_
                    clear hK K
                    try simp only [Act.put, List.setIfInBounds_toArray, List.set_cons_zero, List.set_cons_succ]
                    refine wpHold_take (i := 8) (v := _) (HC.out.2.2.1) rfl rfl (by kernel_rfl) (by kernel_rfl) (by kernel_rfl) (by kernel_rfl) (by kernel_rfl) (fun _ _ _ h => h) (by rfl) (fun wk hk => by have y0 := (HD.out.1.grown (grown_trans G2.out.1 hk) (by simp)).cell 0; go_simp; try rfl) ?_
                    try simp only [Act.put, List.setIfInBounds_toArray, List.set_cons_zero, List.set_cons_succ]
                    refine wpHold_take (i := 9) (v := _) (HC.out.2.2.1) rfl rfl (by kernel_rfl) (by kernel_rfl) (by kernel_rfl) (by kernel_rfl) (by kernel_rfl) (fun _ _ _ h => h) (by rfl) (fun wk hk => by have y0 := (HD.out.1.grown (grown_trans G2.out.1 hk) (by simp)).cell 0; go_simp; try rfl) ?_
                    try simp only [Act.put, List.setIfInBounds_toArray, List.set_cons_zero, List.set_cons_succ]
                    refine wpHold_done (by kernel_rfl) ?_
                    refine (‹∀ (a : Act) (w : World), Met _ a w → _› _ _ ?_)
                    go_meet
                    case rel => exact ⟨tb', db', rfl, rfl, HC.out⟩
                case rest =>
                  obtain ⟨tb', db', rfl, rfl, hc⟩ := hcut
                  have HZ : Hid (∀ z : World, wc.grownBy z none → StI w (.pointer (some ⟨tb', 0, none⟩)) (.pointer (some ⟨db', 0, none⟩)) (.pointer (some ⟨tb, 0, none⟩)) (.pointer (some ⟨db2, 0, none⟩)) (300 + j) z ∧ Tb z tb' l ∧ Tb z tb l) := fun z hz => by
                    have g2 := G2.out.1
                    have g4 := grown_trans hc.2.2.1 hz
                    have gz := grown_trans g2 g4
                    have gw := HR.out.2.2.2.2
                    have s1 := (tb_lt HR.out.1)
                    have s2 := G2.out.2.lt
                    have s3 := g2.size
                    have s4 := gw.size
                    have s5 := hc.2.2.2
                    exact ⟨⟨tb', db', l, rfl, rfl, HR.out.2.2.1, HR.out.2.2.2.1, hc.1.grown hz, ⟨_, hc.2.1.grown hz (by simp), HD.out.2.grown gz⟩, by omega, by omega, grown_trans gw gz, .inr ⟨tb, db2, l, rfl, rfl, HR.out.2.2.1, HR.out.1.grown gz, ⟨_, G2.out.2.grown g4 (by simp), HD.out.2.grown gz⟩, by omega, by omega⟩⟩, hc.1.grown hz, HR.out.1.grown gz⟩
                  clear hc
                  refine (‹∀ (a : Act) (w : World), Code.wp Try.prog _ _ a w → _› _ _ ?_)
                  go_wp2_with fail
                  refine (same11t _ _ l wc (HZ.out wc (grown_refl _ _)).2.1.tl (HZ.out wc (grown_refl _ _)).2.2.tl).mono ?_
                  rintro e w5 ⟨rfl, q5, hw5⟩
                  rw [hw5]
                  clear hw5
                  go_wp2_with fail
                  refine (same11t _ _ l (wc.drewN q5) (HZ.out _ (grown_drewN _ _ _)).2.2.tl (HZ.out _ (grown_drewN _ _ _)).2.1.tl).mono ?_
                  rintro e w6 ⟨rfl, q6, hw6⟩
                  have HZ6 : Hid _ := (HZ.out w6 (by rw [hw6]; exact grown_trans (grown_drewN _ q5 _) (grown_drewN _ _ _))).1
                  clear hw6 HZ
                  go_wp2_with fail
                  go_meet
                  case rel => exact HZ6.out
              · go_wp2_with fail
                go_meet
                case rel => exact HS.out
            case rest =>
              obtain ⟨tb, db, l, rfl, rfl, hgd, hln, ht, hd, htb, hdb, hgr, hel⟩ := hcut
              have HZ : Hid (Tb wc tb l ∧ Dt wc db l ∧ w.grownBy wc none ∧ w.heap.size ≤ tb ∧ w.heap.size ≤ db ∧ Elder wc u8 u9 tb db ∧ Good l ∧ l.length ≤ 300 + j) := ⟨ht, hd, hgr, htb, hdb, hel, hgd, hln⟩
              obtain ⟨m0, m1, m2, m3⟩ := HM.out wc hgr
              clear ht hd hgr htb hdb hel hgd hln
              refine (‹∀ (a : Act) (w : World), Code.wp Try.prog _ _ a w → _› _ _ ?_)
              go_wp2_with fail
              refine (do12 tb db kd nn _ _ l kb vb HZ.out.2.2.2.2.2.2.1 (by have := HZ.out.2.2.2.2.2.2.2; omega) HP.out.2.2.1 HP.out.2.2.2 wc HZ.out.1 HZ.out.2.1 (HP.out.1.grown HZ.out.2.2.1) (HP.out.2.1.grown HZ.out.2.2.1)).mono ?_
              rintro e w7 ⟨l', rfl, hg7, hn7, ht7, hd7, hr7⟩
              have HE : Hid (StI w (.pointer (some ⟨tb, 0, none⟩)) (.pointer (some ⟨db, 0, none⟩)) u8 u9 (300 + (j + 1)) w7) :=
                ⟨tb, db, l', rfl, rfl, hg7, by have := HZ.out.2.2.2.2.2.2.2; omega, ht7, hd7, HZ.out.2.2.2.1, HZ.out.2.2.2.2.1, hr7.new HZ.out.2.2.1 HZ.out.2.2.2.1 HZ.out.2.2.2.2.1, HZ.out.2.2.2.2.2.1.gr2 hr7 (two_of HZ.out.1 HZ.out.2.1)⟩
              clear hg7 hn7 ht7 hd7 hr7 HZ m0 m1 m2 m3
              go_wp2_with fail
              go_roundw
              case rel => exact ⟨j + 1, by omega, by omega, by go_num, HE.out⟩
              case measure => simp [intOf]; omega
          | false =>
            have hgo : ¬ (j < ns ∧ j < 60) := by simpa using HGB.out
            clear HGB hgo
            obtain ⟨tb, db, l, rfl, rfl, hgd, hln, ht, hd, htb, hdb, hgr, hel⟩ := HS.out
            have HR : Hid (Tb wr tb l ∧ Dt wr db l ∧ Good l ∧ Elder wr u8 u9 tb db ∧ w.grownBy wr none) := ⟨ht, hd, hgd, hel, hgr⟩
            obtain ⟨ad, nd, cd, _, _, _, HD⟩ := dt_open hd
            clear ht hd hgd hln htb hdb hgr hel HS
            go_upto_region 18 with fail
            go_cut [110] (fun x wc => x = .bool false ∧ wr.grownBy wc none)
            case first =>
              rcases HR.out.2.2.2.1 with ⟨rfl, rfl⟩ | ⟨tb2, db2, l2, rfl, rfl, hg2, ht2, hd2, _, _⟩
              · refine wp_region_noPanic ?_
                refine wp_region_hold 1000 (fun y => wr.grownBy y none) (by kernel_rfl) ?_
                have G4 : Hid (wr.grownBy wr.drew none) := grown_drew _ _
                generalize wr.drew = we at G4 ⊢
                refine wpHold_take (i := 0) (v := _) (G4.out) rfl rfl (by kernel_rfl) (by kernel_rfl) (by kernel_rfl) (by kernel_rfl) (by kernel_rfl) (fun _ _ _ h => h) (by rfl) (fun wk hk => by have y0 := (HD.out.1.grown hk (by simp)).cell 0; go_simp; try rfl) ?_
                try simp only [Act.put, List.setIfInBounds_toArray, List.set_cons_zero, List.set_cons_succ]
                refine wpHold_take (i := 1) (v := _) (G4.out) rfl rfl (by kernel_rfl) (by kernel_rfl) (by kernel_rfl) (by kernel_rfl) (by kernel_rfl) (fun _ _ _ h => h) (by rfl) (fun wk hk => by have y0 := (HD.out.1.grown hk (by simp)).cell 0; go_simp; try rfl) ?_
                try simp only [Act.put, List.setIfInBounds_toArray, List.set_cons_zero, List.set_cons_succ]
                refine wpHold_take (i := 2) (v := _) (G4.out) rfl rfl (by kernel_rfl) (by kernel_rfl) (by kernel_rfl) (by kernel_rfl) (by kernel_rfl) (fun _ _ _ h => h) (by rfl) (fun wk hk => by have y0 := (HD.out.1.grown hk (by simp)).cell 0; go_simp; try rfl) ?_
                try simp only [Act.put, List.setIfInBounds_toArray, List.set_cons_zero, List.set_cons_succ]
                refine wpHold_skip (i := 3) (G4.out) rfl rfl (by kernel_rfl) (by kernel_rfl) (by kernel_rfl) (by kernel_rfl) (by kernel_rfl) (fun _ _ _ h => h) (by rfl) ?_
                try simp only [Act.put, List.setIfInBounds_toArray, List.set_cons_zero, List.set_cons_succ]
                refine wpHold_skip (i := 4) (G4.out) rfl rfl (by kernel_rfl) (by kernel_rfl) (by kernel_rfl) (by kernel_rfl) (by kernel_rfl) (fun _ _ _ h => h) (by rfl) ?_
                try simp only [Act.put, List.setIfInBounds_toArray, List.set_cons_zero, List.set_cons_succ]
                refine wpHold_skip (i := 5) (G4.out) rfl rfl (by kernel_rfl) (by kernel_rfl) (by kernel_rfl) (by kernel_rfl) (by kernel_rfl) (fun _ _ _ h => h) (by rfl) ?_
                try simp only [Act.put, List.setIfInBounds_toArray, List.set_cons_zero, List.set_cons_succ]
                refine wpHold_skip (i := 6) (G4.out) rfl rfl (by kernel_rfl) (by kernel_rfl) (by kernel_rfl) (by kernel_rfl) (by kernel_rfl) (fun _ _ _ h => h) (by rfl) ?_
                try simp only [Act.put, List.setIfInBounds_toArray, List.set_cons_zero, List.set_cons_succ]
                refine wpHold_skip (i := 7) (G4.out) rfl rfl (by kernel_rfl) (by kernel_rfl) (by kernel_rfl) (by kernel_rfl) (by kernel_rfl) (fun _ _ _ h => h) (by rfl) ?_
                try simp only [Act.put, List.setIfInBounds_toArray, List.set_cons_zero, List.set_cons_succ]
                refine wpHold_skip (i := 8) (G4.out) rfl rfl (by kernel_rfl) (by kernel_rfl) (by kernel_rfl) (by kernel_rfl) (by kernel_rfl) (fun _ _ _ h => h) (by rfl) ?_
                try simp only [Act.put, List.setIfInBounds_toArray, List.set_cons_zero, List.set_cons_succ]
                refine wpHold_skip (i := 9) (G4.out) rfl rfl (by kernel_rfl) (by kernel_rfl) (by kernel_rfl) (by kernel_rfl) (by kernel_rfl) (fun _ _ _ h => h) (by rfl) ?_
                try simp only [Act.put, List.setIfInBounds_toArray, List.set_cons_zero, List.set_cons_succ]
                refine wpHold_skip (i := 10) (G4.out) rfl rfl (by kernel_rfl) (by kernel_rfl) (by kernel_rfl) (by kernel_rfl) (by kernel_rfl) (fun _ _ _ h => h) (by rfl) ?_
                try simp only [Act.put, List.setIfInBounds_toArray, List.set_cons_zero, List.set_cons_succ]
                refine wpHold_skip (i := 11) (G4.out) rfl rfl (by kernel_rfl) (by kernel_rfl) (by kernel_rfl) (by kernel_rfl) (by kernel_rfl) (fun _ _ _ h => h) (by rfl) ?_
                try simp only [Act.put, List.setIfInBounds_toArray, List.set_cons_zero, List.set_cons_succ]
                refine wpHold_skip (i := 12) (G4.out) rfl rfl (by kernel_rfl) (by kernel_rfl) (by kernel_rfl) (by kernel_rfl) (by kernel_rfl) (fun _ _ _ h => h) (by rfl) ?_
                try simp only [Act.put, List.setIfInBounds_toArray, List.set_cons_zero, List.set_cons_succ]
                refine wpHold_skip (i := 13) (G4.out) rfl rfl (by kernel_rfl) (by kernel_rfl) (by kernel_rfl) (by kernel_rfl) (by kernel_rfl) (fun _ _ _ h => h) (by rfl) ?_
                try simp only [Act.put, List.setIfInBounds_toArray, List.set_cons_zero, List.set_cons_succ]
                refine wpHold_skip (i := 14) (G4.out) rfl rfl (by kernel_rfl) (by kernel_rfl) (by kernel_rfl) (by kernel_rfl) (by kernel_rfl) (fun _ _ _ h => h) (by rfl) ?_
                try simp only [Act.put, List.setIfInBounds_toArray, List.set_cons_zero, List.set_cons_succ]
                refine wpHold_skip (i := 15) (G4.out) rfl rfl (by kernel_rfl) (by kernel_rfl) (by kernel_rfl) (by kernel_rfl) (by kernel_rfl) (fun _ _ _ h => h) (by rfl) ?_
                try simp only [Act.put, List.setIfInBounds_toArray, List.set_cons_zero, List.set_cons_succ]
                refine wpHold_skip (i := 16) (G4.out) rfl rfl (by kernel_rfl) (by kernel_rfl) (by kernel_rfl) (by kernel_rfl) (by kernel_rfl) (fun _ _ _ h => h) (by rfl) ?_
                try simp only [Act.put, List.setIfInBounds_toArray, List.set_cons_zero, List.set_cons_succ]
                refine wpHold_skip (i := 17) (G4.out) rfl rfl (by kernel_rfl) (by kernel_rfl) (by kernel_rfl) (by kernel_rfl) (by kernel_rfl) (fun _ _ _ h => h) (by rfl) ?_
                try simp only [Act.put, List.setIfInBounds_toArray, List.set_cons_zero, List.set_cons_succ]
                refine wpHold_skip (i := 18) (G4.out) rfl rfl (by kernel_rfl) (by kernel_rfl) (by kernel_rfl) (by kernel_rfl) (by kernel_rfl) (fun _ _ _ h => h) (by rfl) ?_
                try simp only [Act.put, List.setIfInBounds_toArray, List.set_cons_zero, List.set_cons_succ]
                refine wpHold_skip (i := 19) (G4.out) rfl rfl (by kernel_rfl) (by kernel_rfl) (by kernel_rfl) (by kernel_rfl) (by kernel_rfl) (fun _ _ _ h => h) (by rfl) ?_
                try simp only [Act.put, List.setIfInBounds_toArray, List.set_cons_zero, List.set_cons_succ]
                refine wpHold_skip (i := 20) (G4.out) rfl rfl (by kernel_rfl) (by kernel_rfl) (by kernel_rfl) (by kernel_rfl) (by kernel_rfl) (fun _ _ _ h => h) (by rfl) ?_
                try simp only [Act.put, List.setIfInBounds_toArray, List.set_cons_zero, List.set_cons_succ]
                refine wpHold_skip (i := 21) (G4.out) rfl rfl (by kernel_rfl) (by kernel_rfl) (by kernel_rfl) (by kernel_rfl) (by kernel_rfl) (fun _ _ _ h => h) (by rfl) ?_
                try simp only [Act.put, List.setIfInBounds_toArray, List.set_cons_zero, List.set_cons_succ]
                refine wpHold_skip (i := 22) (G4.out) rfl rfl (by kernel_rfl) (by kernel_rfl) (by kernel_rfl) (by kernel_rfl) (by kernel_rfl) (fun _ _ _ h => h) (by rfl) ?_
                try simp only [Act.put, List.setIfInBounds_toArray, List.set_cons_zero, List.set_cons_succ]
                refine wpHold_skip (i := 23) (G4.out) rfl rfl (by kernel_rfl) (by kernel_rfl) (by kernel_rfl) (by kernel_rfl) (by kernel_rfl) (fun _ _ _ h => h) (by rfl) ?_
                try simp only [Act.put, List.setIfInBounds_toArray, List.set_cons_zero, List.set_cons_succ]
                refine wpHold_skip (i := 24) (G4.out) rfl rfl (by kernel_rfl) (by kernel_rfl) (by kernel_rfl) (by kernel_rfl) (by kernel_rfl) (fun _ _ _ h => h) (by rfl) ?_
                try simp only [Act.put, List.setIfInBounds_toArray, List.set_cons_zero, List.set_cons_succ]
                refine wpHold_skip (i := 25) (G4.out) rfl rfl (by kernel_rfl) (by kernel_rfl) (by kernel_rfl) (by kernel_rfl) (by kernel_rfl) (fun _ _ _ h => h) (by rfl) ?_
                try simp only [Act.put, List.setIfInBounds_toArray, List.set_cons_zero, List.set_cons_succ]
                refine wpHold_take (i := 26) (v := _) (G4.out) rfl rfl (by kernel_rfl) (by kernel_rfl) (by kernel_rfl) (by kernel_rfl) (by kernel_rfl) (fun _ _ _ h => h) (by rfl) (fun wk hk => by have y0 := (HD.out.1.grown hk (by simp)).cell 0; go_simp; try rfl) ?_
                try simp only [Act.put, List.setIfInBounds_toArray, List.set_cons_zero, List.set_cons_succ]
                refine wpHold_done (by kernel_rfl) ?_
                refine (‹∀ (a : Act) (w : World), Met _ a w → _› _ _ ?_)
                go_meet
                case rel => exact ⟨rfl, G4.out⟩
              · have HB : Hid (Good l2 ∧ Tb wr tb2 l2 ∧ Dt wr db2 l2) := ⟨hg2, ht2, hd2⟩
                obtain ⟨ae, ne, ce, _, _, _, HQ⟩ := dt_open hd2
                clear hg2 ht2 hd2
                obtain ⟨d, hd⟩ : ∃ d, decide (l = l2) = d := ⟨_, rfl⟩
                have HDD : Hid (decide (l = l2) = d) := hd
                clear hd
                refine wp_region_noPanic ?_
                refine wp_region_hold 1000 (fun y => wr.grownBy y none) (by kernel_rfl) ?_
                have G0 : Hid (wr.grownBy wr.drew none) := grown_drew _ _
                generalize wr.drew = we at G0 ⊢
                refine wpHold_take (i := 0) (v := _) (G0.out) rfl rfl (by kernel_rfl) (by kernel_rfl) (by kernel_rfl) (by kernel_rfl) (by kernel_rfl) (fun _ _ _ h => h) (by rfl) (fun wk hk => by have y0 := (HD.out.1.grown hk (by simp)).cell 0; have y1 := (HQ.out.1.grown hk (by simp)).cell 0; go_simp; try rfl) ?_
                try simp only [Act.put, List.setIfInBounds_toArray, List.set_cons_zero, List.set_cons_succ]
                refine wpHold_take (i := 1) (v := _) (G0.out) rfl rfl (by kernel_rfl) (by kernel_rfl) (by kernel_rfl) (by kernel_rfl) (by kernel_rfl) (fun _ _ _ h => h) (by rfl) (fun wk hk => by have y0 := (HD.out.1.grown hk (by simp)).cell 0; have y1 := (HQ.out.1.grown hk (by simp)).cell 0; go_simp; try rfl) ?_
                try simp only [Act.put, List.setIfInBounds_toArray, List.set_cons_zero, List.set_cons_succ]
                refine wpHold_take (i := 2) (v := _) (G0.out) rfl rfl (by kernel_rfl) (by kernel_rfl) (by kernel_rfl) (by kernel_rfl) (by kernel_rfl) (fun _ _ _ h => h) (by rfl) (fun wk hk => by have y0 := (HD.out.1.grown hk (by simp)).cell 0; have y1 := (HQ.out.1.grown hk (by simp)).cell 0; go_simp; try rfl) ?_
                try simp only [Act.put, List.setIfInBounds_toArray, List.set_cons_zero, List.set_cons_succ]
                refine wpHold_take (i := 3) (v := _) (G0.out) rfl rfl (by kernel_rfl) (by kernel_rfl) (by kernel_rfl) (by kernel_rfl) (by kernel_rfl) (fun _ _ _ h => h) (by rfl) (fun wk hk => by have y0 := (HD.out.1.grown hk (by simp)).cell 0; have y1 := (HQ.out.1.grown hk (by simp)).cell 0; go_simp; try rfl) ?_
                try simp only [Act.put, List.setIfInBounds_toArray, List.set_cons_zero, List.set_cons_succ]
                refine wpHold_take (i := 5) (v := _) (G0.out) rfl rfl (by kernel_rfl) (by kernel_rfl) (by kernel_rfl) (by kernel_rfl) (by kernel_rfl) (fun _ _ _ h => h) (by rfl) (fun wk hk => by have y0 := (HD.out.1.grown hk (by simp)).cell 0; have y1 := (HQ.out.1.grown hk (by simp)).cell 0; go_simp; try rfl) ?_
                try simp only [Act.put, List.setIfInBounds_toArray, List.set_cons_zero, List.set_cons_succ]
                refine wpHold_take (i := 6) (v := _) (G0.out) rfl rfl (by kernel_rfl) (by kernel_rfl) (by kernel_rfl) (by kernel_rfl) (by kernel_rfl) (fun _ _ _ h => h) (by rfl) (fun wk hk => by have y0 := (HD.out.1.grown hk (by simp)).cell 0; have y1 := (HQ.out.1.grown hk (by simp)).cell 0; go_simp; try rfl) ?_
                try simp only [Act.put, List.setIfInBounds_toArray, List.set_cons_zero, List.set_cons_succ]
                refine wpHold_take (i := 7) (v := _) (G0.out) rfl rfl (by kernel_rfl) (by kernel_rfl) (by kernel_rfl) (by kernel_rfl) (by kernel_rfl) (fun _ _ _ h => h) (by rfl) (fun wk hk => by have y0 := (HD.out.1.grown hk (by simp)).cell 0; have y1 := (HQ.out.1.grown hk (by simp)).cell 0; go_simp; try rfl) ?_
                try simp only [Act.put, List.setIfInBounds_toArray, List.set_cons_zero, List.set_cons_succ]
                refine wpHold_take (i := 8) (v := _) (G0.out) rfl rfl (by kernel_rfl) (by kernel_rfl) (by kernel_rfl) (by kernel_rfl) (by kernel_rfl) (fun _ _ _ h => h) (by rfl) (fun wk hk => by have y0 := (HD.out.1.grown hk (by simp)).cell 0; have y1 := (HQ.out.1.grown hk (by simp)).cell 0; go_simp; try rfl) ?_
                try simp only [Act.put, List.setIfInBounds_toArray, List.set_cons_zero, List.set_cons_succ]
                refine wpHold_one (i := 4) rfl (by kernel_rfl) (by rfl) (fun K hK => ?_)
                go_wp2_with fail
                refine (all14 _ ⟨_, rfl⟩ we).mono ?_
                rintro e w1' ⟨rfl, hb1, g1, _⟩
                have G1 : Hid (wr.grownBy w1' none ∧ Blk w1' we.heap.size 26 #[.pointer (some ⟨tb2, 0, none⟩)]) := ⟨grown_trans G0.out g1, hb1⟩
                clear hb1 g1
                refine hK.out _ _ (fun _ => G1.out.1) ?_
                clear hK K
                try simp only [Act.put, List.setIfInBounds_toArray, List.set_cons_zero, List.set_cons_succ]
                refine wpHold_one (i := 9) rfl (by kernel_rfl) (by rfl) (fun K hK => ?_)
                go_wp2_with fail
                refine (goes13 45 _ _ false 0 l2 (enters_of Try.func45 (by kernel_rfl) rfl) HB.out.1.2.2 w1' (HQ.out.2.rws.grown G1.out.1) ?_).mono ?_
                · intro W' Fw hg' hF hA
                  exact all45 Fw we.heap.size _ true l2 HB.out.1 W' (G1.out.2.grown hg' (by simp)) (HB.out.2.1.grown (grown_trans G1.out.1 hg')).tl (fun i hi => (hF i hi).2) hA
                rintro e w2' ⟨rfl, g2⟩
                have G2 : Hid (wr.grownBy w2' none) := grown_trans G1.out.1 g2
                clear g2
                refine hK.out _ _ (fun _ => G2.out) ?_
                clear hK K
                try simp only [Act.put, List.setIfInBounds_toArray, List.set_cons_zero, List.set_cons_succ]
                refine wpHold_take (i := 10) (v := _) (G2.out) rfl rfl (by kernel_rfl) (by kernel_rfl) (by kernel_rfl) (by kernel_rfl) (by kernel_rfl) (fun _ _ _ h => h) (by rfl) (fun wk hk => by have y0 := (HD.out.1.grown hk (by simp)).cell 0; have y1 := (HQ.out.1.grown hk (by simp)).cell 0; go_simp; try rfl) ?_
                try simp only [Act.put, List.setIfInBounds_toArray, List.set_cons_zero, List.set_cons_succ]
                refine wpHold_take (i := 11) (v := _) (G2.out) rfl rfl (by kernel_rfl) (by kernel_rfl) (by kernel_rfl) (by kernel_rfl) (by kernel_rfl) (fun _ _ _ h => h) (by rfl) (fun wk hk => by have y0 := (HD.out.1.grown hk (by simp)).cell 0; have y1 := (HQ.out.1.grown hk (by simp)).cell 0; go_simp; try rfl) ?_
                try simp only [Act.put, List.setIfInBounds_toArray, List.set_cons_zero, List.set_cons_succ]
                refine wpHold_take (i := 12) (v := _) (G2.out) rfl rfl (by kernel_rfl) (by kernel_rfl) (by kernel_rfl) (by kernel_rfl) (by kernel_rfl) (fun _ _ _ h => h) (by rfl) (fun wk hk => by have y0 := (HD.out.1.grown hk (by simp)).cell 0; have y1 := (HQ.out.1.grown hk (by simp)).cell 0; go_simp; try rfl) ?_
                try simp only [Act.put, List.setIfInBounds_toArray, List.set_cons_zero, List.set_cons_succ]
                refine wpHold_take (i := 13) (v := _) (G2.out) rfl rfl (by kernel_rfl) (by kernel_rfl) (by kernel_rfl) (by kernel_rfl) (by kernel_rfl) (fun _ _ _ h => h) (by rfl) (fun wk hk => by have y0 := (HD.out.1.grown hk (by simp)).cell 0; have y1 := (HQ.out.1.grown hk (by simp)).cell 0; go_simp; try rfl) ?_
                try simp only [Act.put, List.setIfInBounds_toArray, List.set_cons_zero, List.set_cons_succ]
                refine wpHold_take (i := 15) (v := _) (G2.out) rfl rfl (by kernel_rfl) (by kernel_rfl) (by kernel_rfl) (by kernel_rfl) (by kernel_rfl) (fun _ _ _ h => h) (by rfl) (fun wk hk => by have y0 := (HD.out.1.grown hk (by simp)).cell 0; have y1 := (HQ.out.1.grown hk (by simp)).cell 0; go_simp; try rfl) ?_
                try simp only [Act.put, List.setIfInBounds_toArray, List.set_cons_zero, List.set_cons_succ]
                refine wpHold_take (i := 16) (v := _) (G2.out) rfl rfl (by kernel_rfl) (by kernel_rfl) (by kernel_rfl) (by kernel_rfl) (by kernel_rfl) (fun _ _ _ h => h) (by rfl) (fun wk hk => by have y0 := (HD.out.1.grown hk (by simp)).cell 0; have y1 := (HQ.out.1.grown hk (by simp)).cell 0; go_simp; try rfl) ?_
                try simp only [Act.put, List.setIfInBounds_toArray, List.set_cons_zero, List.set_cons_succ]
                refine wpHold_take (i := 17) (v := _) (G2.out) rfl rfl (by kernel_rfl) (by kernel_rfl) (by kernel_rfl) (by kernel_rfl) (by kernel_rfl) (fun _ _ _ h => h) (by rfl) (fun wk hk => by have y0 := (HD.out.1.grown hk (by simp)).cell 0; have y1 := (HQ.out.1.grown hk (by simp)).cell 0; go_simp; try rfl) ?_
                try simp only [Act.put, List.setIfInBounds_toArray, List.set_cons_zero, List.set_cons_succ]
                refine wpHold_take (i := 18) (v := _) (G2.out) rfl rfl (by kernel_rfl) (by kernel_rfl) (by kernel_rfl) (by kernel_rfl) (by kernel_rfl) (fun _ _ _ h => h) (by rfl) (fun wk hk => by have y0 := (HD.out.1.grown hk (by simp)).cell 0; have y1 := (HQ.out.1.grown hk (by simp)).cell 0; go_simp; try rfl) ?_
                try simp only [Act.put, List.setIfInBounds_toArray, List.set_cons_zero, List.set_cons_succ]
                refine wpHold_take (i := 19) (v := _) (G2.out) rfl rfl (by kernel_rfl) (by kernel_rfl) (by kernel_rfl) (by kernel_rfl) (by kernel_rfl) (fun _ _ _ h => h) (by rfl) (fun wk hk => by have y0 := (HD.out.1.grown hk (by simp)).cell 0; have y1 := (HQ.out.1.grown hk (by simp)).cell 0; go_simp; try rfl) ?_
                try simp only [Act.put, List.setIfInBounds_toArray, List.set_cons_zero, List.set_cons_succ]
                refine wpHold_take (i := 20) (v := _) (G2.out) rfl rfl (by kernel_rfl) (by kernel_rfl) (by kernel_rfl) (by kernel_rfl) (by kernel_rfl) (fun _ _ _ h => h) (by rfl) (fun wk hk => by have y0 := (HD.out.1.grown hk (by simp)).cell 0; have y1 := (HQ.out.1.grown hk (by simp)).cell 0; go_simp; try rfl) ?_
                try simp only [Act.put, List.setIfInBounds_toArray, List.set_cons_zero, List.set_cons_succ]
                refine wpHold_take (i := 21) (v := _) (G2.out) rfl rfl (by kernel_rfl) (by kernel_rfl) (by kernel_rfl) (by kernel_rfl) (by kernel_rfl) (fun _ _ _ h => h) (by rfl) (fun wk hk => by have y0 := (HD.out.1.grown hk (by simp)).cell 0; have y1 := (HQ.out.1.grown hk (by simp)).cell 0; go_simp; try rfl) ?_
                try simp only [Act.put, List.setIfInBounds_toArray, List.set_cons_zero, List.set_cons_succ]
                refine wpHold_take (i := 22) (v := _) (G2.out) rfl rfl (by kernel_rfl) (by kernel_rfl) (by kernel_rfl) (by kernel_rfl) (by kernel_rfl) (fun _ _ _ h => h) (by rfl) (fun wk hk => by have y0 := (HD.out.1.grown hk (by simp)).cell 0; have y1 := (HQ.out.1.grown hk (by simp)).cell 0; go_simp; try rfl) ?_
                try simp only [Act.put, List.setIfInBounds_toArray, List.set_cons_zero, List.set_cons_succ]
                refine wpHold_one (i := 14) rfl (by kernel_rfl) (by rfl) (fun K hK => ?_)
                go_wp2_with fail
                refine (same11 _ _ true true l l2 w2' (HR.out.1.grown G2.out).tl (HB.out.2.1.grown G2.out).tl).mono ?_
                rintro e w3' ⟨rfl, q3, hw3⟩
                have hll : (decide (true = true) && decide (l = l2)) = d := by rw [HDD.out]; simp
                rw [hll]
                clear hll
                have G3 : Hid (wr.grownBy w3' none) := by rw [hw3]; exact grown_trans G2.out (grown_drewN _ _ _)
                clear hw3
                refine hK.out _ _ (fun _ => G3.out) ?_
                clear hK K
                try simp only [Act.put, List.setIfInBounds_toArray, List.set_cons_zero, List.set_cons_succ]
                refine wpHold_one (i := 23) rfl (by kernel_rfl) (by rfl) (fun K hK => ?_)
                go_wp2_with fail
                refine (same15 _ _ l l2 w3' (HD.out.2.rws.grown G3.out) (HQ.out.2.rws.grown G3.out)).mono ?_
                rintro e w4' ⟨rfl, q4, hw4⟩
                rw [HDD.out]
                have G4 : Hid (wr.grownBy w4' none) := by rw [hw4]; exact grown_trans G3.out (grown_drewN _ _ _)
                clear hw4
                refine hK.out _ _ (fun _ => G4.out) ?_
                clear hK K
                try simp only [Act.put, List.setIfInBounds_toArray, List.set_cons_zero, List.set_cons_succ]
                refine wpHold_take (i := 24) (v := _) (G4.out) rfl rfl (by kernel_rfl) (by kernel_rfl) (by kernel_rfl) (by kernel_rfl) (by kernel_rfl) (fun _ _ _ h => h) (by rfl) (fun wk hk => by have y0 := (HD.out.1.grown hk (by simp)).cell 0; have y1 := (HQ.out.1.grown hk (by simp)).cell 0; go_simp; try rfl) ?_
                try simp only [Act.put, List.setIfInBounds_toArray, List.set_cons_zero, List.set_cons_succ]
                refine wpHold_take (i := 25) (v := _) (G4.out) rfl rfl (by kernel_rfl) (by kernel_rfl) (by kernel_rfl) (by kernel_rfl) (by kernel_rfl) (fun _ _ _ h => h) (by rfl) (fun wk hk => by have y0 := (HD.out.1.grown hk (by simp)).cell 0; have y1 := (HQ.out.1.grown hk (by simp)).cell 0; go_simp; try rfl) ?_
                try simp only [Act.put, List.setIfInBounds_toArray, List.set_cons_zero, List.set_cons_succ]
                refine wpHold_take (i := 26) (v := _) (G4.out) rfl rfl (by kernel_rfl) (by kernel_rfl) (by kernel_rfl) (by kernel_rfl) (by kernel_rfl) (fun _ _ _ h => h) (by rfl) (fun wk hk => by have y0 := (HD.out.1.grown hk (by simp)).cell 0; have y1 := (HQ.out.1.grown hk (by simp)).cell 0; go_simp; try rfl) ?_
                try simp only [Act.put, List.setIfInBounds_toArray, List.set_cons_zero, List.set_cons_succ]
                refine wpHold_done (by kernel_rfl) ?_
                refine (‹∀ (a : Act) (w : World), Met _ a w → _› _ _ ?_)
                go_meet
                case rel => exact ⟨by cases d <;> rfl, G4.out⟩
            case rest =>
              obtain ⟨rfl, hwc⟩ := hcut
              have G4 : Hid (wr.grownBy wc none) := hwc
              clear hwc
              refine (‹∀ (a : Act) (w : World), Code.wp Try.prog _ _ a w → _› _ _ ?_)
              go_upto_region 20 with fail
              refine wp_region_noPanic ?_
              refine wp_region_hold 1000 (fun y => wr.grownBy y none) (by kernel_rfl) ?_
              have G5 : Hid (wr.grownBy wc.drew none) := grown_trans G4.out (grown_drew _ _)
              generalize wc.drew = wf at G5 ⊢
              refine wpHold_take (i := 0) (v := _) (G5.out) rfl rfl (by kernel_rfl) (by kernel_rfl) (by kernel_rfl) (by kernel_rfl) (by kernel_rfl) (fun _ _ _ h => h) (by rfl) (fun wk hk => by have y0 := (HD.out.1.grown hk (by simp)).cell 0; go_simp; try rfl) ?_
              try simp only [Act.put, List.setIfInBounds_toArray, List.set_cons_zero, List.set_cons_succ]
              refine wpHold_take (i := 2) (v := _) (G5.out) rfl rfl (by kernel_rfl) (by kernel_rfl) (by kernel_rfl) (by kernel_rfl) (by kernel_rfl) (fun _ _ _ h => h) (by rfl) (fun wk hk => by have y0 := (HD.out.1.grown hk (by simp)).cell 0; go_simp; try rfl) ?_
              try simp only [Act.put, List.setIfInBounds_toArray, List.set_cons_zero, List.set_cons_succ]
              refine wpHold_take (i := 3) (v := _) (G5.out) rfl rfl (by kernel_rfl) (by kernel_rfl) (by kernel_rfl) (by kernel_rfl) (by kernel_rfl) (fun _ _ _ h => h) (by rfl) (fun wk hk => by have y0 := (HD.out.1.grown hk (by simp)).cell 0; go_simp; try rfl) ?_
              try simp only [Act.put, List.setIfInBounds_toArray, List.set_cons_zero, List.set_cons_succ]
              refine wpHold_take (i := 4) (v := _) (G5.out) rfl rfl (by kernel_rfl) (by kernel_rfl) (by kernel_rfl) (by kernel_rfl) (by kernel_rfl) (fun _ _ _ h => h) (by rfl) (fun wk hk => by have y0 := (HD.out.1.grown hk (by simp)).cell 0; go_simp; try rfl) ?_
              try simp only [Act.put, List.setIfInBounds_toArray, List.set_cons_zero, List.set_cons_succ]
              refine wpHold_take (i := 5) (v := _) (G5.out) rfl rfl (by kernel_rfl) (by kernel_rfl) (by kernel_rfl) (by kernel_rfl) (by kernel_rfl) (fun _ _ _ h => h) (by rfl) (fun wk hk => by have y0 := (HD.out.1.grown hk (by simp)).cell 0; go_simp; try rfl) ?_
              try simp only [Act.put, List.setIfInBounds_toArray, List.set_cons_zero, List.set_cons_succ]
              refine wpHold_one (i := 1) rfl (by kernel_rfl) (by rfl) (fun K hK => ?_)
              go_wp2_with fail
              refine (all14 _ ⟨_, rfl⟩ wf).mono ?_
              rintro e w6 ⟨rfl, hb6, g6, _⟩
              have G6 : Hid (wr.grownBy w6 none ∧ Blk w6 wf.heap.size 26 #[.pointer (some ⟨tb, 0, none⟩)]) := ⟨grown_trans G5.out g6, hb6⟩
              clear hb6 g6
              refine hK.out _ _ (fun _ => G6.out.1) ?_
              clear hK K
              try simp only [Act.put, List.setIfInBounds_toArray, List.set_cons_zero, List.set_cons_succ]
              refine wpHold_one (i := 6) rfl (by kernel_rfl) (by rfl) (fun K hK => ?_)
              go_wp2_with fail
              refine (goes13 45 _ _ false 0 l (enters_of Try.func45 (by kernel_rfl) rfl) HR.out.2.2.1.2.2 w6 (HD.out.2.rws.grown G6.out.1) ?_).mono ?_
              · intro W' Fw hg' hF hA
                exact all45 Fw wf.heap.size _ true l HR.out.2.2.1 W' (G6.out.2.grown hg' (by simp)) (HR.out.1.grown (grown_trans G6.out.1 hg')).tl (fun i hi => (hF i hi).2) hA
              rintro e w8 ⟨rfl, g8⟩
              have G8 : Hid (wr.grownBy w8 none) := grown_trans G6.out.1 g8
              clear g8
              refine hK.out _ _ (fun _ => G8.out) ?_
              clear hK K
              try simp only [Act.put, List.setIfInBounds_toArray, List.set_cons_zero, List.set_cons_succ]
              refine wpHold_take (i := 7) (v := _) (G8.out) rfl rfl (by kernel_rfl) (by kernel_rfl) (by kernel_rfl) (by kernel_rfl) (by kernel_rfl) (fun _ _ _ h => h) (by rfl) (fun wk hk => by have y0 := (HD.out.1.grown hk (by simp)).cell 0; go_simp; try rfl) ?_
              try simp only [Act.put, List.setIfInBounds_toArray, List.set_cons_zero, List.set_cons_succ]
              refine wpHold_one (i := 8) rfl (by kernel_rfl) (by rfl) (fun K hK => ?_)
              go_wp2_with fail
              refine (known8 w8).mono ?_
              rintro e w9 ⟨rfl, g9⟩
              have G9 : Hid (wr.grownBy w9 none) := grown_trans G8.out g9
              clear g9
              refine hK.out _ _ (fun _ => G9.out) ?_
              clear hK K
              try simp only [Act.put, List.setIfInBounds_toArray, List.set_cons_zero, List.set_cons_succ]
              refine wpHold_take (i := 9) (v := _) (G9.out) rfl rfl (by kernel_rfl) (by kernel_rfl) (by kernel_rfl) (by kernel_rfl) (by kernel_rfl) (fun _ _ _ h => h) (by rfl) (fun wk hk => by have y0 := (HD.out.1.grown hk (by simp)).cell 0; go_simp; try rfl) ?_
              try simp only [Act.put, List.setIfInBounds_toArray, List.set_cons_zero, List.set_cons_succ]
              refine wpHold_take (i := 10) (v := _) (G9.out) rfl rfl (by kernel_rfl) (by kernel_rfl) (by kernel_rfl) (by kernel_rfl) (by kernel_rfl) (fun _ _ _ h => h) (by rfl) (fun wk hk => by have y0 := (HD.out.1.grown hk (by simp)).cell 0; go_simp; try rfl) ?_
              try simp only [Act.put, List.setIfInBounds_toArray, List.set_cons_zero, List.set_cons_succ]
              refine wpHold_done (by kernel_rfl) ?_
              refine (‹∀ (a : Act) (w : World), Code.wp Try.prog _ _ a w → _› _ _ ?_)
              go_wp2_with fail
              go_ret
              exact ⟨rfl, grown_trans HR.out.2.2.2.2 G9.out⟩
    · have H2 : Hid (w.grownBy w2 none) := g2
      clear g2 hgd
      go_wp2_with fail
      refine (known8 w2).mono ?_
      rintro e w3 ⟨rfl, g3⟩
      have G3 : Hid (w.grownBy w3 none) := grown_trans H2.out g3
      clear g3
      go_wp2_with fail
      go_ret
      exact ⟨rfl, G3.out⟩
end Go.Proofs.Ytlehikdlkdbacaa
