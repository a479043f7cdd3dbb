/-
  DiskLasts' walk.
-/
import Derived.Test.YtegacmcekladfaaY
namespace Go.Proofs.Ytegacmcekladfaa
open Go.RowKit
attribute [local go_sem ↓] run_max0 run_maxn run_minn

theorem put_snap (S : St) (M : List UInt8) : (S.put M).snap = S.snap := by
  unfold St.put
  by_cases e : S.last = 0
  · rw [if_pos e]
    unfold St.snap
    rw [if_pos e]
    exact if_pos e
  · rw [if_neg e]
    unfold St.snap
    rw [if_neg e]
    exact if_neg e
theorem put_log (S : St) (M : List UInt8) : (S.put M).log = S.log := by
  unfold St.put
  by_cases e : S.last = 0
  · rw [if_pos e]; rfl
  · rw [if_neg e]; rfl
theorem keeps_le (S : St) (h : S.Ok) (keep : Int) : S.sure ≤ S.keeps keep ∧ S.keeps keep ≤ S.log.length ∧ S.keeps keep - S.sure ≤ keep.toNat := by
  have := h.sure
  unfold St.keeps
  omega
theorem stop_stop (S : St) (h : S.Ok) (keep : Int) : ((S.stop keep).stop keep).log = (S.stop keep).log := by
  have h1 := (keeps_le S h keep).2.1
  show (S.log.take (S.keeps keep)).take ((S.stop keep).keeps keep) = S.log.take (S.keeps keep)
  refine List.take_of_length_le ?_
  have e : (S.stop keep).keeps keep = S.keeps keep := by
    unfold St.keeps
    show S.keeps keep + min keep.toNat ((S.log.take (S.keeps keep)).length - S.keeps keep) = _
    simp only [List.length_take]
    unfold St.keeps
    omega
  rw [e]
  simp
  omega
theorem sync_stop (S : St) : (S.sync.stop (-1)).log = S.log := by
  show S.log.take (S.sync.keeps (-1)) = S.log
  refine List.take_of_length_le ?_
  unfold St.keeps
  show S.log.length ≤ S.log.length + _
  omega

theorem own_far {w w' : World} {F : Nat → Prop} {B : Nat} {v : Value} {L : List UInt8} (h : Own w B v L) (hf : Fr w w' F) (hn : ∀ k, v.ownBlock = some k → ¬ F k) : Own w' B v L := h.same fun k hk => hf.block k (h.lt k hk).2 (hn k hk)

set_option maxRecDepth 100000 in
set_option maxHeartbeats 4000000 in
theorem lasts4 (c keep : Int) (u v sv dv : Value) (log data : List UInt8) (Ls : List (List UInt8)) (L : List (Int × Int × List UInt8)) (w : World) (hu : Seg w u log) (hv : Segs w v Ls) (hs : StepsV w sv L) (hdv : Seg w dv data) (hl : log.length ≤ 140737488351232) (hL : ∀ M ∈ Ls, M.length ≤ 140737488351232) (hdl : data.length ≤ 140737488351232) (_hk1 : -9223372036854775808 ≤ keep) (_hk2 : keep ≤ 9223372036854775807) :
    Calls Try.prog 4 #[.agg #[.int .i64 c, u, v], sv, .int .i64 keep, dv] w fun e w' => e = .returned (.bool true) ∧ w.grownBy w' none := by
  obtain ⟨au, cu, huv⟩ := hu.shape
  subst huv
  obtain ⟨aq, cq, hsv⟩ := hs.shape
  subst hsv
  obtain ⟨ad, cd, hdvv⟩ := hdv.shape
  subst hdvv
  obtain ⟨av, cv, rfl, hvl, hvc⟩ := id hv
  have HB : Hid (Blk (w.alloc (.cells #[.int .i64 c, .slice au log.length cu, .slice av Ls.length cv] 25)) w.heap.size 25 #[.int .i64 c, .slice au log.length cu, .slice av Ls.length cv] ∧ w.grownBy (w.alloc (.cells #[.int .i64 c, .slice au log.length cu, .slice av Ls.length cv] 25)) none) := ⟨heap_alloc_new _ _, World.grownBy_alloc _ _ _⟩
  have HU : Hid (Seg w (.slice au log.length cu) log ∧ Segs w (.slice av Ls.length cv) Ls ∧ StepsV w (.slice aq L.length cq) L ∧ Seg w (.slice ad data.length cd) data) := ⟨hu, hv, hs, hdv⟩
  have HL : Hid (∀ M ∈ Ls, M.length ≤ 140737488351232) := hL
  obtain ⟨q, hq⟩ : ∃ q, L.length = q := ⟨_, rfl⟩
  have HQ : Hid (L.length = q) := hq
  have hq2 : q ≤ 140737488355328 := by
    obtain ⟨_, _, _, h, _⟩ := hs
    omega
  rw [hq] at HU ⊢
  clear hu hv hs hvc hL hq hdv
  go_enter Try.func4, Try.ntmps4
  go_wp2_with fail
  generalize w.alloc (.cells #[.int .i64 c, .slice au log.length cu, .slice av Ls.length cv] 25) = w0 at HB ⊢
  refine (ofD c _ _ log Ls _ (HU.out.1.grown HB.out.2) (HU.out.2.1.grown HB.out.2) hl HL.out).mono ?_
  rintro e w4 ⟨d, rfl, g4, F, d4, l4, u4⟩
  obtain ⟨X, hX⟩ : ∃ X, ofX c log Ls = X := ⟨_, rfl⟩
  have HFW : Hid (Few 0 X) := by rw [← hX]; exact ofX_few _ _ _ _
  have HX : Hid (ofX c log Ls = X) := hX
  rw [hX] at d4 ⊢
  clear hX
  cases X with
  | none =>
    have ed : d = .pointer none := d4
    subst ed
    have G4 : Hid (w.grownBy w4 none) := grown_trans HB.out.2 g4
    clear g4 d4 l4 u4
    rw [show ofCode none = 2 from rfl]
    go_wp2_with fail
    refine (known12 _).mono ?_
    rintro e w9 ⟨rfl, g9⟩
    have G9 : Hid (w.grownBy w9 none) := grown_trans G4.out g9
    clear g9
    go_wp2_with fail
    go_ret
    exact ⟨rfl, G9.out⟩
  | some S0 =>
    have hb4 := HB.out.1.grown g4 (by simp)
    have b0 : w4.cell? ⟨w.heap.size, 0, none⟩ = some (.int .i64 c) := hb4.cell 0
    have b1 : w4.cell? ⟨w.heap.size, 1, none⟩ = some (.slice au log.length cu) := hb4.cell 1
    have b2 : w4.cell? ⟨w.heap.size, 2, none⟩ = some (.slice av Ls.length cv) := hb4.cell 2
    have HM4 : Hid (w0.grownBy w4 none ∧ DQ w4 F d (some S0) ∧ (∀ k, F k → w0.heap.size ≤ k) ∧ ∀ k, F k → k < w4.heap.size) := ⟨g4, d4, l4, u4⟩
    clear g4 d4 l4 u4 hb4
    rw [show ofCode (some S0) = 0 from rfl]
    go_wp2_with fail
    refine (ofR c _ _ log Ls _ (HU.out.1.grown (grown_trans HB.out.2 HM4.out.1)) (HU.out.2.1.grown (grown_trans HB.out.2 HM4.out.1)) hl HL.out).mono ?_
    rw [HX.out]
    rintro e w5 ⟨r, rfl, g5, G, d5, l5, u5⟩
    have HM5 : Hid (Mid w w5 F G d r (some S0) (some S0)) := mid_new HB.out.2 HM4.out.1 HM4.out.2.1 HM4.out.2.2.1 HM4.out.2.2.2 g5 d5 l5 u5
    clear g5 d5 l5 u5 HM4 b0 b1 b2
    go_wp2_with fail
    go_loopw [9, 11, 12] (fun d r i wr => ∃ (j : Nat) (S' : St), j ≤ q ∧ j ≤ 200 ∧ i = .int .i64 j ∧ PairQ w wr d r (some S') ∧ Few j (some S')) (fun _ _ i _ => q - (intOf i).toNat)
    case atStart => exact ⟨0, S0, by omega, by omega, rfl, ⟨F, G, HM5.out⟩, HFW.out⟩
    case round =>
      obtain ⟨j, S', hj, hj2, rfl, hpair, hfew⟩ := hrel
      have HPR : Hid (PairQ w wr _ _ (some S') ∧ Few j (some S')) := ⟨hpair, hfew⟩
      have hgr : w.grownBy wr none := by obtain ⟨_, _, h⟩ := hpair; exact h.gr
      clear hpair hfew HM5 HFW HX
      by_cases hlt : j < q ∧ j < 200
      · obtain ⟨hlt, hlt2⟩ := hlt
        have hjl : j < L.length := by rw [HQ.out]; exact hlt
        obtain ⟨_, _, hv, _, h4⟩ := HU.out.2.2.1
        simp at hv
        obtain ⟨bs, offs, us, es, k0, k1, k2, hsg, hsl, hn1, hn2⟩ := h4 j hjl
        have e1 : aq = some ⟨bs, offs, none⟩ := by rw [hv.1, es]
        subst e1
        have k0 := hgr.cell k0 (by simp)
        have k1 := hgr.cell k1 (by simp)
        have k2 := hgr.cell k2 (by simp)
        obtain ⟨st, hst⟩ : ∃ st, L[j] = st := ⟨_, rfl⟩
        rw [hst] at k0 k1 hsg hsl hn1 hn2
        obtain ⟨kd, nn, MM⟩ := st
        simp only at k0 k1 hsg hsl hn1 hn2
        have HSG : Hid (Seg w us MM) := hsg
        obtain ⟨a3, c3, e3⟩ := hsg.shape
        subst e3
        have i1 : (0 : Int) ≤ (j : Int) := by omega
        have i2 : (j : Int) < (q : Int) := by omega
        have i3 : (j : Int) < 200 := by omega
        clear h4 hv es hst hsg
        go_wp2_with fail
        refine (does11 w wr _ _ (some S') j kd nn _ MM HPR.out.1 HPR.out.2 (by omega) HSG.out hsl hn1 hn2).mono ?_
        rintro e w8 ⟨d', r', rfl, X8, ⟨F8, G8, p8⟩, f8, hx8⟩
        obtain ⟨S8, rfl⟩ : ∃ S8, X8 = some S8 := by
          cases X8 with
          | none => exact absurd (hx8.2 rfl) (by simp)
          | some S8 => exact ⟨S8, rfl⟩
        obtain ⟨b8, e8⟩ := (show DK w8 F8 d' S8 from p8.dq).ptr
        subst e8
        have HP8 : Hid (PairQ w w8 (.pointer (some ⟨b8, 0, none⟩)) r' (some S8) ∧ Few (j + 1) (some S8)) := ⟨⟨F8, G8, p8⟩, f8⟩
        clear p8 f8 k0 k1 k2 hx8
        go_wp2_with fail
        go_roundw
        case rel => exact ⟨j + 1, S8, by omega, by omega, by go_num, HP8.out.1, HP8.out.2⟩
        case measure => simp [intOf]; omega
      · obtain ⟨F1, G1, hmid⟩ := HPR.out.1
        obtain ⟨b1, e1⟩ := (show DK wr F1 _ S' from hmid.dq).ptr
        subst e1
        have HS : Hid (DK wr F1 (.pointer (some ⟨b1, 0, none⟩)) S' ∧ w.grownBy wr none ∧ (∀ k, F1 k → w.heap.size ≤ k) ∧ S'.steps ≤ 200) := ⟨hmid.dq, hmid.gr, hmid.lf, Nat.le_trans (HPR.out.2 S' rfl) hj2⟩
        have hdec : (j < q ∧ ¬ j < 200) ∨ ¬ j < q := by omega
        clear hmid hgr HPR hlt
        rcases hdec with ⟨e1, e2⟩ | e1
        all_goals
          go_wp2_with fail
          refine (log13 F1 _ S' _ HS.out.1).mono ?_
          rintro e wA ⟨ua, rfl, oa, ga⟩
          have HA : Hid (DK wA F1 (.pointer (some ⟨b1, 0, none⟩)) S' ∧ w.grownBy wA none ∧ Own wA wr.heap.size ua S'.log) := ⟨HS.out.1.grown ga, grown_trans HS.out.2.1 ga, oa⟩
          clear oa ga
          go_wp2_with fail
          refine (stop14 F1 _ S' keep _ HA.out.1).mono ?_
          rintro e wB ⟨p, rfl, gB, F2, dB, lB⟩
          obtain ⟨b2, hb2⟩ := dB.ptr
          subst hb2
          have HBB : Hid (DK wB F1 (.pointer (some ⟨b1, 0, none⟩)) S' ∧ w.grownBy wB none ∧ Own wB wr.heap.size ua S'.log ∧ DK wB F2 (.pointer (some ⟨b2, 0, none⟩)) (S'.stop keep)) := ⟨HA.out.1.grown gB, grown_trans HA.out.2.1 gB, HA.out.2.2.grown gB, dB⟩
          clear gB dB lB HA
          obtain ⟨xa, ya, eua⟩ := HBB.out.2.2.1.seg.shape
          subst eua
          have hok := HBB.out.1.ok
          have hks := keeps_le S' hok keep
          have hlen := hok.log
          have hsl := hok.sure
          have hcp : S'.log.length ≤ ya ∧ ya ≤ 9223372036854775807 := by
            obtain ⟨ao', cap', hv, q1, q2, _⟩ := HBB.out.2.2.1.seg
            simp at hv; unfold maxLen at q2; omega
          obtain ⟨hcp1, hcp2⟩ := hcp
          obtain ⟨n0, hn0⟩ : ∃ n0, S'.keeps keep = n0 := ⟨_, rfl⟩
          have HN0 : Hid (S'.keeps keep = n0) := hn0
          rw [hn0] at hks
          obtain ⟨hks1, hks2, hks3⟩ := hks
          obtain ⟨nl, hnl⟩ : ∃ nl, S'.log.length = nl := ⟨_, rfl⟩
          have HNL : Hid (S'.log.length = nl) := hnl
          obtain ⟨su, hsu⟩ : ∃ su, S'.sure = su := ⟨_, rfl⟩
          have HSU : Hid (S'.sure = su) := hsu
          rw [hnl] at HBB hlen hsl hcp1 hks2 ⊢
          rw [hsu] at hsl hks1 hks3
          have i10 : (su : Int) ≤ (nl : Int) := by omega
          clear hn0 hnl hsu hok
          go_wp2_with fail
          refine (sureD F1 _ S' _ HBB.out.1).mono ?_
          rw [HSU.out]
          rintro e wz ⟨rfl, he⟩
          subst he
          go_wp2_with fail
          refine (log13 F2 _ _ _ HBB.out.2.2.2).mono ?_
          rintro e wC ⟨ul, rfl, ol, gl⟩
          have HC : Hid (DK wC F1 (.pointer (some ⟨b1, 0, none⟩)) S' ∧ w.grownBy wC none ∧ Own wC wr.heap.size (.slice xa nl ya) S'.log ∧ DK wC F2 (.pointer (some ⟨b2, 0, none⟩)) (S'.stop keep) ∧ Own wC wz.heap.size ul (S'.log.take n0)) := by
            obtain ⟨h1, h2, h3, h4⟩ := HBB.out
            refine ⟨h1.grown gl, grown_trans h2 gl, h3.grown gl, h4.grown gl, ?_⟩
            rw [← HN0.out]
            exact ol
          clear ol gl HBB
          obtain ⟨xl, yl, eul⟩ := HC.out.2.2.2.2.seg.shape
          rw [List.length_take, HNL.out, Nat.min_eq_left hks2] at eul
          subst eul
          go_wp2_with fail
          have HQ17 : Hid (∀ x : World, wC.grownBy x none → (convert 22 9 (.slice xl n0 yl)).run Try.prog x = .ok (.string ⟨(S'.log.take n0).toArray⟩) x ∧ (convert 22 9 (.slice xa n0 ya)).run Try.prog x = .ok (.string ⟨(S'.log.take n0).toArray⟩) x) := fun x hx => by
            obtain ⟨h1, h2, h3, h4, h5⟩ := HC.out
            refine ⟨seg_str (h5.seg.grown hx), seg_str (Seg.grown (seg_take n0 ?_ ?_) hx)⟩
            · rw [HNL.out]; exact hks2
            · rw [HNL.out]; exact h3.seg
          have j1 : ¬ n0 < su := by omega
          have j2 : ¬ nl < n0 := by omega
          have j3 : ¬ keep.toNat < n0 - su := by omega
          have j4 : IntKind.i64.wrap ((n0 : Int) - (su : Int)) = ((n0 - su : Nat) : Int) := by
            simp only [IntKind.wrap, IntKind.bits, IntKind.signed]; simp; omega
          have j5 : (n0 : Int) ≤ (ya : Int) := by omega
          refine wp_region_noPanic ?_
          refine wp_region_hold 1000 (fun x => wC.grownBy x none) (by kernel_rfl) ?_
          refine wpHold_take (i := 0) (v := _) (grown_drew _ _) rfl rfl (by kernel_rfl) (by kernel_rfl) (by kernel_rfl) (by kernel_rfl) (by kernel_rfl) (fun _ _ _ h => h) (by rfl) (fun wk hk => by obtain ⟨k1, k2⟩ := HQ17.out wk hk; go_simp; try rfl) ?_
          try simp only [Act.put, List.setIfInBounds_toArray, List.set_cons_zero, List.set_cons_succ]
          refine wpHold_take (i := 1) (v := _) (grown_drew _ _) rfl rfl (by kernel_rfl) (by kernel_rfl) (by kernel_rfl) (by kernel_rfl) (by kernel_rfl) (fun _ _ _ h => h) (by rfl) (fun wk hk => by obtain ⟨k1, k2⟩ := HQ17.out wk hk; go_simp; try rfl) ?_
          try simp only [Act.put, List.setIfInBounds_toArray, List.set_cons_zero, List.set_cons_succ]
          refine wpHold_one (i := 2) rfl (by kernel_rfl) (by rfl) (fun K hK => ?_)
          go_simp
          refine (sureD F1 _ S' _ (HC.out.1.grown (grown_drew _ _))).mono ?_
          rw [HSU.out]
          rintro e wz ⟨rfl, he⟩
          subst he
          go_wp2_with fail
          refine hK.out _ _ (fun _ => grown_drew _ _) ?_
          clear hK K
          try simp only [Act.put, List.setIfInBounds_toArray, List.set_cons_zero, List.set_cons_succ]
          refine wpHold_take (i := 3) (v := _) (grown_drew _ _) rfl rfl (by kernel_rfl) (by kernel_rfl) (by kernel_rfl) (by kernel_rfl) (by kernel_rfl) (fun _ _ _ h => h) (by rfl) (fun wk hk => by obtain ⟨k1, k2⟩ := HQ17.out wk hk; go_simp; try rfl) ?_
          try simp only [Act.put, List.setIfInBounds_toArray, List.set_cons_zero, List.set_cons_succ]
          refine wpHold_take (i := 4) (v := _) (grown_drew _ _) rfl rfl (by kernel_rfl) (by kernel_rfl) (by kernel_rfl) (by kernel_rfl) (by kernel_rfl) (fun _ _ _ h => h) (by rfl) (fun wk hk => by obtain ⟨k1, k2⟩ := HQ17.out wk hk; go_simp; try rfl) ?_
          try simp only [Act.put, List.setIfInBounds_toArray, List.set_cons_zero, List.set_cons_succ]
          refine wpHold_take (i := 5) (v := _) (grown_drew _ _) rfl rfl (by kernel_rfl) (by kernel_rfl) (by kernel_rfl) (by kernel_rfl) (by kernel_rfl) (fun _ _ _ h => h) (by rfl) (fun wk hk => by obtain ⟨k1, k2⟩ := HQ17.out wk hk; go_simp; try rfl) ?_
          try simp only [Act.put, List.setIfInBounds_toArray, List.set_cons_zero, List.set_cons_succ]
          refine wpHold_take (i := 6) (v := _) (grown_drew _ _) rfl rfl (by kernel_rfl) (by kernel_rfl) (by kernel_rfl) (by kernel_rfl) (by kernel_rfl) (fun _ _ _ h => h) (by rfl) (fun wk hk => by obtain ⟨k1, k2⟩ := HQ17.out wk hk; go_simp; try rfl) ?_
          try simp only [Act.put, List.setIfInBounds_toArray, List.set_cons_zero, List.set_cons_succ]
          refine wpHold_take (i := 7) (v := _) (grown_drew _ _) rfl rfl (by kernel_rfl) (by kernel_rfl) (by kernel_rfl) (by kernel_rfl) (by kernel_rfl) (fun _ _ _ h => h) (by rfl) (fun wk hk => by obtain ⟨k1, k2⟩ := HQ17.out wk hk; go_simp; try rfl) ?_
          try simp only [Act.put, List.setIfInBounds_toArray, List.set_cons_zero, List.set_cons_succ]
          refine wpHold_take (i := 8) (v := _) (grown_drew _ _) rfl rfl (by kernel_rfl) (by kernel_rfl) (by kernel_rfl) (by kernel_rfl) (by kernel_rfl) (fun _ _ _ h => h) (by rfl) (fun wk hk => by obtain ⟨k1, k2⟩ := HQ17.out wk hk; go_simp; try rfl) ?_
          try simp only [Act.put, List.setIfInBounds_toArray, List.set_cons_zero, List.set_cons_succ]
          refine wpHold_take (i := 9) (v := _) (grown_drew _ _) rfl rfl (by kernel_rfl) (by kernel_rfl) (by kernel_rfl) (by kernel_rfl) (by kernel_rfl) (fun _ _ _ h => h) (by rfl) (fun wk hk => by obtain ⟨k1, k2⟩ := HQ17.out wk hk; go_simp; try rfl) ?_
          try simp only [Act.put, List.setIfInBounds_toArray, List.set_cons_zero, List.set_cons_succ]
          refine wpHold_take (i := 10) (v := _) (grown_drew _ _) rfl rfl (by kernel_rfl) (by kernel_rfl) (by kernel_rfl) (by kernel_rfl) (by kernel_rfl) (fun _ _ _ h => h) (by rfl) (fun wk hk => by obtain ⟨k1, k2⟩ := HQ17.out wk hk; go_simp; try rfl) ?_
          try simp only [Act.put, List.setIfInBounds_toArray, List.set_cons_zero, List.set_cons_succ]
          refine wpHold_take (i := 11) (v := _) (grown_drew _ _) rfl rfl (by kernel_rfl) (by kernel_rfl) (by kernel_rfl) (by kernel_rfl) (by kernel_rfl) (fun _ _ _ h => h) (by rfl) (fun wk hk => by obtain ⟨k1, k2⟩ := HQ17.out wk hk; go_simp; try rfl) ?_
          try simp only [Act.put, List.setIfInBounds_toArray, List.set_cons_zero, List.set_cons_succ]
          refine wpHold_take (i := 12) (v := _) (grown_drew _ _) rfl rfl (by kernel_rfl) (by kernel_rfl) (by kernel_rfl) (by kernel_rfl) (by kernel_rfl) (fun _ _ _ h => h) (by rfl) (fun wk hk => by obtain ⟨k1, k2⟩ := HQ17.out wk hk; go_simp; try rfl) ?_
          try simp only [Act.put, List.setIfInBounds_toArray, List.set_cons_zero, List.set_cons_succ]
          refine wpHold_take (i := 13) (v := _) (grown_drew _ _) rfl rfl (by kernel_rfl) (by kernel_rfl) (by kernel_rfl) (by kernel_rfl) (by kernel_rfl) (fun _ _ _ h => h) (by rfl) (fun wk hk => by obtain ⟨k1, k2⟩ := HQ17.out wk hk; go_simp; try rfl) ?_
          try simp only [Act.put, List.setIfInBounds_toArray, List.set_cons_zero, List.set_cons_succ]
          refine wpHold_take (i := 14) (v := _) (grown_drew _ _) rfl rfl (by kernel_rfl) (by kernel_rfl) (by kernel_rfl) (by kernel_rfl) (by kernel_rfl) (fun _ _ _ h => h) (by rfl) (fun wk hk => by obtain ⟨k1, k2⟩ := HQ17.out wk hk; go_simp; try rfl) ?_
          try simp only [Act.put, List.setIfInBounds_toArray, List.set_cons_zero, List.set_cons_succ]
          refine wpHold_take (i := 15) (v := _) (grown_drew _ _) rfl rfl (by kernel_rfl) (by kernel_rfl) (by kernel_rfl) (by kernel_rfl) (by kernel_rfl) (fun _ _ _ h => h) (by rfl) (fun wk hk => by obtain ⟨k1, k2⟩ := HQ17.out wk hk; go_simp; try rfl) ?_
          try simp only [Act.put, List.setIfInBounds_toArray, List.set_cons_zero, List.set_cons_succ]
          refine wpHold_take (i := 16) (v := _) (grown_drew _ _) rfl rfl (by kernel_rfl) (by kernel_rfl) (by kernel_rfl) (by kernel_rfl) (by kernel_rfl) (fun _ _ _ h => h) (by rfl) (fun wk hk => by obtain ⟨k1, k2⟩ := HQ17.out wk hk; go_simp; try rfl) ?_
          try simp only [Act.put, List.setIfInBounds_toArray, List.set_cons_zero, List.set_cons_succ]
          refine wpHold_take (i := 17) (v := _) (grown_drew _ _) rfl rfl (by kernel_rfl) (by kernel_rfl) (by kernel_rfl) (by kernel_rfl) (by kernel_rfl) (fun _ _ _ h => h) (by rfl) (fun wk hk => by obtain ⟨k1, k2⟩ := HQ17.out wk hk; go_simp; try rfl) ?_
          try simp only [Act.put, List.setIfInBounds_toArray, List.set_cons_zero, List.set_cons_succ]
          refine wpHold_take (i := 18) (v := _) (grown_drew _ _) rfl rfl (by kernel_rfl) (by kernel_rfl) (by kernel_rfl) (by kernel_rfl) (by kernel_rfl) (fun _ _ _ h => h) (by rfl) (fun wk hk => by obtain ⟨k1, k2⟩ := HQ17.out wk hk; go_simp; try rfl) ?_
          try simp only [Act.put, List.setIfInBounds_toArray, List.set_cons_zero, List.set_cons_succ]
          refine wpHold_take (i := 19) (v := _) (grown_drew _ _) rfl rfl (by kernel_rfl) (by kernel_rfl) (by kernel_rfl) (by kernel_rfl) (by kernel_rfl) (fun _ _ _ h => h) (by rfl) (fun wk hk => by obtain ⟨k1, k2⟩ := HQ17.out wk hk; go_simp; try rfl) ?_
          try simp only [Act.put, List.setIfInBounds_toArray, List.set_cons_zero, List.set_cons_succ]
          refine wpHold_take (i := 20) (v := _) (grown_drew _ _) rfl rfl (by kernel_rfl) (by kernel_rfl) (by kernel_rfl) (by kernel_rfl) (by kernel_rfl) (fun _ _ _ h => h) (by rfl) (fun wk hk => by obtain ⟨k1, k2⟩ := HQ17.out wk hk; go_simp; try rfl) ?_
          try simp only [Act.put, List.setIfInBounds_toArray, List.set_cons_zero, List.set_cons_succ]
          refine wpHold_take (i := 21) (v := _) (grown_drew _ _) rfl rfl (by kernel_rfl) (by kernel_rfl) (by kernel_rfl) (by kernel_rfl) (by kernel_rfl) (fun _ _ _ h => h) (by rfl) (fun wk hk => by obtain ⟨k1, k2⟩ := HQ17.out wk hk; go_simp; try rfl) ?_
          try simp only [Act.put, List.setIfInBounds_toArray, List.set_cons_zero, List.set_cons_succ]
          refine wpHold_take (i := 24) (v := _) (grown_drew _ _) rfl rfl (by kernel_rfl) (by kernel_rfl) (by kernel_rfl) (by kernel_rfl) (by kernel_rfl) (fun _ _ _ h => h) (by rfl) (fun wk hk => by obtain ⟨k1, k2⟩ := HQ17.out wk hk; go_simp; try rfl) ?_
          try simp only [Act.put, List.setIfInBounds_toArray, List.set_cons_zero, List.set_cons_succ]
          refine wpHold_take (i := 25) (v := _) (grown_drew _ _) rfl rfl (by kernel_rfl) (by kernel_rfl) (by kernel_rfl) (by kernel_rfl) (by kernel_rfl) (fun _ _ _ h => h) (by rfl) (fun wk hk => by obtain ⟨k1, k2⟩ := HQ17.out wk hk; go_simp; try rfl) ?_
          try simp only [Act.put, List.setIfInBounds_toArray, List.set_cons_zero, List.set_cons_succ]
          refine wpHold_one (i := 22) rfl (by kernel_rfl) (by rfl) (fun K hK => ?_)
          go_simp
          refine (sureD F1 _ S' _ (HC.out.1.grown (grown_drew _ _))).mono ?_
          rw [HSU.out]
          rintro e wz ⟨rfl, he⟩
          subst he
          go_wp2_with fail
          refine hK.out _ _ (fun _ => grown_drew _ _) ?_
          clear hK K
          try simp only [Act.put, List.setIfInBounds_toArray, List.set_cons_zero, List.set_cons_succ]
          refine wpHold_take (i := 23) (v := _) (grown_drew _ _) rfl rfl (by kernel_rfl) (by kernel_rfl) (by kernel_rfl) (by kernel_rfl) (by kernel_rfl) (fun _ _ _ h => h) (by rfl) (fun wk hk => by obtain ⟨k1, k2⟩ := HQ17.out wk hk; go_simp; try rfl) ?_
          try simp only [Act.put, List.setIfInBounds_toArray, List.set_cons_zero, List.set_cons_succ]
          refine wpHold_take (i := 26) (v := _) (grown_drew _ _) rfl rfl (by kernel_rfl) (by kernel_rfl) (by kernel_rfl) (by kernel_rfl) (by kernel_rfl) (fun _ _ _ h => h) (by rfl) (fun wk hk => by obtain ⟨k1, k2⟩ := HQ17.out wk hk; go_simp; try rfl) ?_
          try simp only [Act.put, List.setIfInBounds_toArray, List.set_cons_zero, List.set_cons_succ]
          refine wpHold_take (i := 27) (v := _) (grown_drew _ _) rfl rfl (by kernel_rfl) (by kernel_rfl) (by kernel_rfl) (by kernel_rfl) (by kernel_rfl) (fun _ _ _ h => h) (by rfl) (fun wk hk => by obtain ⟨k1, k2⟩ := HQ17.out wk hk; go_simp; try rfl) ?_
          try simp only [Act.put, List.setIfInBounds_toArray, List.set_cons_zero, List.set_cons_succ]
          refine wpHold_done (by kernel_rfl) ?_
          refine (‹∀ (a : Act) (w : World), Code.wp Try.prog _ _ a w → _› _ _ ?_)
          go_wp2_with fail
          clear HQ17 j1 j2 j3 j4 j5
          refine (stop14 F2 _ _ keep _ (HC.out.2.2.2.1.grown (grown_drew _ _))).mono ?_
          rintro e wD ⟨p, rfl, gD, F3, dD, lD⟩
          obtain ⟨b3, hb3⟩ := dD.ptr
          subst hb3
          have HD : Hid (DK wD F1 (.pointer (some ⟨b1, 0, none⟩)) S' ∧ w.grownBy wD none ∧ Own wD wr.heap.size (.slice xa nl ya) S'.log ∧ Own wD wz.heap.size (.slice xl n0 yl) (S'.log.take n0) ∧ DK wD F3 (.pointer (some ⟨b3, 0, none⟩)) ((S'.stop keep).stop keep)) := by
            obtain ⟨h1, h2, h3, h4, h5⟩ := HC.out
            have g := grown_trans (grown_drew wC none) gD
            exact ⟨h1.grown g, grown_trans h2 g, h3.grown g, h5.grown g, dD⟩
          have HSS : Hid (((S'.stop keep).stop keep).log = S'.log.take n0) := by
            unfold Hid
            rw [stop_stop S' HC.out.1.ok keep, ← HN0.out]
            rfl
          clear gD dD lD HC
          go_wp2_with fail
          have HQ20 : Hid (∀ x : World, wD.grownBy x none → (convert 22 9 (.slice xl n0 yl)).run Try.prog x = .ok (.string ⟨(S'.log.take n0).toArray⟩) x) := fun x hx => seg_str (HD.out.2.2.2.1.seg.grown hx)
          refine wp_region_noPanic ?_
          refine wp_region_hold 1000 (fun x => wD.grownBy x none) (by kernel_rfl) ?_
          refine wpHold_take (i := 0) (v := _) (grown_drew _ _) rfl rfl (by kernel_rfl) (by kernel_rfl) (by kernel_rfl) (by kernel_rfl) (by kernel_rfl) (fun _ _ _ h => h) (by rfl) (fun wk hk => by have k1 := HQ20.out wk hk; go_simp; try rfl) ?_
          try simp only [Act.put, List.setIfInBounds_toArray, List.set_cons_zero, List.set_cons_succ]
          refine wpHold_take (i := 1) (v := _) (grown_drew _ _) rfl rfl (by kernel_rfl) (by kernel_rfl) (by kernel_rfl) (by kernel_rfl) (by kernel_rfl) (fun _ _ _ h => h) (by rfl) (fun wk hk => by have k1 := HQ20.out wk hk; go_simp; try rfl) ?_
          try simp only [Act.put, List.setIfInBounds_toArray, List.set_cons_zero, List.set_cons_succ]
          refine wpHold_take (i := 2) (v := _) (grown_drew _ _) rfl rfl (by kernel_rfl) (by kernel_rfl) (by kernel_rfl) (by kernel_rfl) (by kernel_rfl) (fun _ _ _ h => h) (by rfl) (fun wk hk => by have k1 := HQ20.out wk hk; go_simp; try rfl) ?_
          try simp only [Act.put, List.setIfInBounds_toArray, List.set_cons_zero, List.set_cons_succ]
          refine wpHold_take (i := 3) (v := _) (grown_drew _ _) rfl rfl (by kernel_rfl) (by kernel_rfl) (by kernel_rfl) (by kernel_rfl) (by kernel_rfl) (fun _ _ _ h => h) (by rfl) (fun wk hk => by have k1 := HQ20.out wk hk; go_simp; try rfl) ?_
          try simp only [Act.put, List.setIfInBounds_toArray, List.set_cons_zero, List.set_cons_succ]
          refine wpHold_take (i := 6) (v := _) (grown_drew _ _) rfl rfl (by kernel_rfl) (by kernel_rfl) (by kernel_rfl) (by kernel_rfl) (by kernel_rfl) (fun _ _ _ h => h) (by rfl) (fun wk hk => by have k1 := HQ20.out wk hk; go_simp; try rfl) ?_
          try simp only [Act.put, List.setIfInBounds_toArray, List.set_cons_zero, List.set_cons_succ]
          refine wpHold_take (i := 7) (v := _) (grown_drew _ _) rfl rfl (by kernel_rfl) (by kernel_rfl) (by kernel_rfl) (by kernel_rfl) (by kernel_rfl) (fun _ _ _ h => h) (by rfl) (fun wk hk => by have k1 := HQ20.out wk hk; go_simp; try rfl) ?_
          try simp only [Act.put, List.setIfInBounds_toArray, List.set_cons_zero, List.set_cons_succ]
          refine wpHold_one (i := 4) rfl (by kernel_rfl) (by rfl) (fun K hK => ?_)
          go_simp
          refine (log13 F3 _ _ _ (HD.out.2.2.2.2.grown (grown_drew _ _))).mono ?_
          rw [HSS.out]
          rintro e wE ⟨ut, rfl, ot, gt⟩
          have HE : Hid (wD.grownBy wE none ∧ (∀ x : World, wE.grownBy x none → (convert 22 9 ut).run Try.prog x = .ok (.string ⟨(S'.log.take n0).toArray⟩) x)) := ⟨grown_trans (grown_drew _ _) gt, fun x hx => seg_str (ot.seg.grown hx)⟩
          clear ot gt
          go_wp2_with fail
          refine hK.out _ _ (fun _ => HE.out.1) ?_
          clear hK K
          try simp only [Act.put, List.setIfInBounds_toArray, List.set_cons_zero, List.set_cons_succ]
          refine wpHold_one (i := 5) rfl (by kernel_rfl) (by rfl) (fun K hK => ?_)
          have cvt := HE.out.2 _ (grown_refl _ none)
          go_wp2_with fail
          refine hK.out _ _ (fun _ => HE.out.1) ?_
          clear hK K cvt
          try simp only [Act.put, List.setIfInBounds_toArray, List.set_cons_zero, List.set_cons_succ]
          refine wpHold_take (i := 8) (v := _) (HE.out.1) rfl rfl (by kernel_rfl) (by kernel_rfl) (by kernel_rfl) (by kernel_rfl) (by kernel_rfl) (fun _ _ _ h => h) (by rfl) (fun wk hk => by have k1 := HQ20.out wk hk; go_simp; try rfl) ?_
          try simp only [Act.put, List.setIfInBounds_toArray, List.set_cons_zero, List.set_cons_succ]
          refine wpHold_take (i := 9) (v := _) (HE.out.1) rfl rfl (by kernel_rfl) (by kernel_rfl) (by kernel_rfl) (by kernel_rfl) (by kernel_rfl) (fun _ _ _ h => h) (by rfl) (fun wk hk => by have k1 := HQ20.out wk hk; go_simp; try rfl) ?_
          try simp only [Act.put, List.setIfInBounds_toArray, List.set_cons_zero, List.set_cons_succ]
          refine wpHold_done (by kernel_rfl) ?_
          refine (‹∀ (a : Act) (w : World), Code.wp Try.prog _ _ a w → _› _ _ ?_)
          have HE2 : Hid (DK wE F1 (.pointer (some ⟨b1, 0, none⟩)) S' ∧ w.grownBy wE none ∧ Own wE wr.heap.size (.slice xa nl ya) S'.log) := by
            obtain ⟨h1, h2, h3, h4, h5⟩ := HD.out
            have g := HE.out.1
            exact ⟨h1.grown g, grown_trans h2 g, h3.grown g⟩
          clear HQ20 HE HD HSS
          go_wp2_with fail
          refine (snapshot16 F1 _ S' _ HE2.out.1).mono ?_
          rintro e wF ⟨uw, rfl, ow, gw⟩
          have HF : Hid (DK wF F1 (.pointer (some ⟨b1, 0, none⟩)) S' ∧ w.grownBy wF none ∧ Own wF wr.heap.size (.slice xa nl ya) S'.log ∧ Own wF wE.heap.size uw S'.snap.1 ∧ (∀ k, F1 k → k < wE.heap.size)) := ⟨HE2.out.1.grown gw, grown_trans HE2.out.2.1 gw, HE2.out.2.2.grown gw, ow, HE2.out.1.lt⟩
          clear ow gw
          go_wp2_with fail
          have hdo : Hid (data ≠ [] → ∀ k, (Value.slice ad data.length cd).ownBlock = some k → ¬ F1 k) := fun hM k hk hf => by
            have h1 := HS.out.2.2.1 k hf
            obtain ⟨ao, cap, e, _, _, _, h4⟩ := HU.out.2.2.2
            obtain ⟨b, off, e2, hc⟩ := h4 0 (List.length_pos_iff.2 hM)
            rw [e, e2] at hk
            simp [Value.ownBlock] at hk
            have h5 := World.block_lt_of_cell? w _ hc
            simp at h5
            omega
          refine (put17 F1 _ _ S' data _ HF.out.1 (by have := HS.out.2.2.2; omega) (HU.out.2.2.2.grown HF.out.2.1) hdo.out hdl).mono ?_
          rintro e wG ⟨rfl, F4, dG, aG⟩
          have HG : Hid (DK wG F4 (.pointer (some ⟨b1, 0, none⟩)) (S'.put data) ∧ w.grownBy wG none ∧ Own wG wr.heap.size (.slice xa nl ya) S'.log ∧ Own wG wE.heap.size uw S'.snap.1 ∧ (∀ k, F4 k → w.heap.size ≤ k) ∧ ∀ k, (Value.slice xa nl ya).ownBlock = some k → ¬ F4 k) := by
            obtain ⟨h1, h2, h3, h4, h5⟩ := HF.out
            have hz := h2.size
            have nx : ∀ k, (Value.slice xa nl ya).ownBlock = some k → ¬ F1 k := fun k hk hf => by
              have q1 := (h3.lt k hk).1
              have q2 := HS.out.1.lt k hf
              omega
            refine ⟨dG, (Fr.trans (Fr.of (F := F1) h2 (by simp)) aG.fr (fun k hk => .inl hk)).grown HS.out.2.2.1, own_far h3 aG.fr nx, own_far h4 aG.fr (fun k hk hf => ?_), fun k hk => ?_, fun k hk hf => ?_⟩
            · have q1 := (h4.lt k hk).1
              have q2 := h5 k hf
              omega
            · rcases aG.sub k hk with q | q
              · exact HS.out.2.2.1 k q
              · omega
            · rcases aG.sub k hf with q | q
              · exact nx k hk q
              · have := (h3.lt k hk).2
                omega
          clear dG aG HF HE2 hdo
          go_wp2_with fail
          refine (snapshot16 F4 _ _ _ HG.out.1).mono ?_
          rw [put_snap]
          rintro e wH ⟨ui, rfl, oi, gi⟩
          have HH : Hid (DK wH F4 (.pointer (some ⟨b1, 0, none⟩)) (S'.put data) ∧ w.grownBy wH none ∧ Own wH wr.heap.size (.slice xa nl ya) S'.log ∧ (∀ k, F4 k → w.heap.size ≤ k) ∧ ∀ k, (Value.slice xa nl ya).ownBlock = some k → ¬ F4 k) := ⟨HG.out.1.grown gi, grown_trans HG.out.2.1 gi, HG.out.2.2.1.grown gi, HG.out.2.2.2.2.1, HG.out.2.2.2.2.2⟩
          have cv1 := seg_str (HG.out.2.2.2.1.seg.grown gi)
          have cv2 := seg_str oi.seg
          obtain ⟨x1, y1, e1w⟩ := HG.out.2.2.2.1.seg.shape
          obtain ⟨x2, y2, e2w⟩ := oi.seg.shape
          clear oi gi HG
          generalize S'.snap = SA at cv1 cv2 e1w e2w ⊢
          obtain ⟨SA, sa⟩ := SA
          simp only at cv1 cv2 e1w e2w
          subst e1w e2w
          go_wp2_with fail
          refine (sync18 F4 _ _ _ HH.out.1 (by have := HS.out.2.2.2; have := steps_put S' data; omega)).mono ?_
          rintro e wI ⟨rfl, F5, dI, aI⟩
          have HI : Hid (DK wI F5 (.pointer (some ⟨b1, 0, none⟩)) (S'.put data).sync ∧ w.grownBy wI none ∧ Own wI wr.heap.size (.slice xa nl ya) S'.log) := by
            obtain ⟨h1, h2, h3, h4, h5⟩ := HH.out
            exact ⟨dI, (Fr.trans (Fr.of (F := F4) h2 (by simp)) aI.fr (fun k hk => .inl hk)).grown h4, own_far h3 aI.fr h5⟩
          clear dI aI HH cv1 cv2
          go_wp2_with fail
          refine (stop14 F5 _ _ (-1) _ HI.out.1).mono ?_
          rintro e wJ ⟨p, rfl, gJ, F6, dJ, lJ⟩
          obtain ⟨b4, hb4⟩ := dJ.ptr
          subst hb4
          have HJ : Hid (DK wJ F6 (.pointer (some ⟨b4, 0, none⟩)) ((S'.put data).sync.stop (-1)) ∧ w.grownBy wJ none ∧ Own wJ wr.heap.size (.slice xa nl ya) S'.log) := ⟨dJ, grown_trans HI.out.2.1 gJ, HI.out.2.2.grown gJ⟩
          have HLG : Hid (((S'.put data).sync.stop (-1)).log = S'.log) := by
            unfold Hid
            rw [sync_stop, put_log]
          clear dJ gJ lJ HI
          go_wp2_with fail
          have HQ29 : Hid (∀ x : World, wJ.grownBy x none → (convert 22 9 (.slice xa nl ya)).run Try.prog x = .ok (.string ⟨S'.log.toArray⟩) x) := fun x hx => seg_str (HJ.out.2.2.seg.grown hx)
          refine wp_region_noPanic ?_
          refine wp_region_hold 1000 (fun x => wJ.grownBy x none) (by kernel_rfl) ?_
          refine wpHold_take (i := 0) (v := _) (grown_drew _ _) rfl rfl (by kernel_rfl) (by kernel_rfl) (by kernel_rfl) (by kernel_rfl) (by kernel_rfl) (fun _ _ _ h => h) (by rfl) (fun wk hk => by have k1 := HQ29.out wk hk; go_simp; try rfl) ?_
          try simp only [Act.put, List.setIfInBounds_toArray, List.set_cons_zero, List.set_cons_succ]
          refine wpHold_take (i := 1) (v := _) (grown_drew _ _) rfl rfl (by kernel_rfl) (by kernel_rfl) (by kernel_rfl) (by kernel_rfl) (by kernel_rfl) (fun _ _ _ h => h) (by rfl) (fun wk hk => by have k1 := HQ29.out wk hk; go_simp; try rfl) ?_
          try simp only [Act.put, List.setIfInBounds_toArray, List.set_cons_zero, List.set_cons_succ]
          refine wpHold_take (i := 2) (v := _) (grown_drew _ _) rfl rfl (by kernel_rfl) (by kernel_rfl) (by kernel_rfl) (by kernel_rfl) (by kernel_rfl) (fun _ _ _ h => h) (by rfl) (fun wk hk => by have k1 := HQ29.out wk hk; go_simp; try rfl) ?_
          try simp only [Act.put, List.setIfInBounds_toArray, List.set_cons_zero, List.set_cons_succ]
          refine wpHold_take (i := 3) (v := _) (grown_drew _ _) rfl rfl (by kernel_rfl) (by kernel_rfl) (by kernel_rfl) (by kernel_rfl) (by kernel_rfl) (fun _ _ _ h => h) (by rfl) (fun wk hk => by have k1 := HQ29.out wk hk; go_simp; try rfl) ?_
          try simp only [Act.put, List.setIfInBounds_toArray, List.set_cons_zero, List.set_cons_succ]
          refine wpHold_take (i := 6) (v := _) (grown_drew _ _) rfl rfl (by kernel_rfl) (by kernel_rfl) (by kernel_rfl) (by kernel_rfl) (by kernel_rfl) (fun _ _ _ h => h) (by rfl) (fun wk hk => by have k1 := HQ29.out wk hk; go_simp; try rfl) ?_
          try simp only [Act.put, List.setIfInBounds_toArray, List.set_cons_zero, List.set_cons_succ]
          refine wpHold_take (i := 7) (v := _) (grown_drew _ _) rfl rfl (by kernel_rfl) (by kernel_rfl) (by kernel_rfl) (by kernel_rfl) (by kernel_rfl) (fun _ _ _ h => h) (by rfl) (fun wk hk => by have k1 := HQ29.out wk hk; go_simp; try rfl) ?_
          try simp only [Act.put, List.setIfInBounds_toArray, List.set_cons_zero, List.set_cons_succ]
          refine wpHold_one (i := 4) rfl (by kernel_rfl) (by rfl) (fun K hK => ?_)
          go_simp
          refine (log13 F6 _ _ _ (HJ.out.1.grown (grown_drew _ _))).mono ?_
          rw [HLG.out]
          rintro e wK ⟨ut, rfl, ot, gt⟩
          have HKK : Hid (wJ.grownBy wK none ∧ (∀ x : World, wK.grownBy x none → (convert 22 9 ut).run Try.prog x = .ok (.string ⟨S'.log.toArray⟩) x)) := ⟨grown_trans (grown_drew _ _) gt, fun x hx => seg_str (ot.seg.grown hx)⟩
          clear ot gt
          go_wp2_with fail
          refine hK.out _ _ (fun _ => HKK.out.1) ?_
          clear hK K
          try simp only [Act.put, List.setIfInBounds_toArray, List.set_cons_zero, List.set_cons_succ]
          refine wpHold_one (i := 5) rfl (by kernel_rfl) (by rfl) (fun K hK => ?_)
          have cvt := HKK.out.2 _ (grown_refl _ none)
          go_wp2_with fail
          refine hK.out _ _ (fun _ => HKK.out.1) ?_
          clear hK K cvt
          try simp only [Act.put, List.setIfInBounds_toArray, List.set_cons_zero, List.set_cons_succ]
          refine wpHold_take (i := 8) (v := _) (HKK.out.1) rfl rfl (by kernel_rfl) (by kernel_rfl) (by kernel_rfl) (by kernel_rfl) (by kernel_rfl) (fun _ _ _ h => h) (by rfl) (fun wk hk => by have k1 := HQ29.out wk hk; go_simp; try rfl) ?_
          try simp only [Act.put, List.setIfInBounds_toArray, List.set_cons_zero, List.set_cons_succ]
          refine wpHold_take (i := 9) (v := _) (HKK.out.1) rfl rfl (by kernel_rfl) (by kernel_rfl) (by kernel_rfl) (by kernel_rfl) (by kernel_rfl) (fun _ _ _ h => h) (by rfl) (fun wk hk => by have k1 := HQ29.out wk hk; go_simp; try rfl) ?_
          try simp only [Act.put, List.setIfInBounds_toArray, List.set_cons_zero, List.set_cons_succ]
          refine wpHold_take (i := 10) (v := _) (HKK.out.1) rfl rfl (by kernel_rfl) (by kernel_rfl) (by kernel_rfl) (by kernel_rfl) (by kernel_rfl) (fun _ _ _ h => h) (by rfl) (fun wk hk => by have k1 := HQ29.out wk hk; go_simp; try rfl) ?_
          try simp only [Act.put, List.setIfInBounds_toArray, List.set_cons_zero, List.set_cons_succ]
          refine wpHold_one (i := 11) rfl (by kernel_rfl) (by rfl) (fun K hK => ?_)
          go_simp
          refine (known12 _).mono ?_
          rintro e wL ⟨rfl, gL⟩
          have HLL : Hid (wJ.grownBy wL none) := grown_trans HKK.out.1 gL
          clear gL
          go_wp2_with fail
          refine hK.out _ _ (fun _ => HLL.out) ?_
          clear hK K
          try simp only [Act.put, List.setIfInBounds_toArray, List.set_cons_zero, List.set_cons_succ]
          refine wpHold_take (i := 12) (v := _) (HLL.out) rfl rfl (by kernel_rfl) (by kernel_rfl) (by kernel_rfl) (by kernel_rfl) (by kernel_rfl) (fun _ _ _ h => h) (by rfl) (fun wk hk => by have k1 := HQ29.out wk hk; go_simp; try rfl) ?_
          try simp only [Act.put, List.setIfInBounds_toArray, List.set_cons_zero, List.set_cons_succ]
          refine wpHold_take (i := 13) (v := _) (HLL.out) rfl rfl (by kernel_rfl) (by kernel_rfl) (by kernel_rfl) (by kernel_rfl) (by kernel_rfl) (fun _ _ _ h => h) (by rfl) (fun wk hk => by have k1 := HQ29.out wk hk; go_simp; try rfl) ?_
          try simp only [Act.put, List.setIfInBounds_toArray, List.set_cons_zero, List.set_cons_succ]
          refine wpHold_done (by kernel_rfl) ?_
          refine (‹∀ (a : Act) (w : World), Code.wp Try.prog _ _ a w → _› _ _ ?_)
          go_wp2_with fail
          go_ret
          exact ⟨rfl, grown_trans HJ.out.2.1 HLL.out⟩
end Go.Proofs.Ytegacmcekladfaa
