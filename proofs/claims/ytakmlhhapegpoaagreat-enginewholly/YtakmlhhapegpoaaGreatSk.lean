/-
  EngineWholly's walk.
-/
import Derived.Test.YtakmlhhapegpoaaGreatSl
import Derived.Test.YtakmlhhapegpoaaGreatSo
namespace Go.Proofs.YtakmlhhapegpoaaGreat
open Go.RowKit Disk Table
open Names (Str cmpL keyB valueB tabB)
open _root_.Go.Proofs.YtakmlhhapegpoaaGreat.Calls (POp POut PRes opV OpSeg mayOp Ops OpAt ops_at ops_open chk rds mayCall callForm opForm wrt)

theorem em_do {X : Nat → Prop} {w w' : World} {b m0 m : Nat} {q : Int × Int} {D : DB} (h : EM X w m D) (hb : EngB w b q m0) (hg : w.grownBy w' (some b)) : EM X w' m D := em_offT h hg hb (by decide) (by decide) (by decide) (noP_eng q m0)
theorem eng_do {w w' : World} {b d m : Nat} {r : Int × Int} (h : EngB w d r m) (hg : w.grownBy w' (some b)) (hne : b ≠ d) : EngB w' d r m := Blk.grown h hg (by simp; exact hne)
set_option maxRecDepth 100000 in
set_option maxHeartbeats 16000000 in
theorem wholly4 (q : Int × Int) (v u : Value) (l : List NRow) (ls : List (List POp)) (w : World) (hT : ∀ r ∈ l, r.1.length ≤ 9223372036854775807) (hv : Nms w v l) (hu : Cls w u ls) : Calls Tryz.prog 4 #[quoV q, v, u] w fun e w' => e = .returned (.bool true) ∧ w.grownBy w' none := by
  obtain ⟨a1, n1, c1, rfl, hn1, hc1, hc1', HV⟩ := nms_open hv
  obtain ⟨a2, n2, c2, rfl, hn2, hc2, hc2', HU⟩ := cls_open hu
  have HN : Hid (l.length = n1 ∧ ls.length = n2 ∧ ∀ r ∈ l, r.1.length ≤ 9223372036854775807) := ⟨hn1, hn2, hT⟩
  clear hv hu hn1 hn2 hT
  unfold quoV
  refine calls_marks Tryz.func4 rfl ?_
  simp only [Tryz.ntmps4, List.size_toArray, List.length_cons, List.length_nil, Nat.reduceAdd, Nat.reduceSub, Array.replicate_succ, Array.replicate_zero, List.push_toArray, List.append_toArray, List.nil_append, List.cons_append]
  go_wp2_with fail
  obtain ⟨w1, hw1, H1⟩ := al w #[.int .i64 q.1, .int .i64 q.2] 23
  rw [hw1]
  clear hw1
  refine (known7 w1).mono ?_
  rintro e w2 ⟨rfl, g2⟩
  obtain ⟨qb, hqb⟩ : ∃ b, w.heap.size = b := ⟨_, rfl⟩
  rw [hqb] at H1 ⊢
  have H2 : Hid (Blk w2 qb 23 #[.int .i64 q.1, .int .i64 q.2] ∧ w.grownBy w2 none) := ⟨H1.out.1.grown g2 (by simp), grown_trans H1.out.2.1 g2⟩
  clear g2 H1 hqb
  go_wp2_with fail
  refine (much6 _ _ l ls w2 (HV.out.grown H2.out.2) (HU.out.grown H2.out.2)).mono ?_
  rintro e w3 ⟨mb, rfl, hmb, g3⟩
  cases mb with
  | true =>
    have G3 : Hid (w.grownBy w3 none) := grown_trans H2.out.2 g3
    clear hmb g3
    go_wp2_with fail
    exact ⟨.bool true, by simp [results, Tryz.results4, go_sem], rfl, G3.out⟩
  | false =>
    have hb := hmb rfl
    have hb1 : n1 ≤ 120 := by have := HN.out.1; omega
    have hb2 : n2 ≤ 60 := by have := HN.out.2.1; omega
    have H3 : Hid (Blk w3 qb 23 #[.int .i64 q.1, .int .i64 q.2] ∧ w.grownBy w3 none) := ⟨H2.out.1.grown g3 (by simp), grown_trans H2.out.2 g3⟩
    clear hmb g3 hb
    have k0 := H3.out.1.cell 0
    have k1 := H3.out.1.cell 1
    simp at k0 k1
    go_wp2_with fail
    refine (new15g (X := X0) q (.slice a1 n1 c1) l (by have := HN.out.1; omega) HN.out.2.2 w3 (x0 w3) (HV.out.grown H3.out.2)).mono ?_
    rintro e w4 ⟨g4, ⟨hq, D0, b, hnew, hG, hab, rfl, hb, m0, hE, hM⟩ | ⟨_, _, _, _, rfl⟩ | ⟨_, rfl⟩⟩
    rotate_left
    · have G4 : Hid (w.grownBy w4 none) := grown_trans H3.out.2 g4
      clear g4 k0 k1
      go_wp2_with (go_at_call 16; refine (num16 7 _).mono ?_; rintro e w5 ⟨rfl, hw⟩; rw [hw]; clear hw)
      exact ⟨.bool true, by simp [results, Tryz.results4, go_sem], rfl, G4.out⟩
    · have G4 : Hid (w.grownBy w4 none) := grown_trans H3.out.2 g4
      clear g4 k0 k1
      go_wp2_with (go_at_call 16; refine (num16 2 _).mono ?_; rintro e w5 ⟨rfl, hw⟩; rw [hw]; clear hw)
      exact ⟨.bool true, by simp [results, Tryz.results4, go_sem], rfl, G4.out⟩
    have H4 : Hid (EngB w4 b q m0 ∧ EM X0 w4 m0 D0 ∧ DbQ q D0 ∧ TabD D0 ∧ Blk w4 qb 23 #[.int .i64 q.1, .int .i64 q.2] ∧ w.grownBy w4 none ∧ w.heap.size ≤ b) := ⟨hE, hM, ⟨hG, hq, hab⟩, newD_tab _ l (Nat.le_refl _) [] [] D0 (fun _ h => by simp at h) hnew, H3.out.1.grown g4 (by simp), grown_trans H3.out.2 g4, by have := H3.out.2.size; omega⟩
    clear g4 hnew hG hab hq hb hE hM k0 k1
    unfold ptr
    go_wp2_with fail
    go_loopw [9] (fun t wr => ∃ (i m : Nat) (D : DB), t = .int .i64 (i : Int) ∧ i ≤ n2 ∧ Hid (EngB wr b q m ∧ EM X0 wr m D ∧ DbQ q D ∧ TabD D ∧ Blk wr qb 23 #[.int .i64 q.1, .int .i64 q.2] ∧ w.grownBy wr none)) (fun t _ => n2 - (intOf t).toNat)
    case atStart => exact ⟨0, m0, D0, rfl, Nat.zero_le _, H4.out.1, H4.out.2.1, H4.out.2.2.1, H4.out.2.2.2.1, H4.out.2.2.2.2.1, H4.out.2.2.2.2.2.1⟩
    case round =>
      obtain ⟨i, m, D, rfl, hi, HR⟩ := hrel
      rcases Nat.lt_or_ge i n2 with hlt | hge
      · have i0 : (0 : Int) ≤ (i : Int) := by omega
        have i1 : (i : Int) < (n2 : Int) := by omega
        have hil : i < ls.length := by rw [HN.out.2.1]; exact hlt
        obtain ⟨cb, off, av, nv, cv, rfl, hcell, hn1', hn2', hops⟩ := cls_at HU.out i hil
        obtain ⟨lc, hlc⟩ : ∃ lc, ls[i] = lc := ⟨_, rfl⟩
        rw [hlc] at hops
        have HO : Hid (Ops w (.slice av nv cv) lc ∧ w.cell? ⟨cb, off + i, none⟩ = some (.slice av nv cv)) := ⟨hops, hcell⟩
        have HLC : Hid (lc.length = nv) := by
          obtain ⟨_, _, e, _⟩ := hops
          simp at e
          exact e.2.1.symm
        clear hops hcell hlc hil
        go_wp2_with fail
        refine (copy9 b m q wr HR.out.1).mono ?_
        rintro e w5 ⟨d1, rfl, hd1, e5, g5⟩
        have H5 : Hid (EngB w5 b q m ∧ EngB w5 d1 q m ∧ EM X0 w5 m D ∧ Blk w5 qb 23 #[.int .i64 q.1, .int .i64 q.2] ∧ w.grownBy w5 none ∧ wr.heap.size ≤ d1) := ⟨Blk.grown HR.out.1 g5 (by simp), e5, HR.out.2.1.grown g5, HR.out.2.2.2.2.1.grown g5 (by simp), grown_trans HR.out.2.2.2.2.2 g5, hd1⟩
        clear hd1 e5 g5
        go_wp2_with fail
        refine (copy9 b m q w5 H5.out.1).mono ?_
        rintro e w6 ⟨d2, rfl, hd2, e6, g6⟩
        have hbd : b < wr.heap.size := HR.out.1.lt
        have H6 : Hid (EngB w6 b q m ∧ EngB w6 d1 q m ∧ EngB w6 d2 q m ∧ EM X0 w6 m D ∧ Blk w6 qb 23 #[.int .i64 q.1, .int .i64 q.2] ∧ w.grownBy w6 none ∧ b < d1 ∧ d1 < d2 ∧ w.heap.size ≤ b) := ⟨Blk.grown H5.out.1 g6 (by simp), Blk.grown H5.out.2.1 g6 (by simp), e6, H5.out.2.2.1.grown g6, H5.out.2.2.2.1.grown g6 (by simp), grown_trans H5.out.2.2.2.2.1 g6, by have := H5.out.2.2.2.2.2; omega, by have := H5.out.2.1.lt; omega, H4.out.2.2.2.2.2.2⟩
        clear hd2 e6 g6 hbd
        have q0 := H6.out.2.2.2.2.2.1.cell HO.out.2 (by simp)
        go_wp2_with fail
        refine (do17z (X := X0) b m q D HR.out.2.2.1 (.slice av nv cv) lc w6 (x0 w6) H6.out.1 H6.out.2.2.2.1 (HO.out.1.grown H6.out.2.2.2.2.2.1)).mono ?_
        obtain ⟨r, hr⟩ : ∃ r, doP q D lc = r := ⟨_, rfl⟩
        have HF : Hid (doP q D lc = r ∧ DoF q D lc r) := ⟨hr, by rw [← hr]; exact doF HR.out.2.2.1 HR.out.2.2.2.1⟩
        rintro e w7 ⟨v1, m1, rfl, o1, e1, em1, g7⟩
        rw [hr] at o1 em1 ⊢
        clear hr
        obtain ⟨s1, k1, z1, rfl, hk1, _, _⟩ := o1.shape
        have H7 : Hid (EngB w7 b q m1 ∧ EM X0 w7 m1 r.db ∧ EngB w7 d1 q m ∧ EngB w7 d2 q m ∧ EM X0 w7 m D ∧ OutsN w7 0 (.slice s1 k1 z1) r.outs ∧ Blk w7 qb 23 #[.int .i64 q.1, .int .i64 q.2] ∧ w.grownBy w7 none) := by
          have h6 := H6.out
          refine ⟨e1, em1, eng_do h6.2.1 g7 (by omega), eng_do h6.2.2.1 g7 (by omega), em_do h6.2.2.2.1 h6.1 g7, o1.mono (Nat.zero_le _), h6.2.2.2.2.1.grown g7 (fun e => ?_), grown_new h6.2.2.2.2.2.1 g7 (fun x hx => by simp at hx; omega)⟩
          simp at e
          subst e
          have := h6.1
          have h2 := h6.2.2.2.2.1
          unfold EngB Blk at this
          unfold Blk at h2
          rw [this] at h2
          simp at h2
        clear o1 e1 em1 g7 hk1
        have q1 : (w7.alloc (.cells #[.int .i64 r.abort, .int .i64 (r.place : Int), .slice s1 k1 z1] 49)).cell? ⟨cb, off + i, none⟩ = some (.slice av nv cv) := (grown_trans H7.out.2.2.2.2.2.2.2 (World.grownBy_alloc _ _ _)).cell HO.out.2 (by simp)
        go_wp2_with fail
        obtain ⟨w8, hw8, H8⟩ := al w7 #[.int .i64 r.abort, .int .i64 (r.place : Int), .slice s1 k1 z1] 49
        rw [hw8]
        clear hw8 q1
        obtain ⟨rb1, hrb1⟩ : ∃ x, w7.heap.size = x := ⟨_, rfl⟩
        rw [hrb1] at H8 ⊢
        clear hrb1
        have K8 : Hid (EngB w8 b q m1 ∧ EM X0 w8 m1 r.db ∧ EngB w8 d1 q m ∧ EngB w8 d2 q m ∧ EM X0 w8 m D ∧ OutsN w8 0 (.slice s1 k1 z1) r.outs ∧ Blk w8 qb 23 #[.int .i64 q.1, .int .i64 q.2] ∧ w.grownBy w8 none ∧ Blk w8 rb1 49 #[.int .i64 r.abort, .int .i64 (r.place : Int), .slice s1 k1 z1]) := by
          have g := H8.out.2.1
          have h7 := H7.out
          exact ⟨Blk.grown h7.1 g (by simp), h7.2.1.grown g, Blk.grown h7.2.2.1 g (by simp), Blk.grown h7.2.2.2.1 g (by simp), h7.2.2.2.2.1.grown g, h7.2.2.2.2.2.1.grown g, h7.2.2.2.2.2.2.1.grown g (by simp), grown_trans h7.2.2.2.2.2.2.2 g, H8.out.1⟩
        clear H7 H8
        refine (do17z (X := X0) d2 m q D HR.out.2.2.1 (.slice av nv cv) lc w8 (x0 w8) K8.out.2.2.2.1 K8.out.2.2.2.2.1 (HO.out.1.grown K8.out.2.2.2.2.2.2.2.1)).mono ?_
        rintro e w9 ⟨v2, m2, rfl, o2, e2, em2, g9⟩
        rw [HF.out.1] at o2 em2 ⊢
        obtain ⟨s2, k2, z2, rfl, hk2, _, _⟩ := o2.shape
        have H9 : Hid (EngB w9 b q m1 ∧ EM X0 w9 m1 r.db ∧ EngB w9 d1 q m ∧ EngB w9 d2 q m2 ∧ EM X0 w9 m D ∧ OutsN w9 0 (.slice s1 k1 z1) r.outs ∧ Blk w9 qb 23 #[.int .i64 q.1, .int .i64 q.2] ∧ w.grownBy w9 none ∧ Blk w9 rb1 49 #[.int .i64 r.abort, .int .i64 (r.place : Int), .slice s1 k1 z1] ∧ EM X0 w9 m2 r.db ∧ OutsN w9 0 (.slice s2 k2 z2) r.outs) := by
          have h8 := K8.out
          have h6 := H6.out
          refine ⟨eng_do h8.1 g9 (by omega), em_do h8.2.1 h8.2.2.2.1 g9, eng_do h8.2.2.1 g9 (by omega), e2, em_do h8.2.2.2.2.1 h8.2.2.2.1 g9, outs_do h8.2.2.2.2.2.1 h8.2.2.2.1 g9, h8.2.2.2.2.2.2.1.grown g9 (fun e => ?_), grown_new h8.2.2.2.2.2.2.2.1 g9 (fun x hx => by simp at hx; omega), blk_do h8.2.2.2.2.2.2.2.2 h8.2.2.2.1 g9, em2, o2.mono (Nat.zero_le _)⟩
          simp at e
          subst e
          have h1 := h8.2.2.2.1
          have h2 := h8.2.2.2.2.2.2.1
          unfold EngB Blk at h1
          unfold Blk at h2
          rw [h1] at h2
          simp at h2
        clear o2 e2 em2 g9 hk2 K8
        go_wp2_with fail
        obtain ⟨w10, hw10, H10⟩ := al w9 #[.int .i64 r.abort, .int .i64 (r.place : Int), .slice s2 k2 z2] 49
        rw [hw10]
        clear hw10
        obtain ⟨rb2, hrb2⟩ : ∃ x, w9.heap.size = x := ⟨_, rfl⟩
        rw [hrb2] at H10 ⊢
        clear hrb2
        have K10 : Hid (EngB w10 b q m1 ∧ EM X0 w10 m1 r.db ∧ EngB w10 d1 q m ∧ EngB w10 d2 q m2 ∧ EM X0 w10 m D ∧ OutsN w10 0 (.slice s1 k1 z1) r.outs ∧ Blk w10 qb 23 #[.int .i64 q.1, .int .i64 q.2] ∧ w.grownBy w10 none ∧ Blk w10 rb1 49 #[.int .i64 r.abort, .int .i64 (r.place : Int), .slice s1 k1 z1] ∧ EM X0 w10 m2 r.db ∧ OutsN w10 0 (.slice s2 k2 z2) r.outs ∧ Blk w10 rb2 49 #[.int .i64 r.abort, .int .i64 (r.place : Int), .slice s2 k2 z2]) := by
          have g := H10.out.2.1
          have h7 := H9.out
          exact ⟨Blk.grown h7.1 g (by simp), h7.2.1.grown g, Blk.grown h7.2.2.1 g (by simp), Blk.grown h7.2.2.2.1 g (by simp), h7.2.2.2.2.1.grown g, h7.2.2.2.2.2.1.grown g, h7.2.2.2.2.2.2.1.grown g (by simp), grown_trans h7.2.2.2.2.2.2.2.1 g, h7.2.2.2.2.2.2.2.2.1.grown g (by simp), h7.2.2.2.2.2.2.2.2.2.1.grown g, h7.2.2.2.2.2.2.2.2.2.2.grown g, H10.out.1⟩
        clear H9 H10
        have HC : Hid (∀ y : World, w10.grownBy y none → (y.cell? ⟨rb1, 0, none⟩ = some (.int .i64 r.abort) ∧ y.cell? ⟨rb1, 1, none⟩ = some (.int .i64 (r.place : Int)) ∧ y.cell? ⟨rb1, 2, none⟩ = some (.slice s1 k1 z1)) ∧ (y.cell? ⟨rb2, 0, none⟩ = some (.int .i64 r.abort) ∧ y.cell? ⟨rb2, 1, none⟩ = some (.int .i64 (r.place : Int)) ∧ y.cell? ⟨rb2, 2, none⟩ = some (.slice s2 k2 z2)) ∧ y.cell? ⟨qb, 0, none⟩ = some (.int .i64 q.1) ∧ y.cell? ⟨qb, 1, none⟩ = some (.int .i64 q.2)) := fun y hy => by
          have h1 := K10.out.2.2.2.2.2.2.2.2.1.grown hy (by simp)
          have h2 := K10.out.2.2.2.2.2.2.2.2.2.2.2.grown hy (by simp)
          have h3 := K10.out.2.2.2.2.2.2.1.grown hy (by simp)
          exact ⟨⟨h1.cell 0, h1.cell 1, h1.cell 2⟩, ⟨h2.cell 0, h2.cell 1, h2.cell 2⟩, h3.cell 0, h3.cell 1⟩
        refine wp_region_noPanic ?_
        refine wp_region_hold 1000 (fun y => w10.grownBy y none) (by kernel_rfl) ?_
        have G0 : Hid (w10.grownBy w10.drew none) := grown_drew _ _
        generalize w10.drew = wd at G0 ⊢
        have hlen : ¬ (q.1 < (lenD r.db : Int)) := by have := HF.out.2.dbq.len; omega
        have hsiz : ¬ (q.2 < (sizeD r.db : Int)) := by have := HF.out.2.dbq.len; omega
        refine wpHold_take (i := 0) (v := _) (G0.out) rfl rfl (by kernel_rfl) (by kernel_rfl) (by kernel_rfl) (by kernel_rfl) (by kernel_rfl) (fun _ _ _ h => h) (by rfl) (fun wk hk => by obtain ⟨⟨y0, y1, y2⟩, ⟨y3, y4, y5⟩, y6, y7⟩ := HC.out wk hk; go_simp; try rfl) ?_
        try simp only [Act.put, List.setIfInBounds_toArray, List.set_cons_zero, List.set_cons_succ]
        refine wpHold_take (i := 2) (v := _) (G0.out) rfl rfl (by kernel_rfl) (by kernel_rfl) (by kernel_rfl) (by kernel_rfl) (by kernel_rfl) (fun _ _ _ h => h) (by rfl) (fun wk hk => by obtain ⟨⟨y0, y1, y2⟩, ⟨y3, y4, y5⟩, y6, y7⟩ := HC.out wk hk; go_simp; try rfl) ?_
        try simp only [Act.put, List.setIfInBounds_toArray, List.set_cons_zero, List.set_cons_succ]
        refine wpHold_one (i := 1) rfl (by kernel_rfl) (by rfl) (fun K hK => ?_)
        go_wp2_with (go_at_call 16; refine (num16 r.err _).mono ?_; rintro e ww ⟨rfl, hw⟩; rw [hw]; clear hw)
        refine hK.out _ _ (fun _ => G0.out) ?_
        clear hK K
        try simp only [Act.put, List.setIfInBounds_toArray, List.set_cons_zero, List.set_cons_succ]
        refine wpHold_one (i := 3) rfl (by kernel_rfl) (by rfl) (fun K hK => ?_)
        go_wp2_with (go_at_call 16; refine (num16 r.err _).mono ?_; rintro e ww ⟨rfl, hw⟩; rw [hw]; clear hw)
        refine hK.out _ _ (fun _ => G0.out) ?_
        clear hK K
        try simp only [Act.put, List.setIfInBounds_toArray, List.set_cons_zero, List.set_cons_succ]
        refine wpHold_take (i := 4) (v := _) (G0.out) rfl rfl (by kernel_rfl) (by kernel_rfl) (by kernel_rfl) (by kernel_rfl) (by kernel_rfl) (fun _ _ _ h => h) (by rfl) (fun wk hk => by obtain ⟨⟨y0, y1, y2⟩, ⟨y3, y4, y5⟩, y6, y7⟩ := HC.out wk hk; go_simp; try rfl) ?_
        try simp only [Act.put, List.setIfInBounds_toArray, List.set_cons_zero, List.set_cons_succ]
        refine wpHold_take (i := 5) (v := _) (G0.out) rfl rfl (by kernel_rfl) (by kernel_rfl) (by kernel_rfl) (by kernel_rfl) (by kernel_rfl) (fun _ _ _ h => h) (by rfl) (fun wk hk => by obtain ⟨⟨y0, y1, y2⟩, ⟨y3, y4, y5⟩, y6, y7⟩ := HC.out wk hk; go_simp; try rfl) ?_
        try simp only [Act.put, List.setIfInBounds_toArray, List.set_cons_zero, List.set_cons_succ]
        refine wpHold_take (i := 6) (v := _) (G0.out) rfl rfl (by kernel_rfl) (by kernel_rfl) (by kernel_rfl) (by kernel_rfl) (by kernel_rfl) (fun _ _ _ h => h) (by rfl) (fun wk hk => by obtain ⟨⟨y0, y1, y2⟩, ⟨y3, y4, y5⟩, y6, y7⟩ := HC.out wk hk; go_simp; try rfl) ?_
        try simp only [Act.put, List.setIfInBounds_toArray, List.set_cons_zero, List.set_cons_succ]
        refine wpHold_take (i := 7) (v := _) (G0.out) rfl rfl (by kernel_rfl) (by kernel_rfl) (by kernel_rfl) (by kernel_rfl) (by kernel_rfl) (fun _ _ _ h => h) (by rfl) (fun wk hk => by obtain ⟨⟨y0, y1, y2⟩, ⟨y3, y4, y5⟩, y6, y7⟩ := HC.out wk hk; go_simp; try rfl) ?_
        try simp only [Act.put, List.setIfInBounds_toArray, List.set_cons_zero, List.set_cons_succ]
        refine wpHold_one (i := 8) rfl (by kernel_rfl) (by rfl) (fun K hK => ?_)
        go_wp2_with fail
        refine (Calls.alike30 (.slice s1 k1 z1) (.slice s2 k2 z2) ⟨r.abort, r.place, r.outs⟩ ⟨r.abort, r.place, r.outs⟩ wd (outs_of (K10.out.2.2.2.2.2.1.grown G0.out) HF.out.2.len HF.out.2.rows) (outs_of (K10.out.2.2.2.2.2.2.2.2.2.2.1.grown G0.out) HF.out.2.len HF.out.2.rows)).mono ?_
        rw [decide_eq_true (rfl : (⟨r.abort, (r.place : Int), r.outs⟩ : PRes) = _)]
        rintro e wa ⟨rfl, gg⟩
        have GA : Hid (w10.grownBy wa none) := grown_trans G0.out gg
        clear gg
        go_wp2_with fail
        refine hK.out _ _ (fun _ => GA.out) ?_
        clear hK K
        try simp only [Act.put, List.setIfInBounds_toArray, List.set_cons_zero, List.set_cons_succ]
        refine wpHold_take (i := 9) (v := _) (GA.out) rfl rfl (by kernel_rfl) (by kernel_rfl) (by kernel_rfl) (by kernel_rfl) (by kernel_rfl) (fun _ _ _ h => h) (by rfl) (fun wk hk => by obtain ⟨⟨y0, y1, y2⟩, ⟨y3, y4, y5⟩, y6, y7⟩ := HC.out wk hk; go_simp; try rfl) ?_
        try simp only [Act.put, List.setIfInBounds_toArray, List.set_cons_zero, List.set_cons_succ]
        refine wpHold_take (i := 10) (v := _) (GA.out) rfl rfl (by kernel_rfl) (by kernel_rfl) (by kernel_rfl) (by kernel_rfl) (by kernel_rfl) (fun _ _ _ h => h) (by rfl) (fun wk hk => by obtain ⟨⟨y0, y1, y2⟩, ⟨y3, y4, y5⟩, y6, y7⟩ := HC.out wk hk; go_simp; try rfl) ?_
        try simp only [Act.put, List.setIfInBounds_toArray, List.set_cons_zero, List.set_cons_succ]
        refine wpHold_take (i := 11) (v := _) (GA.out) rfl rfl (by kernel_rfl) (by kernel_rfl) (by kernel_rfl) (by kernel_rfl) (by kernel_rfl) (fun _ _ _ h => h) (by rfl) (fun wk hk => by obtain ⟨⟨y0, y1, y2⟩, ⟨y3, y4, y5⟩, y6, y7⟩ := HC.out wk hk; go_simp; try rfl) ?_
        try simp only [Act.put, List.setIfInBounds_toArray, List.set_cons_zero, List.set_cons_succ]
        refine wpHold_take (i := 12) (v := _) (GA.out) rfl rfl (by kernel_rfl) (by kernel_rfl) (by kernel_rfl) (by kernel_rfl) (by kernel_rfl) (fun _ _ _ h => h) (by rfl) (fun wk hk => by obtain ⟨⟨y0, y1, y2⟩, ⟨y3, y4, y5⟩, y6, y7⟩ := HC.out wk hk; go_simp; try rfl) ?_
        try simp only [Act.put, List.setIfInBounds_toArray, List.set_cons_zero, List.set_cons_succ]
        refine wpHold_take (i := 13) (v := _) (GA.out) rfl rfl (by kernel_rfl) (by kernel_rfl) (by kernel_rfl) (by kernel_rfl) (by kernel_rfl) (fun _ _ _ h => h) (by rfl) (fun wk hk => by obtain ⟨⟨y0, y1, y2⟩, ⟨y3, y4, y5⟩, y6, y7⟩ := HC.out wk hk; go_simp; try rfl) ?_
        try simp only [Act.put, List.setIfInBounds_toArray, List.set_cons_zero, List.set_cons_succ]
        refine wpHold_one (i := 14) rfl (by kernel_rfl) (by rfl) (fun K hK => ?_)
        go_wp2_with fail
        refine (same13 (X := X0) (Y := X0) d2 b q q r.db r.db HF.out.2.dbq.good.rise HF.out.2.dbq.good.rise wa ⟨m2, Blk.grown K10.out.2.2.2.1 GA.out (by simp), K10.out.2.2.2.2.2.2.2.2.2.1.grown GA.out⟩ ⟨m1, Blk.grown K10.out.1 GA.out (by simp), K10.out.2.1.grown GA.out⟩).mono ?_
        rw [decide_eq_true (rfl : q = q), decide_eq_true (rfl : r.db = r.db), Bool.and_self]
        rintro e wb ⟨rfl, gg⟩
        have GB : Hid (w10.grownBy wb none) := grown_trans GA.out gg
        clear gg
        go_wp2_with fail
        refine hK.out _ _ (fun _ => GB.out) ?_
        clear hK K
        try simp only [Act.put, List.setIfInBounds_toArray, List.set_cons_zero, List.set_cons_succ]
        refine wpHold_take (i := 15) (v := _) (GB.out) rfl rfl (by kernel_rfl) (by kernel_rfl) (by kernel_rfl) (by kernel_rfl) (by kernel_rfl) (fun _ _ _ h => h) (by rfl) (fun wk hk => by obtain ⟨⟨y0, y1, y2⟩, ⟨y3, y4, y5⟩, y6, y7⟩ := HC.out wk hk; go_simp; try rfl) ?_
        try simp only [Act.put, List.setIfInBounds_toArray, List.set_cons_zero, List.set_cons_succ]
        refine wpHold_take (i := 16) (v := _) (GB.out) rfl rfl (by kernel_rfl) (by kernel_rfl) (by kernel_rfl) (by kernel_rfl) (by kernel_rfl) (fun _ _ _ h => h) (by rfl) (fun wk hk => by obtain ⟨⟨y0, y1, y2⟩, ⟨y3, y4, y5⟩, y6, y7⟩ := HC.out wk hk; go_simp; try rfl) ?_
        try simp only [Act.put, List.setIfInBounds_toArray, List.set_cons_zero, List.set_cons_succ]
        refine wpHold_take (i := 17) (v := _) (GB.out) rfl rfl (by kernel_rfl) (by kernel_rfl) (by kernel_rfl) (by kernel_rfl) (by kernel_rfl) (fun _ _ _ h => h) (by rfl) (fun wk hk => by obtain ⟨⟨y0, y1, y2⟩, ⟨y3, y4, y5⟩, y6, y7⟩ := HC.out wk hk; go_simp; try rfl) ?_
        try simp only [Act.put, List.setIfInBounds_toArray, List.set_cons_zero, List.set_cons_succ]
        refine wpHold_take (i := 18) (v := _) (GB.out) rfl rfl (by kernel_rfl) (by kernel_rfl) (by kernel_rfl) (by kernel_rfl) (by kernel_rfl) (fun _ _ _ h => h) (by rfl) (fun wk hk => by obtain ⟨⟨y0, y1, y2⟩, ⟨y3, y4, y5⟩, y6, y7⟩ := HC.out wk hk; go_simp; try rfl) ?_
        try simp only [Act.put, List.setIfInBounds_toArray, List.set_cons_zero, List.set_cons_succ]
        refine wpHold_take (i := 20) (v := _) (GB.out) rfl rfl (by kernel_rfl) (by kernel_rfl) (by kernel_rfl) (by kernel_rfl) (by kernel_rfl) (fun _ _ _ h => h) (by rfl) (fun wk hk => by obtain ⟨⟨y0, y1, y2⟩, ⟨y3, y4, y5⟩, y6, y7⟩ := HC.out wk hk; go_simp; try rfl) ?_
        try simp only [Act.put, List.setIfInBounds_toArray, List.set_cons_zero, List.set_cons_succ]
        refine wpHold_take (i := 21) (v := _) (GB.out) rfl rfl (by kernel_rfl) (by kernel_rfl) (by kernel_rfl) (by kernel_rfl) (by kernel_rfl) (fun _ _ _ h => h) (by rfl) (fun wk hk => by obtain ⟨⟨y0, y1, y2⟩, ⟨y3, y4, y5⟩, y6, y7⟩ := HC.out wk hk; go_simp; try rfl) ?_
        try simp only [Act.put, List.setIfInBounds_toArray, List.set_cons_zero, List.set_cons_succ]
        refine wpHold_one (i := 19) rfl (by kernel_rfl) (by rfl) (fun K hK => ?_)
        go_wp2_with fail
        refine (len19 b q r.db HF.out.2.dbq.good wb ⟨m1, Blk.grown K10.out.1 GB.out (by simp), K10.out.2.1.grown GB.out⟩).mono ?_
        rintro e wc ⟨rfl, gg⟩
        have GC : Hid (w10.grownBy wc none) := grown_trans GB.out gg
        clear gg
        go_wp2_with fail
        refine hK.out _ _ (fun _ => GC.out) ?_
        clear hK K
        try simp only [Act.put, List.setIfInBounds_toArray, List.set_cons_zero, List.set_cons_succ]
        refine wpHold_one (i := 22) rfl (by kernel_rfl) (by rfl) (fun K hK => ?_)
        go_wp2_with fail
        try rw [decide_eq_false (show ¬ (q.1 < (lenD r.db : Int)) by omega)]
        refine hK.out _ _ (fun _ => GC.out) ?_
        clear hK K
        try simp only [Act.put, List.setIfInBounds_toArray, List.set_cons_zero, List.set_cons_succ]
        refine wpHold_take (i := 23) (v := _) (GC.out) rfl rfl (by kernel_rfl) (by kernel_rfl) (by kernel_rfl) (by kernel_rfl) (by kernel_rfl) (fun _ _ _ h => h) (by rfl) (fun wk hk => by obtain ⟨⟨y0, y1, y2⟩, ⟨y3, y4, y5⟩, y6, y7⟩ := HC.out wk hk; go_simp; try rfl) ?_
        try simp only [Act.put, List.setIfInBounds_toArray, List.set_cons_zero, List.set_cons_succ]
        refine wpHold_take (i := 24) (v := _) (GC.out) rfl rfl (by kernel_rfl) (by kernel_rfl) (by kernel_rfl) (by kernel_rfl) (by kernel_rfl) (fun _ _ _ h => h) (by rfl) (fun wk hk => by obtain ⟨⟨y0, y1, y2⟩, ⟨y3, y4, y5⟩, y6, y7⟩ := HC.out wk hk; go_simp; try rfl) ?_
        try simp only [Act.put, List.setIfInBounds_toArray, List.set_cons_zero, List.set_cons_succ]
        refine wpHold_take (i := 25) (v := _) (GC.out) rfl rfl (by kernel_rfl) (by kernel_rfl) (by kernel_rfl) (by kernel_rfl) (by kernel_rfl) (fun _ _ _ h => h) (by rfl) (fun wk hk => by obtain ⟨⟨y0, y1, y2⟩, ⟨y3, y4, y5⟩, y6, y7⟩ := HC.out wk hk; go_simp; try rfl) ?_
        try simp only [Act.put, List.setIfInBounds_toArray, List.set_cons_zero, List.set_cons_succ]
        refine wpHold_take (i := 27) (v := _) (GC.out) rfl rfl (by kernel_rfl) (by kernel_rfl) (by kernel_rfl) (by kernel_rfl) (by kernel_rfl) (fun _ _ _ h => h) (by rfl) (fun wk hk => by obtain ⟨⟨y0, y1, y2⟩, ⟨y3, y4, y5⟩, y6, y7⟩ := HC.out wk hk; go_simp; try rfl) ?_
        try simp only [Act.put, List.setIfInBounds_toArray, List.set_cons_zero, List.set_cons_succ]
        refine wpHold_take (i := 28) (v := _) (GC.out) rfl rfl (by kernel_rfl) (by kernel_rfl) (by kernel_rfl) (by kernel_rfl) (by kernel_rfl) (fun _ _ _ h => h) (by rfl) (fun wk hk => by obtain ⟨⟨y0, y1, y2⟩, ⟨y3, y4, y5⟩, y6, y7⟩ := HC.out wk hk; go_simp; try rfl) ?_
        try simp only [Act.put, List.setIfInBounds_toArray, List.set_cons_zero, List.set_cons_succ]
        refine wpHold_one (i := 26) rfl (by kernel_rfl) (by rfl) (fun K hK => ?_)
        go_wp2_with fail
        refine (size20 b q r.db HF.out.2.dbq.good wc ⟨m1, Blk.grown K10.out.1 GC.out (by simp), K10.out.2.1.grown GC.out⟩).mono ?_
        rintro e we ⟨rfl, gg⟩
        have GE : Hid (w10.grownBy we none) := grown_trans GC.out gg
        clear gg
        go_wp2_with fail
        refine hK.out _ _ (fun _ => GE.out) ?_
        clear hK K
        try simp only [Act.put, List.setIfInBounds_toArray, List.set_cons_zero, List.set_cons_succ]
        refine wpHold_one (i := 29) rfl (by kernel_rfl) (by rfl) (fun K hK => ?_)
        go_wp2_with fail
        try rw [decide_eq_false (show ¬ (q.2 < (sizeD r.db : Int)) by omega)]
        refine hK.out _ _ (fun _ => GE.out) ?_
        clear hK K
        try simp only [Act.put, List.setIfInBounds_toArray, List.set_cons_zero, List.set_cons_succ]
        refine wpHold_take (i := 30) (v := _) (GE.out) rfl rfl (by kernel_rfl) (by kernel_rfl) (by kernel_rfl) (by kernel_rfl) (by kernel_rfl) (fun _ _ _ h => h) (by rfl) (fun wk hk => by obtain ⟨⟨y0, y1, y2⟩, ⟨y3, y4, y5⟩, y6, y7⟩ := HC.out wk hk; go_simp; try rfl) ?_
        try simp only [Act.put, List.setIfInBounds_toArray, List.set_cons_zero, List.set_cons_succ]
        refine wpHold_done (by kernel_rfl) ?_
        refine (‹∀ (a : Act) (w : World), Code.wp Tryz.prog _ _ a w → _› _ _ ?_)
        obtain ⟨⟨y0, y1, y2⟩, ⟨y3, y4, y5⟩, y6, y7⟩ := HC.out we GE.out
        have q2 := (grown_trans K10.out.2.2.2.2.2.2.2.1 GE.out).cell HO.out.2 (by simp)
        clear y3 y4 y5 y6 y7 hlen hsiz
        by_cases he : r.err = 0
        · by_cases ha : r.abort = 0
          · have he1 : (r.err != 0) = false := by simpa using he
            have he2 : (r.err == 0) = true := by simpa using he
            have ha2 : (r.abort != 0) = false := by simpa using ha
            have HE0 : Hid (r.err = 0) := he
            have HA0 : Hid (¬ (r.abort ≠ 0)) := by show ¬ _; simpa using ha
            clear he ha
            go_wp2_with (go_at_call 16; refine (num16 r.err _).mono ?_; rintro e ww ⟨rfl, hw⟩; rw [hw]; clear hw)
            refine (Calls.reads18 (.slice av nv cv) lc we (HO.out.1.grown (grown_trans K10.out.2.2.2.2.2.2.2.1 GE.out))).mono ?_
            cases hrd : rds lc
            · rintro e wf ⟨rfl, gf⟩
              have GF : Hid (w10.grownBy wf none) := grown_trans GE.out gf
              clear gf y0 y1 y2 q2 hrd
              go_wp2_with fail
              refine wp_region_noPanic ?_
              refine wp_region_hold 1000 (fun y => w10.grownBy y none) (by kernel_rfl) ?_
              have G5 : Hid (w10.grownBy wf.drew none) := grown_trans GF.out (grown_drew _ _)
              generalize wf.drew = wh at G5 ⊢
              refine wpHold_take (i := 0) (v := _) (G5.out) rfl rfl (by kernel_rfl) (by kernel_rfl) (by kernel_rfl) (by kernel_rfl) (by kernel_rfl) (fun _ _ _ h => h) (by rfl) (fun wk hk => by obtain ⟨⟨y0, y1, y2⟩, ⟨y3, y4, y5⟩, y6, y7⟩ := HC.out wk hk; have q3 := (grown_trans K10.out.2.2.2.2.2.2.2.1 hk).cell HO.out.2 (by simp); go_simp; try rfl) ?_
              try simp only [Act.put, List.setIfInBounds_toArray, List.set_cons_zero, List.set_cons_succ]
              refine wpHold_one (i := 1) rfl (by kernel_rfl) (by rfl) (fun K hK => ?_)
              go_wp2_with (go_at_call 16; refine (num16 r.err _).mono ?_; rintro e ww ⟨rfl, hw⟩; rw [hw]; clear hw)
              refine hK.out _ _ (fun _ => G5.out) ?_
              clear hK K
              try simp only [Act.put, List.setIfInBounds_toArray, List.set_cons_zero, List.set_cons_succ]
              refine wpHold_one (i := 2) rfl (by kernel_rfl) (by rfl) (fun K hK => ?_)
              go_wp2_with fail
              try rw [decide_eq_true HE0.out]
              try rw [he2]
              refine hK.out _ _ (fun _ => G5.out) ?_
              clear hK K
              try simp only [Act.put, List.setIfInBounds_toArray, List.set_cons_zero, List.set_cons_succ]
              refine wpHold_take (i := 3) (v := _) (G5.out) rfl rfl (by kernel_rfl) (by kernel_rfl) (by kernel_rfl) (by kernel_rfl) (by kernel_rfl) (fun _ _ _ h => h) (by rfl) (fun wk hk => by obtain ⟨⟨y0, y1, y2⟩, ⟨y3, y4, y5⟩, y6, y7⟩ := HC.out wk hk; have q3 := (grown_trans K10.out.2.2.2.2.2.2.2.1 hk).cell HO.out.2 (by simp); go_simp; try rfl) ?_
              try simp only [Act.put, List.setIfInBounds_toArray, List.set_cons_zero, List.set_cons_succ]
              refine wpHold_take (i := 4) (v := _) (G5.out) rfl rfl (by kernel_rfl) (by kernel_rfl) (by kernel_rfl) (by kernel_rfl) (by kernel_rfl) (fun _ _ _ h => h) (by rfl) (fun wk hk => by obtain ⟨⟨y0, y1, y2⟩, ⟨y3, y4, y5⟩, y6, y7⟩ := HC.out wk hk; have q3 := (grown_trans K10.out.2.2.2.2.2.2.2.1 hk).cell HO.out.2 (by simp); go_simp; try rfl) ?_
              try simp only [Act.put, List.setIfInBounds_toArray, List.set_cons_zero, List.set_cons_succ]
              refine wpHold_take (i := 5) (v := _) (G5.out) rfl rfl (by kernel_rfl) (by kernel_rfl) (by kernel_rfl) (by kernel_rfl) (by kernel_rfl) (fun _ _ _ h => h) (by rfl) (fun wk hk => by obtain ⟨⟨y0, y1, y2⟩, ⟨y3, y4, y5⟩, y6, y7⟩ := HC.out wk hk; have q3 := (grown_trans K10.out.2.2.2.2.2.2.2.1 hk).cell HO.out.2 (by simp); go_simp; try rfl) ?_
              try simp only [Act.put, List.setIfInBounds_toArray, List.set_cons_zero, List.set_cons_succ]
              refine wpHold_one (i := 6) rfl (by kernel_rfl) (by rfl) (fun K hK => ?_)
              go_wp2_with fail
              try rw [decide_eq_false HA0.out]
              try rw [ha2]
              refine hK.out _ _ (fun _ => G5.out) ?_
              clear hK K
              try simp only [Act.put, List.setIfInBounds_toArray, List.set_cons_zero, List.set_cons_succ]
              refine wpHold_take (i := 7) (v := _) (G5.out) rfl rfl (by kernel_rfl) (by kernel_rfl) (by kernel_rfl) (by kernel_rfl) (by kernel_rfl) (fun _ _ _ h => h) (by rfl) (fun wk hk => by obtain ⟨⟨y0, y1, y2⟩, ⟨y3, y4, y5⟩, y6, y7⟩ := HC.out wk hk; have q3 := (grown_trans K10.out.2.2.2.2.2.2.2.1 hk).cell HO.out.2 (by simp); go_simp; try rfl) ?_
              try simp only [Act.put, List.setIfInBounds_toArray, List.set_cons_zero, List.set_cons_succ]
              refine wpHold_take (i := 8) (v := _) (G5.out) rfl rfl (by kernel_rfl) (by kernel_rfl) (by kernel_rfl) (by kernel_rfl) (by kernel_rfl) (fun _ _ _ h => h) (by rfl) (fun wk hk => by obtain ⟨⟨y0, y1, y2⟩, ⟨y3, y4, y5⟩, y6, y7⟩ := HC.out wk hk; have q3 := (grown_trans K10.out.2.2.2.2.2.2.2.1 hk).cell HO.out.2 (by simp); go_simp; try rfl) ?_
              try simp only [Act.put, List.setIfInBounds_toArray, List.set_cons_zero, List.set_cons_succ]
              refine wpHold_skip (i := 9) (G5.out) rfl rfl (by kernel_rfl) (by kernel_rfl) (by kernel_rfl) (by kernel_rfl) (by kernel_rfl) (fun _ _ _ h => h) (by rfl) ?_
              try simp only [Act.put, List.setIfInBounds_toArray, List.set_cons_zero, List.set_cons_succ]
              refine wpHold_skip (i := 10) (G5.out) rfl rfl (by kernel_rfl) (by kernel_rfl) (by kernel_rfl) (by kernel_rfl) (by kernel_rfl) (fun _ _ _ h => h) (by rfl) ?_
              try simp only [Act.put, List.setIfInBounds_toArray, List.set_cons_zero, List.set_cons_succ]
              refine wpHold_skip (i := 11) (G5.out) rfl rfl (by kernel_rfl) (by kernel_rfl) (by kernel_rfl) (by kernel_rfl) (by kernel_rfl) (fun _ _ _ h => h) (by rfl) ?_
              try simp only [Act.put, List.setIfInBounds_toArray, List.set_cons_zero, List.set_cons_succ]
              refine wpHold_skip (i := 12) (G5.out) rfl rfl (by kernel_rfl) (by kernel_rfl) (by kernel_rfl) (by kernel_rfl) (by kernel_rfl) (fun _ _ _ h => h) (by rfl) ?_
              try simp only [Act.put, List.setIfInBounds_toArray, List.set_cons_zero, List.set_cons_succ]
              refine wpHold_skip (i := 13) (G5.out) rfl rfl (by kernel_rfl) (by kernel_rfl) (by kernel_rfl) (by kernel_rfl) (by kernel_rfl) (fun _ _ _ h => h) (by rfl) ?_
              try simp only [Act.put, List.setIfInBounds_toArray, List.set_cons_zero, List.set_cons_succ]
              refine wpHold_skip (i := 14) (G5.out) rfl rfl (by kernel_rfl) (by kernel_rfl) (by kernel_rfl) (by kernel_rfl) (by kernel_rfl) (fun _ _ _ h => h) (by rfl) ?_
              try simp only [Act.put, List.setIfInBounds_toArray, List.set_cons_zero, List.set_cons_succ]
              refine wpHold_skip (i := 15) (G5.out) rfl rfl (by kernel_rfl) (by kernel_rfl) (by kernel_rfl) (by kernel_rfl) (by kernel_rfl) (fun _ _ _ h => h) (by rfl) ?_
              try simp only [Act.put, List.setIfInBounds_toArray, List.set_cons_zero, List.set_cons_succ]
              refine wpHold_skip (i := 16) (G5.out) rfl rfl (by kernel_rfl) (by kernel_rfl) (by kernel_rfl) (by kernel_rfl) (by kernel_rfl) (fun _ _ _ h => h) (by rfl) ?_
              try simp only [Act.put, List.setIfInBounds_toArray, List.set_cons_zero, List.set_cons_succ]
              refine wpHold_take (i := 17) (v := _) (G5.out) rfl rfl (by kernel_rfl) (by kernel_rfl) (by kernel_rfl) (by kernel_rfl) (by kernel_rfl) (fun _ _ _ h => h) (by rfl) (fun wk hk => by obtain ⟨⟨y0, y1, y2⟩, ⟨y3, y4, y5⟩, y6, y7⟩ := HC.out wk hk; have q3 := (grown_trans K10.out.2.2.2.2.2.2.2.1 hk).cell HO.out.2 (by simp); go_simp; try rfl) ?_
              try simp only [Act.put, List.setIfInBounds_toArray, List.set_cons_zero, List.set_cons_succ]
              refine wpHold_done (by kernel_rfl) ?_
              refine (‹∀ (a : Act) (w : World), Code.wp Tryz.prog _ _ a w → _› _ _ ?_)
              go_wp2_with fail
              go_roundw
              case rel => exact ⟨i + 1, m1, r.db, by go_num, by omega, Blk.grown K10.out.1 G5.out (by simp), K10.out.2.1.grown G5.out, HF.out.2.dbq, HF.out.2.tab, K10.out.2.2.2.2.2.2.1.grown G5.out (by simp), grown_trans K10.out.2.2.2.2.2.2.2.1 G5.out⟩
              case measure =>
                simp [intOf]
                omega
            · have hsd : r.db = D := HF.out.2.same (.inr (.inr hrd))
              rintro e wg ⟨rfl, gg⟩
              have GG : Hid (w10.grownBy wg none) := grown_trans GE.out gg
              clear gg hrd
              go_wp2_with fail
              refine (same13 (X := X0) (Y := X0) d1 b q q D r.db HR.out.2.2.1.good.rise HF.out.2.dbq.good.rise wg ⟨m, Blk.grown K10.out.2.2.1 GG.out (by simp), K10.out.2.2.2.2.1.grown GG.out⟩ ⟨m1, Blk.grown K10.out.1 GG.out (by simp), K10.out.2.1.grown GG.out⟩).mono ?_
              rw [decide_eq_true (rfl : q = q), decide_eq_true hsd.symm, Bool.and_self]
              rintro e wf ⟨rfl, gf⟩
              have GF : Hid (w10.grownBy wf none) := grown_trans GG.out gf
              clear gf y0 y1 y2 q2
              go_wp2_with fail
              refine wp_region_noPanic ?_
              refine wp_region_hold 1000 (fun y => w10.grownBy y none) (by kernel_rfl) ?_
              have G5 : Hid (w10.grownBy wf.drew none) := grown_trans GF.out (grown_drew _ _)
              generalize wf.drew = wh at G5 ⊢
              refine wpHold_take (i := 0) (v := _) (G5.out) rfl rfl (by kernel_rfl) (by kernel_rfl) (by kernel_rfl) (by kernel_rfl) (by kernel_rfl) (fun _ _ _ h => h) (by rfl) (fun wk hk => by obtain ⟨⟨y0, y1, y2⟩, ⟨y3, y4, y5⟩, y6, y7⟩ := HC.out wk hk; have q3 := (grown_trans K10.out.2.2.2.2.2.2.2.1 hk).cell HO.out.2 (by simp); go_simp; try rfl) ?_
              try simp only [Act.put, List.setIfInBounds_toArray, List.set_cons_zero, List.set_cons_succ]
              refine wpHold_one (i := 1) rfl (by kernel_rfl) (by rfl) (fun K hK => ?_)
              go_wp2_with (go_at_call 16; refine (num16 r.err _).mono ?_; rintro e ww ⟨rfl, hw⟩; rw [hw]; clear hw)
              refine hK.out _ _ (fun _ => G5.out) ?_
              clear hK K
              try simp only [Act.put, List.setIfInBounds_toArray, List.set_cons_zero, List.set_cons_succ]
              refine wpHold_one (i := 2) rfl (by kernel_rfl) (by rfl) (fun K hK => ?_)
              go_wp2_with fail
              try rw [decide_eq_true HE0.out]
              try rw [he2]
              refine hK.out _ _ (fun _ => G5.out) ?_
              clear hK K
              try simp only [Act.put, List.setIfInBounds_toArray, List.set_cons_zero, List.set_cons_succ]
              refine wpHold_take (i := 3) (v := _) (G5.out) rfl rfl (by kernel_rfl) (by kernel_rfl) (by kernel_rfl) (by kernel_rfl) (by kernel_rfl) (fun _ _ _ h => h) (by rfl) (fun wk hk => by obtain ⟨⟨y0, y1, y2⟩, ⟨y3, y4, y5⟩, y6, y7⟩ := HC.out wk hk; have q3 := (grown_trans K10.out.2.2.2.2.2.2.2.1 hk).cell HO.out.2 (by simp); go_simp; try rfl) ?_
              try simp only [Act.put, List.setIfInBounds_toArray, List.set_cons_zero, List.set_cons_succ]
              refine wpHold_take (i := 4) (v := _) (G5.out) rfl rfl (by kernel_rfl) (by kernel_rfl) (by kernel_rfl) (by kernel_rfl) (by kernel_rfl) (fun _ _ _ h => h) (by rfl) (fun wk hk => by obtain ⟨⟨y0, y1, y2⟩, ⟨y3, y4, y5⟩, y6, y7⟩ := HC.out wk hk; have q3 := (grown_trans K10.out.2.2.2.2.2.2.2.1 hk).cell HO.out.2 (by simp); go_simp; try rfl) ?_
              try simp only [Act.put, List.setIfInBounds_toArray, List.set_cons_zero, List.set_cons_succ]
              refine wpHold_take (i := 5) (v := _) (G5.out) rfl rfl (by kernel_rfl) (by kernel_rfl) (by kernel_rfl) (by kernel_rfl) (by kernel_rfl) (fun _ _ _ h => h) (by rfl) (fun wk hk => by obtain ⟨⟨y0, y1, y2⟩, ⟨y3, y4, y5⟩, y6, y7⟩ := HC.out wk hk; have q3 := (grown_trans K10.out.2.2.2.2.2.2.2.1 hk).cell HO.out.2 (by simp); go_simp; try rfl) ?_
              try simp only [Act.put, List.setIfInBounds_toArray, List.set_cons_zero, List.set_cons_succ]
              refine wpHold_one (i := 6) rfl (by kernel_rfl) (by rfl) (fun K hK => ?_)
              go_wp2_with fail
              try rw [decide_eq_false HA0.out]
              try rw [ha2]
              refine hK.out _ _ (fun _ => G5.out) ?_
              clear hK K
              try simp only [Act.put, List.setIfInBounds_toArray, List.set_cons_zero, List.set_cons_succ]
              refine wpHold_take (i := 7) (v := _) (G5.out) rfl rfl (by kernel_rfl) (by kernel_rfl) (by kernel_rfl) (by kernel_rfl) (by kernel_rfl) (fun _ _ _ h => h) (by rfl) (fun wk hk => by obtain ⟨⟨y0, y1, y2⟩, ⟨y3, y4, y5⟩, y6, y7⟩ := HC.out wk hk; have q3 := (grown_trans K10.out.2.2.2.2.2.2.2.1 hk).cell HO.out.2 (by simp); go_simp; try rfl) ?_
              try simp only [Act.put, List.setIfInBounds_toArray, List.set_cons_zero, List.set_cons_succ]
              refine wpHold_take (i := 8) (v := _) (G5.out) rfl rfl (by kernel_rfl) (by kernel_rfl) (by kernel_rfl) (by kernel_rfl) (by kernel_rfl) (fun _ _ _ h => h) (by rfl) (fun wk hk => by obtain ⟨⟨y0, y1, y2⟩, ⟨y3, y4, y5⟩, y6, y7⟩ := HC.out wk hk; have q3 := (grown_trans K10.out.2.2.2.2.2.2.2.1 hk).cell HO.out.2 (by simp); go_simp; try rfl) ?_
              try simp only [Act.put, List.setIfInBounds_toArray, List.set_cons_zero, List.set_cons_succ]
              refine wpHold_skip (i := 9) (G5.out) rfl rfl (by kernel_rfl) (by kernel_rfl) (by kernel_rfl) (by kernel_rfl) (by kernel_rfl) (fun _ _ _ h => h) (by rfl) ?_
              try simp only [Act.put, List.setIfInBounds_toArray, List.set_cons_zero, List.set_cons_succ]
              refine wpHold_skip (i := 10) (G5.out) rfl rfl (by kernel_rfl) (by kernel_rfl) (by kernel_rfl) (by kernel_rfl) (by kernel_rfl) (fun _ _ _ h => h) (by rfl) ?_
              try simp only [Act.put, List.setIfInBounds_toArray, List.set_cons_zero, List.set_cons_succ]
              refine wpHold_skip (i := 11) (G5.out) rfl rfl (by kernel_rfl) (by kernel_rfl) (by kernel_rfl) (by kernel_rfl) (by kernel_rfl) (fun _ _ _ h => h) (by rfl) ?_
              try simp only [Act.put, List.setIfInBounds_toArray, List.set_cons_zero, List.set_cons_succ]
              refine wpHold_skip (i := 12) (G5.out) rfl rfl (by kernel_rfl) (by kernel_rfl) (by kernel_rfl) (by kernel_rfl) (by kernel_rfl) (fun _ _ _ h => h) (by rfl) ?_
              try simp only [Act.put, List.setIfInBounds_toArray, List.set_cons_zero, List.set_cons_succ]
              refine wpHold_skip (i := 13) (G5.out) rfl rfl (by kernel_rfl) (by kernel_rfl) (by kernel_rfl) (by kernel_rfl) (by kernel_rfl) (fun _ _ _ h => h) (by rfl) ?_
              try simp only [Act.put, List.setIfInBounds_toArray, List.set_cons_zero, List.set_cons_succ]
              refine wpHold_skip (i := 14) (G5.out) rfl rfl (by kernel_rfl) (by kernel_rfl) (by kernel_rfl) (by kernel_rfl) (by kernel_rfl) (fun _ _ _ h => h) (by rfl) ?_
              try simp only [Act.put, List.setIfInBounds_toArray, List.set_cons_zero, List.set_cons_succ]
              refine wpHold_skip (i := 15) (G5.out) rfl rfl (by kernel_rfl) (by kernel_rfl) (by kernel_rfl) (by kernel_rfl) (by kernel_rfl) (fun _ _ _ h => h) (by rfl) ?_
              try simp only [Act.put, List.setIfInBounds_toArray, List.set_cons_zero, List.set_cons_succ]
              refine wpHold_skip (i := 16) (G5.out) rfl rfl (by kernel_rfl) (by kernel_rfl) (by kernel_rfl) (by kernel_rfl) (by kernel_rfl) (fun _ _ _ h => h) (by rfl) ?_
              try simp only [Act.put, List.setIfInBounds_toArray, List.set_cons_zero, List.set_cons_succ]
              refine wpHold_take (i := 17) (v := _) (G5.out) rfl rfl (by kernel_rfl) (by kernel_rfl) (by kernel_rfl) (by kernel_rfl) (by kernel_rfl) (fun _ _ _ h => h) (by rfl) (fun wk hk => by obtain ⟨⟨y0, y1, y2⟩, ⟨y3, y4, y5⟩, y6, y7⟩ := HC.out wk hk; have q3 := (grown_trans K10.out.2.2.2.2.2.2.2.1 hk).cell HO.out.2 (by simp); go_simp; try rfl) ?_
              try simp only [Act.put, List.setIfInBounds_toArray, List.set_cons_zero, List.set_cons_succ]
              refine wpHold_done (by kernel_rfl) ?_
              refine (‹∀ (a : Act) (w : World), Code.wp Tryz.prog _ _ a w → _› _ _ ?_)
              go_wp2_with fail
              go_roundw
              case rel => exact ⟨i + 1, m1, r.db, by go_num, by omega, Blk.grown K10.out.1 G5.out (by simp), K10.out.2.1.grown G5.out, HF.out.2.dbq, HF.out.2.tab, K10.out.2.2.2.2.2.2.1.grown G5.out (by simp), grown_trans K10.out.2.2.2.2.2.2.2.1 G5.out⟩
              case measure =>
                simp [intOf]
                omega
          · have hsd : r.db = D := HF.out.2.same (.inr (.inl ha))
            have he1 : (r.err != 0) = false := by simpa using he
            have he2 : (r.err == 0) = true := by simpa using he
            have ha2 : (r.abort != 0) = true := by simpa using ha
            have HE0 : Hid (r.err = 0) := he
            clear he
            go_wp2_with (go_at_call 16; refine (num16 r.err _).mono ?_; rintro e ww ⟨rfl, hw⟩; rw [hw]; clear hw)
            refine (same13 (X := X0) (Y := X0) d1 b q q D r.db HR.out.2.2.1.good.rise HF.out.2.dbq.good.rise we ⟨m, Blk.grown K10.out.2.2.1 GE.out (by simp), K10.out.2.2.2.2.1.grown GE.out⟩ ⟨m1, Blk.grown K10.out.1 GE.out (by simp), K10.out.2.1.grown GE.out⟩).mono ?_
            rw [decide_eq_true (rfl : q = q), decide_eq_true hsd.symm, Bool.and_self]
            rintro e wf ⟨rfl, gf⟩
            have GF : Hid (w10.grownBy wf none) := grown_trans GE.out gf
            clear gf y0 y1 y2 q2
            go_wp2_with fail
            refine wp_region_noPanic ?_
            refine wp_region_hold 1000 (fun y => w10.grownBy y none) (by kernel_rfl) ?_
            have G5 : Hid (w10.grownBy wf.drew none) := grown_trans GF.out (grown_drew _ _)
            generalize wf.drew = wh at G5 ⊢
            refine wpHold_take (i := 0) (v := _) (G5.out) rfl rfl (by kernel_rfl) (by kernel_rfl) (by kernel_rfl) (by kernel_rfl) (by kernel_rfl) (fun _ _ _ h => h) (by rfl) (fun wk hk => by obtain ⟨⟨y0, y1, y2⟩, ⟨y3, y4, y5⟩, y6, y7⟩ := HC.out wk hk; have q3 := (grown_trans K10.out.2.2.2.2.2.2.2.1 hk).cell HO.out.2 (by simp); go_simp; try rfl) ?_
            try simp only [Act.put, List.setIfInBounds_toArray, List.set_cons_zero, List.set_cons_succ]
            refine wpHold_one (i := 1) rfl (by kernel_rfl) (by rfl) (fun K hK => ?_)
            go_wp2_with (go_at_call 16; refine (num16 r.err _).mono ?_; rintro e ww ⟨rfl, hw⟩; rw [hw]; clear hw)
            refine hK.out _ _ (fun _ => G5.out) ?_
            clear hK K
            try simp only [Act.put, List.setIfInBounds_toArray, List.set_cons_zero, List.set_cons_succ]
            refine wpHold_one (i := 2) rfl (by kernel_rfl) (by rfl) (fun K hK => ?_)
            go_wp2_with fail
            try rw [decide_eq_true HE0.out]
            try rw [he2]
            refine hK.out _ _ (fun _ => G5.out) ?_
            clear hK K
            try simp only [Act.put, List.setIfInBounds_toArray, List.set_cons_zero, List.set_cons_succ]
            refine wpHold_take (i := 3) (v := _) (G5.out) rfl rfl (by kernel_rfl) (by kernel_rfl) (by kernel_rfl) (by kernel_rfl) (by kernel_rfl) (fun _ _ _ h => h) (by rfl) (fun wk hk => by obtain ⟨⟨y0, y1, y2⟩, ⟨y3, y4, y5⟩, y6, y7⟩ := HC.out wk hk; have q3 := (grown_trans K10.out.2.2.2.2.2.2.2.1 hk).cell HO.out.2 (by simp); go_simp; try rfl) ?_
            try simp only [Act.put, List.setIfInBounds_toArray, List.set_cons_zero, List.set_cons_succ]
            refine wpHold_take (i := 4) (v := _) (G5.out) rfl rfl (by kernel_rfl) (by kernel_rfl) (by kernel_rfl) (by kernel_rfl) (by kernel_rfl) (fun _ _ _ h => h) (by rfl) (fun wk hk => by obtain ⟨⟨y0, y1, y2⟩, ⟨y3, y4, y5⟩, y6, y7⟩ := HC.out wk hk; have q3 := (grown_trans K10.out.2.2.2.2.2.2.2.1 hk).cell HO.out.2 (by simp); go_simp; try rfl) ?_
            try simp only [Act.put, List.setIfInBounds_toArray, List.set_cons_zero, List.set_cons_succ]
            refine wpHold_take (i := 5) (v := _) (G5.out) rfl rfl (by kernel_rfl) (by kernel_rfl) (by kernel_rfl) (by kernel_rfl) (by kernel_rfl) (fun _ _ _ h => h) (by rfl) (fun wk hk => by obtain ⟨⟨y0, y1, y2⟩, ⟨y3, y4, y5⟩, y6, y7⟩ := HC.out wk hk; have q3 := (grown_trans K10.out.2.2.2.2.2.2.2.1 hk).cell HO.out.2 (by simp); go_simp; try rfl) ?_
            try simp only [Act.put, List.setIfInBounds_toArray, List.set_cons_zero, List.set_cons_succ]
            refine wpHold_one (i := 6) rfl (by kernel_rfl) (by rfl) (fun K hK => ?_)
            go_wp2_with fail
            try rw [decide_eq_true ha]
            try rw [ha2]
            refine hK.out _ _ (fun _ => G5.out) ?_
            clear hK K
            try simp only [Act.put, List.setIfInBounds_toArray, List.set_cons_zero, List.set_cons_succ]
            refine wpHold_take (i := 7) (v := _) (G5.out) rfl rfl (by kernel_rfl) (by kernel_rfl) (by kernel_rfl) (by kernel_rfl) (by kernel_rfl) (fun _ _ _ h => h) (by rfl) (fun wk hk => by obtain ⟨⟨y0, y1, y2⟩, ⟨y3, y4, y5⟩, y6, y7⟩ := HC.out wk hk; have q3 := (grown_trans K10.out.2.2.2.2.2.2.2.1 hk).cell HO.out.2 (by simp); go_simp; try rfl) ?_
            try simp only [Act.put, List.setIfInBounds_toArray, List.set_cons_zero, List.set_cons_succ]
            refine wpHold_take (i := 8) (v := _) (G5.out) rfl rfl (by kernel_rfl) (by kernel_rfl) (by kernel_rfl) (by kernel_rfl) (by kernel_rfl) (fun _ _ _ h => h) (by rfl) (fun wk hk => by obtain ⟨⟨y0, y1, y2⟩, ⟨y3, y4, y5⟩, y6, y7⟩ := HC.out wk hk; have q3 := (grown_trans K10.out.2.2.2.2.2.2.2.1 hk).cell HO.out.2 (by simp); go_simp; try rfl) ?_
            try simp only [Act.put, List.setIfInBounds_toArray, List.set_cons_zero, List.set_cons_succ]
            refine wpHold_take (i := 9) (v := _) (G5.out) rfl rfl (by kernel_rfl) (by kernel_rfl) (by kernel_rfl) (by kernel_rfl) (by kernel_rfl) (fun _ _ _ h => h) (by rfl) (fun wk hk => by obtain ⟨⟨y0, y1, y2⟩, ⟨y3, y4, y5⟩, y6, y7⟩ := HC.out wk hk; have q3 := (grown_trans K10.out.2.2.2.2.2.2.2.1 hk).cell HO.out.2 (by simp); go_simp; try rfl) ?_
            try simp only [Act.put, List.setIfInBounds_toArray, List.set_cons_zero, List.set_cons_succ]
            refine wpHold_take (i := 10) (v := _) (G5.out) rfl rfl (by kernel_rfl) (by kernel_rfl) (by kernel_rfl) (by kernel_rfl) (by kernel_rfl) (fun _ _ _ h => h) (by rfl) (fun wk hk => by obtain ⟨⟨y0, y1, y2⟩, ⟨y3, y4, y5⟩, y6, y7⟩ := HC.out wk hk; have q3 := (grown_trans K10.out.2.2.2.2.2.2.2.1 hk).cell HO.out.2 (by simp); go_simp; try rfl) ?_
            try simp only [Act.put, List.setIfInBounds_toArray, List.set_cons_zero, List.set_cons_succ]
            refine wpHold_take (i := 11) (v := _) (G5.out) rfl rfl (by kernel_rfl) (by kernel_rfl) (by kernel_rfl) (by kernel_rfl) (by kernel_rfl) (fun _ _ _ h => h) (by rfl) (fun wk hk => by obtain ⟨⟨y0, y1, y2⟩, ⟨y3, y4, y5⟩, y6, y7⟩ := HC.out wk hk; have q3 := (grown_trans K10.out.2.2.2.2.2.2.2.1 hk).cell HO.out.2 (by simp); go_simp; try rfl) ?_
            try simp only [Act.put, List.setIfInBounds_toArray, List.set_cons_zero, List.set_cons_succ]
            refine wpHold_take (i := 12) (v := _) (G5.out) rfl rfl (by kernel_rfl) (by kernel_rfl) (by kernel_rfl) (by kernel_rfl) (by kernel_rfl) (fun _ _ _ h => h) (by rfl) (fun wk hk => by obtain ⟨⟨y0, y1, y2⟩, ⟨y3, y4, y5⟩, y6, y7⟩ := HC.out wk hk; have q3 := (grown_trans K10.out.2.2.2.2.2.2.2.1 hk).cell HO.out.2 (by simp); go_simp; try rfl) ?_
            try simp only [Act.put, List.setIfInBounds_toArray, List.set_cons_zero, List.set_cons_succ]
            refine wpHold_take (i := 13) (v := _) (G5.out) rfl rfl (by kernel_rfl) (by kernel_rfl) (by kernel_rfl) (by kernel_rfl) (by kernel_rfl) (fun _ _ _ h => h) (by rfl) (fun wk hk => by obtain ⟨⟨y0, y1, y2⟩, ⟨y3, y4, y5⟩, y6, y7⟩ := HC.out wk hk; have q3 := (grown_trans K10.out.2.2.2.2.2.2.2.1 hk).cell HO.out.2 (by simp); go_simp; try rfl) ?_
            try simp only [Act.put, List.setIfInBounds_toArray, List.set_cons_zero, List.set_cons_succ]
            refine wpHold_take (i := 14) (v := _) (G5.out) rfl rfl (by kernel_rfl) (by kernel_rfl) (by kernel_rfl) (by kernel_rfl) (by kernel_rfl) (fun _ _ _ h => h) (by rfl) (fun wk hk => by obtain ⟨⟨y0, y1, y2⟩, ⟨y3, y4, y5⟩, y6, y7⟩ := HC.out wk hk; have q3 := (grown_trans K10.out.2.2.2.2.2.2.2.1 hk).cell HO.out.2 (by simp); go_simp; try rfl) ?_
            try simp only [Act.put, List.setIfInBounds_toArray, List.set_cons_zero, List.set_cons_succ]
            refine wpHold_one (i := 15) rfl (by kernel_rfl) (by rfl) (fun K hK => ?_)
            go_wp2_with fail
            refine (least22 (X := X0) d1 m q D HR.out.2.2.1 av nv cv lc r.abort r.place HLC.out hn1' hn2' (HF.out.2.gave HE0.out ha).1 (HF.out.2.gave HE0.out ha).2 wh (x0 wh) (Blk.grown K10.out.2.2.1 G5.out (by simp)) (K10.out.2.2.2.2.1.grown G5.out) (HO.out.1.grown (grown_trans K10.out.2.2.2.2.2.2.2.1 G5.out)) s1 k1 z1).mono ?_
            rintro e wi ⟨rfl, gi⟩
            have G6 : Hid (w10.grownBy wi none) := grown_trans G5.out gi
            clear gi
            go_wp2_with fail
            refine hK.out _ _ (fun _ => G6.out) ?_
            clear hK K
            try simp only [Act.put, List.setIfInBounds_toArray, List.set_cons_zero, List.set_cons_succ]
            refine wpHold_take (i := 16) (v := _) (G6.out) rfl rfl (by kernel_rfl) (by kernel_rfl) (by kernel_rfl) (by kernel_rfl) (by kernel_rfl) (fun _ _ _ h => h) (by rfl) (fun wk hk => by obtain ⟨⟨y0, y1, y2⟩, ⟨y3, y4, y5⟩, y6, y7⟩ := HC.out wk hk; have q3 := (grown_trans K10.out.2.2.2.2.2.2.2.1 hk).cell HO.out.2 (by simp); go_simp; try rfl) ?_
            try simp only [Act.put, List.setIfInBounds_toArray, List.set_cons_zero, List.set_cons_succ]
            refine wpHold_take (i := 17) (v := _) (G6.out) rfl rfl (by kernel_rfl) (by kernel_rfl) (by kernel_rfl) (by kernel_rfl) (by kernel_rfl) (fun _ _ _ h => h) (by rfl) (fun wk hk => by obtain ⟨⟨y0, y1, y2⟩, ⟨y3, y4, y5⟩, y6, y7⟩ := HC.out wk hk; have q3 := (grown_trans K10.out.2.2.2.2.2.2.2.1 hk).cell HO.out.2 (by simp); go_simp; try rfl) ?_
            try simp only [Act.put, List.setIfInBounds_toArray, List.set_cons_zero, List.set_cons_succ]
            refine wpHold_done (by kernel_rfl) ?_
            refine (‹∀ (a : Act) (w : World), Code.wp Tryz.prog _ _ a w → _› _ _ ?_)
            go_wp2_with fail
            go_roundw
            case rel => exact ⟨i + 1, m1, r.db, by go_num, by omega, Blk.grown K10.out.1 G6.out (by simp), K10.out.2.1.grown G6.out, HF.out.2.dbq, HF.out.2.tab, K10.out.2.2.2.2.2.2.1.grown G6.out (by simp), grown_trans K10.out.2.2.2.2.2.2.2.1 G6.out⟩
            case measure =>
              simp [intOf]
              omega
        · have hsd : r.db = D := HF.out.2.same (.inl he)
          have he1 : (r.err != 0) = true := by simpa using he
          have he2 : (r.err == 0) = false := by simpa using he
          go_wp2_with (go_at_call 16; refine (num16 r.err _).mono ?_; rintro e ww ⟨rfl, hw⟩; rw [hw]; clear hw)
          refine (same13 (X := X0) (Y := X0) d1 b q q D r.db HR.out.2.2.1.good.rise HF.out.2.dbq.good.rise we ⟨m, Blk.grown K10.out.2.2.1 GE.out (by simp), K10.out.2.2.2.2.1.grown GE.out⟩ ⟨m1, Blk.grown K10.out.1 GE.out (by simp), K10.out.2.1.grown GE.out⟩).mono ?_
          rw [decide_eq_true (rfl : q = q), decide_eq_true hsd.symm, Bool.and_self]
          rintro e wf ⟨rfl, gf⟩
          have GF : Hid (w10.grownBy wf none) := grown_trans GE.out gf
          clear gf y0 y1 y2 q2
          go_wp2_with fail
          refine wp_region_noPanic ?_
          refine wp_region_hold 1000 (fun y => w10.grownBy y none) (by kernel_rfl) ?_
          have G5 : Hid (w10.grownBy wf.drew none) := grown_trans GF.out (grown_drew _ _)
          generalize wf.drew = wh at G5 ⊢
          refine wpHold_take (i := 0) (v := _) (G5.out) rfl rfl (by kernel_rfl) (by kernel_rfl) (by kernel_rfl) (by kernel_rfl) (by kernel_rfl) (fun _ _ _ h => h) (by rfl) (fun wk hk => by obtain ⟨⟨y0, y1, y2⟩, ⟨y3, y4, y5⟩, y6, y7⟩ := HC.out wk hk; have q3 := (grown_trans K10.out.2.2.2.2.2.2.2.1 hk).cell HO.out.2 (by simp); go_simp; try rfl) ?_
          try simp only [Act.put, List.setIfInBounds_toArray, List.set_cons_zero, List.set_cons_succ]
          refine wpHold_one (i := 1) rfl (by kernel_rfl) (by rfl) (fun K hK => ?_)
          go_wp2_with (go_at_call 16; refine (num16 r.err _).mono ?_; rintro e ww ⟨rfl, hw⟩; rw [hw]; clear hw)
          refine hK.out _ _ (fun _ => G5.out) ?_
          clear hK K
          try simp only [Act.put, List.setIfInBounds_toArray, List.set_cons_zero, List.set_cons_succ]
          refine wpHold_one (i := 2) rfl (by kernel_rfl) (by rfl) (fun K hK => ?_)
          go_wp2_with fail
          try rw [decide_eq_false he]
          try rw [he2]
          refine hK.out _ _ (fun _ => G5.out) ?_
          clear hK K
          try simp only [Act.put, List.setIfInBounds_toArray, List.set_cons_zero, List.set_cons_succ]
          refine wpHold_take (i := 3) (v := _) (G5.out) rfl rfl (by kernel_rfl) (by kernel_rfl) (by kernel_rfl) (by kernel_rfl) (by kernel_rfl) (fun _ _ _ h => h) (by rfl) (fun wk hk => by obtain ⟨⟨y0, y1, y2⟩, ⟨y3, y4, y5⟩, y6, y7⟩ := HC.out wk hk; have q3 := (grown_trans K10.out.2.2.2.2.2.2.2.1 hk).cell HO.out.2 (by simp); go_simp; try rfl) ?_
          try simp only [Act.put, List.setIfInBounds_toArray, List.set_cons_zero, List.set_cons_succ]
          refine wpHold_skip (i := 4) (G5.out) rfl rfl (by kernel_rfl) (by kernel_rfl) (by kernel_rfl) (by kernel_rfl) (by kernel_rfl) (fun _ _ _ h => h) (by rfl) ?_
          try simp only [Act.put, List.setIfInBounds_toArray, List.set_cons_zero, List.set_cons_succ]
          refine wpHold_skip (i := 5) (G5.out) rfl rfl (by kernel_rfl) (by kernel_rfl) (by kernel_rfl) (by kernel_rfl) (by kernel_rfl) (fun _ _ _ h => h) (by rfl) ?_
          try simp only [Act.put, List.setIfInBounds_toArray, List.set_cons_zero, List.set_cons_succ]
          refine wpHold_skip (i := 6) (G5.out) rfl rfl (by kernel_rfl) (by kernel_rfl) (by kernel_rfl) (by kernel_rfl) (by kernel_rfl) (fun _ _ _ h => h) (by rfl) ?_
          try simp only [Act.put, List.setIfInBounds_toArray, List.set_cons_zero, List.set_cons_succ]
          refine wpHold_take (i := 7) (v := _) (G5.out) rfl rfl (by kernel_rfl) (by kernel_rfl) (by kernel_rfl) (by kernel_rfl) (by kernel_rfl) (fun _ _ _ h => h) (by rfl) (fun wk hk => by obtain ⟨⟨y0, y1, y2⟩, ⟨y3, y4, y5⟩, y6, y7⟩ := HC.out wk hk; have q3 := (grown_trans K10.out.2.2.2.2.2.2.2.1 hk).cell HO.out.2 (by simp); go_simp; try rfl) ?_
          try simp only [Act.put, List.setIfInBounds_toArray, List.set_cons_zero, List.set_cons_succ]
          refine wpHold_take (i := 8) (v := _) (G5.out) rfl rfl (by kernel_rfl) (by kernel_rfl) (by kernel_rfl) (by kernel_rfl) (by kernel_rfl) (fun _ _ _ h => h) (by rfl) (fun wk hk => by obtain ⟨⟨y0, y1, y2⟩, ⟨y3, y4, y5⟩, y6, y7⟩ := HC.out wk hk; have q3 := (grown_trans K10.out.2.2.2.2.2.2.2.1 hk).cell HO.out.2 (by simp); go_simp; try rfl) ?_
          try simp only [Act.put, List.setIfInBounds_toArray, List.set_cons_zero, List.set_cons_succ]
          refine wpHold_skip (i := 9) (G5.out) rfl rfl (by kernel_rfl) (by kernel_rfl) (by kernel_rfl) (by kernel_rfl) (by kernel_rfl) (fun _ _ _ h => h) (by rfl) ?_
          try simp only [Act.put, List.setIfInBounds_toArray, List.set_cons_zero, List.set_cons_succ]
          refine wpHold_skip (i := 10) (G5.out) rfl rfl (by kernel_rfl) (by kernel_rfl) (by kernel_rfl) (by kernel_rfl) (by kernel_rfl) (fun _ _ _ h => h) (by rfl) ?_
          try simp only [Act.put, List.setIfInBounds_toArray, List.set_cons_zero, List.set_cons_succ]
          refine wpHold_skip (i := 11) (G5.out) rfl rfl (by kernel_rfl) (by kernel_rfl) (by kernel_rfl) (by kernel_rfl) (by kernel_rfl) (fun _ _ _ h => h) (by rfl) ?_
          try simp only [Act.put, List.setIfInBounds_toArray, List.set_cons_zero, List.set_cons_succ]
          refine wpHold_skip (i := 12) (G5.out) rfl rfl (by kernel_rfl) (by kernel_rfl) (by kernel_rfl) (by kernel_rfl) (by kernel_rfl) (fun _ _ _ h => h) (by rfl) ?_
          try simp only [Act.put, List.setIfInBounds_toArray, List.set_cons_zero, List.set_cons_succ]
          refine wpHold_skip (i := 13) (G5.out) rfl rfl (by kernel_rfl) (by kernel_rfl) (by kernel_rfl) (by kernel_rfl) (by kernel_rfl) (fun _ _ _ h => h) (by rfl) ?_
          try simp only [Act.put, List.setIfInBounds_toArray, List.set_cons_zero, List.set_cons_succ]
          refine wpHold_skip (i := 14) (G5.out) rfl rfl (by kernel_rfl) (by kernel_rfl) (by kernel_rfl) (by kernel_rfl) (by kernel_rfl) (fun _ _ _ h => h) (by rfl) ?_
          try simp only [Act.put, List.setIfInBounds_toArray, List.set_cons_zero, List.set_cons_succ]
          refine wpHold_skip (i := 15) (G5.out) rfl rfl (by kernel_rfl) (by kernel_rfl) (by kernel_rfl) (by kernel_rfl) (by kernel_rfl) (fun _ _ _ h => h) (by rfl) ?_
          try simp only [Act.put, List.setIfInBounds_toArray, List.set_cons_zero, List.set_cons_succ]
          refine wpHold_skip (i := 16) (G5.out) rfl rfl (by kernel_rfl) (by kernel_rfl) (by kernel_rfl) (by kernel_rfl) (by kernel_rfl) (fun _ _ _ h => h) (by rfl) ?_
          try simp only [Act.put, List.setIfInBounds_toArray, List.set_cons_zero, List.set_cons_succ]
          refine wpHold_take (i := 17) (v := _) (G5.out) rfl rfl (by kernel_rfl) (by kernel_rfl) (by kernel_rfl) (by kernel_rfl) (by kernel_rfl) (fun _ _ _ h => h) (by rfl) (fun wk hk => by obtain ⟨⟨y0, y1, y2⟩, ⟨y3, y4, y5⟩, y6, y7⟩ := HC.out wk hk; have q3 := (grown_trans K10.out.2.2.2.2.2.2.2.1 hk).cell HO.out.2 (by simp); go_simp; try rfl) ?_
          try simp only [Act.put, List.setIfInBounds_toArray, List.set_cons_zero, List.set_cons_succ]
          refine wpHold_done (by kernel_rfl) ?_
          refine (‹∀ (a : Act) (w : World), Code.wp Tryz.prog _ _ a w → _› _ _ ?_)
          go_wp2_with fail
          go_roundw
          case rel => exact ⟨i + 1, m1, r.db, by go_num, by omega, Blk.grown K10.out.1 G5.out (by simp), K10.out.2.1.grown G5.out, HF.out.2.dbq, HF.out.2.tab, K10.out.2.2.2.2.2.2.1.grown G5.out (by simp), grown_trans K10.out.2.2.2.2.2.2.2.1 G5.out⟩
          case measure =>
            simp [intOf]
            omega
      · obtain rfl : i = n2 := by omega
        have i1 : ¬ ((i : Int) < (i : Int)) := by omega
        go_wp2_with fail
        obtain ⟨w5, hw5, H5⟩ := al wr #[.slice none 0 0] 24
        rw [hw5]
        clear hw5
        obtain ⟨sb, hsb⟩ : ∃ x, wr.heap.size = x := ⟨_, rfl⟩
        rw [hsb] at H5 ⊢
        have HSB : Hid (wr.heap.size = sb) := hsb
        clear hsb
        refine (all23 (.pointer (some ⟨b, 0, none⟩)) ⟨_, rfl⟩ w5).mono ?_
        rintro e w6 ⟨rfl, hk6, g6⟩
        obtain ⟨eb, heb⟩ : ∃ x, w5.heap.size = x := ⟨_, rfl⟩
        rw [heb] at hk6 ⊢
        have H6 : Hid (Blk w6 eb 28 #[ptr b] ∧ EngB w6 b q m ∧ EM X0 w6 m D ∧ Blk w6 qb 23 #[.int .i64 q.1, .int .i64 q.2] ∧ Blk w6 sb 24 #[.slice none 0 0] ∧ wr.grownBy w6 none ∧ w.grownBy w6 none ∧ sb < w6.heap.size) := by
          have g := grown_trans H5.out.2.1 g6
          have h := HR.out
          exact ⟨hk6, Blk.grown h.1 g (by simp), h.2.1.grown g, h.2.2.2.2.1.grown g (by simp), H5.out.1.grown g6 (by simp), g, grown_trans h.2.2.2.2.2 g, (H5.out.1.grown g6 (by simp)).lt⟩
        clear heb hk6 g6 H5 i1 hi
        have q9 := fun w : World => eq_func57 #[.pointer (some ⟨eb, 0, none⟩)] w
        go_wp2_with fail
        clear q9
        have hap : ApartD w6 (fun i => i = sb) := fun k hk hl => by
          subst hk
          refine ⟨24, _, H6.out.2.2.2.2.1, by decide, by decide, by decide, fun j p => ?_⟩
          intro hc
          have hj : j < 1 := by
            rcases Nat.lt_or_ge j 1 with h | h
            · exact h
            · rw [Array.getElem?_eq_none (by simpa using h)] at hc
              cases hc
          obtain rfl : j = 0 := by omega
          simp [ptr] at hc
        have HG : Hid _ := gives53 eb b m q D HR.out.2.2.1.good (fun i => i = sb) w6 H6.out.1 H6.out.2.1 H6.out.2.2.1 (fun i hi => by rw [hi]; exact H6.out.2.2.2.2.2.2.2) hap
        clear hap
        have HFL : Hid ((flatD D).length ≤ 1000000) := by
          have := HR.out.2.2.1.good.few
          have := flat_len D
          show _ ≤ _
          omega
        refine wp_rangeS (gf := 53) (lb := #[.pointer (some ⟨eb, 0, none⟩)]) rfl (enters_of Tryz.func53 (by kernel_rfl) rfl) HG.out ?hps
          (fun k G A => ∃ v ks, Hid (k ≤ (flatD D).length ∧ Blk A sb 24 #[v] ∧ NmsO A (w6.heap.size + 2) v ks ∧ NOwn A 0 ks ((flatD D).take k) ∧ (∀ i, v.ownBlock = some i → G i) ∧ KeepB w6.heap.size sb w6 A)) (fun _ => False) ?hIg ?hXg ?h0 ?hround ?hdone ?hstop
        case hps =>
          rintro s s' W0 W1 xs ⟨_, _, _, x, y, rfl, _⟩
          rfl
        case hIg =>
          rintro k G A B ⟨v, ks, HA⟩ ht
          exact ⟨v, ks, HA.out.1, ht.blk HA.out.2.1, HA.out.2.2.1.tn ht, HA.out.2.2.2.1.tn ht, HA.out.2.2.2.2.1, HA.out.2.2.2.2.2.trans (KeepB.of_tn ht (by omega) HA.out.2.2.2.2.2.2.2.2.1)⟩
        case hXg => exact fun A B h _ => h
        case h0 => exact ⟨_, [], Nat.zero_le _, H6.out.2.2.2.2.1, nmsO_nil _ _, nown_nil _ _, fun i hi => by simp [Value.ownBlock] at hi, KeepB.refl _ _ _⟩
        case hstop => intro A hA; exact hA.elim
        case hround =>
          rintro l' k k' G W0 W1 xs ⟨v, ks, HI⟩ hlt0 htn ⟨rfl, hkl, hkl2, x, y, rfl, ox, oy⟩ ⟨rc, hrc⟩
          obtain ⟨ax, nx, cx, rfl⟩ := Calls.slice_of ox
          obtain ⟨ay, ny, cy, rfl⟩ := Calls.slice_of oy
          have HKT : Hid ((flatD D).take (k + 1) = (flatD D).take k ++ [((flatD D)[k].1, (flatD D)[k].2)]) := List.take_succ_eq_append_getElem hkl
          obtain ⟨fr, hfr⟩ : ∃ r, (flatD D)[k] = r := ⟨_, rfl⟩
          have HO : Hid (Disk.Own W1 0 (.slice ax nx cx) fr.2.1 ∧ Disk.Own W1 0 (.slice ay ny cy) fr.2.2) := by
            rw [← hfr]
            exact ⟨ox.mono (Nat.zero_le _), oy.mono (Nat.zero_le _)⟩
          rw [hfr] at HKT ⊢
          have HI1 : Hid (Blk W1 sb 24 #[v] ∧ NmsO W1 (w6.heap.size + 2) v ks ∧ NOwn W1 0 ks ((flatD D).take k) ∧ (∀ i, v.ownBlock = some i → G i) ∧ KeepB w6.heap.size sb w6 W1 ∧ k + 1 ≤ (flatD D).length ∧ ks.length ≤ 1000000) := ⟨htn.blk HI.out.2.1, HI.out.2.2.1.tn htn, HI.out.2.2.2.1.tn htn, HI.out.2.2.2.2.1, HI.out.2.2.2.2.2.trans (KeepB.of_tn htn (by omega) HI.out.2.2.2.2.2.2.2.2.1), hkl, by have h1 := HI.out.2.2.2.1.1; have h2 := HFL.out; rw [List.length_take] at h1; omega⟩
          have HL : Hid (W1.heap[w6.heap.size + 1]? = some (.loop rc)) := hrc
          clear hrc hlt0 htn HI ox oy hfr hkl hkl2
          obtain ⟨tn, hr⟩ := fr
          obtain ⟨r1, r2⟩ := hr
          simp only [List.zip_toArray, List.zip_cons_cons, List.zip_nil_right, List.foldl_toArray', List.size_toArray, List.foldl_cons, List.foldl_nil, List.setIfInBounds_toArray, List.set_cons_zero, List.set_cons_succ]
          simp only [Str]
          refine region_round (by rintro ⟨_, _, h⟩; exact h) rfl ?_
          go_wp2_with fail
          obtain ⟨Wa, hWa, Ha⟩ := al W1 #[.string ⟨tn.toArray⟩, .slice ax nx cx, .slice ay ny cy] 61
          rw [hWa]
          clear hWa
          refine ⟨Ha.out.2.1, fun r => ?_⟩
          obtain ⟨W2, hW2⟩ : ∃ W2, Wa.putObj (w6.heap.size + 1) (.loop r) = W2 := ⟨_, rfl⟩
          have HT2 : Hid (Tn (w6.heap.size + 1) W1 W2 ∧ W2.heap.size = W1.heap.size + 1 ∧ (∀ i, i < W1.heap.size → i ≠ w6.heap.size + 1 → W2.heap[i]? = W1.heap[i]?) ∧ Blk W2 W1.heap.size 61 #[.string ⟨tn.toArray⟩, .slice ax nx cx, .slice ay ny cy] ∧ w6.heap.size + 1 < W1.heap.size) := by
            have hlt := (Array.getElem?_eq_some_iff.1 HL.out).1
            have hLa : Wa.heap[w6.heap.size + 1]? = some (.loop rc) := (Ha.out.2.1.block _ hlt (by simp)).trans HL.out
            have htn : Tn (w6.heap.size + 1) Wa W2 := by
              rw [← hW2]
              exact Tn.put _ hLa (Nat.le_refl _)
            refine ⟨(Tn.of_grown Ha.out.2.1).trans htn, ?_, fun i h1 h2 => ?_, htn.blk Ha.out.1, hlt⟩
            · rw [← hW2]
              have := Ha.out.2.2
              simp only [World.putObj, Array.size_setIfInBounds]
              exact this
            · rw [← hW2, World.putObj_heap_other h2]
              exact Ha.out.2.1.block i h1 (by simp)
          rw [hW2]
          clear hW2 Ha
          have c0 := (HT2.out.1.blk HI1.out.1).cell 0
          have d0 := HT2.out.2.2.2.1.cell 0
          have d1 := HT2.out.2.2.2.1.cell 1
          have d2 := HT2.out.2.2.2.1.cell 2
          simp at c0 d0 d1 d2
          refine wpIn_block ?_
          refine region_round (by rintro ⟨_, _, h⟩; exact h) rfl ?_
          obtain ⟨W3, hW3, H3⟩ := al W2 #[.string ⟨tn.toArray⟩, .slice ax nx cx, .slice ay ny cy] 61
          have HN3 : Hid (NmsO W3 (w6.heap.size + 2) v ks) := (HI1.out.2.1.tn HT2.out.1).grown H3.out.2.1
          have HS3 : Hid (w6.heap.size + 2 ≤ W3.heap.size) := by
            have := HT2.out.2.1
            have := HT2.out.2.2.2.2
            have := H3.out.2.1.size
            show _ ≤ _
            omega
          have hW4 : Hid (W2.alloc (.cells #[.string ⟨tn.toArray⟩, .slice ax nx cx, .slice ay ny cy] 61) = W3) := hW3
          clear hW3
          go_wp2_with (at_builtin; rw [hW4.out]; refine appM_at W3 rfl _ _ rfl (w6.heap.size + 2) v ks tn ax nx cx ay ny cy W2.heap.size rfl rfl H3.out.1 HN3.out HI1.out.2.2.2.2.2.2 HS3.out ?_)
          intro g cap W4 hN4 g4 hg4 hl4
          have HL4 : Hid (g < W4.heap.size) := hl4
          clear hl4
          have H4 : Hid (NmsO W4 (w6.heap.size + 2) (.slice (some ⟨g, 0, none⟩) (ks.length + 1) cap) (ks ++ [(tn, .slice ax nx cx, .slice ay ny cy)]) ∧ W3.grownBy W4 v.ownBlock ∧ (v.ownBlock = some g ∨ g = W3.heap.size) ∧ Blk W4 sb 24 #[v]) := by
            have hb3 : Blk W3 sb 24 #[v] := (HT2.out.1.blk HI1.out.1).grown H3.out.2.1 (by simp)
            exact ⟨hN4, g4, hg4, hb3.grown g4 (HN3.out.other hb3 (by decide))⟩
          clear hN4 g4 hg4 hW4 c0 d0 d1 d2
          have c4 := H4.out.2.2.2.cell 0
          simp at c4
          have f4 := H4.out.2.2.2.free 0
          go_wp2_with fail
          obtain ⟨nv, hnv⟩ : ∃ x, Value.slice (some ⟨g, 0, none⟩) (ks.length + 1) cap = x := ⟨_, rfl⟩
          have HNV : Hid (nv.ownBlock = some g) := by rw [← hnv]; rfl
          rw [hnv] at H4 ⊢
          have hb4 := H4.out.2.2.2
          have hb5 : Blk (W4.setCell ⟨sb, 0, none⟩ nv) sb 24 #[nv] := hb4.store 0 _
          have hoth : ∀ i, i ≠ sb → (W4.setCell ⟨sb, 0, none⟩ nv).heap[i]? = W4.heap[i]? := fun i hi => heap_setCell_other W4 _ i _ hi
          have hsz5 : (W4.setCell ⟨sb, 0, none⟩ nv).heap.size = W4.heap.size := by simp
          have hk5 : KeepB w6.heap.size sb W4 (W4.setCell ⟨sb, 0, none⟩ nv) := KeepB.set
          generalize W4.setCell ⟨sb, 0, none⟩ nv = W5 at hb5 hoth hsz5 hk5 ⊢
          have t2 := HT2.out
          have g3 := H3.out
          have g4 := H4.out
          have hsb6 := H6.out.2.2.2.2.2.2.2
          have hown : ∀ i, v.ownBlock = some i → w6.heap.size + 2 ≤ i := fun i hi => (HN3.out.lt i hi).1
          have key : ∀ i, i < W2.heap.size → i ≠ sb → v.ownBlock ≠ some i → W5.heap[i]? = W2.heap[i]? := fun i hi hb hv => by
            rw [hoth i hb, g4.2.1.block i (by omega) (fun e => hv e.symm)]
            exact g3.2.1.block i hi (by simp)
          have s4 := g4.2.1.size
          have gg : sb ≠ g := by
            rcases g4.2.2.1 with h | h
            · have := hown g h
              omega
            · omega
          have hkeep : ∀ (u : Value) (L : Bs), Disk.Own W2 0 u L → Disk.Own W5 0 u L := fun u L hu => hu.same fun k hk => key k (hu.lt k hk).2 (fun e => hu.other (HT2.out.1.blk HI1.out.1) (by decide) (by rw [← e]; exact hk)) (nmsO_apart (HI1.out.2.1.tn HT2.out.1) hu hk)
          refine ⟨⟨key _ (by omega) (by omega) (fun e => by have := hown _ e; omega), key _ (by omega) (by omega) (fun e => by have := hown _ e; omega)⟩, fun i => i = g, ?_, ⟨by omega, ?_⟩, nv, ks ++ [(tn, .slice ax nx cx, .slice ay ny cy)], HI1.out.2.2.2.2.2.1, hb5, ?_, ?_, ?_, ?_⟩
          · rintro i rfl
            refine ⟨?_, by have := HL4.out; omega⟩
            rcases g4.2.2.1 with h | h
            · exact .inl (HI1.out.2.2.2.1 _ h)
            · exact .inr (by omega)
          · intro i hi hc hf _ hG
            rw [key i (by omega) hf (fun e => hG (HI1.out.2.2.2.1 _ e))]
            exact t2.2.2.1 i (by omega) (by omega)
          · exact g4.1.same fun k hk => hoth k (fun e => by rw [HNV.out] at hk; simp at hk; omega)
          · rw [HKT.out]
            have hn := HI1.out.2.2.1.tn HT2.out.1
            exact NOwn.snoc ⟨hn.1, fun j a b => ⟨(hn.2 j a b).1, hkeep _ _ (hn.2 j a b).2.1, hkeep _ _ (hn.2 j a b).2.2⟩⟩ (hkeep _ _ (HT2.out.1.own HO.out.1)) (hkeep _ _ (HT2.out.1.own HO.out.2))
          · intro i hi
            rw [HNV.out] at hi
            simp at hi
            exact hi.symm
          · exact (((HI1.out.2.2.2.2.1.trans (KeepB.of_tn t2.1 (by omega) (by omega))).trans (KeepB.of_grown g3.2.1 (by omega) (by simp))).trans (KeepB.of_grown g4.2.1 (by omega) (fun k hk => by have := hown k hk; omega))).trans hk5
        case hdone =>
          rintro A k G hfin ⟨v, ks, HA⟩ hd
          have HD : Hid (A.heap[w6.heap.size]? = some (.deferred (some []))) := hd
          have hnm : Nms A v (flatD D) := by
            have := HA.out.2.2.2.1
            rw [hfin, List.take_length] at this
            exact nms_of HA.out.2.2.1 this
          obtain ⟨a7, n7, c7, rfl, hn7, hc7, hc7', HN7⟩ := nms_open hnm
          have g6 := grown_of_keep HA.out.2.2.2.2.2
          have hbk : ∀ {x t : Nat} {c : Array Value}, Blk w6 x t c → t ≠ 24 → Blk A x t c := fun {x t c} hx ht => hx.grown g6 (fun e => by
            simp at e
            subst e
            have h2 := H6.out.2.2.2.2.1
            unfold Blk at h2 hx
            rw [hx] at h2
            simp at h2
            exact ht h2.2)
          have GA : Hid (w.grownBy A none) := by
            have hs := HSB.out
            have h0 := HR.out.2.2.2.2.2.size
            exact grown_new H6.out.2.2.2.2.2.2.1 g6 (fun x hx => by simp at hx; omega)
          have H7 : Hid (EngB A b q m ∧ EM X0 A m D ∧ Blk A qb 23 #[.int .i64 q.1, .int .i64 q.2] ∧ Blk A sb 24 #[.slice a7 n7 c7]) := by
            refine ⟨hbk H6.out.2.1 (by decide), em_offT H6.out.2.2.1 g6 H6.out.2.2.2.2.1 (by decide) (by decide) (by decide) (fun u hu p => ?_), hbk H6.out.2.2.2.1 (by decide), HA.out.2.1⟩
            simp at hu
            subst hu
            simp [ptr]
          have k0 := H7.out.2.2.1.cell 0
          have k1 := H7.out.2.2.1.cell 1
          have k2 := H7.out.2.2.2.cell 0
          simp at k0 k1 k2
          clear hd hfin hnm hn7 hc7 hc7' g6 hbk HA HG
          refine (‹∀ (a : Act) (w : World), Code.wp Tryz.prog _ _ a w → _› _ _ ?_)
          go_wp2_with fail
          refine (new15g (X := X0) q (.slice a7 n7 c7) (flatD D) HFL.out (fun r hr => ?_) A (x0 A) HN7.out).mono ?_
          · obtain ⟨z, hz, e⟩ := flat_mem hr
            rw [← e]
            have := tab_len (HR.out.2.2.2.1 z hz)
            omega
          rintro e w8 ⟨g8, ⟨_, D', b', hnew, hG', hab', rfl, hb', hE'⟩ | ⟨_, D', hnew, hab', rfl⟩ | ⟨hno, rfl⟩⟩
          rotate_left
          · exfalso
            rw [new_all HR.out.2.2.1.good HR.out.2.2.2.1] at hnew
            simp at hnew
            subst hnew
            exact hab' HR.out.2.2.1.within
          · exfalso
            rcases hno with h | h
            · rw [HR.out.2.2.1.may] at h
              cases h
            · rw [new_all HR.out.2.2.1.good HR.out.2.2.2.1] at h
              cases h
          rw [new_all HR.out.2.2.1.good HR.out.2.2.2.1] at hnew
          simp at hnew
          subst hnew
          have G8 : Hid (w.grownBy w8 none) := grown_trans GA.out g8
          have H8 : Hid (Eng X0 w8 b' q D ∧ Eng X0 w8 b q D ∧ w8.heap[w6.heap.size]? = some (.deferred (some []))) := ⟨hE', ⟨m, Blk.grown H7.out.1 g8 (by simp), H7.out.2.1.grown g8⟩, (g8.block _ (Array.getElem?_eq_some_iff.1 HD.out).1 (by simp)).trans HD.out⟩
          clear hG' hab' hb' hE' g8 k0 k1 k2
          unfold ptr
          go_wp2_with (go_at_call 16; refine (num16 0 _).mono ?_; rintro e ww ⟨rfl, hw⟩; rw [hw]; clear hw)
          refine (same13 (X := X0) (Y := X0) b' b q q D D HR.out.2.2.1.good.rise HR.out.2.2.1.good.rise w8 H8.out.1 H8.out.2.1).mono ?_
          rw [decide_eq_true (rfl : q = q), decide_eq_true (rfl : D = D), Bool.and_self]
          rintro e w9 ⟨rfl, g9⟩
          have H9 : Hid (w9.heap[w6.heap.size]? = some (.deferred (some []))) := (g9.block _ (Array.getElem?_eq_some_iff.1 H8.out.2.2).1 (by simp)).trans H8.out.2.2
          have G9 : Hid (w.grownBy w9 none) := grown_trans G8.out g9
          clear g9
          go_wp2_with fail
          refine ⟨by simp, .inl ⟨_, _, rfl, run_takeDeferred H9.out, ?_⟩⟩
          have ht : Tn w6.heap.size w9 (w9.putObj w6.heap.size (.deferred none)) := Tn.putD (.deferred none) H9.out (Nat.le_refl _)
          have h6 := H6.out.2.2.2.2.2.2.1.size
          refine ⟨.bool true, by simp [results, Tryz.results4, go_sem], rfl, ht.os.trans G9.out.os, ht.tape.trans G9.out.tape, ht.output.trans G9.out.output, Nat.le_trans G9.out.size ht.size, fun i hi hr => ?_⟩
          rw [ht.block i (by have := G9.out.size; omega) (.inl (by omega))]
          exact G9.out.block i hi hr
end Go.Proofs.YtakmlhhapegpoaaGreat
