/-
  TableMeanwhile: the walk, upward.
-/
import Derived.Test.YtlehikdlkdbacaaMt
namespace Go.Proofs.Ytlehikdlkdbacaa
open Go.RowKit Disk
open Names (cmpL keyB valueB)

set_option maxRecDepth 100000 in
set_option maxHeartbeats 16000000 in
theorem mean4_u (v u : Value) (l ps : List PRow) (w : World) (hv : Rws w v l) (hu : Rws w u ps) :
    Calls Try.prog 4 #[v, u, .bool false] w fun e w' => e = .returned (.bool true) ∧ w.grownBy w' none := by
  obtain ⟨av, nv, cv, rfl, hnv, _, _, HV⟩ := rws_open hv
  obtain ⟨ap, np, cp, rfl, hnp, _, _, HU⟩ := rws_open hu
  have HNP : Hid (ps.length = np) := hnp
  clear hv hu hnv hnp
  refine calls_marks Try.func4 rfl ?_
  simp only [Try.ntmps4, List.size_toArray, List.length_cons, List.length_nil, Nat.reduceAdd, Nat.reduceSub, Array.replicate_succ, Array.replicate_zero, List.push_toArray, List.append_toArray, List.nil_append, List.cons_append]
  go_wp2_with fail
  obtain ⟨w1, hw1⟩ : ∃ W, ((w.alloc (.cells #[.slice ap np cp] 22)).alloc (.cells #[.bool false] 4)).alloc (.cells #[.bool false] 4) = W := ⟨_, rfl⟩
  obtain ⟨b4, hb4⟩ : ∃ b, w.heap.size = b := ⟨_, rfl⟩
  have HI0 : Hid (Blk w1 b4 22 #[.slice ap np cp] ∧ Blk w1 (b4 + 1) 4 #[.bool false] ∧ Blk w1 (b4 + 2) 4 #[.bool false] ∧ w.grownBy w1 none) := by
    obtain ⟨y1, e1, Y1⟩ := al w #[.slice ap np cp] 22
    rw [e1] at hw1
    obtain ⟨y2, e2, Y2⟩ := al y1 #[.bool false] 4
    rw [e2] at hw1
    obtain ⟨y3, e3, Y3⟩ := al y2 #[.bool false] 4
    rw [e3] at hw1
    subst hw1
    have g2 := Y2.out.2.1
    have g3 := Y3.out.2.1
    have s1 := Y1.out.2.2
    have s2 := Y2.out.2.2
    rw [hb4] at Y1 s1
    refine ⟨(Y1.out.1.grown g2 (by simp)).grown g3 (by simp), ?_, ?_, grown_trans Y1.out.2.1 (grown_trans g2 g3)⟩
    · have := Y2.out.1.grown g3 (by simp)
      rwa [s1] at this
    · have := Y3.out.1
      rwa [s2, s1] at this
  rw [hw1, hb4]
  have HB4 : Hid (w.heap.size = b4) := hb4
  clear hw1 hb4
  refine (much7 _ _ l [] w1 (HV.out.grown HI0.out.2.2.2) (stps_nil _)).mono ?_
  rintro e w2 ⟨bl, rfl, hfew, hw2⟩
  rw [hw2]
  clear hw2
  cases bl with
  | true =>
    clear hfew
    go_wp2_with fail
    refine (known8 w1).mono ?_
    rintro e w9 ⟨rfl, g9⟩
    have G9 : Hid (Blk w9 (b4 + 2) 4 #[.bool false] ∧ w.grownBy w9 none) := ⟨HI0.out.2.2.1.grown g9 (by simp), grown_trans HI0.out.2.2.2 g9⟩
    have f9 := G9.out.1.free 0
    have q9 := G9.out.1.cell 0
    clear g9
    go_wp2_with fail
    have q8 := (G9.out.1.store 0 (.bool true)).cell 0
    simp at q8
    exact ⟨.bool true, by simp [results, Try.results4, go_sem, q8], rfl, grown_new G9.out.2 (grown_setCell _ _ _ _) (fun x hx => by simp at hx; have := HB4.out; omega)⟩
  | false =>
    have HFL : Hid (Few l []) := hfew rfl
    clear hfew
    have q4 := HI0.out.1.cell 0
    go_wp2_with fail
    refine (much7 _ _ ps [] w1 (HU.out.grown HI0.out.2.2.2) (stps_nil _)).mono ?_
    rintro e w2 ⟨bl, rfl, hfew, hw2⟩
    rw [hw2]
    clear hw2 q4
    cases bl with
    | true =>
      clear hfew
      go_wp2_with fail
      refine (known8 w1).mono ?_
      rintro e w9 ⟨rfl, g9⟩
      have G9 : Hid (Blk w9 (b4 + 2) 4 #[.bool false] ∧ w.grownBy w9 none) := ⟨HI0.out.2.2.1.grown g9 (by simp), grown_trans HI0.out.2.2.2 g9⟩
      have f9 := G9.out.1.free 0
      have q9 := G9.out.1.cell 0
      clear g9
      go_wp2_with fail
      have q8 := (G9.out.1.store 0 (.bool true)).cell 0
      simp at q8
      exact ⟨.bool true, by simp [results, Try.results4, go_sem, q8], rfl, grown_new G9.out.2 (grown_setCell _ _ _ _) (fun x hx => by simp at hx; have := HB4.out; omega)⟩
    | false =>
      have HFP : Hid (Few ps []) := hfew rfl
      clear hfew
      go_wp2_with fail
      refine (begin9 _ l ⟨by have := HFL.out.1; omega, fun r hr => by have := HFL.out.2.1 r hr; omega⟩ w1 (HV.out.grown HI0.out.2.2.2)).mono ?_
      rintro e w2 (⟨hgd, tb, db, rfl, ht, hd, htb, hdb, g2⟩ | ⟨hgd, rfl, g2⟩)
      · have H2 : Hid (Good l ∧ Tb w2 tb l ∧ Dt w2 db l ∧ w1.heap.size ≤ tb ∧ w1.heap.size ≤ db ∧ w1.grownBy w2 none) := ⟨hgd, ht, hd, htb, hdb, g2⟩
        clear hgd ht hd htb hdb g2
        go_upto_region 4 with fail
        obtain ⟨y1, e1, Y1⟩ := al w2 #[.pointer (some ⟨tb, 0, none⟩)] 26
        rw [e1]
        obtain ⟨w3, e3, Y3⟩ := al y1 #[.pointer (some ⟨db, 0, none⟩)] 27
        rw [e3]
        clear e1 e3
        obtain ⟨b7, hb7⟩ : ∃ b, w2.heap.size = b := ⟨_, rfl⟩
        rw [hb7] at Y1 ⊢
        clear hb7
        have HW3 : Hid (Blk w3 b7 26 #[.pointer (some ⟨tb, 0, none⟩)] ∧ Blk w3 (b7 + 1) 27 #[.pointer (some ⟨db, 0, none⟩)] ∧ w2.grownBy w3 none) := by
          have s1 := Y1.out.2.2
          refine ⟨Y1.out.1.grown Y3.out.2.1 (by simp), ?_, grown_trans Y1.out.2.1 Y3.out.2.1⟩
          have := Y3.out.1
          rwa [s1] at this
        clear Y1 Y3
        have HB : Hid (∀ y : World, w3.grownBy y none → Blk y b4 22 #[.slice ap np cp] ∧ Blk y (b4 + 1) 4 #[.bool false] ∧ Blk y (b4 + 2) 4 #[.bool false] ∧ Blk y b7 26 #[.pointer (some ⟨tb, 0, none⟩)] ∧ Blk y (b7 + 1) 27 #[.pointer (some ⟨db, 0, none⟩)] ∧ Tb y tb l ∧ Dt y db l ∧ w.grownBy y none) := fun y hy => by
          have g2 := grown_trans HW3.out.2.2 hy
          have g1 := grown_trans H2.out.2.2.2.2.2 g2
          exact ⟨HI0.out.1.grown g1 (by simp), HI0.out.2.1.grown g1 (by simp), HI0.out.2.2.1.grown g1 (by simp), HW3.out.1.grown hy (by simp), HW3.out.2.1.grown hy (by simp), H2.out.2.1.grown g2, H2.out.2.2.1.grown g2, grown_trans HI0.out.2.2.2 g1⟩
        have HLO : Hid (w.heap.size ≤ tb ∧ w.heap.size ≤ db) := by
          have := HI0.out.2.2.2.size
          have := H2.out.2.2.2.1
          have := H2.out.2.2.2.2.1
          exact ⟨by omega, by omega⟩
        obtain ⟨n, hn⟩ : ∃ n, l.length = n := ⟨_, rfl⟩
        have HN : Hid (l.length = n) := hn
        have hn3 : n ≤ 300 := by rw [← hn]; exact HFL.out.1
        clear hn HW3
        have q7 := (HB.out w3 (grown_refl _ _)).2.2.2.1.cell 0
        simp at q7
        go_wp2_with fail
        refine (all14 _ ⟨_, rfl⟩ w3).mono ?_
        rintro e w4 ⟨rfl, hc4, g4, _⟩
        have G4 : Hid (w3.grownBy w4 none ∧ Blk w4 w3.heap.size 26 #[.pointer (some ⟨tb, 0, none⟩)]) := ⟨g4, hc4⟩
        clear hc4 g4 q7
        have q5 := (HB.out w4 G4.out.1).2.1.cell 0
        simp at q5
        have HQ : Hid (∀ W' Fw, w4.grownBy W' none → (∀ i, Fw i → i < W'.heap.size) → Apart W' Fw → Gives Try.prog 45 #[.pointer (some ⟨w3.heap.size, 0, none⟩)] n (Xt l) Fw W') := fun W' Fw hg' hF hA => by
          rw [← HN.out]
          exact all45 Fw w3.heap.size _ true l H2.out.1 W' (G4.out.2.grown hg' (by simp)) ((HB.out W' (grown_trans G4.out.1 hg')).2.2.2.2.2.1).tl hF hA
        obtain ⟨w5, hw5⟩ : ∃ W, w4 = W := ⟨_, rfl⟩
        have G5 : Hid (w3.grownBy w5 none) := by rw [← hw5]; exact G4.out.1
        rw [hw5] at HQ
        obtain ⟨lb, hlb⟩ : ∃ lb, (#[.pointer (some ⟨w3.heap.size, 0, none⟩)] : Array Value) = lb := ⟨_, rfl⟩
        rw [hlb] at HQ ⊢
        rw [hw5]
        rw [hw5] at q5
        clear hlb G4 hw5
        have hfn := fn40 45 lb
        obtain ⟨ad, nd, cd, hnd, _, _, HD⟩ := dt_open (HB.out w5 G5.out).2.2.2.2.2.2.1
        have hdn : nd = n := by rw [← hnd]; exact HN.out
        subst hdn
        obtain ⟨ks, hks, hrs⟩ := HD.out.2
        rw [hnd] at hks
        have HKS : Hid (w5.ownsRow 0 45 2 (.slice ad nd cd) nd (rcells ks) ∧ ROwn w5 0 ks l) := ⟨hks, hrs⟩
        clear hks hrs hnd
        have q8 := (HB.out w5 G5.out).2.2.2.2.1.cell 0
        have q9 := HD.out.1.cell 0
        simp at q8 q9
        go_wp2_with (at_builtin; refine appO_at w5 rfl _ _ 22 45 _ 2 48 Try.info45 ut22' rfl (by decide) rfl w5.heap.size _ 0 [] _ nd (rcells ks) rfl rfl (World.ownsRow_nil _ _ _ _) (vec_of_owns HKS.out.1) ?c0 ?c1 ?c2 (Nat.le_refl _) ?_)
        case c0 => exact HKS.out.2.one
        case c1 => omega
        case c2 => unfold maxLen; omega
        intro v6 w6 hv6 hg6
        have H6 : Hid (w6.ownsRow w5.heap.size 45 2 v6 nd (rcells ks) ∧ w5.grownBy w6 none) := ⟨by simpa using hv6, hg6.none (Nat.le_refl _)⟩
        clear hv6 hg6 q8 q9 q5
        obtain ⟨aw, cw, ew, _, _⟩ := (vec_of_owns H6.out.1).shape
        subst ew
        go_wp2_with fail
        obtain ⟨y8, e8, Y8⟩ := al w6 #[.slice aw nd cw] 22
        rw [e8]
        obtain ⟨Wr_, e9, Y9⟩ := al y8 #[.int .i64 0] 3
        rw [e9]
        clear e8 e9
        obtain ⟨b11, hb11⟩ : ∃ b, w6.heap.size = b := ⟨_, rfl⟩
        rw [hb11] at Y8 ⊢
        have HM0 : Hid (MS w b4 b7 b11 (b11 + 1) tb db false (.slice ap np cp) (.slice aw nd cw) l 0 l l Wr_ ∧ w5.grownBy Wr_ none) := by
          have g6 := grown_trans H6.out.2 (grown_trans Y8.out.2.1 Y9.out.2.1)
          obtain ⟨h1, h2, h3, h4, h5, h6, h7, h8⟩ := HB.out Wr_ (grown_trans G5.out g6)
          have s8 := Y8.out.2.2
          refine ⟨⟨h1, h2, h3, h4, h5, Y8.out.1.grown Y9.out.2.1 (by simp), ?_, h6, h7, ⟨ks, ?_, HKS.out.2.grown g6⟩, h8, HLO.out.1, HLO.out.2, ?_⟩, g6⟩
          · have := Y9.out.1
            rwa [s8] at this
          · rw [HN.out]
            exact owns_mono (owns_same H6.out.1 fun q hq => (grown_trans Y8.out.2.1 Y9.out.2.1).block q (World.ownsRow.lt H6.out.1 q hq).2 (by simp)) (Nat.zero_le _)
          · have := (HB.out w6 (grown_trans G5.out H6.out.2)).2.2.2.2.2.2.2.size
            omega
        clear Y8 Y9 H6 HKS HD hb11 HB
        have HLT : Hid (tb < Wr_.heap.size ∧ db < Wr_.heap.size ∧ b11 + 1 < Wr_.heap.size) := by
          obtain ⟨⟨_, _, _, h1⟩, _, _, _, h2⟩ := HM0.out.1.two
          exact ⟨h1.lt, h2.lt, HM0.out.1.p12.lt⟩
        have hap : Apart Wr_ (fun i => i = tb ∨ i = db ∨ i = b11 + 1) := by
          intro i hi _
          obtain ⟨⟨_, _, _, h1⟩, _, _, _, h2⟩ := HM0.out.1.two
          rcases hi with h | h | h
          · rw [h]
            exact ⟨68, _, h1, by decide, by decide, fun k p => by rcases k with _ | _ | k <;> simp [ptr]⟩
          · rw [h]
            exact ⟨34, _, h2, by decide, by decide, fun k p => by rcases k with _ | k <;> simp [ptr]⟩
          · rw [h]
            exact ⟨3, _, HM0.out.1.p12, by decide, by decide, fun k p => by rcases k with _ | k <;> simp [ptr]⟩
        refine wp_range (gf := 45) (lb := lb) rfl (enters_of Try.func45 (by kernel_rfl) rfl) (HQ.out Wr_ (fun i => i = tb ∨ i = db ∨ i = b11 + 1) HM0.out.2 (fun i hi => by have := HLT.out; omega) hap) ?hps (fun k A => ∃ lk, Good lk ∧ lk.length ≤ nd + k ∧ MS w b4 b7 b11 (b11 + 1) tb db false (.slice ap np cp) (.slice aw nd cw) l k lk lk A) (fun _ => False) ?hIg ?hXg ⟨l, H2.out.1, by rw [HN.out]; omega, HM0.out.1⟩ ?hround ?hdone ?hstop
        case hps =>
          rintro k W0 W1 xs ⟨_, x, y, rfl, _⟩
          rfl
        case hIg =>
          rintro k A B ⟨lk, h1, h2, h3⟩ ht
          exact ⟨lk, h1, h2, h3.tn ht (by have := HM0.out.1.grown.size; omega)⟩
        case hXg => exact fun A B h _ => h.elim
        case hstop => exact fun A h _ => h.elim
        case hdone =>
          rintro A ⟨lk, hgk, hlk, hms⟩ hd
          have HA : Hid (Good lk ∧ MS w b4 b7 b11 (b11 + 1) tb db false (.slice ap np cp) (.slice aw nd cw) l nd lk lk A) := ⟨hgk, hms⟩
          obtain ⟨ae, ne, ce, _, _, _, HDE⟩ := dt_open hms.doc
          have HD9 : Hid _ := hd
          clear hgk hlk hms hd hfn hap
          have HMD : Hid (∀ y : World, A.grownBy y none → y.cell? ⟨b11 + 1, 0, none⟩ = some (.int .i64 (nd : Int)) ∧ y.cell? ⟨b11, 0, none⟩ = some (.slice aw nd cw) ∧ y.cell? ⟨b7, 0, none⟩ = some (.pointer (some ⟨tb, 0, none⟩)) ∧ y.cell? ⟨b7 + 1, 0, none⟩ = some (.pointer (some ⟨db, 0, none⟩)) ∧ y.cell? ⟨db, 0, none⟩ = some (.slice ae ne ce)) := fun y hy => by
            have h := HA.out.2.more hy
            exact ⟨h.p12.cell 0, h.p11.cell 0, h.p7.cell 0, h.p8.cell 0, (HDE.out.1.grown hy (by simp)).cell 0⟩
          refine (‹∀ (a : Act) (w : World), Code.wp Try.prog _ _ a w → _› _ _ ?_)
          go_upto_region 29 with fail
          refine wp_region_noPanic ?_
          refine wp_region_hold 16 (fun y => A.grownBy y none) (by kernel_rfl) ?_
          have G0 : Hid (A.grownBy A.drew none) := grown_drew _ _
          generalize A.drew = we at G0 ⊢
          refine wpHold_take (i := 0) (v := _) (G0.out) rfl rfl (by kernel_rfl) (by kernel_rfl) (by kernel_rfl) (by kernel_rfl) (by kernel_rfl) (fun _ _ _ h => h) (by rfl) (fun wk hk => by obtain ⟨z0, z1, z2, z3, z4⟩ := HMD.out wk hk; go_simp; try rfl) ?_
          try simp only [Act.put, List.setIfInBounds_toArray, List.set_cons_zero, List.set_cons_succ]
          refine wpHold_take (i := 1) (v := _) (G0.out) rfl rfl (by kernel_rfl) (by kernel_rfl) (by kernel_rfl) (by kernel_rfl) (by kernel_rfl) (fun _ _ _ h => h) (by rfl) (fun wk hk => by obtain ⟨z0, z1, z2, z3, z4⟩ := HMD.out wk hk; go_simp; try rfl) ?_
          try simp only [Act.put, List.setIfInBounds_toArray, List.set_cons_zero, List.set_cons_succ]
          refine wpHold_take (i := 2) (v := _) (G0.out) rfl rfl (by kernel_rfl) (by kernel_rfl) (by kernel_rfl) (by kernel_rfl) (by kernel_rfl) (fun _ _ _ h => h) (by rfl) (fun wk hk => by obtain ⟨z0, z1, z2, z3, z4⟩ := HMD.out wk hk; go_simp; try rfl) ?_
          try simp only [Act.put, List.setIfInBounds_toArray, List.set_cons_zero, List.set_cons_succ]
          refine wpHold_one (i := 3) rfl (by kernel_rfl) (by rfl) (fun K hK => ?_)
          go_wp2_with fail
          refine hK.out _ _ (fun _ => G0.out) ?_
          clear hK K
          try simp only [Act.put, List.setIfInBounds_toArray, List.set_cons_zero, List.set_cons_succ]
          refine wpHold_take (i := 4) (v := _) (G0.out) rfl rfl (by kernel_rfl) (by kernel_rfl) (by kernel_rfl) (by kernel_rfl) (by kernel_rfl) (fun _ _ _ h => h) (by rfl) (fun wk hk => by obtain ⟨z0, z1, z2, z3, z4⟩ := HMD.out wk hk; go_simp; try rfl) ?_
          try simp only [Act.put, List.setIfInBounds_toArray, List.set_cons_zero, List.set_cons_succ]
          refine wpHold_take (i := 5) (v := _) (G0.out) rfl rfl (by kernel_rfl) (by kernel_rfl) (by kernel_rfl) (by kernel_rfl) (by kernel_rfl) (fun _ _ _ h => h) (by rfl) (fun wk hk => by obtain ⟨z0, z1, z2, z3, z4⟩ := HMD.out wk hk; go_simp; try rfl) ?_
          try simp only [Act.put, List.setIfInBounds_toArray, List.set_cons_zero, List.set_cons_succ]
          refine wpHold_take (i := 7) (v := _) (G0.out) rfl rfl (by kernel_rfl) (by kernel_rfl) (by kernel_rfl) (by kernel_rfl) (by kernel_rfl) (fun _ _ _ h => h) (by rfl) (fun wk hk => by obtain ⟨z0, z1, z2, z3, z4⟩ := HMD.out wk hk; go_simp; try rfl) ?_
          try simp only [Act.put, List.setIfInBounds_toArray, List.set_cons_zero, List.set_cons_succ]
          refine wpHold_take (i := 8) (v := _) (G0.out) rfl rfl (by kernel_rfl) (by kernel_rfl) (by kernel_rfl) (by kernel_rfl) (by kernel_rfl) (fun _ _ _ h => h) (by rfl) (fun wk hk => by obtain ⟨z0, z1, z2, z3, z4⟩ := HMD.out wk hk; go_simp; try rfl) ?_
          try simp only [Act.put, List.setIfInBounds_toArray, List.set_cons_zero, List.set_cons_succ]
          refine wpHold_take (i := 9) (v := _) (G0.out) rfl rfl (by kernel_rfl) (by kernel_rfl) (by kernel_rfl) (by kernel_rfl) (by kernel_rfl) (fun _ _ _ h => h) (by rfl) (fun wk hk => by obtain ⟨z0, z1, z2, z3, z4⟩ := HMD.out wk hk; go_simp; try rfl) ?_
          try simp only [Act.put, List.setIfInBounds_toArray, List.set_cons_zero, List.set_cons_succ]
          refine wpHold_take (i := 10) (v := _) (G0.out) rfl rfl (by kernel_rfl) (by kernel_rfl) (by kernel_rfl) (by kernel_rfl) (by kernel_rfl) (fun _ _ _ h => h) (by rfl) (fun wk hk => by obtain ⟨z0, z1, z2, z3, z4⟩ := HMD.out wk hk; go_simp; try rfl) ?_
          try simp only [Act.put, List.setIfInBounds_toArray, List.set_cons_zero, List.set_cons_succ]
          refine wpHold_one (i := 6) rfl (by kernel_rfl) (by rfl) (fun K hK => ?_)
          go_wp2_with fail
          refine (all14 _ ⟨_, rfl⟩ we).mono ?_
          rintro e x1 ⟨rfl, hb1, g1, _⟩
          have G1 : Hid (A.grownBy x1 none ∧ Blk x1 we.heap.size 26 #[.pointer (some ⟨tb, 0, none⟩)]) := ⟨grown_trans G0.out g1, hb1⟩
          clear hb1 g1
          refine hK.out _ _ (fun _ => G1.out.1) ?_
          clear hK K
          try simp only [Act.put, List.setIfInBounds_toArray, List.set_cons_zero, List.set_cons_succ]
          refine wpHold_one (i := 11) rfl (by kernel_rfl) (by rfl) (fun K hK => ?_)
          go_wp2_with fail
          refine (goes13 45 _ _ false 0 lk (enters_of Try.func45 (by kernel_rfl) rfl) HA.out.1.2.2 x1 (HDE.out.2.rws.grown G1.out.1) ?_).mono ?_
          · intro W' Fw hg' hF hA
            exact all45 Fw we.heap.size _ true lk HA.out.1 W' (G1.out.2.grown hg' (by simp)) (HA.out.2.tab.grown (grown_trans G1.out.1 hg')).tl (fun i hi => (hF i hi).2) hA
          rintro e x2 ⟨rfl, g2⟩
          have G2 : Hid (A.grownBy x2 none) := grown_trans G1.out.1 g2
          clear g2
          refine hK.out _ _ (fun _ => G2.out) ?_
          clear hK K
          try simp only [Act.put, List.setIfInBounds_toArray, List.set_cons_zero, List.set_cons_succ]
          refine wpHold_take (i := 12) (v := _) (G2.out) rfl rfl (by kernel_rfl) (by kernel_rfl) (by kernel_rfl) (by kernel_rfl) (by kernel_rfl) (fun _ _ _ h => h) (by rfl) (fun wk hk => by obtain ⟨z0, z1, z2, z3, z4⟩ := HMD.out wk hk; go_simp; try rfl) ?_
          try simp only [Act.put, List.setIfInBounds_toArray, List.set_cons_zero, List.set_cons_succ]
          refine wpHold_take (i := 13) (v := _) (G2.out) rfl rfl (by kernel_rfl) (by kernel_rfl) (by kernel_rfl) (by kernel_rfl) (by kernel_rfl) (fun _ _ _ h => h) (by rfl) (fun wk hk => by obtain ⟨z0, z1, z2, z3, z4⟩ := HMD.out wk hk; go_simp; try rfl) ?_
          try simp only [Act.put, List.setIfInBounds_toArray, List.set_cons_zero, List.set_cons_succ]
          refine wpHold_one (i := 14) rfl (by kernel_rfl) (by rfl) (fun K hK => ?_)
          go_wp2_with fail
          refine (known8 x2).mono ?_
          rintro e x3 ⟨rfl, g3⟩
          have G3 : Hid (A.grownBy x3 none) := grown_trans G2.out g3
          clear g3
          refine hK.out _ _ (fun _ => G3.out) ?_
          clear hK K
          try simp only [Act.put, List.setIfInBounds_toArray, List.set_cons_zero, List.set_cons_succ]
          refine wpHold_take (i := 15) (v := _) (G3.out) rfl rfl (by kernel_rfl) (by kernel_rfl) (by kernel_rfl) (by kernel_rfl) (by kernel_rfl) (fun _ _ _ h => h) (by rfl) (fun wk hk => by obtain ⟨z0, z1, z2, z3, z4⟩ := HMD.out wk hk; go_simp; try rfl) ?_
          try simp only [Act.put, List.setIfInBounds_toArray, List.set_cons_zero, List.set_cons_succ]
          refine wpHold_one (i := 16) rfl (by kernel_rfl) (by rfl) (fun K hK => ?_)
          have f6 := (HA.out.2.more G3.out).p6.free 0
          have c6 := (HA.out.2.more G3.out).p6.cell 0
          go_wp2_with fail
          obtain ⟨A2, hA2⟩ : ∃ A2, x3.setCell ⟨b4 + 2, 0, none⟩ (.bool true) = A2 := ⟨_, rfl⟩
          have hg2 : x3.grownBy A2 (some (b4 + 2)) := by rw [← hA2]; exact grown_setCell _ _ _ _
          have hb2 : Blk A2 (b4 + 2) 4 #[.bool true] := by rw [← hA2]; exact (HA.out.2.more G3.out).p6.store 0 _
          have HE : Hid (x3.grownBy A2 (some (b4 + 2)) ∧ Blk A2 (b4 + 2) 4 #[.bool true]) := ⟨hg2, hb2⟩
          rw [hA2]
          clear hA2 hg2 hb2 f6 c6
          refine hK.out _ _ (fun h => absurd rfl h) ?_
          clear hK K
          try simp only [Act.put, List.setIfInBounds_toArray, List.set_cons_zero, List.set_cons_succ]
          refine wpHold_done (by kernel_rfl) ?_
          refine (‹∀ (a : Act) (w : World), Code.wp Try.prog _ _ a w → _› _ _ ?_)
          go_wp2_with fail
          have hD2 : A2.heap[Wr_.heap.size]? = some (.deferred (some [])) := by
            have s3 := G3.out.block _ (Array.getElem?_eq_some_iff.1 HD9.out).1 (by simp)
            have s4 := HE.out.1.block Wr_.heap.size (Nat.lt_of_lt_of_le (Array.getElem?_eq_some_iff.1 HD9.out).1 G3.out.size) (by have := HM0.out.1.p6.lt; simp; omega)
            exact (s4.trans s3).trans HD9.out
          refine ⟨by simp, .inl ⟨_, _, rfl, run_takeDeferred hD2, ?_⟩⟩
          have ht : Tn w.heap.size A2 (A2.putObj Wr_.heap.size (.deferred none)) := Tn.putD _ hD2 HM0.out.1.grown.size
          have q4 := (ht.blk HE.out.2).cell 0
          simp at q4
          exact ⟨.bool true, by simp [results, Try.results4, go_sem, q4], rfl, ht.after (grown_new (grown_trans HA.out.2.grown G3.out) HE.out.1 (fun i hi => by simp at hi; have := HB4.out; omega)) (Nat.le_refl _)⟩
        case hround =>
          rintro L k W0 W1 xs hk ⟨lk, hgk, hlk, hms⟩ hlt htn ⟨hkr, x, y, rfl, ox, oy⟩ ⟨rc, hrc⟩
          simp only [List.zip_toArray, List.zip_cons_cons, List.zip_nil_right, List.foldl_toArray', List.size_toArray, List.foldl_cons, List.foldl_nil, List.setIfInBounds_toArray, List.set_cons_zero, List.set_cons_succ]
          obtain ⟨r, hr⟩ : ∃ r, l[k] = r := ⟨_, rfl⟩
          rw [hr] at ox oy
          have hjl : k < l.length := hkr
          have hjr : l[k] = r := hr
          have hjd : k < nd := by rw [← HN.out]; exact hjl
          obtain ⟨ax, cx, ex⟩ := ox.seg.shape
          obtain ⟨ay, cy, ey⟩ := oy.seg.shape
          obtain ⟨mx, hmx⟩ : ∃ m, r.1.length = m := ⟨_, rfl⟩
          obtain ⟨my, hmy⟩ : ∃ m, r.2.length = m := ⟨_, rfl⟩
          rw [hmx] at ex
          rw [hmy] at ey
          subst ex ey
          have HO : Hid (Disk.Own W1 W0.heap.size (.slice ax mx cx) r.1 ∧ Disk.Own W1 W0.heap.size (.slice ay my cy) r.2) := ⟨ox, oy⟩
          have HRC : Hid (W1.heap[Wr_.heap.size + 1]? = some (.loop rc)) := hrc
          have HI1 : Hid (MS w b4 b7 b11 (b11 + 1) tb db false (.slice ap np cp) (.slice aw nd cw) l k lk lk W1 ∧ W0.heap.size ≤ W1.heap.size ∧ Wr_.heap.size + 1 < W0.heap.size) := ⟨hms.tn htn (by have := HM0.out.1.grown.size; omega), htn.size, hlt⟩
          have HG : Hid (Good lk ∧ lk.length ≤ nd + k) := ⟨hgk, hlk⟩
          obtain ⟨gb, off, xw, yw, eaw, wc0, wc1, ws0, ws1⟩ := rws_at HI1.out.1.want.rws k hjl
          subst eaw
          rw [hjr] at ws0 ws1
          have hkn : k < nd := hk
          have i0 : (0 : Int) ≤ (k : Int) := by omega
          have i1 : (k : Int) < (nd : Int) := by omega
          have i2 : ¬ (k : Int) < 0 := by omega
          have i3 : ((nd : Int) ≤ (k : Int)) = False := by simp; omega
          have i4 : decide ((nd : Int) ≤ (k : Int)) = false := by simp; omega
          clear hrc hms hgk hlk hlt htn ox oy hmx hmy hr hjr hkr hk hjl
          refine wpIn_seq ?_
          refine region_round (by rintro ⟨_, _, h⟩; exact h) rfl ?_
          go_wp2_with fail
          refine region_round (by rintro ⟨_, _, h⟩; exact h) rfl ?_
          go_wp2_with fail
          refine ⟨grown_refl _ _, fun rec2 => ?_⟩
          obtain ⟨W2, hW2⟩ : ∃ W2, W1.putObj (Wr_.heap.size + 1) (.loop rec2) = W2 := ⟨_, rfl⟩
          have HT2 : Hid (Tn w.heap.size W1 W2 ∧ W2.heap.size = W1.heap.size ∧ ∀ i, i ≠ Wr_.heap.size + 1 → W2.heap[i]? = W1.heap[i]?) := by
            rw [← hW2]
            exact ⟨Tn.put _ HRC.out (by have := HM0.out.1.grown.size; omega), by simp [World.putObj], fun i hi => World.putObj_heap_other hi⟩
          rw [hW2]
          clear hW2
          have HI2 : Hid (MS w b4 b7 b11 (b11 + 1) tb db false (.slice ap np cp) (.slice (some ⟨gb, off, none⟩) nd cw) l k lk lk W2 ∧ Seg W2 (.slice ax mx cx) r.1 ∧ Seg W2 (.slice ay my cy) r.2) := ⟨HI1.out.1.tn HT2.out.1 (Nat.le_refl _), HT2.out.1.seg HO.out.1.seg, HT2.out.1.seg HO.out.2.seg⟩
          obtain ⟨X, hX⟩ : ∃ X, (⟨r.1.toArray⟩ : ByteArray) = X := ⟨_, rfl⟩
          obtain ⟨Y, hY⟩ : ∃ X, (⟨r.2.toArray⟩ : ByteArray) = X := ⟨_, rfl⟩
          have HM : Hid (∀ y : World, W2.grownBy y none → (y.cell? ⟨b11, 0, none⟩ = some (.slice (some ⟨gb, off, none⟩) nd cw) ∧ y.cell? ⟨gb, off + k * 2, none⟩ = some xw ∧ y.cell? ⟨gb, off + k * 2 + 1, none⟩ = some yw) ∧ (convert 30 9 (.slice ax mx cx)).run Try.prog y = .ok (.string X) y ∧ (convert 30 9 (.slice ay my cy)).run Try.prog y = .ok (.string Y) y ∧ (convert 30 9 xw).run Try.prog y = .ok (.string X) y ∧ (convert 30 9 yw).run Try.prog y = .ok (.string Y) y) := by
            intro y hy
            have t2 := HT2.out.1
            refine ⟨⟨(HI2.out.1.p11.grown hy (by simp)).cell 0, hy.cell (t2.cell wc0) (by simp), hy.cell (t2.cell wc1) (by simp)⟩, ?_, ?_, ?_, ?_⟩
            · rw [← hX]; exact seg_str (HI2.out.2.1.grown hy)
            · rw [← hY]; exact seg_str (HI2.out.2.2.grown hy)
            · rw [← hX]; exact seg_str ((t2.seg ws0).grown hy)
            · rw [← hY]; exact seg_str ((t2.seg ws1).grown hy)
          clear hX hY wc0 wc1 ws0 ws1 hfn hap
          have d0 := HI2.out.1.p12.cell 0
          simp at d0
          refine wpIn_block (wpIn_seq ?_)
          refine region_round (by rintro ⟨_, _, h⟩; exact h) rfl ?_
          go_wp2_with fail
          have d1 := HI2.out.1.p5.cell 0
          simp at d1
          refine wpIn_seq ?_
          refine wpIn_seq ?_
          refine region_round (by rintro ⟨_, _, h⟩; exact h) rfl ?_
          go_wp2_with fail
          refine wpIn_cond_false rfl (wpIn_skip ?_)
          show Code.wpIn _ _ _ _ _ _ _
          refine wpIn_seq ?_
          refine wpIn_seq ?_
          refine region_round_hold 1000 (fun y => W2.grownBy y none) (by rintro ⟨_, _, h⟩; exact h) rfl (by kernel_rfl) ?_
          have G0 : Hid (W2.grownBy W2.drew none) := grown_drew _ _
          generalize W2.drew = wd at G0 ⊢
          refine wpHold_take (i := 0) (v := _) (G0.out) rfl rfl (by kernel_rfl) (by kernel_rfl) (by kernel_rfl) (by kernel_rfl) (by kernel_rfl) (fun _ _ _ h => h) (by rfl) (fun wk hk => by obtain ⟨⟨z0, z1, z2⟩, z3, z4, z5, z6⟩ := HM.out wk hk; go_simp; try rfl) ?_
          try simp only [Act.put, List.setIfInBounds_toArray, List.set_cons_zero, List.set_cons_succ]
          refine wpHold_one (i := 1) rfl (by kernel_rfl) (by rfl) (fun K hK => ?_)
          go_wp2_with fail
          refine hK.out _ _ (fun _ => G0.out) ?_
          clear hK K
          try simp only [Act.put, List.setIfInBounds_toArray, List.set_cons_zero, List.set_cons_succ]
          refine wpHold_take (i := 2) (v := _) (G0.out) rfl rfl (by kernel_rfl) (by kernel_rfl) (by kernel_rfl) (by kernel_rfl) (by kernel_rfl) (fun _ _ _ h => h) (by rfl) (fun wk hk => by obtain ⟨⟨z0, z1, z2⟩, z3, z4, z5, z6⟩ := HM.out wk hk; go_simp; try rfl) ?_
          try simp only [Act.put, List.setIfInBounds_toArray, List.set_cons_zero, List.set_cons_succ]
          refine wpHold_take (i := 3) (v := _) (G0.out) rfl rfl (by kernel_rfl) (by kernel_rfl) (by kernel_rfl) (by kernel_rfl) (by kernel_rfl) (fun _ _ _ h => h) (by rfl) (fun wk hk => by obtain ⟨⟨z0, z1, z2⟩, z3, z4, z5, z6⟩ := HM.out wk hk; go_simp; try rfl) ?_
          try simp only [Act.put, List.setIfInBounds_toArray, List.set_cons_zero, List.set_cons_succ]
          refine wpHold_take (i := 4) (v := _) (G0.out) rfl rfl (by kernel_rfl) (by kernel_rfl) (by kernel_rfl) (by kernel_rfl) (by kernel_rfl) (fun _ _ _ h => h) (by rfl) (fun wk hk => by obtain ⟨⟨z0, z1, z2⟩, z3, z4, z5, z6⟩ := HM.out wk hk; go_simp; try rfl) ?_
          try simp only [Act.put, List.setIfInBounds_toArray, List.set_cons_zero, List.set_cons_succ]
          refine wpHold_take (i := 5) (v := _) (G0.out) rfl rfl (by kernel_rfl) (by kernel_rfl) (by kernel_rfl) (by kernel_rfl) (by kernel_rfl) (fun _ _ _ h => h) (by rfl) (fun wk hk => by obtain ⟨⟨z0, z1, z2⟩, z3, z4, z5, z6⟩ := HM.out wk hk; go_simp; try rfl) ?_
          try simp only [Act.put, List.setIfInBounds_toArray, List.set_cons_zero, List.set_cons_succ]
          refine wpHold_one (i := 6) rfl (by kernel_rfl) (by rfl) (fun K hK => ?_)
          go_wp2_with fail
          refine hK.out _ _ (fun _ => G0.out) ?_
          clear hK K
          try simp only [Act.put, List.setIfInBounds_toArray, List.set_cons_zero, List.set_cons_succ]
          refine wpHold_take (i := 7) (v := _) (G0.out) rfl rfl (by kernel_rfl) (by kernel_rfl) (by kernel_rfl) (by kernel_rfl) (by kernel_rfl) (fun _ _ _ h => h) (by rfl) (fun wk hk => by obtain ⟨⟨z0, z1, z2⟩, z3, z4, z5, z6⟩ := HM.out wk hk; go_simp; try rfl) ?_
          try simp only [Act.put, List.setIfInBounds_toArray, List.set_cons_zero, List.set_cons_succ]
          refine wpHold_take (i := 8) (v := _) (G0.out) rfl rfl (by kernel_rfl) (by kernel_rfl) (by kernel_rfl) (by kernel_rfl) (by kernel_rfl) (fun _ _ _ h => h) (by rfl) (fun wk hk => by obtain ⟨⟨z0, z1, z2⟩, z3, z4, z5, z6⟩ := HM.out wk hk; go_simp; try rfl) ?_
          try simp only [Act.put, List.setIfInBounds_toArray, List.set_cons_zero, List.set_cons_succ]
          refine wpHold_take (i := 9) (v := _) (G0.out) rfl rfl (by kernel_rfl) (by kernel_rfl) (by kernel_rfl) (by kernel_rfl) (by kernel_rfl) (fun _ _ _ h => h) (by rfl) (fun wk hk => by obtain ⟨⟨z0, z1, z2⟩, z3, z4, z5, z6⟩ := HM.out wk hk; go_simp; try rfl) ?_
          try simp only [Act.put, List.setIfInBounds_toArray, List.set_cons_zero, List.set_cons_succ]
          refine wpHold_take (i := 10) (v := _) (G0.out) rfl rfl (by kernel_rfl) (by kernel_rfl) (by kernel_rfl) (by kernel_rfl) (by kernel_rfl) (fun _ _ _ h => h) (by rfl) (fun wk hk => by obtain ⟨⟨z0, z1, z2⟩, z3, z4, z5, z6⟩ := HM.out wk hk; go_simp; try rfl) ?_
          try simp only [Act.put, List.setIfInBounds_toArray, List.set_cons_zero, List.set_cons_succ]
          refine wpHold_take (i := 11) (v := _) (G0.out) rfl rfl (by kernel_rfl) (by kernel_rfl) (by kernel_rfl) (by kernel_rfl) (by kernel_rfl) (fun _ _ _ h => h) (by rfl) (fun wk hk => by obtain ⟨⟨z0, z1, z2⟩, z3, z4, z5, z6⟩ := HM.out wk hk; go_simp; try rfl) ?_
          try simp only [Act.put, List.setIfInBounds_toArray, List.set_cons_zero, List.set_cons_succ]
          refine wpHold_take (i := 12) (v := _) (G0.out) rfl rfl (by kernel_rfl) (by kernel_rfl) (by kernel_rfl) (by kernel_rfl) (by kernel_rfl) (fun _ _ _ h => h) (by rfl) (fun wk hk => by obtain ⟨⟨z0, z1, z2⟩, z3, z4, z5, z6⟩ := HM.out wk hk; go_simp; try rfl) ?_
          try simp only [Act.put, List.setIfInBounds_toArray, List.set_cons_zero, List.set_cons_succ]
          refine wpHold_take (i := 13) (v := _) (G0.out) rfl rfl (by kernel_rfl) (by kernel_rfl) (by kernel_rfl) (by kernel_rfl) (by kernel_rfl) (fun _ _ _ h => h) (by rfl) (fun wk hk => by obtain ⟨⟨z0, z1, z2⟩, z3, z4, z5, z6⟩ := HM.out wk hk; go_simp; try rfl) ?_
          try simp only [Act.put, List.setIfInBounds_toArray, List.set_cons_zero, List.set_cons_succ]
          refine wpHold_take (i := 14) (v := _) (G0.out) rfl rfl (by kernel_rfl) (by kernel_rfl) (by kernel_rfl) (by kernel_rfl) (by kernel_rfl) (fun _ _ _ h => h) (by rfl) (fun wk hk => by obtain ⟨⟨z0, z1, z2⟩, z3, z4, z5, z6⟩ := HM.out wk hk; go_simp; try rfl) ?_
          try simp only [Act.put, List.setIfInBounds_toArray, List.set_cons_zero, List.set_cons_succ]
          refine wpHold_take (i := 15) (v := _) (G0.out) rfl rfl (by kernel_rfl) (by kernel_rfl) (by kernel_rfl) (by kernel_rfl) (by kernel_rfl) (fun _ _ _ h => h) (by rfl) (fun wk hk => by obtain ⟨⟨z0, z1, z2⟩, z3, z4, z5, z6⟩ := HM.out wk hk; go_simp; try rfl) ?_
          try simp only [Act.put, List.setIfInBounds_toArray, List.set_cons_zero, List.set_cons_succ]
          refine wpHold_take (i := 16) (v := _) (G0.out) rfl rfl (by kernel_rfl) (by kernel_rfl) (by kernel_rfl) (by kernel_rfl) (by kernel_rfl) (fun _ _ _ h => h) (by rfl) (fun wk hk => by obtain ⟨⟨z0, z1, z2⟩, z3, z4, z5, z6⟩ := HM.out wk hk; go_simp; try rfl) ?_
          try simp only [Act.put, List.setIfInBounds_toArray, List.set_cons_zero, List.set_cons_succ]
          refine wpHold_one (i := 17) rfl (by kernel_rfl) (by rfl) (fun K hK => ?_)
          go_wp2_with fail
          refine hK.out _ _ (fun _ => G0.out) ?_
          clear hK K
          try simp only [Act.put, List.setIfInBounds_toArray, List.set_cons_zero, List.set_cons_succ]
          refine wpHold_take (i := 18) (v := _) (G0.out) rfl rfl (by kernel_rfl) (by kernel_rfl) (by kernel_rfl) (by kernel_rfl) (by kernel_rfl) (fun _ _ _ h => h) (by rfl) (fun wk hk => by obtain ⟨⟨z0, z1, z2⟩, z3, z4, z5, z6⟩ := HM.out wk hk; go_simp; try rfl) ?_
          try simp only [Act.put, List.setIfInBounds_toArray, List.set_cons_zero, List.set_cons_succ]
          refine wpHold_take (i := 19) (v := _) (G0.out) rfl rfl (by kernel_rfl) (by kernel_rfl) (by kernel_rfl) (by kernel_rfl) (by kernel_rfl) (fun _ _ _ h => h) (by rfl) (fun wk hk => by obtain ⟨⟨z0, z1, z2⟩, z3, z4, z5, z6⟩ := HM.out wk hk; go_simp; try rfl) ?_
          try simp only [Act.put, List.setIfInBounds_toArray, List.set_cons_zero, List.set_cons_succ]
          refine wpHold_take (i := 20) (v := _) (G0.out) rfl rfl (by kernel_rfl) (by kernel_rfl) (by kernel_rfl) (by kernel_rfl) (by kernel_rfl) (fun _ _ _ h => h) (by rfl) (fun wk hk => by obtain ⟨⟨z0, z1, z2⟩, z3, z4, z5, z6⟩ := HM.out wk hk; go_simp; try rfl) ?_
          try simp only [Act.put, List.setIfInBounds_toArray, List.set_cons_zero, List.set_cons_succ]
          refine wpHold_take (i := 21) (v := _) (G0.out) rfl rfl (by kernel_rfl) (by kernel_rfl) (by kernel_rfl) (by kernel_rfl) (by kernel_rfl) (fun _ _ _ h => h) (by rfl) (fun wk hk => by obtain ⟨⟨z0, z1, z2⟩, z3, z4, z5, z6⟩ := HM.out wk hk; go_simp; try rfl) ?_
          try simp only [Act.put, List.setIfInBounds_toArray, List.set_cons_zero, List.set_cons_succ]
          refine wpHold_take (i := 22) (v := _) (G0.out) rfl rfl (by kernel_rfl) (by kernel_rfl) (by kernel_rfl) (by kernel_rfl) (by kernel_rfl) (fun _ _ _ h => h) (by rfl) (fun wk hk => by obtain ⟨⟨z0, z1, z2⟩, z3, z4, z5, z6⟩ := HM.out wk hk; go_simp; try rfl) ?_
          try simp only [Act.put, List.setIfInBounds_toArray, List.set_cons_zero, List.set_cons_succ]
          refine wpHold_take (i := 23) (v := _) (G0.out) rfl rfl (by kernel_rfl) (by kernel_rfl) (by kernel_rfl) (by kernel_rfl) (by kernel_rfl) (fun _ _ _ h => h) (by rfl) (fun wk hk => by obtain ⟨⟨z0, z1, z2⟩, z3, z4, z5, z6⟩ := HM.out wk hk; go_simp; try rfl) ?_
          try simp only [Act.put, List.setIfInBounds_toArray, List.set_cons_zero, List.set_cons_succ]
          refine wpHold_take (i := 24) (v := _) (G0.out) rfl rfl (by kernel_rfl) (by kernel_rfl) (by kernel_rfl) (by kernel_rfl) (by kernel_rfl) (fun _ _ _ h => h) (by rfl) (fun wk hk => by obtain ⟨⟨z0, z1, z2⟩, z3, z4, z5, z6⟩ := HM.out wk hk; go_simp; try rfl) ?_
          try simp only [Act.put, List.setIfInBounds_toArray, List.set_cons_zero, List.set_cons_succ]
          refine wpHold_take (i := 25) (v := _) (G0.out) rfl rfl (by kernel_rfl) (by kernel_rfl) (by kernel_rfl) (by kernel_rfl) (by kernel_rfl) (fun _ _ _ h => h) (by rfl) (fun wk hk => by obtain ⟨⟨z0, z1, z2⟩, z3, z4, z5, z6⟩ := HM.out wk hk; go_simp; try rfl) ?_
          try simp only [Act.put, List.setIfInBounds_toArray, List.set_cons_zero, List.set_cons_succ]
          refine wpHold_take (i := 26) (v := _) (G0.out) rfl rfl (by kernel_rfl) (by kernel_rfl) (by kernel_rfl) (by kernel_rfl) (by kernel_rfl) (fun _ _ _ h => h) (by rfl) (fun wk hk => by obtain ⟨⟨z0, z1, z2⟩, z3, z4, z5, z6⟩ := HM.out wk hk; go_simp; try rfl) ?_
          try simp only [Act.put, List.setIfInBounds_toArray, List.set_cons_zero, List.set_cons_succ]
          refine wpHold_take (i := 27) (v := _) (G0.out) rfl rfl (by kernel_rfl) (by kernel_rfl) (by kernel_rfl) (by kernel_rfl) (by kernel_rfl) (fun _ _ _ h => h) (by rfl) (fun wk hk => by obtain ⟨⟨z0, z1, z2⟩, z3, z4, z5, z6⟩ := HM.out wk hk; go_simp; try rfl) ?_
          try simp only [Act.put, List.setIfInBounds_toArray, List.set_cons_zero, List.set_cons_succ]
          refine wpHold_one (i := 28) rfl (by kernel_rfl) (by rfl) (fun K hK => ?_)
          go_wp2_with fail
          refine hK.out _ _ (fun _ => G0.out) ?_
          clear hK K
          try simp only [Act.put, List.setIfInBounds_toArray, List.set_cons_zero, List.set_cons_succ]
          refine wpHold_take (i := 29) (v := _) (G0.out) rfl rfl (by kernel_rfl) (by kernel_rfl) (by kernel_rfl) (by kernel_rfl) (by kernel_rfl) (fun _ _ _ h => h) (by rfl) (fun wk hk => by obtain ⟨⟨z0, z1, z2⟩, z3, z4, z5, z6⟩ := HM.out wk hk; go_simp; try rfl) ?_
          try simp only [Act.put, List.setIfInBounds_toArray, List.set_cons_zero, List.set_cons_succ]
          refine wpHold_done (by kernel_rfl) ?_
          show Code.wpIn _ _ _ _ _ _ _
          refine wpIn_cond_false rfl (wpIn_skip ?_)
          show Code.wpIn _ _ _ _ _ _ _
          have HSD : Hid (MS w b4 b7 b11 (b11 + 1) tb db false (.slice ap np cp) (.slice (some ⟨gb, off, none⟩) nd cw) l k lk lk wd ∧ Gr2 tb db W2 wd) := ⟨HI2.out.1.more G0.out, gr2_none G0.out⟩
          clear HM d0 d1 i0 i1 i2 i3 i4
          have HFIN : Hid (∀ (lz : List PRow) (Wz : World), Good lz → lz.length ≤ nd + (k + 1) → MS w b4 b7 b11 (b11 + 1) tb db false (.slice ap np cp) (.slice (some ⟨gb, off, none⟩) nd cw) l k lz lz Wz → Gr2 tb db W2 Wz → ∀ aa, roundEnd Wr_.heap.size (fun i => i = tb ∨ i = db ∨ i = b11 + 1) (fun k A => ∃ lk, Good lk ∧ lk.length ≤ nd + k ∧ MS w b4 b7 b11 (b11 + 1) tb db false (.slice ap np cp) (.slice (some ⟨gb, off, none⟩) nd cw) l k lk lk A) (fun _ => False) k #[.slice ax mx cx, .slice ay my cy] W1 W2 .normal aa (Wz.setCell ⟨b11 + 1, 0, none⟩ (.int .i64 ((k : Int) + 1)))) := by
            intro lz Wz g1 g2 g3 g4 aa
            have hsk : Sk (fun i => i = tb ∨ i = db ∨ i = b11 + 1) W2 (Wz.setCell ⟨b11 + 1, 0, none⟩ (.int .i64 ((k : Int) + 1))) :=
              Sk.trans ⟨g4.size, fun i hi hG => g4.block i hi (fun e => hG (.inl e)) (fun e => hG (.inr (.inl e)))⟩ (sk_some (grown_setCell _ _ _ _) (.inr (.inr rfl)))
            have z0 := HLT.out
            have z1 := HI1.out.2
            have z2 := HT2.out
            refine ⟨⟨hsk.2 _ (by omega) (by omega), hsk.2 _ (by omega) (by omega)⟩, ⟨by have := hsk.1; omega, fun i hi hc hf _ => ?_⟩, lz, g1, g2, g3.next⟩
            rw [hsk.2 i (by omega) hf]
            exact z2.2.2 i (by omega)
          have q0 := HSD.out.1.p12.cell 0
          have q1 := HSD.out.1.p4.cell 0
          simp at q0 q1
          refine wpIn_seq ?_
          refine wpIn_seq ?_
          refine region_round (by rintro ⟨_, _, h⟩; exact h) rfl ?_
          go_wp2_with fail
          by_cases hkp : (k : Int) < (np : Int)
          · refine wpIn_cond_true (by simp [Act.eval]; omega) ?_
            clear q0 q1
            have hkl : k < ps.length := by rw [HNP.out]; omega
            obtain ⟨pb, offp, xp, yp, rfl, pc0, pc1, ps0, ps1⟩ := rws_at HU.out k hkl
            obtain ⟨s, hs⟩ : ∃ s, ps[k] = s := ⟨_, rfl⟩
            rw [hs] at ps0 ps1
            clear hs hkl
            obtain ⟨a1, n1, c1, rfl, _, _, _⟩ := Names.seg_open ps0
            obtain ⟨a2, n2, c2, rfl, _, _, _⟩ := Names.seg_open ps1
            have HP : Hid (Seg w (.slice a1 n1 c1) s.1 ∧ Seg w (.slice a2 n2 c2) s.2) := ⟨ps0, ps1⟩
            have HMP : Hid (∀ y : World, Gr2 tb db W2 y → y.cell? ⟨b7, 0, none⟩ = some (.pointer (some ⟨tb, 0, none⟩)) ∧ y.cell? ⟨b7 + 1, 0, none⟩ = some (.pointer (some ⟨db, 0, none⟩)) ∧ y.cell? ⟨b4, 0, none⟩ = some (.slice (some ⟨pb, offp, none⟩) np cp) ∧ y.cell? ⟨b11 + 1, 0, none⟩ = some (.int .i64 (k : Int)) ∧ y.cell? ⟨pb, offp + k * 2, none⟩ = some (.slice a1 n1 c1) ∧ y.cell? ⟨pb, offp + k * 2 + 1, none⟩ = some (.slice a2 n2 c2) ∧ w.grownBy y none) := fun y hy => by
              have h := HI2.out.1
              have h2 := h.two
              have gw := hy.new h.grown h.lo.1 h.lo.2.1
              exact ⟨(h.p7.same (hy.kind h2 h.p7 (by decide) (by decide))).cell 0, (h.p8.same (hy.kind h2 h.p8 (by decide) (by decide))).cell 0, (h.p4.same (hy.kind h2 h.p4 (by decide) (by decide))).cell 0, (h.p12.same (hy.kind h2 h.p12 (by decide) (by decide))).cell 0, gw.cell pc0 (by simp), gw.cell pc1 (by simp), gw⟩
            clear pc0 pc1 ps0 ps1
            have j0 : (0 : Int) ≤ (k : Int) := by omega
            obtain ⟨vb, hvb⟩ : ∃ b, putB lk s.1 s.2 = b := ⟨_, rfl⟩
            obtain ⟨vc, hvc⟩ : ∃ b, putC s.1 s.2 = b := ⟨_, rfl⟩
            obtain ⟨lm, hlm⟩ : ∃ b, putA lk s.1 s.2 = b := ⟨_, rfl⟩
            obtain ⟨xb, hxb⟩ : ∃ b, delB lm r.1 = b := ⟨_, rfl⟩
            obtain ⟨xc, hxc⟩ : ∃ b, delC r.1 = b := ⟨_, rfl⟩
            obtain ⟨lz, hlz⟩ : ∃ b, delA lm r.1 = b := ⟨_, rfl⟩
            have HV1 : Hid (putB lk s.1 s.2 = vb ∧ putC s.1 s.2 = vc ∧ putA lk s.1 s.2 = lm) := ⟨hvb, hvc, hlm⟩
            have HV2 : Hid (delB lm r.1 = xb ∧ delC r.1 = xc ∧ delA lm r.1 = lz) := ⟨hxb, hxc, hlz⟩
            have HGM : Hid ((Good lm ∧ lm.length ≤ nd + (k + 1)) ∧ Good lz ∧ lz.length ≤ nd + (k + 1)) := by
              have h1 := putA_good HG.out.1 (by have := HG.out.2; omega) s.1 s.2
              rw [hlm] at h1
              have h2 := delA_good h1.1 r.1
              rw [hlz] at h2
              have := HG.out.2
              exact ⟨⟨h1.1, by omega⟩, h2.1, by omega⟩
            clear hvb hvc hlm hxb hxc hlz
            refine wpIn_seq ?_
            refine region_round_hold 1000 (fun y => Gr2 tb db W2 y) (by rintro ⟨_, _, h⟩; exact h) rfl (by kernel_rfl) ?_
            have H0 : Hid (MS w b4 b7 b11 (b11 + 1) tb db false (.slice (some ⟨pb, offp, none⟩) np cp) (.slice (some ⟨gb, off, none⟩) nd cw) l k lk lk wd.drew ∧ Gr2 tb db W2 wd.drew) := ⟨HSD.out.1.more (grown_drew _ _), HSD.out.2.trans (gr2_none (grown_drew _ _))⟩
            generalize wd.drew = x0 at H0 ⊢
            refine wpHold_take (i := 0) (v := _) (H0.out.2) rfl rfl (by kernel_rfl) (by kernel_rfl) (by kernel_rfl) (by kernel_rfl) (by kernel_rfl) (fun _ _ _ h => h) (by rfl) (fun wk hk => by obtain ⟨z0, z1, z2, z3, z4, z5, _⟩ := HMP.out wk hk; go_simp; try rfl) ?_
            try simp only [Act.put, List.setIfInBounds_toArray, List.set_cons_zero, List.set_cons_succ]
            refine wpHold_take (i := 1) (v := _) (H0.out.2) rfl rfl (by kernel_rfl) (by kernel_rfl) (by kernel_rfl) (by kernel_rfl) (by kernel_rfl) (fun _ _ _ h => h) (by rfl) (fun wk hk => by obtain ⟨z0, z1, z2, z3, z4, z5, _⟩ := HMP.out wk hk; go_simp; try rfl) ?_
            try simp only [Act.put, List.setIfInBounds_toArray, List.set_cons_zero, List.set_cons_succ]
            refine wpHold_take (i := 2) (v := _) (H0.out.2) rfl rfl (by kernel_rfl) (by kernel_rfl) (by kernel_rfl) (by kernel_rfl) (by kernel_rfl) (fun _ _ _ h => h) (by rfl) (fun wk hk => by obtain ⟨z0, z1, z2, z3, z4, z5, _⟩ := HMP.out wk hk; go_simp; try rfl) ?_
            try simp only [Act.put, List.setIfInBounds_toArray, List.set_cons_zero, List.set_cons_succ]
            refine wpHold_take (i := 3) (v := _) (H0.out.2) rfl rfl (by kernel_rfl) (by kernel_rfl) (by kernel_rfl) (by kernel_rfl) (by kernel_rfl) (fun _ _ _ h => h) (by rfl) (fun wk hk => by obtain ⟨z0, z1, z2, z3, z4, z5, _⟩ := HMP.out wk hk; go_simp; try rfl) ?_
            try simp only [Act.put, List.setIfInBounds_toArray, List.set_cons_zero, List.set_cons_succ]
            refine wpHold_take (i := 4) (v := _) (H0.out.2) rfl rfl (by kernel_rfl) (by kernel_rfl) (by kernel_rfl) (by kernel_rfl) (by kernel_rfl) (fun _ _ _ h => h) (by rfl) (fun wk hk => by obtain ⟨z0, z1, z2, z3, z4, z5, _⟩ := HMP.out wk hk; go_simp; try rfl) ?_
            try simp only [Act.put, List.setIfInBounds_toArray, List.set_cons_zero, List.set_cons_succ]
            refine wpHold_take (i := 5) (v := _) (H0.out.2) rfl rfl (by kernel_rfl) (by kernel_rfl) (by kernel_rfl) (by kernel_rfl) (by kernel_rfl) (fun _ _ _ h => h) (by rfl) (fun wk hk => by obtain ⟨z0, z1, z2, z3, z4, z5, _⟩ := HMP.out wk hk; go_simp; try rfl) ?_
            try simp only [Act.put, List.setIfInBounds_toArray, List.set_cons_zero, List.set_cons_succ]
            refine wpHold_take (i := 6) (v := _) (H0.out.2) rfl rfl (by kernel_rfl) (by kernel_rfl) (by kernel_rfl) (by kernel_rfl) (by kernel_rfl) (fun _ _ _ h => h) (by rfl) (fun wk hk => by obtain ⟨z0, z1, z2, z3, z4, z5, _⟩ := HMP.out wk hk; go_simp; try rfl) ?_
            try simp only [Act.put, List.setIfInBounds_toArray, List.set_cons_zero, List.set_cons_succ]
            refine wpHold_take (i := 7) (v := _) (H0.out.2) rfl rfl (by kernel_rfl) (by kernel_rfl) (by kernel_rfl) (by kernel_rfl) (by kernel_rfl) (fun _ _ _ h => h) (by rfl) (fun wk hk => by obtain ⟨z0, z1, z2, z3, z4, z5, _⟩ := HMP.out wk hk; go_simp; try rfl) ?_
            try simp only [Act.put, List.setIfInBounds_toArray, List.set_cons_zero, List.set_cons_succ]
            refine wpHold_take (i := 8) (v := _) (H0.out.2) rfl rfl (by kernel_rfl) (by kernel_rfl) (by kernel_rfl) (by kernel_rfl) (by kernel_rfl) (fun _ _ _ h => h) (by rfl) (fun wk hk => by obtain ⟨z0, z1, z2, z3, z4, z5, _⟩ := HMP.out wk hk; go_simp; try rfl) ?_
            try simp only [Act.put, List.setIfInBounds_toArray, List.set_cons_zero, List.set_cons_succ]
            refine wpHold_take (i := 9) (v := _) (H0.out.2) rfl rfl (by kernel_rfl) (by kernel_rfl) (by kernel_rfl) (by kernel_rfl) (by kernel_rfl) (fun _ _ _ h => h) (by rfl) (fun wk hk => by obtain ⟨z0, z1, z2, z3, z4, z5, _⟩ := HMP.out wk hk; go_simp; try rfl) ?_
            try simp only [Act.put, List.setIfInBounds_toArray, List.set_cons_zero, List.set_cons_succ]
            refine wpHold_take (i := 10) (v := _) (H0.out.2) rfl rfl (by kernel_rfl) (by kernel_rfl) (by kernel_rfl) (by kernel_rfl) (by kernel_rfl) (fun _ _ _ h => h) (by rfl) (fun wk hk => by obtain ⟨z0, z1, z2, z3, z4, z5, _⟩ := HMP.out wk hk; go_simp; try rfl) ?_
            try simp only [Act.put, List.setIfInBounds_toArray, List.set_cons_zero, List.set_cons_succ]
            refine wpHold_one (i := 11) rfl (by kernel_rfl) (by rfl) (fun K hK => ?_)
            go_wp2_with fail
            refine (put17 tb _ _ lk s.1 s.2 HG.out.1.1 HG.out.1.2.2 x0 H0.out.1.tab (HP.out.1.grown H0.out.1.grown) (HP.out.2.grown H0.out.1.grown)).mono ?_
            rintro e x1 ⟨rfl, ht1, g1⟩
            rw [HV1.out.1, HV1.out.2.1]
            have H1 : Hid (MS w b4 b7 b11 (b11 + 1) tb db false (.slice (some ⟨pb, offp, none⟩) np cp) (.slice (some ⟨gb, off, none⟩) nd cw) l k lm lk x1 ∧ Gr2 tb db W2 x1) := by
              rw [HV1.out.2.2] at ht1
              exact ⟨H0.out.1.fst g1 ht1, H0.out.2.trans (gr2_fst g1)⟩
            clear ht1 g1 H0
            refine hK.out _ _ (fun _ => H1.out.2) ?_
            clear hK K
            try simp only [Act.put, List.setIfInBounds_toArray, List.set_cons_zero, List.set_cons_succ]
            refine wpHold_take (i := 12) (v := _) (H1.out.2) rfl rfl (by kernel_rfl) (by kernel_rfl) (by kernel_rfl) (by kernel_rfl) (by kernel_rfl) (fun _ _ _ h => h) (by rfl) (fun wk hk => by obtain ⟨z0, z1, z2, z3, z4, z5, _⟩ := HMP.out wk hk; go_simp; try rfl) ?_
            try simp only [Act.put, List.setIfInBounds_toArray, List.set_cons_zero, List.set_cons_succ]
            refine wpHold_take (i := 13) (v := _) (H1.out.2) rfl rfl (by kernel_rfl) (by kernel_rfl) (by kernel_rfl) (by kernel_rfl) (by kernel_rfl) (fun _ _ _ h => h) (by rfl) (fun wk hk => by obtain ⟨z0, z1, z2, z3, z4, z5, _⟩ := HMP.out wk hk; go_simp; try rfl) ?_
            try simp only [Act.put, List.setIfInBounds_toArray, List.set_cons_zero, List.set_cons_succ]
            refine wpHold_take (i := 14) (v := _) (H1.out.2) rfl rfl (by kernel_rfl) (by kernel_rfl) (by kernel_rfl) (by kernel_rfl) (by kernel_rfl) (fun _ _ _ h => h) (by rfl) (fun wk hk => by obtain ⟨z0, z1, z2, z3, z4, z5, _⟩ := HMP.out wk hk; go_simp; try rfl) ?_
            try simp only [Act.put, List.setIfInBounds_toArray, List.set_cons_zero, List.set_cons_succ]
            refine wpHold_take (i := 15) (v := _) (H1.out.2) rfl rfl (by kernel_rfl) (by kernel_rfl) (by kernel_rfl) (by kernel_rfl) (by kernel_rfl) (fun _ _ _ h => h) (by rfl) (fun wk hk => by obtain ⟨z0, z1, z2, z3, z4, z5, _⟩ := HMP.out wk hk; go_simp; try rfl) ?_
            try simp only [Act.put, List.setIfInBounds_toArray, List.set_cons_zero, List.set_cons_succ]
            refine wpHold_take (i := 16) (v := _) (H1.out.2) rfl rfl (by kernel_rfl) (by kernel_rfl) (by kernel_rfl) (by kernel_rfl) (by kernel_rfl) (fun _ _ _ h => h) (by rfl) (fun wk hk => by obtain ⟨z0, z1, z2, z3, z4, z5, _⟩ := HMP.out wk hk; go_simp; try rfl) ?_
            try simp only [Act.put, List.setIfInBounds_toArray, List.set_cons_zero, List.set_cons_succ]
            refine wpHold_done (by kernel_rfl) ?_
            show Code.wpIn _ _ _ _ _ _ _
            refine wpIn_seq ?_
            refine region_round_hold 1000 (fun y => Gr2 tb db W2 y) (by rintro ⟨_, _, h⟩; exact h) rfl (by kernel_rfl) ?_
            have H2' : Hid (MS w b4 b7 b11 (b11 + 1) tb db false (.slice (some ⟨pb, offp, none⟩) np cp) (.slice (some ⟨gb, off, none⟩) nd cw) l k lm lk x1.drew ∧ Gr2 tb db W2 x1.drew) := ⟨H1.out.1.more (grown_drew _ _), H1.out.2.trans (gr2_none (grown_drew _ _))⟩
            generalize x1.drew = x2 at H2' ⊢
            refine wpHold_take (i := 0) (v := _) (H2'.out.2) rfl rfl (by kernel_rfl) (by kernel_rfl) (by kernel_rfl) (by kernel_rfl) (by kernel_rfl) (fun _ _ _ h => h) (by rfl) (fun wk hk => by obtain ⟨z0, z1, z2, z3, z4, z5, _⟩ := HMP.out wk hk; go_simp; try rfl) ?_
            try simp only [Act.put, List.setIfInBounds_toArray, List.set_cons_zero, List.set_cons_succ]
            refine wpHold_take (i := 1) (v := _) (H2'.out.2) rfl rfl (by kernel_rfl) (by kernel_rfl) (by kernel_rfl) (by kernel_rfl) (by kernel_rfl) (fun _ _ _ h => h) (by rfl) (fun wk hk => by obtain ⟨z0, z1, z2, z3, z4, z5, _⟩ := HMP.out wk hk; go_simp; try rfl) ?_
            try simp only [Act.put, List.setIfInBounds_toArray, List.set_cons_zero, List.set_cons_succ]
            refine wpHold_take (i := 2) (v := _) (H2'.out.2) rfl rfl (by kernel_rfl) (by kernel_rfl) (by kernel_rfl) (by kernel_rfl) (by kernel_rfl) (fun _ _ _ h => h) (by rfl) (fun wk hk => by obtain ⟨z0, z1, z2, z3, z4, z5, _⟩ := HMP.out wk hk; go_simp; try rfl) ?_
            try simp only [Act.put, List.setIfInBounds_toArray, List.set_cons_zero, List.set_cons_succ]
            refine wpHold_take (i := 3) (v := _) (H2'.out.2) rfl rfl (by kernel_rfl) (by kernel_rfl) (by kernel_rfl) (by kernel_rfl) (by kernel_rfl) (fun _ _ _ h => h) (by rfl) (fun wk hk => by obtain ⟨z0, z1, z2, z3, z4, z5, _⟩ := HMP.out wk hk; go_simp; try rfl) ?_
            try simp only [Act.put, List.setIfInBounds_toArray, List.set_cons_zero, List.set_cons_succ]
            refine wpHold_take (i := 4) (v := _) (H2'.out.2) rfl rfl (by kernel_rfl) (by kernel_rfl) (by kernel_rfl) (by kernel_rfl) (by kernel_rfl) (fun _ _ _ h => h) (by rfl) (fun wk hk => by obtain ⟨z0, z1, z2, z3, z4, z5, _⟩ := HMP.out wk hk; go_simp; try rfl) ?_
            try simp only [Act.put, List.setIfInBounds_toArray, List.set_cons_zero, List.set_cons_succ]
            refine wpHold_take (i := 5) (v := _) (H2'.out.2) rfl rfl (by kernel_rfl) (by kernel_rfl) (by kernel_rfl) (by kernel_rfl) (by kernel_rfl) (fun _ _ _ h => h) (by rfl) (fun wk hk => by obtain ⟨z0, z1, z2, z3, z4, z5, _⟩ := HMP.out wk hk; go_simp; try rfl) ?_
            try simp only [Act.put, List.setIfInBounds_toArray, List.set_cons_zero, List.set_cons_succ]
            refine wpHold_take (i := 6) (v := _) (H2'.out.2) rfl rfl (by kernel_rfl) (by kernel_rfl) (by kernel_rfl) (by kernel_rfl) (by kernel_rfl) (fun _ _ _ h => h) (by rfl) (fun wk hk => by obtain ⟨z0, z1, z2, z3, z4, z5, _⟩ := HMP.out wk hk; go_simp; try rfl) ?_
            try simp only [Act.put, List.setIfInBounds_toArray, List.set_cons_zero, List.set_cons_succ]
            refine wpHold_take (i := 7) (v := _) (H2'.out.2) rfl rfl (by kernel_rfl) (by kernel_rfl) (by kernel_rfl) (by kernel_rfl) (by kernel_rfl) (fun _ _ _ h => h) (by rfl) (fun wk hk => by obtain ⟨z0, z1, z2, z3, z4, z5, _⟩ := HMP.out wk hk; go_simp; try rfl) ?_
            try simp only [Act.put, List.setIfInBounds_toArray, List.set_cons_zero, List.set_cons_succ]
            refine wpHold_take (i := 8) (v := _) (H2'.out.2) rfl rfl (by kernel_rfl) (by kernel_rfl) (by kernel_rfl) (by kernel_rfl) (by kernel_rfl) (fun _ _ _ h => h) (by rfl) (fun wk hk => by obtain ⟨z0, z1, z2, z3, z4, z5, _⟩ := HMP.out wk hk; go_simp; try rfl) ?_
            try simp only [Act.put, List.setIfInBounds_toArray, List.set_cons_zero, List.set_cons_succ]
            refine wpHold_take (i := 9) (v := _) (H2'.out.2) rfl rfl (by kernel_rfl) (by kernel_rfl) (by kernel_rfl) (by kernel_rfl) (by kernel_rfl) (fun _ _ _ h => h) (by rfl) (fun wk hk => by obtain ⟨z0, z1, z2, z3, z4, z5, _⟩ := HMP.out wk hk; go_simp; try rfl) ?_
            try simp only [Act.put, List.setIfInBounds_toArray, List.set_cons_zero, List.set_cons_succ]
            refine wpHold_take (i := 10) (v := _) (H2'.out.2) rfl rfl (by kernel_rfl) (by kernel_rfl) (by kernel_rfl) (by kernel_rfl) (by kernel_rfl) (fun _ _ _ h => h) (by rfl) (fun wk hk => by obtain ⟨z0, z1, z2, z3, z4, z5, _⟩ := HMP.out wk hk; go_simp; try rfl) ?_
            try simp only [Act.put, List.setIfInBounds_toArray, List.set_cons_zero, List.set_cons_succ]
            refine wpHold_one (i := 11) rfl (by kernel_rfl) (by rfl) (fun K hK => ?_)
            go_wp2_with fail
            refine (put18 db _ _ lk s.1 s.2 HG.out.1.2.2 x2 H2'.out.1.doc (HP.out.1.grown H2'.out.1.grown) (HP.out.2.grown H2'.out.1.grown)).mono ?_
            rintro e x3 ⟨rfl, hd3, g3⟩
            rw [HV1.out.1, HV1.out.2.1]
            have H3 : Hid (MS w b4 b7 b11 (b11 + 1) tb db false (.slice (some ⟨pb, offp, none⟩) np cp) (.slice (some ⟨gb, off, none⟩) nd cw) l k lm lm x3 ∧ Gr2 tb db W2 x3) := by
              rw [HV1.out.2.2] at hd3
              exact ⟨H2'.out.1.snd g3 hd3, H2'.out.2.trans (gr2_snd g3)⟩
            clear hd3 g3 H2' H1
            refine hK.out _ _ (fun _ => H3.out.2) ?_
            clear hK K
            try simp only [Act.put, List.setIfInBounds_toArray, List.set_cons_zero, List.set_cons_succ]
            refine wpHold_take (i := 12) (v := _) (H3.out.2) rfl rfl (by kernel_rfl) (by kernel_rfl) (by kernel_rfl) (by kernel_rfl) (by kernel_rfl) (fun _ _ _ h => h) (by rfl) (fun wk hk => by obtain ⟨z0, z1, z2, z3, z4, z5, _⟩ := HMP.out wk hk; go_simp; try rfl) ?_
            try simp only [Act.put, List.setIfInBounds_toArray, List.set_cons_zero, List.set_cons_succ]
            refine wpHold_take (i := 13) (v := _) (H3.out.2) rfl rfl (by kernel_rfl) (by kernel_rfl) (by kernel_rfl) (by kernel_rfl) (by kernel_rfl) (fun _ _ _ h => h) (by rfl) (fun wk hk => by obtain ⟨z0, z1, z2, z3, z4, z5, _⟩ := HMP.out wk hk; go_simp; try rfl) ?_
            try simp only [Act.put, List.setIfInBounds_toArray, List.set_cons_zero, List.set_cons_succ]
            refine wpHold_take (i := 14) (v := _) (H3.out.2) rfl rfl (by kernel_rfl) (by kernel_rfl) (by kernel_rfl) (by kernel_rfl) (by kernel_rfl) (fun _ _ _ h => h) (by rfl) (fun wk hk => by obtain ⟨z0, z1, z2, z3, z4, z5, _⟩ := HMP.out wk hk; go_simp; try rfl) ?_
            try simp only [Act.put, List.setIfInBounds_toArray, List.set_cons_zero, List.set_cons_succ]
            refine wpHold_take (i := 15) (v := _) (H3.out.2) rfl rfl (by kernel_rfl) (by kernel_rfl) (by kernel_rfl) (by kernel_rfl) (by kernel_rfl) (fun _ _ _ h => h) (by rfl) (fun wk hk => by obtain ⟨z0, z1, z2, z3, z4, z5, _⟩ := HMP.out wk hk; go_simp; try rfl) ?_
            try simp only [Act.put, List.setIfInBounds_toArray, List.set_cons_zero, List.set_cons_succ]
            refine wpHold_take (i := 16) (v := _) (H3.out.2) rfl rfl (by kernel_rfl) (by kernel_rfl) (by kernel_rfl) (by kernel_rfl) (by kernel_rfl) (fun _ _ _ h => h) (by rfl) (fun wk hk => by obtain ⟨z0, z1, z2, z3, z4, z5, _⟩ := HMP.out wk hk; go_simp; try rfl) ?_
            try simp only [Act.put, List.setIfInBounds_toArray, List.set_cons_zero, List.set_cons_succ]
            refine wpHold_done (by kernel_rfl) ?_
            show Code.wpIn _ _ _ _ _ _ _
            refine wpIn_seq ?_
            have q0 := (HMP.out x3 H3.out.2).1
            refine region_round (by rintro ⟨_, _, h⟩; exact h) rfl ?_
            go_wp2_with fail
            refine (delete19 tb _ lm r.1 HGM.out.1.1.1 HGM.out.1.1.2.2 x3 H3.out.1.tab (H3.out.2.seg HI2.out.1.two HI2.out.2.1)).mono ?_
            rintro e x4 ⟨rfl, ht4, g4⟩
            rw [HV2.out.1, HV2.out.2.1]
            have H4 : Hid (MS w b4 b7 b11 (b11 + 1) tb db false (.slice (some ⟨pb, offp, none⟩) np cp) (.slice (some ⟨gb, off, none⟩) nd cw) l k lz lm x4 ∧ Gr2 tb db W2 x4) := by
              rw [HV2.out.2.2] at ht4
              exact ⟨H3.out.1.fst g4 ht4, H3.out.2.trans (gr2_fst g4)⟩
            clear ht4 g4 H3 q0
            go_wp2_with fail
            refine wpIn_seq ?_
            have q0 := (HMP.out x4 H4.out.2).2.1
            refine region_round (by rintro ⟨_, _, h⟩; exact h) rfl ?_
            go_wp2_with fail
            refine (delete20 db _ lm r.1 HGM.out.1.1.2.2 x4 H4.out.1.doc (H4.out.2.seg HI2.out.1.two HI2.out.2.1)).mono ?_
            rintro e x5 ⟨rfl, hd5, g5⟩
            rw [HV2.out.1, HV2.out.2.1]
            have H5 : Hid (MS w b4 b7 b11 (b11 + 1) tb db false (.slice (some ⟨pb, offp, none⟩) np cp) (.slice (some ⟨gb, off, none⟩) nd cw) l k lz lz x5 ∧ Gr2 tb db W2 x5) := by
              rw [HV2.out.2.2] at hd5
              exact ⟨H4.out.1.snd g5 hd5, H4.out.2.trans (gr2_snd g5)⟩
            clear hd5 g5 H4 q0
            go_wp2_with fail
            refine wpIn_seq ?_
            refine region_round (by rintro ⟨_, _, h⟩; exact h) rfl ?_
            go_wp2_with (go_at_call 21; refine (num21 _ _).mono ?_; rintro e wx ⟨rfl, hx⟩; rw [hx]; clear hx)
            refine wpIn_cond_false (by simp [Act.eval]) (wpIn_skip ?_)
            have q0 := H5.out.1.p12.cell 0
            have f0 := H5.out.1.p12.free 0
            simp at q0
            refine region_round (by rintro ⟨_, _, h⟩; exact h) rfl ?_
            go_wp2_with fail
            exact HFIN.out lz x5 HGM.out.2.1 HGM.out.2.2 H5.out.1 H5.out.2 _
          · refine wpIn_cond_false (by simp [Act.eval]; omega) (wpIn_skip ?_)
            have f0 := HSD.out.1.p12.free 0
            refine region_round (by rintro ⟨_, _, h⟩; exact h) rfl ?_
            go_wp2_with fail
            exact HFIN.out lk wd HG.out.1 (by have := HG.out.2; omega) HSD.out.1 HSD.out.2 _
      · have G2 : Hid (w1.grownBy w2 none) := g2
        clear hgd g2
        go_upto_region 4 with fail
        obtain ⟨y1, e1, Y1⟩ := al w2 #[.pointer none] 26
        rw [e1]
        obtain ⟨w3, e3, Y3⟩ := al y1 #[.pointer none] 27
        rw [e3]
        clear e1 e3
        have G3 : Hid (w1.grownBy w3 none) := grown_trans G2.out (grown_trans Y1.out.2.1 Y3.out.2.1)
        have q7 := (Y1.out.1.grown Y3.out.2.1 (by simp)).cell 0
        simp at q7
        clear Y1 Y3

        go_wp2_with fail
        refine (known8 w3).mono ?_
        rintro e w9 ⟨rfl, g9⟩
        have G9 : Hid (Blk w9 (b4 + 2) 4 #[.bool false] ∧ w.grownBy w9 none) := ⟨HI0.out.2.2.1.grown (grown_trans G3.out g9) (by simp), grown_trans HI0.out.2.2.2 (grown_trans G3.out g9)⟩
        have f9 := G9.out.1.free 0
        have q9 := G9.out.1.cell 0
        clear g9
        go_wp2_with fail
        have q8 := (G9.out.1.store 0 (.bool true)).cell 0
        simp at q8
        exact ⟨.bool true, by simp [results, Try.results4, go_sem, q8], rfl, grown_new G9.out.2 (grown_setCell _ _ _ _) (fun x hx => by simp at hx; have := HB4.out; omega)⟩
end Go.Proofs.Ytlehikdlkdbacaa
