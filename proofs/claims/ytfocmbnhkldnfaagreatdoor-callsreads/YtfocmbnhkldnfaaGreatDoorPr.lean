/-
  The document's Parse.
-/
import Derived.Test.YtfocmbnhkldnfaaGreatDoorUn
import Derived.Test.YtfocmbnhkldnfaaGreatDoorPp
import Derived.Test.YtfocmbnhkldnfaaGreatDoorDl
import Derived.Test.YtfocmbnhkldnfaaGreatDoorRdrAll
namespace Go.Proofs.YtfocmbnhkldnfaaGreatDoor
open Go.RowKit Disk
open Names (Str)

theorem run_minN (ts : Array TypeId) (t : TypeId) (m k : Nat) (w : World) : (Builtin.min_ ts t #[.int .i64 (m : Int), .int .i64 (k : Int)]).run Tryz.prog w = .ok (.int .i64 ((min m k : Nat) : Int)) w := by
  by_cases h : m ≤ k
  · rw [Nat.min_eq_left h]
    simp [Builtin.min_, Builtin.min2]
    try omega
  · rw [Nat.min_eq_right (by omega)]
    simp [Builtin.min_, Builtin.min2]
    try omega
attribute [local go_sem ↓] run_minN

set_option maxRecDepth 100000 in
set_option maxHeartbeats 16000000 in
theorem parse26 (s : Bs) (w : World) (hz : s.length ≤ 20000) (hE : EnvF w) : Calls Tryz.prog 26 #[.string ⟨s.toArray⟩] w (ReadPost w (parseC s)) := by
  have HE : Hid (EnvF w) := hE
  obtain ⟨n, hn⟩ : ∃ n, s.length = n := ⟨_, rfl⟩
  obtain ⟨X, hX⟩ : ∃ X : ByteArray, X = ⟨s.toArray⟩ := ⟨_, rfl⟩
  have hsz : X.size = n := by rw [hX]; simp [ByteArray.size, hn]
  have HN : Hid (s.length = n) := hn
  have HX : Hid (X = ⟨s.toArray⟩) := hX
  rw [hn] at hz
  rw [← hX]
  clear hn hX hE
  by_cases hb : n ≤ 12288
  case neg =>
    have HC : Hid (parseC s = ([], 3)) := by unfold Hid parseC; rw [HN.out, if_neg hb]
    have i1 : (12288 : Int) < (n : Int) := by omega
    rw [HC.out]
    have hbk := heap_alloc_new w (.cells #[.slice none 0 0] 24)
    have cc : (w.alloc (.cells #[.slice none 0 0] 24)).cell? ⟨w.heap.size, 0, none⟩ = some (.slice none 0 0) := Blk.cell hbk 0
    clear hbk
    go_enter Tryz.func26, Tryz.ntmps26
    go_wp2_with fail
    refine bodyPost_ret (v := .tuple #[.agg #[.slice none 0 0], .int .i64 3]) (by simp [results, Tryz.results26, go_sem, cc]) rfl ?_
    exact ⟨_, rfl, ⟨lrow_nil _ _, by simp⟩, World.grownBy_alloc _ _ none⟩
  have i1 : ((12288 : Int) < (n : Int)) = False := eq_false (by omega)
  go_enter Tryz.func26, Tryz.ntmps26
  go_upto_region 4 with fail
  have S0 : Hid (OpsOwn ((w.alloc (.cells #[.slice none 0 0] 24)).alloc (.cells #[.slice none 0 0] 24)) w.heap.size (.slice none 0 0) [] ∧ Blk ((w.alloc (.cells #[.slice none 0 0] 24)).alloc (.cells #[.slice none 0 0] 24)) w.heap.size 24 #[.slice none 0 0] ∧ Blk ((w.alloc (.cells #[.slice none 0 0] 24)).alloc (.cells #[.slice none 0 0] 24)) (w.heap.size + 1) 24 #[.slice none 0 0] ∧ w.grownBy ((w.alloc (.cells #[.slice none 0 0] 24)).alloc (.cells #[.slice none 0 0] 24)) none) := by
    have b0 := heap_alloc_new w (.cells #[.slice none 0 0] 24)
    have b1 := heap_alloc_new (w.alloc (.cells #[.slice none 0 0] 24)) (.cells #[.slice none 0 0] 24)
    have g0 := World.grownBy_alloc w (.cells #[.slice none 0 0] 24) none
    have g1 := World.grownBy_alloc (w.alloc (.cells #[.slice none 0 0] 24)) (.cells #[.slice none 0 0] 24) none
    refine ⟨⟨lrow_nil _ _, by simp⟩, Blk.grown b0 g1 (by simp), ?_, grown_trans g0 g1⟩
    simpa [Blk] using b1
  generalize ((w.alloc (.cells #[.slice none 0 0] 24)).alloc (.cells #[.slice none 0 0] 24)) = W0 at S0 ⊢
  have HB0 : Hid (∀ l, chk l = 0 → s = callTxt l → PAt s l [] 0 0) := fun l hl e => pat_begin (may_all (chk_may hl)).1 e
  go_wp2_with fail
  go_loopw [5, 6] (fun at_ i wr => ∃ (k a : Nat) (xs : List POp) (v : Value), k ≤ n + 1 ∧ a ≤ n ∧ i = .int .i64 k ∧ at_ = .int .i64 a ∧ Hid (xs.length ≤ k) ∧ Hid (∀ l, chk l = 0 → s = callTxt l → PAt s l xs k a) ∧ Hid (OpsOwn wr w.heap.size (v) xs ∧ Blk wr w.heap.size 24 #[.slice none 0 0] ∧ Blk wr (w.heap.size + 1) 24 #[v] ∧ w.grownBy wr none)) (fun _ i _ => n + 1 - (intOf i).toNat)
  case atStart => exact ⟨0, 0, [], _, by omega, by omega, rfl, rfl, by unfold Hid; simp, HB0, S0⟩
  case round =>
    obtain ⟨k, a, xs, v, hk, ha, rfl, rfl, HXL, HT, HO⟩ := hrel
    clear S0 HB0
    obtain ⟨xa, na, ya, rfl, hna⟩ := HO.out.1.slice
    have cc := HO.out.2.2.1.cell 0
    by_cases hgo : k ≤ n ∧ na ≤ 16
    · have i2 : (k : Int) ≤ (n : Int) := by omega
      have i3 : (na : Int) ≤ 16 := by omega
      have HNA : Hid (xs.length = na) := hna.symm
      have hna16 : na ≤ 16 := hgo.2
      have hkn : k ≤ n := hgo.1
      clear hna hgo
      by_cases hc : k = n ∨ ∃ h : k < s.length, s[k] = 59
      · obtain ⟨y, hy⟩ : ∃ y, (s.take k).drop (min a k) = y := ⟨_, rfl⟩
        have hcut : ∀ wk, (Instr.slice 9 (.string X) (some (.int .i64 ((min a k : Nat) : Int))) (some (.int .i64 k)) none).run Tryz.prog wk = .ok (.string ⟨y.toArray⟩) wk := fun wk => by rw [HX.out, ← hy]; exact run_cut9 s (min a k) k (Nat.min_le_right _ _) (by rw [HN.out]; omega) wk
        have HY : Hid (y.length ≤ 20000) := by rw [← hy]; unfold Hid; simp; omega
        have HP : Hid (∀ l, chk l = 0 → s = callTxt l → ∃ h : xs.length < l.length, y = opTxt l[xs.length] ∧ PAt s l (xs ++ [l[xs.length]]) (k + 1) (min (k + 2) n)) := by
          intro l hl e
          obtain ⟨h1, h2, h3, h4⟩ := pat_cut (may_all (chk_may hl)).2.2 (HT.out l hl e) (hc.imp (fun h => by rw [HN.out]; exact h) id)
          refine ⟨h1, ?_, by rw [← HN.out]; exact h3⟩
          rw [← hy, Nat.min_eq_left h4, h2]
        clear hy
        have hbr : (k = n) ∨ (k < n ∧ ∀ wk, (Instr.index 9 (.string X) (.int .i64 k)).run Tryz.prog wk = .ok (.int .u8 59) wk) := by
          rcases hc with h | ⟨hk2, h5⟩
          · exact .inl h
          · refine .inr ⟨by rw [← HN.out]; exact hk2, fun wk => ?_⟩
            have := Names.run_index9 s k hk2 wk
            rw [h5] at this
            rw [HX.out]
            exact this
        clear hc HT
        have HKN : Hid (k ≤ n) := hkn
        clear hkn
        obtain ⟨kk, hkk⟩ : ∃ q, k = q := ⟨_, rfl⟩
        rcases hbr with hbr | ⟨hbr, hidx⟩
        case inl =>
          have j1 : ((k : Int) = (n : Int)) = True := eq_true (by omega)
          have j2 : ((k : Int) == (n : Int)) = true := by rw [beq_iff_eq]; omega
          have HKQ : Hid (k = n) := hbr
          clear hbr hkk
          go_upto_region 9 with fail
          go_wp2_with fail
          clear cc
          refine wp_region_hold 12 (fun x => x.cell? ⟨(w.heap.size + 1), 0, none⟩ = some (.slice xa na ya)) (by kernel_rfl) ?_
          have G0 : Hid (OpsOwn wr.drew w.heap.size (.slice xa na ya) xs ∧ Blk wr.drew w.heap.size 24 #[.slice none 0 0] ∧ Blk wr.drew (w.heap.size + 1) 24 #[.slice xa na ya] ∧ w.grownBy wr.drew none) := by
            have hg := grown_drew wr none
            exact ⟨HO.out.1.grown hg, HO.out.2.1.grown hg (by simp), HO.out.2.2.1.grown hg (by simp), grown_trans HO.out.2.2.2 hg⟩
          generalize wr.drew = w0 at G0 ⊢
          clear HO
          refine wt (i := 0) (G0.out.2.2.1.cell 0) rfl rfl (fun wk hk => by skip; go_simp; try rfl) ?_
          try simp only [pN]
          refine wt (i := 1) (G0.out.2.2.1.cell 0) rfl rfl (fun wk hk => by skip; go_simp; try rfl) ?_
          try simp only [pN]
          refine wt (i := 2) (G0.out.2.2.1.cell 0) rfl rfl (fun wk hk => by skip; go_simp; try rfl) ?_
          try simp only [pN]
          refine wt (i := 3) (G0.out.2.2.1.cell 0) rfl rfl (fun wk hk => by skip; go_simp; try rfl) ?_
          try simp only [pN]
          refine wt (i := 4) (G0.out.2.2.1.cell 0) rfl rfl (fun wk hk => by skip; go_simp; try rfl) ?_
          try simp only [pN]
          refine wt (i := 5) (G0.out.2.2.1.cell 0) rfl rfl (fun wk hk => by skip; go_simp; try rfl) ?_
          try simp only [pN]
          refine wt (i := 6) (G0.out.2.2.1.cell 0) rfl rfl (fun wk hk => by skip; go_simp; try rfl) ?_
          try simp only [pN]
          refine wt (i := 7) (G0.out.2.2.1.cell 0) rfl rfl (fun wk hk => by skip; go_simp; try rfl) ?_
          try simp only [pN]
          refine wpHold_one (i := 8) rfl (by kernel_rfl) (by rfl) (fun K hK => ?_)
          go_wp2_with (go_at_call 56; refine (unline56 y _ HY.out (HE.out.grown G0.out.2.2.2)).mono ?_)
          rintro e w1 ⟨kk2, x, ol, t, o, rfl, ho, hg, hS⟩
          obtain ⟨xb, nb, yb, rfl⟩ := cut_slice ho.key
          obtain ⟨xc, nc, yc, rfl⟩ := cut_slice ho.value
          obtain ⟨xd, nd, yd, rfl⟩ := cut_slice ho.old
          obtain ⟨xe, ne, ye, rfl⟩ := cut_slice ho.tos
          have H1 : Hid ((OpsOwn w1 w.heap.size (.slice xa na ya) xs ∧ Blk w1 w.heap.size 24 #[.slice none 0 0] ∧ Blk w1 (w.heap.size + 1) 24 #[.slice xa na ya] ∧ w.grownBy w1 none) ∧ OpOwn w1 w.heap.size (.slice xb nb yb) (.slice xc nc yc) (.slice xd nd yd) (.slice xe ne ye) o) := ⟨⟨G0.out.1.grown hg, G0.out.2.1.grown hg (by simp), G0.out.2.2.1.grown hg (by simp), grown_trans G0.out.2.2.2 hg⟩, ho.mono G0.out.2.2.2.size⟩
          have HT2 : Hid (∀ l, chk l = 0 → s = callTxt l → PAt s l (xs ++ [o]) (k + 1) (min (k + 2) n)) := by
            intro l hl e
            obtain ⟨h1, h2, h3⟩ := HP.out l hl e
            rw [hS l[xs.length] ((may_all (chk_may hl)).2.2 _ (List.getElem_mem h1)) h2]
            exact h3
          clear hS ho hg G0 HP
          unfold opV Str
          go_wp2_with fail
          refine hK.out _ _ (fun _ => H1.out.1.2.2.1.cell 0) ?_
          clear hK K
          try simp only [pN]
          refine wpHold_one (i := 9) rfl (by kernel_rfl) (by rfl) (fun K hK => ?_)
          go_wp2_with fail
          have H2 : Hid ((OpsOwn (w1.alloc (.cells #[.int .i64 o.kind, .string ⟨o.table.toArray⟩, .slice xb nb yb, .slice xc nc yc, .bool o.has, .slice xd nd yd, .slice xe ne ye, .int .i64 o.most] 71)) w.heap.size (.slice xa na ya) xs ∧ Blk (w1.alloc (.cells #[.int .i64 o.kind, .string ⟨o.table.toArray⟩, .slice xb nb yb, .slice xc nc yc, .bool o.has, .slice xd nd yd, .slice xe ne ye, .int .i64 o.most] 71)) w.heap.size 24 #[.slice none 0 0] ∧ Blk (w1.alloc (.cells #[.int .i64 o.kind, .string ⟨o.table.toArray⟩, .slice xb nb yb, .slice xc nc yc, .bool o.has, .slice xd nd yd, .slice xe ne ye, .int .i64 o.most] 71)) (w.heap.size + 1) 24 #[.slice xa na ya] ∧ w.grownBy (w1.alloc (.cells #[.int .i64 o.kind, .string ⟨o.table.toArray⟩, .slice xb nb yb, .slice xc nc yc, .bool o.has, .slice xd nd yd, .slice xe ne ye, .int .i64 o.most] 71)) none) ∧ OpOwn (w1.alloc (.cells #[.int .i64 o.kind, .string ⟨o.table.toArray⟩, .slice xb nb yb, .slice xc nc yc, .bool o.has, .slice xd nd yd, .slice xe ne ye, .int .i64 o.most] 71)) w.heap.size (.slice xb nb yb) (.slice xc nc yc) (.slice xd nd yd) (.slice xe ne ye) o ∧ Blk (w1.alloc (.cells #[.int .i64 o.kind, .string ⟨o.table.toArray⟩, .slice xb nb yb, .slice xc nc yc, .bool o.has, .slice xd nd yd, .slice xe ne ye, .int .i64 o.most] 71)) w1.heap.size 71 #[.int .i64 o.kind, .string ⟨o.table.toArray⟩, .slice xb nb yb, .slice xc nc yc, .bool o.has, .slice xd nd yd, .slice xe ne ye, .int .i64 o.most]) := by
            have hg := World.grownBy_alloc w1 (.cells #[.int .i64 o.kind, .string ⟨o.table.toArray⟩, .slice xb nb yb, .slice xc nc yc, .bool o.has, .slice xd nd yd, .slice xe ne ye, .int .i64 o.most] 71) none
            exact ⟨⟨H1.out.1.1.grown hg, H1.out.1.2.1.grown hg (by simp), H1.out.1.2.2.1.grown hg (by simp), grown_trans H1.out.1.2.2.2 hg⟩, H1.out.2.grown hg, heap_alloc_new _ _⟩
          clear H1
          refine hK.out _ _ (fun _ => H2.out.1.2.2.1.cell 0) ?_
          clear hK K
          try simp only [pN]
          refine wpHold_one (i := 10) rfl (by kernel_rfl) (by rfl) (fun K hK => ?_)
          refine app71_wp _ (.tmp 34) (.tmp 42) rfl w.heap.size (.slice xa na ya) xs o _ _ _ _ _ rfl rfl H2.out.1.1 H2.out.2.2 H2.out.2.1 (by have := HNA.out; omega) H2.out.1.2.2.2.size ?_
          intro g' cap' w3 o3 g3 l3
          have H3 : Hid (OpsOwn w3 w.heap.size ((.slice (some ⟨g', 0, none⟩) (xs.length + 1) cap')) (xs ++ [o]) ∧ Blk w3 w.heap.size 24 #[.slice none 0 0] ∧ Blk w3 (w.heap.size + 1) 24 #[.slice xa na ya] ∧ w.grownBy w3 none) := by
            obtain ⟨vs, hvs, _⟩ := H2.out.1.1.1
            have ne1 : ∀ {b t c}, Blk (w1.alloc (.cells #[.int .i64 o.kind, .string ⟨o.table.toArray⟩, .slice xb nb yb, .slice xc nc yc, .bool o.has, .slice xd nd yd, .slice xe ne ye, .int .i64 o.most] 71)) b t c → t ≠ 71 → Value.ownBlock (.slice xa na ya) ≠ some b := fun hb ht e => by
              obtain ⟨cur, hc⟩ := owns_blk hvs e
              exact ht (blk_type hb hc)
            exact ⟨o3, H2.out.1.2.1.grown g3 (ne1 H2.out.1.2.1 (by decide)), H2.out.1.2.2.1.grown g3 (ne1 H2.out.1.2.2.1 (by decide)), grown_new H2.out.1.2.2.2 g3 (fun y hy => (H2.out.1.1.1.lt y hy).1)⟩
          clear o3 g3 l3 H2
          rw [HNA.out]
          refine hK.out _ _ (fun _ => H3.out.2.2.1.cell 0) ?_
          clear hK K
          try simp only [pN]
          refine wt (i := 11) (H3.out.2.2.1.cell 0) rfl rfl (fun wk hk => by skip; go_simp; try rfl) ?_
          try simp only [pN]
          refine wpHold_one (i := 12) rfl (by kernel_rfl) (by rfl) (fun K hK => ?_)
          have cc := H3.out.2.2.1.cell 0
          have zz := H3.out.2.2.1.free 0
          go_wp2_with fail
          refine hK.out _ _ (fun h => absurd rfl h) ?_
          clear hK K cc zz
          try simp only [pN]
          refine wpHold_done (by kernel_rfl) ?_
          refine (‹∀ (a : Act) (w : World), Code.wp Tryz.prog _ _ a w → _› _ _ ?_)
          have H4 : Hid (OpsOwn (w3.setCell ⟨(w.heap.size + 1), 0, none⟩ (.slice (some ⟨g', 0, none⟩) (na + 1) cap')) w.heap.size ((.slice (some ⟨g', 0, none⟩) (na + 1) cap')) (xs ++ [o]) ∧ Blk (w3.setCell ⟨(w.heap.size + 1), 0, none⟩ (.slice (some ⟨g', 0, none⟩) (na + 1) cap')) w.heap.size 24 #[.slice none 0 0] ∧ Blk (w3.setCell ⟨(w.heap.size + 1), 0, none⟩ (.slice (some ⟨g', 0, none⟩) (na + 1) cap')) (w.heap.size + 1) 24 #[(.slice (some ⟨g', 0, none⟩) (na + 1) cap')] ∧ w.grownBy (w3.setCell ⟨(w.heap.size + 1), 0, none⟩ (.slice (some ⟨g', 0, none⟩) (na + 1) cap')) none) := by
            have hg := grown_setCell w3 (w.heap.size + 1) 0 (.slice (some ⟨g', 0, none⟩) (na + 1) cap')
            have h1 := H3.out.1
            rw [HNA.out] at h1
            exact ⟨h1.set H3.out.2.2.1 (by decide) (by decide) hg, H3.out.2.1.grown hg (by simp), H3.out.2.2.1.store 0 _, grown_new H3.out.2.2.2 hg (fun y hy => by simp at hy; omega)⟩
          clear H3
          have wk2 : IntKind.i64.wrap ((k : Int) + 2) = ((k + 2 : Nat) : Int) := by rw [IntKind.wrap_i64]; have := HKN.out; omega
          have HXL2 : Hid (xs.length ≤ k) := HXL
          have mn : min (k + 2) n ≤ n := Nat.min_le_right _ _
          go_wp2_with fail
          go_roundw
          case rel => exact ⟨k + 1, min (k + 2) n, xs ++ [o], _, by have := HKN.out; omega, mn, by go_num, by first | rfl | (congr 1; omega) | go_num, by have := HXL2.out; unfold Hid; rw [List.length_append]; simp; omega, HT2, H4⟩
          case measure => have := HKN.out; simp [intOf]; omega
        case inr =>
          have j1 : ((k : Int) = (n : Int)) = False := eq_false (by omega)
          have j2 : ((k : Int) == (n : Int)) = false := by rw [beq_eq_false_iff_ne]; omega
          have j3 : (k = n) = False := eq_false (by omega)
          clear hbr hkk
          go_upto_region 9 with fail
          go_wp2_with fail
          clear cc
          refine wp_region_hold 12 (fun x => x.cell? ⟨(w.heap.size + 1), 0, none⟩ = some (.slice xa na ya)) (by kernel_rfl) ?_
          have G0 : Hid (OpsOwn wr.drew w.heap.size (.slice xa na ya) xs ∧ Blk wr.drew w.heap.size 24 #[.slice none 0 0] ∧ Blk wr.drew (w.heap.size + 1) 24 #[.slice xa na ya] ∧ w.grownBy wr.drew none) := by
            have hg := grown_drew wr none
            exact ⟨HO.out.1.grown hg, HO.out.2.1.grown hg (by simp), HO.out.2.2.1.grown hg (by simp), grown_trans HO.out.2.2.2 hg⟩
          generalize wr.drew = w0 at G0 ⊢
          clear HO
          refine wt (i := 0) (G0.out.2.2.1.cell 0) rfl rfl (fun wk hk => by skip; go_simp; try rfl) ?_
          try simp only [pN]
          refine wt (i := 1) (G0.out.2.2.1.cell 0) rfl rfl (fun wk hk => by skip; go_simp; try rfl) ?_
          try simp only [pN]
          refine wt (i := 2) (G0.out.2.2.1.cell 0) rfl rfl (fun wk hk => by skip; go_simp; try rfl) ?_
          try simp only [pN]
          refine wt (i := 3) (G0.out.2.2.1.cell 0) rfl rfl (fun wk hk => by skip; go_simp; try rfl) ?_
          try simp only [pN]
          refine wt (i := 4) (G0.out.2.2.1.cell 0) rfl rfl (fun wk hk => by skip; go_simp; try rfl) ?_
          try simp only [pN]
          refine wt (i := 5) (G0.out.2.2.1.cell 0) rfl rfl (fun wk hk => by skip; go_simp; try rfl) ?_
          try simp only [pN]
          refine wt (i := 6) (G0.out.2.2.1.cell 0) rfl rfl (fun wk hk => by skip; go_simp; try rfl) ?_
          try simp only [pN]
          refine wt (i := 7) (G0.out.2.2.1.cell 0) rfl rfl (fun wk hk => by skip; go_simp; try rfl) ?_
          try simp only [pN]
          refine wpHold_one (i := 8) rfl (by kernel_rfl) (by rfl) (fun K hK => ?_)
          go_wp2_with (go_at_call 56; refine (unline56 y _ HY.out (HE.out.grown G0.out.2.2.2)).mono ?_)
          rintro e w1 ⟨kk2, x, ol, t, o, rfl, ho, hg, hS⟩
          obtain ⟨xb, nb, yb, rfl⟩ := cut_slice ho.key
          obtain ⟨xc, nc, yc, rfl⟩ := cut_slice ho.value
          obtain ⟨xd, nd, yd, rfl⟩ := cut_slice ho.old
          obtain ⟨xe, ne, ye, rfl⟩ := cut_slice ho.tos
          have H1 : Hid ((OpsOwn w1 w.heap.size (.slice xa na ya) xs ∧ Blk w1 w.heap.size 24 #[.slice none 0 0] ∧ Blk w1 (w.heap.size + 1) 24 #[.slice xa na ya] ∧ w.grownBy w1 none) ∧ OpOwn w1 w.heap.size (.slice xb nb yb) (.slice xc nc yc) (.slice xd nd yd) (.slice xe ne ye) o) := ⟨⟨G0.out.1.grown hg, G0.out.2.1.grown hg (by simp), G0.out.2.2.1.grown hg (by simp), grown_trans G0.out.2.2.2 hg⟩, ho.mono G0.out.2.2.2.size⟩
          have HT2 : Hid (∀ l, chk l = 0 → s = callTxt l → PAt s l (xs ++ [o]) (k + 1) (min (k + 2) n)) := by
            intro l hl e
            obtain ⟨h1, h2, h3⟩ := HP.out l hl e
            rw [hS l[xs.length] ((may_all (chk_may hl)).2.2 _ (List.getElem_mem h1)) h2]
            exact h3
          clear hS ho hg G0 HP
          unfold opV Str
          go_wp2_with fail
          refine hK.out _ _ (fun _ => H1.out.1.2.2.1.cell 0) ?_
          clear hK K
          try simp only [pN]
          refine wpHold_one (i := 9) rfl (by kernel_rfl) (by rfl) (fun K hK => ?_)
          go_wp2_with fail
          have H2 : Hid ((OpsOwn (w1.alloc (.cells #[.int .i64 o.kind, .string ⟨o.table.toArray⟩, .slice xb nb yb, .slice xc nc yc, .bool o.has, .slice xd nd yd, .slice xe ne ye, .int .i64 o.most] 71)) w.heap.size (.slice xa na ya) xs ∧ Blk (w1.alloc (.cells #[.int .i64 o.kind, .string ⟨o.table.toArray⟩, .slice xb nb yb, .slice xc nc yc, .bool o.has, .slice xd nd yd, .slice xe ne ye, .int .i64 o.most] 71)) w.heap.size 24 #[.slice none 0 0] ∧ Blk (w1.alloc (.cells #[.int .i64 o.kind, .string ⟨o.table.toArray⟩, .slice xb nb yb, .slice xc nc yc, .bool o.has, .slice xd nd yd, .slice xe ne ye, .int .i64 o.most] 71)) (w.heap.size + 1) 24 #[.slice xa na ya] ∧ w.grownBy (w1.alloc (.cells #[.int .i64 o.kind, .string ⟨o.table.toArray⟩, .slice xb nb yb, .slice xc nc yc, .bool o.has, .slice xd nd yd, .slice xe ne ye, .int .i64 o.most] 71)) none) ∧ OpOwn (w1.alloc (.cells #[.int .i64 o.kind, .string ⟨o.table.toArray⟩, .slice xb nb yb, .slice xc nc yc, .bool o.has, .slice xd nd yd, .slice xe ne ye, .int .i64 o.most] 71)) w.heap.size (.slice xb nb yb) (.slice xc nc yc) (.slice xd nd yd) (.slice xe ne ye) o ∧ Blk (w1.alloc (.cells #[.int .i64 o.kind, .string ⟨o.table.toArray⟩, .slice xb nb yb, .slice xc nc yc, .bool o.has, .slice xd nd yd, .slice xe ne ye, .int .i64 o.most] 71)) w1.heap.size 71 #[.int .i64 o.kind, .string ⟨o.table.toArray⟩, .slice xb nb yb, .slice xc nc yc, .bool o.has, .slice xd nd yd, .slice xe ne ye, .int .i64 o.most]) := by
            have hg := World.grownBy_alloc w1 (.cells #[.int .i64 o.kind, .string ⟨o.table.toArray⟩, .slice xb nb yb, .slice xc nc yc, .bool o.has, .slice xd nd yd, .slice xe ne ye, .int .i64 o.most] 71) none
            exact ⟨⟨H1.out.1.1.grown hg, H1.out.1.2.1.grown hg (by simp), H1.out.1.2.2.1.grown hg (by simp), grown_trans H1.out.1.2.2.2 hg⟩, H1.out.2.grown hg, heap_alloc_new _ _⟩
          clear H1
          refine hK.out _ _ (fun _ => H2.out.1.2.2.1.cell 0) ?_
          clear hK K
          try simp only [pN]
          refine wpHold_one (i := 10) rfl (by kernel_rfl) (by rfl) (fun K hK => ?_)
          refine app71_wp _ (.tmp 34) (.tmp 42) rfl w.heap.size (.slice xa na ya) xs o _ _ _ _ _ rfl rfl H2.out.1.1 H2.out.2.2 H2.out.2.1 (by have := HNA.out; omega) H2.out.1.2.2.2.size ?_
          intro g' cap' w3 o3 g3 l3
          have H3 : Hid (OpsOwn w3 w.heap.size ((.slice (some ⟨g', 0, none⟩) (xs.length + 1) cap')) (xs ++ [o]) ∧ Blk w3 w.heap.size 24 #[.slice none 0 0] ∧ Blk w3 (w.heap.size + 1) 24 #[.slice xa na ya] ∧ w.grownBy w3 none) := by
            obtain ⟨vs, hvs, _⟩ := H2.out.1.1.1
            have ne1 : ∀ {b t c}, Blk (w1.alloc (.cells #[.int .i64 o.kind, .string ⟨o.table.toArray⟩, .slice xb nb yb, .slice xc nc yc, .bool o.has, .slice xd nd yd, .slice xe ne ye, .int .i64 o.most] 71)) b t c → t ≠ 71 → Value.ownBlock (.slice xa na ya) ≠ some b := fun hb ht e => by
              obtain ⟨cur, hc⟩ := owns_blk hvs e
              exact ht (blk_type hb hc)
            exact ⟨o3, H2.out.1.2.1.grown g3 (ne1 H2.out.1.2.1 (by decide)), H2.out.1.2.2.1.grown g3 (ne1 H2.out.1.2.2.1 (by decide)), grown_new H2.out.1.2.2.2 g3 (fun y hy => (H2.out.1.1.1.lt y hy).1)⟩
          clear o3 g3 l3 H2
          rw [HNA.out]
          refine hK.out _ _ (fun _ => H3.out.2.2.1.cell 0) ?_
          clear hK K
          try simp only [pN]
          refine wt (i := 11) (H3.out.2.2.1.cell 0) rfl rfl (fun wk hk => by skip; go_simp; try rfl) ?_
          try simp only [pN]
          refine wpHold_one (i := 12) rfl (by kernel_rfl) (by rfl) (fun K hK => ?_)
          have cc := H3.out.2.2.1.cell 0
          have zz := H3.out.2.2.1.free 0
          go_wp2_with fail
          refine hK.out _ _ (fun h => absurd rfl h) ?_
          clear hK K cc zz
          try simp only [pN]
          refine wpHold_done (by kernel_rfl) ?_
          refine (‹∀ (a : Act) (w : World), Code.wp Tryz.prog _ _ a w → _› _ _ ?_)
          have H4 : Hid (OpsOwn (w3.setCell ⟨(w.heap.size + 1), 0, none⟩ (.slice (some ⟨g', 0, none⟩) (na + 1) cap')) w.heap.size ((.slice (some ⟨g', 0, none⟩) (na + 1) cap')) (xs ++ [o]) ∧ Blk (w3.setCell ⟨(w.heap.size + 1), 0, none⟩ (.slice (some ⟨g', 0, none⟩) (na + 1) cap')) w.heap.size 24 #[.slice none 0 0] ∧ Blk (w3.setCell ⟨(w.heap.size + 1), 0, none⟩ (.slice (some ⟨g', 0, none⟩) (na + 1) cap')) (w.heap.size + 1) 24 #[(.slice (some ⟨g', 0, none⟩) (na + 1) cap')] ∧ w.grownBy (w3.setCell ⟨(w.heap.size + 1), 0, none⟩ (.slice (some ⟨g', 0, none⟩) (na + 1) cap')) none) := by
            have hg := grown_setCell w3 (w.heap.size + 1) 0 (.slice (some ⟨g', 0, none⟩) (na + 1) cap')
            have h1 := H3.out.1
            rw [HNA.out] at h1
            exact ⟨h1.set H3.out.2.2.1 (by decide) (by decide) hg, H3.out.2.1.grown hg (by simp), H3.out.2.2.1.store 0 _, grown_new H3.out.2.2.2 hg (fun y hy => by simp at hy; omega)⟩
          clear H3
          have wk2 : IntKind.i64.wrap ((k : Int) + 2) = ((k + 2 : Nat) : Int) := by rw [IntKind.wrap_i64]; have := HKN.out; omega
          have HXL2 : Hid (xs.length ≤ k) := HXL
          have mn : min (k + 2) n ≤ n := Nat.min_le_right _ _
          go_wp2_with fail
          go_roundw
          case rel => exact ⟨k + 1, min (k + 2) n, xs ++ [o], _, by have := HKN.out; omega, mn, by go_num, by first | rfl | (congr 1; omega) | go_num, by have := HXL2.out; unfold Hid; rw [List.length_append]; simp; omega, HT2, H4⟩
          case measure => have := HKN.out; simp [intOf]; omega
      · have hks : k < n := by
          rcases Nat.lt_or_ge k n with h | h
          · exact h
          · exact absurd (.inl (by omega)) hc
        have hk2 : k < s.length := by rw [HN.out]; exact hks
        have h5 : s[k] ≠ 59 := fun e => hc (.inr ⟨hk2, e⟩)
        have HT2 : Hid (∀ l, chk l = 0 → s = callTxt l → PAt s l xs (k + 1) a) := fun l hl e => pat_step (HT.out l hl e) hk2 h5
        obtain ⟨ch, hcc⟩ : ∃ c, s[k] = c := ⟨_, rfl⟩
        have hidx : ∀ wk, (Instr.index 9 (.string X) (.int .i64 k)).run Tryz.prog wk = .ok (.int .u8 (ch.toNat : Int)) wk := fun wk => by
          have := Names.run_index9 s k hk2 wk
          rw [hcc] at this
          rw [HX.out]
          exact this
        have hc59 : ch.toNat ≠ 59 := fun e => h5 (by rw [hcc]; exact UInt8.toNat_inj.1 (by simpa using e))
        have j1 : ((k : Int) = (n : Int)) = False := eq_false (by omega)
        have j2 : ((k : Int) == (n : Int)) = false := by rw [beq_eq_false_iff_ne]; omega
        have j3 : (k = n) = False := eq_false (by omega)
        have j4 : ((ch.toNat : Int) = 59) = False := eq_false (by omega)
        have j5 : ((ch.toNat : Int) == 59) = false := by rw [beq_eq_false_iff_ne]; omega
        have HXL2 : Hid (xs.length ≤ k) := HXL
        clear hc h5 hcc hc59 hk2 HT
        go_wp2_with fail
        go_roundw
        case rel => exact ⟨k + 1, a, xs, _, by omega, by omega, by go_num, rfl, by have := HXL2.out; unfold Hid; omega, HT2, HO⟩
        case measure => simp [intOf]; omega
    · have HEX : Hid (∀ l, chk l = 0 → s = callTxt l → xs = l) := by
        intro l hl e
        rcases HT.out l hl e with ⟨h1, _, h3, _⟩ | ⟨_, h2⟩
        · exfalso
          have h16 := (may_all (chk_may hl)).2.1
          apply hgo
          refine ⟨by rw [← HN.out]; exact h1, ?_⟩
          omega
        · exact h2
      have HO2 : Hid (OpsOwn wr w.heap.size (.slice xa na ya) xs ∧ Blk wr w.heap.size 24 #[.slice none 0 0] ∧ Blk wr (w.heap.size + 1) 24 #[.slice xa na ya] ∧ w.grownBy wr none) := HO.out
      have h3 : n < k ∨ (k ≤ n ∧ 16 < na) := by omega
      clear HT HO hgo hna
      rcases h3 with h3 | ⟨h3, h4⟩
      case inl =>
        have i2 : ((k : Int) ≤ (n : Int)) = False := eq_false (by omega)
        go_upto_region 11 with fail
        clear cc
        have c1 := HO2.out.2.2.1.cell 0
        go_wp2_with (go_at_call 12; refine (check12 _ xs _ HO2.out.1.ops).mono ?_)
        rintro e w5 ⟨rfl, hg⟩
        have E0 : Hid (OpsOwn w5 w.heap.size (.slice xa na ya) xs ∧ Blk w5 w.heap.size 24 #[.slice none 0 0] ∧ Blk w5 (w.heap.size + 1) 24 #[.slice xa na ya] ∧ w.grownBy w5 none) := ⟨HO2.out.1.grown hg, HO2.out.2.1.grown hg (by simp), HO2.out.2.2.1.grown hg (by simp), grown_trans HO2.out.2.2.2 hg⟩
        clear hg c1 HO2
        have c1 := E0.out.2.2.1.cell 0
        have HNO : Hid (¬ (chk xs = 0 ∧ callTxt xs = s) → parseC s = ([], 4)) := by
          intro h
          unfold parseC
          rw [HN.out, if_pos hb]
          cases hp : pParse s with
          | none => rfl
          | some l =>
            exfalso
            obtain ⟨q1, q2⟩ := pParse_iff.1 hp
            have q3 := HEX.out l q1 q2
            exact h ⟨by rw [q3]; exact q1, by rw [q3]; exact q2.symm⟩
        by_cases h0 : chk xs = 0
        case neg =>
          have HR : Hid (parseC s = ([], 4)) := HNO.out (fun h => h0 h.1)
          obtain ⟨cx, hcx⟩ : ∃ c, chk xs = c := ⟨_, rfl⟩
          rw [hcx] at h0 ⊢
          have q0 : (cx = 0) = False := eq_false h0
          have q1 : (cx != 0) = true := by rw [bne_iff_ne]; exact h0
          clear h0 hcx
          have cc := E0.out.2.1.cell 0
          have zz := E0.out.2.1.free 0
          have cs := (E0.out.2.1.store 0 (.slice none 0 0)).cell 0
          go_wp2_with fail
          refine bodyPost_ret (v := .tuple #[.agg #[.slice none 0 0], .int .i64 4]) (by simp [results, Tryz.results26, go_sem, cs]) rfl ?_
          rw [HR.out]
          exact ⟨_, rfl, ⟨lrow_nil _ _, by simp⟩, grown_new E0.out.2.2.2 (grown_setCell _ _ _ _) (fun y hy => by simp at hy; omega)⟩
        have H0 : Hid (chk xs = 0) := h0
        rw [h0]
        clear h0
        go_wp2_with (go_at_call 21; refine (text21 _ xs _ E0.out.1.ops (chk_may H0.out)).mono ?_)
        rintro e w6 ⟨rfl, hg⟩
        have E1 : Hid (OpsOwn w6 w.heap.size (.slice xa na ya) xs ∧ Blk w6 w.heap.size 24 #[.slice none 0 0] ∧ Blk w6 (w.heap.size + 1) 24 #[.slice xa na ya] ∧ w.grownBy w6 none) := ⟨E0.out.1.grown hg, E0.out.2.1.grown hg (by simp), E0.out.2.2.1.grown hg (by simp), grown_trans E0.out.2.2.2 hg⟩
        clear hg c1 E0
        unfold Str
        have cc := E1.out.2.1.cell 0
        have zz := E1.out.2.1.free 0
        by_cases ht : callTxt xs = s
        case neg =>
          have HR : Hid (parseC s = ([], 4)) := HNO.out (fun h => ht h.2)
          have q0 : (callTxt xs == X.toList) = false := by rw [HX.out]; rw [beq_eq_false_iff_ne]; intro e; exact ht (by simpa using e)
          have q1 : (callTxt xs != X.toList) = true := by unfold bne; rw [q0]; rfl
          clear ht
          have cs := (E1.out.2.1.store 0 (.slice none 0 0)).cell 0
          go_wp2_with fail
          refine bodyPost_ret (v := .tuple #[.agg #[.slice none 0 0], .int .i64 4]) (by simp [results, Tryz.results26, go_sem, cs]) rfl ?_
          rw [HR.out]
          exact ⟨_, rfl, ⟨lrow_nil _ _, by simp⟩, grown_new E1.out.2.2.2 (grown_setCell _ _ _ _) (fun y hy => by simp at hy; omega)⟩
        have HR : Hid (parseC s = (xs, 0)) := by unfold Hid parseC; rw [HN.out, if_pos hb, pParse_iff.2 ⟨H0.out, ht.symm⟩]
        have q0 : (callTxt xs == X.toList) = true := by rw [HX.out, ht]; simp
        have q1 : (callTxt xs != X.toList) = false := by unfold bne; rw [q0]; rfl
        clear ht
        have c1 := E1.out.2.2.1.cell 0
        have cs := (E1.out.2.1.store 0 (.slice xa na ya)).cell 0
        go_wp2_with fail
        refine bodyPost_ret (v := .tuple #[.agg #[.slice xa na ya], .int .i64 0]) (by simp [results, Tryz.results26, go_sem, cs]) rfl ?_
        rw [HR.out]
        exact ⟨_, rfl, E1.out.1.set E1.out.2.1 (by decide) (by decide) (grown_setCell _ _ _ _), grown_new E1.out.2.2.2 (grown_setCell _ _ _ _) (fun y hy => by simp at hy; omega)⟩
      case inr =>
        have i2 : (k : Int) ≤ (n : Int) := by omega
        have i3 : ((na : Int) ≤ 16) = False := eq_false (by omega)
        go_upto_region 11 with fail
        clear cc
        have c1 := HO2.out.2.2.1.cell 0
        go_wp2_with (go_at_call 12; refine (check12 _ xs _ HO2.out.1.ops).mono ?_)
        rintro e w5 ⟨rfl, hg⟩
        have E0 : Hid (OpsOwn w5 w.heap.size (.slice xa na ya) xs ∧ Blk w5 w.heap.size 24 #[.slice none 0 0] ∧ Blk w5 (w.heap.size + 1) 24 #[.slice xa na ya] ∧ w.grownBy w5 none) := ⟨HO2.out.1.grown hg, HO2.out.2.1.grown hg (by simp), HO2.out.2.2.1.grown hg (by simp), grown_trans HO2.out.2.2.2 hg⟩
        clear hg c1 HO2
        have c1 := E0.out.2.2.1.cell 0
        have HNO : Hid (¬ (chk xs = 0 ∧ callTxt xs = s) → parseC s = ([], 4)) := by
          intro h
          unfold parseC
          rw [HN.out, if_pos hb]
          cases hp : pParse s with
          | none => rfl
          | some l =>
            exfalso
            obtain ⟨q1, q2⟩ := pParse_iff.1 hp
            have q3 := HEX.out l q1 q2
            exact h ⟨by rw [q3]; exact q1, by rw [q3]; exact q2.symm⟩
        by_cases h0 : chk xs = 0
        case neg =>
          have HR : Hid (parseC s = ([], 4)) := HNO.out (fun h => h0 h.1)
          obtain ⟨cx, hcx⟩ : ∃ c, chk xs = c := ⟨_, rfl⟩
          rw [hcx] at h0 ⊢
          have q0 : (cx = 0) = False := eq_false h0
          have q1 : (cx != 0) = true := by rw [bne_iff_ne]; exact h0
          clear h0 hcx
          have cc := E0.out.2.1.cell 0
          have zz := E0.out.2.1.free 0
          have cs := (E0.out.2.1.store 0 (.slice none 0 0)).cell 0
          go_wp2_with fail
          refine bodyPost_ret (v := .tuple #[.agg #[.slice none 0 0], .int .i64 4]) (by simp [results, Tryz.results26, go_sem, cs]) rfl ?_
          rw [HR.out]
          exact ⟨_, rfl, ⟨lrow_nil _ _, by simp⟩, grown_new E0.out.2.2.2 (grown_setCell _ _ _ _) (fun y hy => by simp at hy; omega)⟩
        have H0 : Hid (chk xs = 0) := h0
        rw [h0]
        clear h0
        go_wp2_with (go_at_call 21; refine (text21 _ xs _ E0.out.1.ops (chk_may H0.out)).mono ?_)
        rintro e w6 ⟨rfl, hg⟩
        have E1 : Hid (OpsOwn w6 w.heap.size (.slice xa na ya) xs ∧ Blk w6 w.heap.size 24 #[.slice none 0 0] ∧ Blk w6 (w.heap.size + 1) 24 #[.slice xa na ya] ∧ w.grownBy w6 none) := ⟨E0.out.1.grown hg, E0.out.2.1.grown hg (by simp), E0.out.2.2.1.grown hg (by simp), grown_trans E0.out.2.2.2 hg⟩
        clear hg c1 E0
        unfold Str
        have cc := E1.out.2.1.cell 0
        have zz := E1.out.2.1.free 0
        by_cases ht : callTxt xs = s
        case neg =>
          have HR : Hid (parseC s = ([], 4)) := HNO.out (fun h => ht h.2)
          have q0 : (callTxt xs == X.toList) = false := by rw [HX.out]; rw [beq_eq_false_iff_ne]; intro e; exact ht (by simpa using e)
          have q1 : (callTxt xs != X.toList) = true := by unfold bne; rw [q0]; rfl
          clear ht
          have cs := (E1.out.2.1.store 0 (.slice none 0 0)).cell 0
          go_wp2_with fail
          refine bodyPost_ret (v := .tuple #[.agg #[.slice none 0 0], .int .i64 4]) (by simp [results, Tryz.results26, go_sem, cs]) rfl ?_
          rw [HR.out]
          exact ⟨_, rfl, ⟨lrow_nil _ _, by simp⟩, grown_new E1.out.2.2.2 (grown_setCell _ _ _ _) (fun y hy => by simp at hy; omega)⟩
        have HR : Hid (parseC s = (xs, 0)) := by unfold Hid parseC; rw [HN.out, if_pos hb, pParse_iff.2 ⟨H0.out, ht.symm⟩]
        have q0 : (callTxt xs == X.toList) = true := by rw [HX.out, ht]; simp
        have q1 : (callTxt xs != X.toList) = false := by unfold bne; rw [q0]; rfl
        clear ht
        have c1 := E1.out.2.2.1.cell 0
        have cs := (E1.out.2.1.store 0 (.slice xa na ya)).cell 0
        go_wp2_with fail
        refine bodyPost_ret (v := .tuple #[.agg #[.slice xa na ya], .int .i64 0]) (by simp [results, Tryz.results26, go_sem, cs]) rfl ?_
        rw [HR.out]
        exact ⟨_, rfl, E1.out.1.set E1.out.2.1 (by decide) (by decide) (grown_setCell _ _ _ _), grown_new E1.out.2.2.2 (grown_setCell _ _ _ _) (fun y hy => by simp at hy; omega)⟩
end Go.Proofs.YtfocmbnhkldnfaaGreatDoor
