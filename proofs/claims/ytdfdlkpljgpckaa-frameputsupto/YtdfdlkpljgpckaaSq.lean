/-
  Bytes split into a header and a body, where there are nine bytes or more.
-/
import Derived.Test.YtdfdlkpljgpckaaSp
namespace Go.Proofs.Ytdfdlkpljgpckaa
open Go.RowKit Disk
open Crc (sum sum_lt)

/-- The same array stored into its block. -/
theorem store54_same {o : Oper} {a : Act} {w : World} {K : Act → World → Prop} {Q : Exit → Act → World → Prop} (hds : o.dst = none) (p x : Operand) (ho : o.op = .store 54 p x) (g : Nat) (C : Array Value) (hi : (Try.prog.info? 54).map (·.size) = some C.size) (h1 : C.all (·.oneCell') = true) (hp : a.eval p = .pointer (some ⟨g, 0, none⟩)) (hx : a.eval x = .agg C) (hg : Blk w g 54 C) (h : K a w) : o.wp Try.prog a w K Q := by
  have hrun : (Instr.storeAt 54 (.pointer (some ⟨g, 0, none⟩)) (.agg C)).run Try.prog w = .ok () w := by
    simp only [Instr.storeAt, Instr.sureAddr, Sem.run_bind, Sem.run_pure, Result.andThen]
    have := run_storeVar_row w g 54 54 C C hg hi rfl h1
    rw [setRow_self _ _ _ _ _ hg] at this
    exact this
  unfold Oper.wp
  simp [execOp, ho, hp, hx, hrun, Result.andThen]
  rw [Oper.upon_skip, hds]
  exact h

set_option maxRecDepth 100000 in
set_option maxHeartbeats 4000000 in
theorem split33_nine (v : Value) (L : List UInt8) (w : World) (hs : Seg w v L) (hL : 9 ≤ L.length) : Calls Try.prog 33 #[v] w (SplPost L w) := by
  obtain ⟨ao, cap, hv⟩ := hs.shape
  subst hv
  obtain ⟨n, hn⟩ : ∃ n, L.length = n := ⟨_, rfl⟩
  have HS : Hid (Seg w (.slice ao n cap) L) := by rw [← hn]; exact hs
  have HN : Hid _ := hn
  have hcap : n ≤ cap ∧ cap ≤ 9223372036854775807 ∧ ∃ b off, ao = some ⟨b, off, none⟩ := by
    obtain ⟨ao', cap', hv, h1, h2, h3, h4⟩ := hs
    simp at hv
    obtain ⟨rfl, rfl⟩ := hv
    obtain ⟨b, off, e, _⟩ := h4 0 (by omega)
    unfold maxLen at h2
    exact ⟨by omega, by omega, b, off, e⟩
  obtain ⟨hcap, hcap2, b, off, rfl⟩ := hcap
  rw [hn] at hL ⊢
  clear hn hs
  have ht9 : top9 L = L.take 9 := top9_take (by rw [HN.out]; exact hL)
  have HT : Hid _ := ht9
  clear ht9
  obtain ⟨a0, a1, a2, a3, a4, a5, a6, a7, a8, hH⟩ := nine_of (top9_len L)
  have HM : Hid (unbe a1 a2 a3 a4 = lenOf L) := by
    unfold Hid lenOf
    have e : ∀ i, i < 9 → L.getD i 0 = (L.take 9).getD i 0 := fun i hi => by
      rw [List.getD_eq_getElem?_getD, List.getD_eq_getElem?_getD, List.getElem?_take, if_pos hi]
    rw [e 1 (by omega), e 2 (by omega), e 3 (by omega), e 4 (by omega), ← HT.out, hH]
    rfl
  have HH : Hid _ := hH
  clear hH
  obtain ⟨m, hm⟩ : ∃ m, lenOf L = m := ⟨_, rfl⟩
  have hmlt := lenOf_lt L
  rw [hm] at HM hmlt
  have HLM : Hid _ := hm
  clear hm
  have HZ : Hid _ := bv_size (top9_len L)
  obtain ⟨C, hC⟩ : ∃ C, (BV (top9 L)).toArray = C := ⟨_, rfl⟩
  have HA : Hid _ := bv_all (top9 L)
  have HC : Hid _ := hC
  rw [hC] at HZ HA
  clear hC
  have h9 : ¬ ((9 : Int) < 9) := by omega
  go_enter Try.func33, Try.ntmps33
  go_wp2_with (refine copy9 rfl (.tmp 7) (.tmp 8) rfl w.heap.size _ L rfl rfl (HS.out.grown (World.grownBy_alloc _ _ _)) (heap_alloc_new _ _) w (World.grownBy_alloc _ _ _) (Nat.le_refl _) ?_)
  intro w2 HB HG
  rw [HC.out] at HB
  rw [HN.out, show Nat.min n 9 = 9 from Nat.min_eq_right (by omega)]
  go_wp2_with fail
  have HQ : Hid (∀ x : World, w2.grownBy x none → x.cell? ⟨w.heap.size, 0, none⟩ = some (.int .u8 a0.toNat) ∧ x.cell? ⟨w.heap.size, 1, none⟩ = some (.int .u8 a1.toNat) ∧ x.cell? ⟨w.heap.size, 2, none⟩ = some (.int .u8 a2.toNat) ∧ x.cell? ⟨w.heap.size, 3, none⟩ = some (.int .u8 a3.toNat) ∧ x.cell? ⟨w.heap.size, 4, none⟩ = some (.int .u8 a4.toNat) ∧ x.cell? ⟨w.heap.size, 5, none⟩ = some (.int .u8 a5.toNat) ∧ x.cell? ⟨w.heap.size, 6, none⟩ = some (.int .u8 a6.toNat) ∧ x.cell? ⟨w.heap.size, 7, none⟩ = some (.int .u8 a7.toNat) ∧ x.cell? ⟨w.heap.size, 8, none⟩ = some (.int .u8 a8.toNat)) := fun x hx => by
    have hb := HB.out.grown hx (by simp)
    rw [← HC.out, HH.out] at hb
    exact ⟨hb.cell 0, hb.cell 1, hb.cell 2, hb.cell 3, hb.cell 4, hb.cell 5, hb.cell 6, hb.cell 7, hb.cell 8⟩
  by_cases hc9 : cap = 9
  · have hn9 : n = 9 := by omega
    subst hc9
    subst hn9
    refine wp_region_noPanic ?_
    refine wp_region_hold 1000 (fun x => w2.grownBy x none) (by kernel_rfl) ?_
    refine wpHold_take (i := 0) (v := _) (grown_drew _ _) rfl rfl (by kernel_rfl) (by kernel_rfl) (by kernel_rfl) (by kernel_rfl) (by kernel_rfl) (fun _ _ _ h => h) (by rfl) (fun wk hk => by obtain ⟨k0, k1, k2, k3, k4, k5, k6, k7, k8⟩ := HQ.out wk hk; go_simp; try rfl) ?_
    try simp only [Act.put, List.setIfInBounds_toArray, List.set_cons_zero, List.set_cons_succ]
    refine wpHold_take (i := 2) (v := _) (grown_drew _ _) rfl rfl (by kernel_rfl) (by kernel_rfl) (by kernel_rfl) (by kernel_rfl) (by kernel_rfl) (fun _ _ _ h => h) (by rfl) (fun wk hk => by obtain ⟨k0, k1, k2, k3, k4, k5, k6, k7, k8⟩ := HQ.out wk hk; go_simp; try rfl) ?_
    try simp only [Act.put, List.setIfInBounds_toArray, List.set_cons_zero, List.set_cons_succ]
    refine wpHold_take (i := 3) (v := _) (grown_drew _ _) rfl rfl (by kernel_rfl) (by kernel_rfl) (by kernel_rfl) (by kernel_rfl) (by kernel_rfl) (fun _ _ _ h => h) (by rfl) (fun wk hk => by obtain ⟨k0, k1, k2, k3, k4, k5, k6, k7, k8⟩ := HQ.out wk hk; go_simp; try rfl) ?_
    try simp only [Act.put, List.setIfInBounds_toArray, List.set_cons_zero, List.set_cons_succ]
    refine wpHold_one (i := 1) rfl (by kernel_rfl) (by rfl) (fun K hK => ?_)
    go_simp
    refine (length37 a0 a1 a2 a3 a4 a5 a6 a7 a8 _).mono ?_
    rintro e w3 ⟨rfl, g3⟩
    have G3 : Hid (w2.grownBy w3 none) := grown_trans (grown_drew _ _) g3
    clear g3
    rw [HM.out]
    go_wp2_with fail
    refine hK.out _ _ (fun _ => G3.out) ?_
    clear hK K
    try simp only [Act.put, List.setIfInBounds_toArray, List.set_cons_zero, List.set_cons_succ]
    refine wpHold_take (i := 4) (v := _) (G3.out) rfl rfl (by kernel_rfl) (by kernel_rfl) (by kernel_rfl) (by kernel_rfl) (by kernel_rfl) (fun _ _ _ h => h) (by rfl) (fun wk hk => by obtain ⟨k0, k1, k2, k3, k4, k5, k6, k7, k8⟩ := HQ.out wk hk; go_simp; try rfl) ?_
    try simp only [Act.put, List.setIfInBounds_toArray, List.set_cons_zero, List.set_cons_succ]
    refine wpHold_take (i := 5) (v := _) (G3.out) rfl rfl (by kernel_rfl) (by kernel_rfl) (by kernel_rfl) (by kernel_rfl) (by kernel_rfl) (fun _ _ _ h => h) (by rfl) (fun wk hk => by obtain ⟨k0, k1, k2, k3, k4, k5, k6, k7, k8⟩ := HQ.out wk hk; go_simp; try rfl) ?_
    try simp only [Act.put, List.setIfInBounds_toArray, List.set_cons_zero, List.set_cons_succ]
    refine wpHold_done (by kernel_rfl) ?_
    refine (‹∀ (a : Act) (w : World), Code.wp Try.prog _ _ a w → _› _ _ ?_)
    have HB3 : Hid (Blk w3 w.heap.size 54 C) := HB.out.grown G3.out (by simp)
    have HG3 : Hid (w.grownBy w3 none) := grown_trans HG.out G3.out
    have HR : Hid (Seg w3 (.slice (some ⟨b, off, none⟩) 0 0) (L.drop 9)) := by
      have := seg_drop_all 9 (by rw [HN.out]; omega) rfl (by rw [HN.out]; exact HS.out : Seg w (.slice (some ⟨b, off, none⟩) L.length 9) L); rw [HN.out] at this
      exact this.grown HG3.out
    by_cases hm1 : 2147483647 < m
    · have hmi : (2147483647 : Int) < (m : Int) := by omega
      have HE : Hid (spl L = 141) := by unfold Hid spl; rw [HN.out, HLM.out, if_neg (by omega), if_pos hm1]
      go_wp2_with (first | (refine Crc.wpList_load_row _ rfl (.tmp 2) 54 rfl w.heap.size 9 5 C Try.underlying54 HZ.out rfl HB3.out ?_) | (refine Crc.wpList_store_row _ rfl rfl (.tmp 2) (.tmp 18) 54 rfl w.heap.size C C HZ.out rfl HA.out rfl rfl HB3.out ?_; rw [setRow_self _ _ _ _ _ HB3.out]))
      refine bodyPost_ret (told3 rfl (load54 HB3.out HZ.out) rfl rfl rfl) rfl ?_
      refine ⟨top9 L, _, top9_len L, ?_, HG3.out, fun _ => rfl, fun h => absurd h (by rw [HE.out]; decide)⟩
      rw [HE.out, HC.out]
      rfl
    · have hmi : ¬ (2147483647 : Int) < (m : Int) := by omega
      by_cases hm2 : 0 < m
      · have hmj : ((0 : Nat) : Int) < (m : Int) := by omega
        have HE : Hid (spl L = 140) := by unfold Hid spl; rw [HN.out, HLM.out, if_neg (by omega), if_neg hm1, if_pos (by omega)]
        go_wp2_with (first | (refine Crc.wpList_load_row _ rfl (.tmp 2) 54 rfl w.heap.size 9 5 C Try.underlying54 HZ.out rfl HB3.out ?_) | (refine Crc.wpList_store_row _ rfl rfl (.tmp 2) (.tmp 24) 54 rfl w.heap.size C C HZ.out rfl HA.out rfl rfl HB3.out ?_; rw [setRow_self _ _ _ _ _ HB3.out]))
        refine bodyPost_ret (told3 rfl (load54 HB3.out HZ.out) rfl rfl rfl) rfl ?_
        refine ⟨top9 L, _, top9_len L, ?_, HG3.out, fun _ => rfl, fun h => absurd h (by rw [HE.out]; decide)⟩
        rw [HE.out, HC.out]
        rfl
      · have hmj : ¬ ((0 : Nat) : Int) < (m : Int) := by omega
        have HE : Hid (spl L = 0) := by unfold Hid spl; rw [HN.out, HLM.out, if_neg (by omega), if_neg hm1, if_neg (by omega)]
        obtain rfl : m = 0 := by omega
        go_wp2_with fail
        have HB4 : Hid (Blk w3 w.heap.size 54 (BV [a0, a1, a2, a3, a4, a5, a6, a7, a8]).toArray) := by
          have := HB3.out
          rw [← HC.out, HH.out] at this
          exact this
        refine wp_region_noPanic ?_
        refine wp_region_hold 1000 (fun x => w3.grownBy x none) (by kernel_rfl) ?_
        refine wpHold_take (i := 0) (v := _) (grown_drew _ _) rfl rfl (by kernel_rfl) (by kernel_rfl) (by kernel_rfl) (by kernel_rfl) (by kernel_rfl) (fun _ _ _ h => h) (by rfl) (fun wk hk => by obtain ⟨k0, k1, k2, k3, k4, k5, k6, k7, k8⟩ := HQ.out wk (grown_trans G3.out hk); go_simp; try rfl) ?_
        try simp only [Act.put, List.setIfInBounds_toArray, List.set_cons_zero, List.set_cons_succ]
        refine wpHold_take (i := 1) (v := _) (grown_drew _ _) rfl rfl (by kernel_rfl) (by kernel_rfl) (by kernel_rfl) (by kernel_rfl) (by kernel_rfl) (fun _ _ _ h => h) (by rfl) (fun wk hk => by obtain ⟨k0, k1, k2, k3, k4, k5, k6, k7, k8⟩ := HQ.out wk (grown_trans G3.out hk); go_simp; try rfl) ?_
        try simp only [Act.put, List.setIfInBounds_toArray, List.set_cons_zero, List.set_cons_succ]
        refine wpHold_take (i := 2) (v := _) (grown_drew _ _) rfl rfl (by kernel_rfl) (by kernel_rfl) (by kernel_rfl) (by kernel_rfl) (by kernel_rfl) (fun _ _ _ h => h) (by rfl) (fun wk hk => by obtain ⟨k0, k1, k2, k3, k4, k5, k6, k7, k8⟩ := HQ.out wk (grown_trans G3.out hk); go_simp; try rfl) ?_
        try simp only [Act.put, List.setIfInBounds_toArray, List.set_cons_zero, List.set_cons_succ]
        refine wpHold_take (i := 3) (v := _) (grown_drew _ _) rfl rfl (by kernel_rfl) (by kernel_rfl) (by kernel_rfl) (by kernel_rfl) (by kernel_rfl) (fun _ _ _ h => h) (by rfl) (fun wk hk => by obtain ⟨k0, k1, k2, k3, k4, k5, k6, k7, k8⟩ := HQ.out wk (grown_trans G3.out hk); go_simp; try rfl) ?_
        try simp only [Act.put, List.setIfInBounds_toArray, List.set_cons_zero, List.set_cons_succ]
        refine wpHold_one (i := 4) rfl (by kernel_rfl) (by rfl) (fun K hK => ?_)
        refine store54_same rfl (.tmp 2) (.tmp 25) rfl w.heap.size (BV [a0, a1, a2, a3, a4, a5, a6, a7, a8]).toArray (bv_size rfl) (bv_all _) rfl rfl (HB4.out.grown (grown_drew _ none) (by simp)) ?_
        refine hK.out _ _ (fun _ => grown_drew _ _) ?_
        clear hK K
        try simp only [Act.put, List.setIfInBounds_toArray, List.set_cons_zero, List.set_cons_succ]
        refine wpHold_take (i := 5) (v := _) (grown_drew _ _) rfl rfl (by kernel_rfl) (by kernel_rfl) (by kernel_rfl) (by kernel_rfl) (by kernel_rfl) (fun _ _ _ h => h) (by rfl) (fun wk hk => by obtain ⟨k0, k1, k2, k3, k4, k5, k6, k7, k8⟩ := HQ.out wk (grown_trans G3.out hk); go_simp; try rfl) ?_
        try simp only [Act.put, List.setIfInBounds_toArray, List.set_cons_zero, List.set_cons_succ]
        refine wpHold_take (i := 6) (v := _) (grown_drew _ _) rfl rfl (by kernel_rfl) (by kernel_rfl) (by kernel_rfl) (by kernel_rfl) (by kernel_rfl) (fun _ _ _ h => h) (by rfl) (fun wk hk => by obtain ⟨k0, k1, k2, k3, k4, k5, k6, k7, k8⟩ := HQ.out wk (grown_trans G3.out hk); go_simp; try rfl) ?_
        try simp only [Act.put, List.setIfInBounds_toArray, List.set_cons_zero, List.set_cons_succ]
        refine wpHold_done (by kernel_rfl) ?_
        refine (‹∀ (a : Act) (w : World), Code.wp Try.prog _ _ a w → _› _ _ ?_)
        go_wp2_with fail
        refine bodyPost_ret (told3 rfl (load54 (HB4.out.grown (grown_drew _ none) (by simp)) (bv_size rfl)) rfl rfl rfl) rfl ?_
        refine ⟨top9 L, .slice (some ⟨b, off, none⟩) 0 0, top9_len L, ?_, grown_trans HG3.out (grown_drew _ _), fun h => absurd HE.out h, fun _ => ⟨HT.out, ?_⟩⟩
        · rw [HE.out, HH.out]
          rfl
        · have hr := HR.out.grown (grown_drew w3 none)
          unfold bodyOf
          rw [HLM.out]
          have hl : (L.drop 9).length = 0 := by rw [List.length_drop, HN.out]
          exact seg_take 0 (by rw [hl]; omega) (by rw [hl]; exact hr)
  · have hcl : 9 < cap := by omega
    have hcn : ¬ cap = 9 := hc9
    have hLi : (9 : Int) ≤ (n : Int) := by omega
    refine wp_region_noPanic ?_
    refine wp_region_hold 1000 (fun x => w2.grownBy x none) (by kernel_rfl) ?_
    refine wpHold_take (i := 0) (v := _) (grown_drew _ _) rfl rfl (by kernel_rfl) (by kernel_rfl) (by kernel_rfl) (by kernel_rfl) (by kernel_rfl) (fun _ _ _ h => h) (by rfl) (fun wk hk => by obtain ⟨k0, k1, k2, k3, k4, k5, k6, k7, k8⟩ := HQ.out wk hk; go_simp; try rfl) ?_
    try simp only [Act.put, List.setIfInBounds_toArray, List.set_cons_zero, List.set_cons_succ]
    refine wpHold_take (i := 2) (v := _) (grown_drew _ _) rfl rfl (by kernel_rfl) (by kernel_rfl) (by kernel_rfl) (by kernel_rfl) (by kernel_rfl) (fun _ _ _ h => h) (by rfl) (fun wk hk => by obtain ⟨k0, k1, k2, k3, k4, k5, k6, k7, k8⟩ := HQ.out wk hk; go_simp; try rfl) ?_
    try simp only [Act.put, List.setIfInBounds_toArray, List.set_cons_zero, List.set_cons_succ]
    refine wpHold_take (i := 3) (v := _) (grown_drew _ _) rfl rfl (by kernel_rfl) (by kernel_rfl) (by kernel_rfl) (by kernel_rfl) (by kernel_rfl) (fun _ _ _ h => h) (by rfl) (fun wk hk => by obtain ⟨k0, k1, k2, k3, k4, k5, k6, k7, k8⟩ := HQ.out wk hk; go_simp; try rfl) ?_
    try simp only [Act.put, List.setIfInBounds_toArray, List.set_cons_zero, List.set_cons_succ]
    refine wpHold_one (i := 1) rfl (by kernel_rfl) (by rfl) (fun K hK => ?_)
    go_simp
    refine (length37 a0 a1 a2 a3 a4 a5 a6 a7 a8 _).mono ?_
    rintro e w3 ⟨rfl, g3⟩
    have G3 : Hid (w2.grownBy w3 none) := grown_trans (grown_drew _ _) g3
    clear g3
    rw [HM.out]
    go_wp2_with fail
    refine hK.out _ _ (fun _ => G3.out) ?_
    clear hK K
    try simp only [Act.put, List.setIfInBounds_toArray, List.set_cons_zero, List.set_cons_succ]
    refine wpHold_take (i := 4) (v := _) (G3.out) rfl rfl (by kernel_rfl) (by kernel_rfl) (by kernel_rfl) (by kernel_rfl) (by kernel_rfl) (fun _ _ _ h => h) (by rfl) (fun wk hk => by obtain ⟨k0, k1, k2, k3, k4, k5, k6, k7, k8⟩ := HQ.out wk hk; go_simp; try rfl) ?_
    try simp only [Act.put, List.setIfInBounds_toArray, List.set_cons_zero, List.set_cons_succ]
    refine wpHold_take (i := 5) (v := _) (G3.out) rfl rfl (by kernel_rfl) (by kernel_rfl) (by kernel_rfl) (by kernel_rfl) (by kernel_rfl) (fun _ _ _ h => h) (by rfl) (fun wk hk => by obtain ⟨k0, k1, k2, k3, k4, k5, k6, k7, k8⟩ := HQ.out wk hk; go_simp; try rfl) ?_
    try simp only [Act.put, List.setIfInBounds_toArray, List.set_cons_zero, List.set_cons_succ]
    refine wpHold_done (by kernel_rfl) ?_
    refine (‹∀ (a : Act) (w : World), Code.wp Try.prog _ _ a w → _› _ _ ?_)
    have HB3 : Hid (Blk w3 w.heap.size 54 C) := HB.out.grown G3.out (by simp)
    have HG3 : Hid (w.grownBy w3 none) := grown_trans HG.out G3.out
    have HR : Hid (Seg w3 (.slice (some ⟨b, off + 9, none⟩) (n - 9) (cap - 9)) (L.drop 9)) := by
      have := seg_drop 9 (by rw [HN.out]; omega) (by rw [HN.out]; exact HS.out : Seg w (.slice (some ⟨b, off, none⟩) L.length cap) L); rw [HN.out] at this
      exact this.grown HG3.out
    by_cases hm1 : 2147483647 < m
    · have hmi : (2147483647 : Int) < (m : Int) := by omega
      have HE : Hid (spl L = 141) := by unfold Hid spl; rw [HN.out, HLM.out, if_neg (by omega), if_pos hm1]
      go_wp2_with (first | (refine Crc.wpList_load_row _ rfl (.tmp 2) 54 rfl w.heap.size 9 5 C Try.underlying54 HZ.out rfl HB3.out ?_) | (refine Crc.wpList_store_row _ rfl rfl (.tmp 2) (.tmp 18) 54 rfl w.heap.size C C HZ.out rfl HA.out rfl rfl HB3.out ?_; rw [setRow_self _ _ _ _ _ HB3.out]))
      refine bodyPost_ret (told3 rfl (load54 HB3.out HZ.out) rfl rfl rfl) rfl ?_
      refine ⟨top9 L, _, top9_len L, ?_, HG3.out, fun _ => rfl, fun h => absurd h (by rw [HE.out]; decide)⟩
      rw [HE.out, HC.out]
      rfl
    · have hmi : ¬ (2147483647 : Int) < (m : Int) := by omega
      by_cases hm2 : n - 9 < m
      · have hmj : ((n - 9 : Nat) : Int) < (m : Int) := by omega
        have HE : Hid (spl L = 140) := by unfold Hid spl; rw [HN.out, HLM.out, if_neg (by omega), if_neg hm1, if_pos (by omega)]
        go_wp2_with (first | (refine Crc.wpList_load_row _ rfl (.tmp 2) 54 rfl w.heap.size 9 5 C Try.underlying54 HZ.out rfl HB3.out ?_) | (refine Crc.wpList_store_row _ rfl rfl (.tmp 2) (.tmp 24) 54 rfl w.heap.size C C HZ.out rfl HA.out rfl rfl HB3.out ?_; rw [setRow_self _ _ _ _ _ HB3.out]))
        refine bodyPost_ret (told3 rfl (load54 HB3.out HZ.out) rfl rfl rfl) rfl ?_
        refine ⟨top9 L, _, top9_len L, ?_, HG3.out, fun _ => rfl, fun h => absurd h (by rw [HE.out]; decide)⟩
        rw [HE.out, HC.out]
        rfl
      · have hmj : ¬ ((n - 9 : Nat) : Int) < (m : Int) := by omega
        have hmc : m ≤ cap - 9 := by omega
        have HE : Hid (spl L = 0) := by unfold Hid spl; rw [HN.out, HLM.out, if_neg (by omega), if_neg hm1, if_neg (by omega)]
        go_wp2_with fail
        have HB4 : Hid (Blk w3 w.heap.size 54 (BV [a0, a1, a2, a3, a4, a5, a6, a7, a8]).toArray) := by
          have := HB3.out
          rw [← HC.out, HH.out] at this
          exact this
        refine wp_region_noPanic ?_
        refine wp_region_hold 1000 (fun x => w3.grownBy x none) (by kernel_rfl) ?_
        refine wpHold_take (i := 0) (v := _) (grown_drew _ _) rfl rfl (by kernel_rfl) (by kernel_rfl) (by kernel_rfl) (by kernel_rfl) (by kernel_rfl) (fun _ _ _ h => h) (by rfl) (fun wk hk => by obtain ⟨k0, k1, k2, k3, k4, k5, k6, k7, k8⟩ := HQ.out wk (grown_trans G3.out hk); go_simp; try rfl) ?_
        try simp only [Act.put, List.setIfInBounds_toArray, List.set_cons_zero, List.set_cons_succ]
        refine wpHold_take (i := 1) (v := _) (grown_drew _ _) rfl rfl (by kernel_rfl) (by kernel_rfl) (by kernel_rfl) (by kernel_rfl) (by kernel_rfl) (fun _ _ _ h => h) (by rfl) (fun wk hk => by obtain ⟨k0, k1, k2, k3, k4, k5, k6, k7, k8⟩ := HQ.out wk (grown_trans G3.out hk); go_simp; try rfl) ?_
        try simp only [Act.put, List.setIfInBounds_toArray, List.set_cons_zero, List.set_cons_succ]
        refine wpHold_take (i := 2) (v := _) (grown_drew _ _) rfl rfl (by kernel_rfl) (by kernel_rfl) (by kernel_rfl) (by kernel_rfl) (by kernel_rfl) (fun _ _ _ h => h) (by rfl) (fun wk hk => by obtain ⟨k0, k1, k2, k3, k4, k5, k6, k7, k8⟩ := HQ.out wk (grown_trans G3.out hk); go_simp; try rfl) ?_
        try simp only [Act.put, List.setIfInBounds_toArray, List.set_cons_zero, List.set_cons_succ]
        refine wpHold_take (i := 3) (v := _) (grown_drew _ _) rfl rfl (by kernel_rfl) (by kernel_rfl) (by kernel_rfl) (by kernel_rfl) (by kernel_rfl) (fun _ _ _ h => h) (by rfl) (fun wk hk => by obtain ⟨k0, k1, k2, k3, k4, k5, k6, k7, k8⟩ := HQ.out wk (grown_trans G3.out hk); go_simp; try rfl) ?_
        try simp only [Act.put, List.setIfInBounds_toArray, List.set_cons_zero, List.set_cons_succ]
        refine wpHold_one (i := 4) rfl (by kernel_rfl) (by rfl) (fun K hK => ?_)
        refine store54_same rfl (.tmp 2) (.tmp 25) rfl w.heap.size (BV [a0, a1, a2, a3, a4, a5, a6, a7, a8]).toArray (bv_size rfl) (bv_all _) rfl rfl (HB4.out.grown (grown_drew _ none) (by simp)) ?_
        refine hK.out _ _ (fun _ => grown_drew _ _) ?_
        clear hK K
        try simp only [Act.put, List.setIfInBounds_toArray, List.set_cons_zero, List.set_cons_succ]
        refine wpHold_take (i := 5) (v := _) (grown_drew _ _) rfl rfl (by kernel_rfl) (by kernel_rfl) (by kernel_rfl) (by kernel_rfl) (by kernel_rfl) (fun _ _ _ h => h) (by rfl) (fun wk hk => by obtain ⟨k0, k1, k2, k3, k4, k5, k6, k7, k8⟩ := HQ.out wk (grown_trans G3.out hk); go_simp; try rfl) ?_
        try simp only [Act.put, List.setIfInBounds_toArray, List.set_cons_zero, List.set_cons_succ]
        refine wpHold_take (i := 6) (v := _) (grown_drew _ _) rfl rfl (by kernel_rfl) (by kernel_rfl) (by kernel_rfl) (by kernel_rfl) (by kernel_rfl) (fun _ _ _ h => h) (by rfl) (fun wk hk => by obtain ⟨k0, k1, k2, k3, k4, k5, k6, k7, k8⟩ := HQ.out wk (grown_trans G3.out hk); go_simp; try rfl) ?_
        try simp only [Act.put, List.setIfInBounds_toArray, List.set_cons_zero, List.set_cons_succ]
        refine wpHold_done (by kernel_rfl) ?_
        refine (‹∀ (a : Act) (w : World), Code.wp Try.prog _ _ a w → _› _ _ ?_)
        go_wp2_with fail
        refine bodyPost_ret (told3 rfl (load54 (HB4.out.grown (grown_drew _ none) (by simp)) (bv_size rfl)) rfl rfl rfl) rfl ?_
        refine ⟨top9 L, .slice (some ⟨b, off + 9, none⟩) m (cap - 9), top9_len L, ?_, grown_trans HG3.out (grown_drew _ _), fun h => absurd HE.out h, fun _ => ⟨HT.out, ?_⟩⟩
        · rw [HE.out, HH.out]
          rfl
        · have hr := HR.out.grown (grown_drew w3 none)
          unfold bodyOf
          rw [HLM.out]
          have hl : (L.drop 9).length = n - 9 := by rw [List.length_drop, HN.out]
          exact seg_take m (by rw [hl]; omega) (by rw [hl]; exact hr)

theorem split33 (v : Value) (L : List UInt8) (w : World) (hs : Seg w v L) : Calls Try.prog 33 #[v] w (SplPost L w) := by
  by_cases h : L.length < 9
  · exact split33_few v L w hs h
  · exact split33_nine v L w hs (by omega)
end Go.Proofs.Ytdfdlkpljgpckaa
