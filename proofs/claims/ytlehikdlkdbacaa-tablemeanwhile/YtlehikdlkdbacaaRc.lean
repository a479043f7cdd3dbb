/-
  The document's table: Size, Scan.
-/
import Derived.Test.YtlehikdlkdbacaaRb
namespace Go.Proofs.Ytlehikdlkdbacaa
open Go.RowKit Disk
open Names (cmpL keyB valueB inB)

set_option maxRecDepth 100000 in
set_option maxHeartbeats 4000000 in
theorem size44 (b : Nat) (l : List PRow) (hg : Good l) (w : World) (ht : Dt w b l) :
    Calls Try.prog 44 #[.pointer (some ⟨b, 0, none⟩)] w fun e w' => e = .returned (.int .i64 (sizeL l : Nat)) ∧ ∃ m, w' = w.drewN m := by
  obtain ⟨ao, n, cap, hn, hc, hc', HT⟩ := dt_open ht
  have HN : Hid (l.length = n ∧ Good l) := ⟨hn, hg⟩
  have hn6 : n ≤ 1000000 := by rw [← hn]; exact hg.2.2
  clear ht hn hg
  have q0 := HT.out.1.cell 0
  simp at q0
  have HQ : Hid (∀ m, (w.drewN m).cell? ⟨b, 0, none⟩ = some (.slice ao n cap)) := fun m => q0
  clear q0
  go_enter Try.func44, Try.ntmps44
  go_wp2_with fail
  go_loopw [3, 4] (fun x i wr => ∃ (k q s : Nat), k ≤ n ∧ i = .int .i64 (k : Int) ∧ x = .int .i64 (s : Int) ∧ s = sizeL (l.take k) ∧ wr = w.drewN q) (fun _ i _ => n - (intOf i).toNat)
  case atStart => exact ⟨0, 0, 0, Nat.zero_le _, rfl, rfl, by simp [sizeL], rfl⟩
  case round =>
    obtain ⟨k, q, s, hk, rfl, rfl, hs, rfl⟩ := hrel
    have HS : Hid (s = sizeL (l.take k)) := hs
    have q0 := HQ.out q
    rcases Nat.lt_or_ge k n with hlt | hge
    · have ka : k < l.length := by rw [HN.out.1]; exact hlt
      obtain ⟨b1, o1, x1, y1, rfl, c1, d1, s1, t1⟩ := rws_at HT.out.2.rws k ka
      obtain ⟨ax, nx, cx, rfl, hx, _, _⟩ := Names.seg_open s1
      obtain ⟨ay, ny, cy, rfl, hy, _, _⟩ := Names.seg_open t1
      have HC : Hid (∀ m, (w.drewN m).cell? ⟨b1, o1 + k * 2, none⟩ = some (.slice ax nx cx) ∧ (w.drewN m).cell? ⟨b1, o1 + k * 2 + 1, none⟩ = some (.slice ay ny cy)) := fun m => ⟨c1, d1⟩
      have hb := okP_len (HN.out.2.2.1 _ (List.getElem_mem ka))
      have hb2 := size_le (ok_take HN.out.2.2.1 k)
      rw [List.length_take] at hb2
      rw [hx, hy] at hb
      rw [← hs] at hb2
      have i0 : (0 : Int) ≤ (k : Int) := by omega
      have i1 : (k : Int) < (n : Int) := by omega
      have HX : Hid (sizeL (l.take (k + 1)) = s + (nx + ny)) := by rw [Hid, size_take ka, ← hs, hx, hy]
      have j0 : s ≤ 320000000 := by
        have : min k l.length ≤ 1000000 := by omega
        omega
      have j1 : nx ≤ 64 := by omega
      have j2 : ny ≤ 256 := by omega
      have e0 := (HC.out q).1
      have e1 := (HC.out q).2
      clear c1 d1 s1 t1 hx hy hb hb2 hs
      go_wp2_with fail
      refine wp_region_noPanic ?_
      refine wp_region_hold 1000 (fun y => ∃ m, y = w.drewN m) (by kernel_rfl) ?_
      have G0 : Hid (∃ m, (w.drewN q).drew = w.drewN m) := ⟨q + 1, rfl⟩
      generalize (w.drewN q).drew = wd at G0 ⊢
      refine wpHold_take (i := 0) (v := _) (G0.out) rfl rfl (by kernel_rfl) (by kernel_rfl) (by kernel_rfl) (by kernel_rfl) (by kernel_rfl) (fun _ _ _ h => h) (by rfl) (fun wk hk => by obtain ⟨m, rfl⟩ := hk; have z0 := HQ.out m; obtain ⟨z1, z2⟩ := HC.out m; go_simp; try rfl) ?_
      try simp only [Act.put, List.setIfInBounds_toArray, List.set_cons_zero, List.set_cons_succ]
      refine wpHold_take (i := 1) (v := _) (G0.out) rfl rfl (by kernel_rfl) (by kernel_rfl) (by kernel_rfl) (by kernel_rfl) (by kernel_rfl) (fun _ _ _ h => h) (by rfl) (fun wk hk => by obtain ⟨m, rfl⟩ := hk; have z0 := HQ.out m; obtain ⟨z1, z2⟩ := HC.out m; go_simp; try rfl) ?_
      try simp only [Act.put, List.setIfInBounds_toArray, List.set_cons_zero, List.set_cons_succ]
      refine wpHold_take (i := 2) (v := _) (G0.out) rfl rfl (by kernel_rfl) (by kernel_rfl) (by kernel_rfl) (by kernel_rfl) (by kernel_rfl) (fun _ _ _ h => h) (by rfl) (fun wk hk => by obtain ⟨m, rfl⟩ := hk; have z0 := HQ.out m; obtain ⟨z1, z2⟩ := HC.out m; go_simp; try rfl) ?_
      try simp only [Act.put, List.setIfInBounds_toArray, List.set_cons_zero, List.set_cons_succ]
      refine wpHold_take (i := 3) (v := _) (G0.out) rfl rfl (by kernel_rfl) (by kernel_rfl) (by kernel_rfl) (by kernel_rfl) (by kernel_rfl) (fun _ _ _ h => h) (by rfl) (fun wk hk => by obtain ⟨m, rfl⟩ := hk; have z0 := HQ.out m; obtain ⟨z1, z2⟩ := HC.out m; go_simp; try rfl) ?_
      try simp only [Act.put, List.setIfInBounds_toArray, List.set_cons_zero, List.set_cons_succ]
      refine wpHold_take (i := 4) (v := _) (G0.out) rfl rfl (by kernel_rfl) (by kernel_rfl) (by kernel_rfl) (by kernel_rfl) (by kernel_rfl) (fun _ _ _ h => h) (by rfl) (fun wk hk => by obtain ⟨m, rfl⟩ := hk; have z0 := HQ.out m; obtain ⟨z1, z2⟩ := HC.out m; go_simp; try rfl) ?_
      try simp only [Act.put, List.setIfInBounds_toArray, List.set_cons_zero, List.set_cons_succ]
      refine wpHold_take (i := 5) (v := _) (G0.out) rfl rfl (by kernel_rfl) (by kernel_rfl) (by kernel_rfl) (by kernel_rfl) (by kernel_rfl) (fun _ _ _ h => h) (by rfl) (fun wk hk => by obtain ⟨m, rfl⟩ := hk; have z0 := HQ.out m; obtain ⟨z1, z2⟩ := HC.out m; go_simp; try rfl) ?_
      try simp only [Act.put, List.setIfInBounds_toArray, List.set_cons_zero, List.set_cons_succ]
      refine wpHold_take (i := 6) (v := _) (G0.out) rfl rfl (by kernel_rfl) (by kernel_rfl) (by kernel_rfl) (by kernel_rfl) (by kernel_rfl) (fun _ _ _ h => h) (by rfl) (fun wk hk => by obtain ⟨m, rfl⟩ := hk; have z0 := HQ.out m; obtain ⟨z1, z2⟩ := HC.out m; go_simp; try rfl) ?_
      try simp only [Act.put, List.setIfInBounds_toArray, List.set_cons_zero, List.set_cons_succ]
      refine wpHold_take (i := 7) (v := _) (G0.out) rfl rfl (by kernel_rfl) (by kernel_rfl) (by kernel_rfl) (by kernel_rfl) (by kernel_rfl) (fun _ _ _ h => h) (by rfl) (fun wk hk => by obtain ⟨m, rfl⟩ := hk; have z0 := HQ.out m; obtain ⟨z1, z2⟩ := HC.out m; go_simp; try rfl) ?_
      try simp only [Act.put, List.setIfInBounds_toArray, List.set_cons_zero, List.set_cons_succ]
      refine wpHold_take (i := 8) (v := _) (G0.out) rfl rfl (by kernel_rfl) (by kernel_rfl) (by kernel_rfl) (by kernel_rfl) (by kernel_rfl) (fun _ _ _ h => h) (by rfl) (fun wk hk => by obtain ⟨m, rfl⟩ := hk; have z0 := HQ.out m; obtain ⟨z1, z2⟩ := HC.out m; go_simp; try rfl) ?_
      try simp only [Act.put, List.setIfInBounds_toArray, List.set_cons_zero, List.set_cons_succ]
      refine wpHold_take (i := 9) (v := _) (G0.out) rfl rfl (by kernel_rfl) (by kernel_rfl) (by kernel_rfl) (by kernel_rfl) (by kernel_rfl) (fun _ _ _ h => h) (by rfl) (fun wk hk => by obtain ⟨m, rfl⟩ := hk; have z0 := HQ.out m; obtain ⟨z1, z2⟩ := HC.out m; go_simp; try rfl) ?_
      try simp only [Act.put, List.setIfInBounds_toArray, List.set_cons_zero, List.set_cons_succ]
      refine wpHold_take (i := 10) (v := _) (G0.out) rfl rfl (by kernel_rfl) (by kernel_rfl) (by kernel_rfl) (by kernel_rfl) (by kernel_rfl) (fun _ _ _ h => h) (by rfl) (fun wk hk => by obtain ⟨m, rfl⟩ := hk; have z0 := HQ.out m; obtain ⟨z1, z2⟩ := HC.out m; go_simp; try rfl) ?_
      try simp only [Act.put, List.setIfInBounds_toArray, List.set_cons_zero, List.set_cons_succ]
      refine wpHold_take (i := 11) (v := _) (G0.out) rfl rfl (by kernel_rfl) (by kernel_rfl) (by kernel_rfl) (by kernel_rfl) (by kernel_rfl) (fun _ _ _ h => h) (by rfl) (fun wk hk => by obtain ⟨m, rfl⟩ := hk; have z0 := HQ.out m; obtain ⟨z1, z2⟩ := HC.out m; go_simp; try rfl) ?_
      try simp only [Act.put, List.setIfInBounds_toArray, List.set_cons_zero, List.set_cons_succ]
      refine wpHold_take (i := 12) (v := _) (G0.out) rfl rfl (by kernel_rfl) (by kernel_rfl) (by kernel_rfl) (by kernel_rfl) (by kernel_rfl) (fun _ _ _ h => h) (by rfl) (fun wk hk => by obtain ⟨m, rfl⟩ := hk; have z0 := HQ.out m; obtain ⟨z1, z2⟩ := HC.out m; go_simp; try rfl) ?_
      try simp only [Act.put, List.setIfInBounds_toArray, List.set_cons_zero, List.set_cons_succ]
      refine wpHold_take (i := 13) (v := _) (G0.out) rfl rfl (by kernel_rfl) (by kernel_rfl) (by kernel_rfl) (by kernel_rfl) (by kernel_rfl) (fun _ _ _ h => h) (by rfl) (fun wk hk => by obtain ⟨m, rfl⟩ := hk; have z0 := HQ.out m; obtain ⟨z1, z2⟩ := HC.out m; go_simp; try rfl) ?_
      try simp only [Act.put, List.setIfInBounds_toArray, List.set_cons_zero, List.set_cons_succ]
      refine wpHold_take (i := 14) (v := _) (G0.out) rfl rfl (by kernel_rfl) (by kernel_rfl) (by kernel_rfl) (by kernel_rfl) (by kernel_rfl) (fun _ _ _ h => h) (by rfl) (fun wk hk => by obtain ⟨m, rfl⟩ := hk; have z0 := HQ.out m; obtain ⟨z1, z2⟩ := HC.out m; go_simp; try rfl) ?_
      try simp only [Act.put, List.setIfInBounds_toArray, List.set_cons_zero, List.set_cons_succ]
      refine wpHold_take (i := 15) (v := _) (G0.out) rfl rfl (by kernel_rfl) (by kernel_rfl) (by kernel_rfl) (by kernel_rfl) (by kernel_rfl) (fun _ _ _ h => h) (by rfl) (fun wk hk => by obtain ⟨m, rfl⟩ := hk; have z0 := HQ.out m; obtain ⟨z1, z2⟩ := HC.out m; go_simp; try rfl) ?_
      try simp only [Act.put, List.setIfInBounds_toArray, List.set_cons_zero, List.set_cons_succ]
      refine wpHold_take (i := 16) (v := _) (G0.out) rfl rfl (by kernel_rfl) (by kernel_rfl) (by kernel_rfl) (by kernel_rfl) (by kernel_rfl) (fun _ _ _ h => h) (by rfl) (fun wk hk => by obtain ⟨m, rfl⟩ := hk; have z0 := HQ.out m; obtain ⟨z1, z2⟩ := HC.out m; go_simp; try rfl) ?_
      try simp only [Act.put, List.setIfInBounds_toArray, List.set_cons_zero, List.set_cons_succ]
      refine wpHold_take (i := 17) (v := _) (G0.out) rfl rfl (by kernel_rfl) (by kernel_rfl) (by kernel_rfl) (by kernel_rfl) (by kernel_rfl) (fun _ _ _ h => h) (by rfl) (fun wk hk => by obtain ⟨m, rfl⟩ := hk; have z0 := HQ.out m; obtain ⟨z1, z2⟩ := HC.out m; go_simp; try rfl) ?_
      try simp only [Act.put, List.setIfInBounds_toArray, List.set_cons_zero, List.set_cons_succ]
      refine wpHold_take (i := 18) (v := _) (G0.out) rfl rfl (by kernel_rfl) (by kernel_rfl) (by kernel_rfl) (by kernel_rfl) (by kernel_rfl) (fun _ _ _ h => h) (by rfl) (fun wk hk => by obtain ⟨m, rfl⟩ := hk; have z0 := HQ.out m; obtain ⟨z1, z2⟩ := HC.out m; go_simp; try rfl) ?_
      try simp only [Act.put, List.setIfInBounds_toArray, List.set_cons_zero, List.set_cons_succ]
      refine wpHold_take (i := 19) (v := _) (G0.out) rfl rfl (by kernel_rfl) (by kernel_rfl) (by kernel_rfl) (by kernel_rfl) (by kernel_rfl) (fun _ _ _ h => h) (by rfl) (fun wk hk => by obtain ⟨m, rfl⟩ := hk; have z0 := HQ.out m; obtain ⟨z1, z2⟩ := HC.out m; go_simp; try rfl) ?_
      try simp only [Act.put, List.setIfInBounds_toArray, List.set_cons_zero, List.set_cons_succ]
      refine wpHold_take (i := 20) (v := _) (G0.out) rfl rfl (by kernel_rfl) (by kernel_rfl) (by kernel_rfl) (by kernel_rfl) (by kernel_rfl) (fun _ _ _ h => h) (by rfl) (fun wk hk => by obtain ⟨m, rfl⟩ := hk; have z0 := HQ.out m; obtain ⟨z1, z2⟩ := HC.out m; go_simp; try rfl) ?_
      try simp only [Act.put, List.setIfInBounds_toArray, List.set_cons_zero, List.set_cons_succ]
      refine wpHold_take (i := 21) (v := _) (G0.out) rfl rfl (by kernel_rfl) (by kernel_rfl) (by kernel_rfl) (by kernel_rfl) (by kernel_rfl) (fun _ _ _ h => h) (by rfl) (fun wk hk => by obtain ⟨m, rfl⟩ := hk; have z0 := HQ.out m; obtain ⟨z1, z2⟩ := HC.out m; go_simp; try rfl) ?_
      try simp only [Act.put, List.setIfInBounds_toArray, List.set_cons_zero, List.set_cons_succ]
      refine wpHold_done (by kernel_rfl) ?_
      refine (‹∀ (a : Act) (w : World), Code.wp Try.prog _ _ a w → _› _ _ ?_)
      go_wp2_with fail
      go_roundw
      case rel =>
        obtain ⟨m2, hm2⟩ := G0.out
        exact ⟨k + 1, m2, s + (nx + ny), by omega, by go_num, by rw [show IntKind.i64.wrap ((s : Int) + (nx : Int)) = (s : Int) + (nx : Int) from by rw [IntKind.wrap_i64]; omega, show IntKind.i64.wrap ((s : Int) + (nx : Int) + (ny : Int)) = ((s + (nx + ny) : Nat) : Int) from by rw [IntKind.wrap_i64]; omega], HX.out.symm, hm2⟩
      case measure => simp [intOf]; omega
    · have hkn : k = n := by omega
      subst hkn
      go_wp2_with fail
      go_ret
      have e : l.take k = l := List.take_of_length_le (Nat.le_of_eq HN.out.1)
      exact ⟨by rw [HS.out, e]; rfl, _, rfl⟩

/-- What lies in a span, read row by row. -/
theorem filter_span {l : List PRow} (hr : Rise l) (F T : Bs) : l.filter (fun r => inB r.1 F T) = (l.drop (rankL l F)).take (spanE l F T - rankL l F) := by
  have h1 := rank_le l F
  have h2 := span_ge l F T
  have h3 := span_le l F T
  obtain ⟨r, hrk⟩ : ∃ r, rankL l F = r := ⟨_, rfl⟩
  obtain ⟨e, hsp⟩ : ∃ e, spanE l F T = e := ⟨_, rfl⟩
  rw [hrk] at h1 h2 ⊢
  rw [hsp] at h2 h3 ⊢
  have el : l = l.take r ++ ((l.drop r).take (e - r) ++ l.drop e) := by
    have : l.drop e = (l.drop r).drop (e - r) := by rw [List.drop_drop]; congr 1; omega
    rw [this, List.take_append_drop, List.take_append_drop]
  have f1 : (l.take r).filter (fun r => inB r.1 F T) = [] := by
    rw [List.filter_eq_nil_iff]
    intro x hx
    obtain ⟨i, hi, rfl⟩ := List.mem_iff_getElem.1 hx
    simp at hi
    have := rank_lt (l := l) (key := F) (i := i) (by omega) (by omega)
    simp only [List.getElem_take]
    simp [inB]
    omega
  have f2 : ((l.drop r).take (e - r)).filter (fun r => inB r.1 F T) = (l.drop r).take (e - r) := by
    rw [List.filter_eq_self]
    intro x hx
    obtain ⟨i, hi, rfl⟩ := List.mem_iff_getElem.1 hx
    simp at hi
    simp only [List.getElem_take, List.getElem_drop]
    have g1 : ¬ cmpL l[r + i].1 F < 0 := fun h => by
      have := rise_below (key := F) hr (i := r) (j := r + i) (by omega) (by omega) (by omega) h
      have h' := rank_ge (l := l) (key := F) (by omega)
      simp only [hrk] at h'
      exact h' this
    have g2 : T.length = 0 ∨ cmpL l[r + i].1 T < 0 := by
      by_cases ht : T.length = 0
      · exact .inl ht
      · refine .inr (rank_lt (l := l) (key := T) (i := r + i) ?_ (by omega))
        unfold spanE at hsp
        rw [if_neg ht, hrk] at hsp
        omega
    simp only [inB, Bool.and_eq_true, Bool.or_eq_true, decide_eq_true_eq]
    exact ⟨by omega, g2⟩
  have f3 : (l.drop e).filter (fun r => inB r.1 F T) = [] := by
    rw [List.filter_eq_nil_iff]
    intro x hx
    obtain ⟨i, hi, rfl⟩ := List.mem_iff_getElem.1 hx
    simp at hi
    simp only [List.getElem_drop]
    have ht : ¬ T.length = 0 := fun ht => by
      unfold spanE at hsp
      rw [if_pos ht] at hsp
      omega
    have g1 : ¬ cmpL l[e + i].1 T < 0 := fun h => by
      unfold spanE at hsp
      rw [if_neg ht, hrk] at hsp
      have hlt : rankL l T < l.length := by omega
      have := rise_below (key := T) hr (i := rankL l T) (j := e + i) (by omega) (by omega) (by omega) h
      exact rank_ge hlt this
    simp only [inB, Bool.and_eq_true, Bool.or_eq_true, decide_eq_true_eq, not_and, not_or]
    exact fun _ => ⟨ht, g1⟩
  conv => lhs; rw [el]
  rw [List.filter_append, List.filter_append, f1, f2, f3]
  simp
theorem scan_filter {l : List PRow} (hr : Rise l) (F T : Bs) (most : Int) : (l.filter (fun r => inB r.1 F T)).take most.toNat = scanL l F T most := by
  rw [filter_span hr, List.take_take]
  rfl

set_option maxRecDepth 100000 in
set_option maxHeartbeats 8000000 in
theorem scan42 (b : Nat) (fv tv : Value) (most : Int) (l : List PRow) (F T : Bs) (hg : Good l) (w : World) (ht : Dt w b l) (hf : Seg w fv F) (hT : Seg w tv T) :
    Calls Try.prog 42 #[.pointer (some ⟨b, 0, none⟩), fv, tv, .int .i64 most] w fun e w' => ∃ v, e = .returned v ∧ TRws w' 0 v (scanL l F T most) ∧ w.grownBy w' none := by
  obtain ⟨ao, n, cap, hn, hc, hc', HT⟩ := dt_open ht
  have HN : Hid (l.length = n ∧ Good l) := ⟨hn, hg⟩
  have HS : Hid (Seg w fv F ∧ Seg w tv T) := ⟨hf, hT⟩
  have hn6 : n ≤ 1000000 := by rw [← hn]; exact hg.2.2
  clear ht hn hg hf hT
  have HQ : Hid (∀ y : World, w.grownBy y none → y.cell? ⟨b, 0, none⟩ = some (.slice ao n cap)) := fun y hy => (HT.out.1.grown hy (by simp)).cell 0
  obtain ⟨ks, hks, hrs⟩ := HT.out.2
  have HKS : Hid (w.ownsRow 0 45 2 (.slice ao n cap) n (rcells ks) ∧ ROwn w 0 ks l) := ⟨by rw [HN.out.1] at hks; exact hks, hrs⟩
  clear hks hrs
  obtain ⟨m, hm⟩ : ∃ m, most.toNat = m := ⟨_, rfl⟩
  have HM : Hid (most.toNat = m) := hm
  obtain ⟨P, hP⟩ : ∃ P : PRow → Bool, (fun r => inB r.1 F T) = P := ⟨_, rfl⟩
  have HP : Hid ((l.filter P).take m = scanL l F T most ∧ ∀ r, P r = inB r.1 F T) := ⟨by rw [← hP, ← hm]; exact scan_filter HN.out.2.1 F T most, fun r => by rw [← hP]⟩
  clear hP
  go_enter Try.func42, Try.ntmps42
  go_wp2_with fail
  go_loopw [9, 10] (fun v i wr => ∃ (k c : Nat) (qs : List (Value × Value)) (L : List PRow), k ≤ n ∧ c ≤ k ∧ i = .int .i64 (k : Int) ∧ L.length = c ∧ ((l.take k).filter P).take m = L ∧ c = ((l.take k).filter P).length ∧ wr.ownsRow w.heap.size 45 2 v c (rcells qs) ∧ ROwn w 0 qs L ∧ w.grownBy wr none) (fun _ i _ => n - (intOf i).toNat)
  case atStart => exact ⟨0, 0, [], [], Nat.zero_le _, Nat.le_refl _, rfl, rfl, by simp, by simp, World.ownsRow_nil _ _ _ _, ⟨rfl, fun j h => absurd h (by simp)⟩, grown_refl _ _⟩
  case round =>
    obtain ⟨k, c, qs, L, hk, hck, rfl, hL, hF, hcF, hown, hro, hgr⟩ := hrel
    have HR : Hid (L.length = c ∧ ((l.take k).filter P).take m = L ∧ c = ((l.take k).filter P).length ∧ wr.ownsRow w.heap.size 45 2 u9 c (rcells qs) ∧ ROwn w 0 qs L ∧ w.grownBy wr none) := ⟨hL, hF, hcF, hown, hro, hgr⟩
    obtain ⟨a9, c9, e9, _, _⟩ := (vec_of_owns hown).shape
    subst e9
    clear hL hF hcF hown hro hgr
    have q0 := HQ.out wr HR.out.2.2.2.2.2
    rcases Nat.lt_or_ge k n with hlt | hge
    · have ka : k < l.length := by rw [HN.out.1]; exact hlt
      have i0 : (0 : Int) ≤ (k : Int) := by omega
      have i1 : (k : Int) < (n : Int) := by omega
      by_cases hcm : (c : Int) < most
      · have kk : k < ks.length := by rw [HKS.out.2.1]; exact ka
        obtain ⟨hx0, hy0⟩ := HKS.out.2.2 k kk ka
        obtain ⟨r1, r2⟩ := rcells_at ks k kk
        obtain ⟨b1, o1, e1, c1⟩ := (vec_of_owns HKS.out.1).at _ _ r1
        obtain ⟨b2, o2, e2, d1⟩ := (vec_of_owns HKS.out.1).at _ _ r2
        subst e1
        simp at e2
        obtain ⟨rfl, rfl⟩ := e2
        obtain ⟨x1, hx1⟩ : ∃ x, ks[k].1 = x := ⟨_, rfl⟩
        obtain ⟨y1, hy1⟩ : ∃ x, ks[k].2 = x := ⟨_, rfl⟩
        rw [hx1] at hx0 c1
        rw [hy1] at hy0 d1
        obtain ⟨ax, cx, ex⟩ := hx0.seg.shape
        obtain ⟨ay, cy, ey⟩ := hy0.seg.shape
        obtain ⟨nx, hnx⟩ : ∃ nx, l[k].1.length = nx := ⟨_, rfl⟩
        obtain ⟨ny, hny⟩ : ∃ ny, l[k].2.length = ny := ⟨_, rfl⟩
        rw [hnx] at ex
        rw [hny] at ey
        subst ex ey
        have HX : Hid (Disk.Own w 0 (.slice ax nx cx) l[k].1 ∧ Disk.Own w 0 (.slice ay ny cy) l[k].2) := ⟨hx0, hy0⟩
        have HC : Hid (∀ y : World, w.grownBy y none → y.cell? ⟨b1, o1 + k * 2, none⟩ = some (.slice ax nx cx) ∧ y.cell? ⟨b1, o1 + (k * 2 + 1), none⟩ = some (.slice ay ny cy)) := fun y hy => ⟨hy.cell c1 (by simp), hy.cell d1 (by simp)⟩
        clear hx0 hy0 r1 r2 c1 d1 hx1 hy1 hnx hny
        obtain ⟨e0, e1⟩ := HC.out wr HR.out.2.2.2.2.2
        go_wp2_with fail
        refine (Names.in29 _ fv tv l[k].1 F T wr (HX.out.1.seg.grown HR.out.2.2.2.2.2) (HS.out.1.grown HR.out.2.2.2.2.2) (HS.out.2.grown HR.out.2.2.2.2.2)).mono ?_
        rintro e w2 ⟨rfl, q2, hw2⟩
        have H2 : Hid (w2.ownsRow w.heap.size 45 2 (.slice a9 c c9) c (rcells qs) ∧ w.grownBy w2 none) := by
          rw [hw2]
          have g := grown_drewN wr q2 none
          exact ⟨owns_same HR.out.2.2.2.1 fun q hq => g.block q (World.ownsRow.lt HR.out.2.2.2.1 q hq).2 (by simp), grown_trans HR.out.2.2.2.2.2 g⟩
        clear hw2
        have ht1 : l.take (k + 1) = l.take k ++ [l[k]] := by rw [List.take_add_one, List.getElem?_eq_getElem ka]; rfl
        have HT1 : Hid (l.take (k + 1) = l.take k ++ [l[k]]) := ht1
        clear ht1
        obtain ⟨I, hI⟩ : ∃ I, inB l[k].1 F T = I := ⟨_, rfl⟩
        have HI : Hid (P l[k] = I) := by rw [Hid, HP.out.2]; exact hI
        have hcm2 : c < m := by have := HM.out; omega
        rw [hI]
        clear hI
        cases I with
        | false =>
          go_wp2_with fail
          go_roundw
          case rel =>
            have hfl : (l.take (k + 1)).filter P = (l.take k).filter P := by rw [HT1.out, List.filter_append]; simp [HI.out]
            exact ⟨k + 1, c, qs, L, by omega, by omega, by go_num, HR.out.1, by rw [hfl]; exact HR.out.2.1, by rw [hfl]; exact HR.out.2.2.1, H2.out.1, HR.out.2.2.2.2.1, H2.out.2⟩
          case measure => simp [intOf]; omega
        | true =>
          have q2 := HQ.out w2 H2.out.2
          obtain ⟨z0, z1⟩ := HC.out w2 H2.out.2
          rw [← Nat.add_assoc] at z1
          go_wp2_with (at_builtin; refine appO_at _ rfl _ _ 22 45 _ 2 48 Try.info45 ut22' rfl (by decide) rfl w.heap.size _ c (rcells qs) _ 1 [.slice ax nx cx, .slice ay ny cy] rfl rfl (owns_same H2.out.1 fun q hq => (World.grownBy_alloc w2 _ none).block q (World.ownsRow.lt H2.out.1 q hq).2 (by simp)) (vec_two w2 _ _ _ (heap_alloc_new w2 _)) ?c0 ?c1 ?c2 ?c3 ?_)
          case c0 => simp [Value.oneCell']
          case c1 => omega
          case c2 => unfold maxLen; omega
          case c3 => have := H2.out.2.size; simp; omega
          intro v6 w6 hv6 hg6
          have H6 : Hid (w6.ownsRow w.heap.size 45 2 v6 (c + 1) (rcells qs ++ [.slice ax nx cx, .slice ay ny cy]) ∧ w.grownBy w6 none) := ⟨hv6, hg6.after (grown_trans H2.out.2 (World.grownBy_alloc w2 _ none)) (Nat.le_refl _)⟩
          clear hv6 hg6
          go_wp2_with fail
          go_roundw
          case rel =>
            have hfl : (l.take (k + 1)).filter P = (l.take k).filter P ++ [l[k]] := by rw [HT1.out, List.filter_append]; simp [HI.out]
            have e3 : ((l.take k).filter P).take m = (l.take k).filter P := List.take_of_length_le (by rw [← HR.out.2.2.1]; omega)
            have e4 := HR.out.2.1
            rw [e3] at e4
            refine ⟨k + 1, c + 1, qs ++ [(.slice ax nx cx, .slice ay ny cy)], L ++ [l[k]], by omega, by omega, by go_num, by simp [HR.out.1], ?_, ?_, ?_, HR.out.2.2.2.2.1.append (ROwn.one1 HX.out.1 HX.out.2), H6.out.2⟩
            · rw [hfl, e4]
              exact List.take_of_length_le (by simp [HR.out.1]; omega)
            · rw [hfl, List.length_append, ← HR.out.2.2.1]
              rfl
            · rw [rcells_append]
              exact H6.out.1
          case measure => simp [intOf]; omega
      · go_wp2_with fail
        go_ret
        have hmc : m = c := by
          have h1 := HR.out.1
          rw [← HR.out.2.1, List.length_take, ← HR.out.2.2.1] at h1
          have := HM.out
          omega
        have e2 : scanL l F T most = L := by
          rw [← HP.out.1]
          conv => lhs; rw [← List.take_append_drop k l]
          rw [List.filter_append, List.take_append_of_le_length (by rw [← HR.out.2.2.1]; omega)]
          exact HR.out.2.1
        refine ⟨_, rfl, ⟨qs, ?_, ?_⟩, HR.out.2.2.2.2.2⟩
        · rw [e2, HR.out.1]
          exact owns_mono HR.out.2.2.2.1 (Nat.zero_le _)
        · rw [e2]
          exact HR.out.2.2.2.2.1.grown HR.out.2.2.2.2.2
    · have hkn : k = n := by omega
      subst hkn
      go_wp2_with fail
      go_ret
      have e : l.take k = l := List.take_of_length_le (Nat.le_of_eq HN.out.1)
      have e2 := HR.out.2.1
      rw [e, HP.out.1] at e2
      refine ⟨_, rfl, ⟨qs, ?_, ?_⟩, HR.out.2.2.2.2.2⟩
      · rw [e2, HR.out.1]
        exact owns_mono HR.out.2.2.2.1 (Nat.zero_le _)
      · rw [e2]
        exact HR.out.2.2.2.2.1.grown HR.out.2.2.2.2.2
end Go.Proofs.Ytlehikdlkdbacaa
