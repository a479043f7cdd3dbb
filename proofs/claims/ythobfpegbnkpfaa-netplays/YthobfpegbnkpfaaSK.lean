/-
  Keep.
-/
import Derived.Test.YthobfpegbnkpfaaSH
import Derived.Shelf.Abstract
namespace Go.Proofs.Ythobfpegbnkpfaa.S
open Go.RowKit Disk Table

/-- Those that are kept. -/
def kp (pr : ByteArray → Bool) (q : List Pcl) : List Pcl := q.filter fun a => pr a.t
/-- The numbers of those that are not, of the first k. -/
def outs (pr : ByteArray → Bool) (q : List Pcl) (k : Nat) : List Int := ((q.take k).filter fun a => !pr a.t).map (·.k)

theorem info2 : (Try.prog.info? 2).map (fun i => (i.zero, i.size, i.bytes)) = some (some (.int .i64 0), 1, 8) := by kernel_rfl
theorem outs_zero (pr : ByteArray → Bool) (q : List Pcl) : outs pr q 0 = [] := by simp [outs]
theorem outs_skip {pr : ByteArray → Bool} {q : List Pcl} {k : Nat} {a : Pcl} (ha : q[k]? = some a) (h : pr a.t = true) : outs pr q (k + 1) = outs pr q k := by
  unfold outs
  rw [List.take_add_one, ha]
  simp [h]
theorem outs_more {pr : ByteArray → Bool} {q : List Pcl} {k : Nat} {a : Pcl} (ha : q[k]? = some a) (h : pr a.t = false) : outs pr q (k + 1) = outs pr q k ++ [a.k] := by
  unfold outs
  rw [List.take_add_one, ha]
  simp [h]
theorem outs_len (pr : ByteArray → Bool) (q : List Pcl) (k : Nat) : (outs pr q k).length ≤ q.length := by
  unfold outs
  rw [List.length_map]
  exact Nat.le_trans (List.length_filter_le _ _) (by simp; omega)
theorem outs_asc {pr : ByteArray → Bool} {q : List Pcl} (h : q.Pairwise fun a c => a.k < c.k) (k : Nat) : (outs pr q k).Pairwise (· < ·) := by
  unfold outs
  rw [List.pairwise_map]
  exact h.sublist (List.filter_sublist.trans (List.take_sublist _ _))
theorem keep_outs {pr : ByteArray → Bool} {q : List Pcl} (h : q.Pairwise fun a c => a.k < c.k) : q.filter (keepB (outs pr q q.length)) = kp pr q := by
  unfold kp
  refine List.filter_congr fun a ha => ?_
  unfold keepB outs
  rw [List.take_length]
  by_cases hp : pr a.t = true
  · rw [hp]
    simp only [Bool.not_eq_true', decide_eq_false_iff_not, List.mem_map, List.mem_filter, not_exists]
    rintro c ⟨⟨hc, h1⟩, h2⟩
    have : c = a := by
      obtain ⟨i, hi, rfl⟩ := List.getElem_of_mem hc
      obtain ⟨j, hj, rfl⟩ := List.getElem_of_mem ha
      rcases Nat.lt_trichotomy i j with h3 | h3 | h3
      · have := List.pairwise_iff_getElem.1 h i j hi hj h3; omega
      · subst h3; rfl
      · have := List.pairwise_iff_getElem.1 h j i hj hi h3; omega
    subst this
    rw [hp] at h1
    cases h1
  · have hf : pr a.t = false := by simpa using hp
    rw [hf]
    simp only [Bool.not_eq_false', decide_eq_true_eq, List.mem_map, List.mem_filter]
    exact ⟨a, ⟨ha, by rw [hf]; rfl⟩, rfl⟩
theorem al2 (w : World) (A B : Array Value) (s t : Nat) : ∃ W, (w.alloc (.cells A s)).alloc (.cells B t) = W ∧ Hid (Blk W w.heap.size s A ∧ Blk W (w.heap.size + 1) t B ∧ w.grownBy W none ∧ W.heap.size = w.heap.size + 2) := by
  refine ⟨_, rfl, ?_, ?_, grown_trans (World.grownBy_alloc _ _ _) (World.grownBy_alloc _ _ _), by simp⟩
  · exact Blk.grown (heap_alloc_new _ _) (World.grownBy_alloc _ _ none) (by simp)
  · have := heap_alloc_new (w.alloc (.cells A s)) (.cells B t)
    rw [show (w.alloc (.cells A s)).heap.size = w.heap.size + 1 by simp] at this
    exact this
theorem NetTo.put {w w4 : World} {b B S : Nat} {v : Value} {q : List Pcl} {s : Int} {x : Option (List Deferred)} {o : Obj} (h : NetTo w b B v w4 q s) (hd : w4.heap[S]? = some (.deferred x)) (hS : w.heap.size ≤ S) : NetTo w b B v (w4.putObj S o) q s := by
  obtain ⟨v', h1, h2, h3⟩ := h
  have hne : ∀ {i t c}, Blk w4 i t c → Blk (w4.putObj S o) i t c := fun {i t c} hb => hb.same (World.putObj_heap_other (fun e => by
    subst e
    unfold Blk at hb
    rw [hd] at hb
    cases hb))
  refine ⟨v', ⟨hne h1.blk, ⟨h1.way.row.same fun k hk => ?_, fun a ha => hne (h1.way.par a ha)⟩, h1.len, h1.asc, h1.top, h1.low⟩, ⟨h2.os, h2.tape, h2.output, by simpa [World.putObj] using h2.size, fun i hi hf => ?_⟩, h3⟩
  · obtain ⟨C, hC⟩ := h1.way.row.blk k hk
    exact (hne hC).trans hC.symm
  · rw [World.putObj_heap_other (by omega)]
    exact h2.block i hi hf

set_option maxRecDepth 100000 in
set_option maxHeartbeats 8000000 in
theorem keep_yes (sb : Nat) (pr : ByteArray → Bool) (b B : Nat) (v : Value) (q : List Pcl) (s : Int) (w : World) (h : Net w b B v q s) (hB : B ≤ w.heap.size)
    (hpr : ∀ x W, w.grownBy W none → Calls Try.prog 13 #[Value.string x, .pointer (some ⟨sb, 0, none⟩)] W fun e w' => e = .returned (.bool (pr x)) ∧ W.grownBy w' none) :
    Calls Try.prog 12 #[.pointer (some ⟨b, 0, none⟩), .func (.func 13) #[] #[.pointer (some ⟨sb, 0, none⟩)]] w fun e w' => e = .returned (.int .i64 ((q.length : Int) - ((kp pr q).length : Nat))) ∧ NetTo w b B v w' (kp pr q) s := by
  obtain ⟨n, hn⟩ : ∃ n, q.length = n := ⟨_, rfl⟩
  have HN : Hid (Net w b B v q s ∧ B ≤ w.heap.size ∧ q.length = n ∧ n ≤ 65536) := ⟨h, hB, hn, by rw [← hn]; exact h.len⟩
  have HPR : Hid _ := hpr
  clear h hB hn hpr
  refine calls_marks Try.func12 rfl ?_
  simp only [Try.ntmps12, List.size_toArray, List.length_cons, List.length_nil, Nat.reduceAdd, Nat.reduceSub, Array.replicate_succ, Array.replicate_zero, List.push_toArray, List.append_toArray, List.nil_append, List.cons_append]
  go_upto_region 1 with fail
  obtain ⟨w1, hw1, H1⟩ := al1 w #[.func (.func 13) #[] #[.pointer (some ⟨sb, 0, none⟩)]] 34
  obtain ⟨x0, hx0⟩ : ∃ x, w.heap.size = x := ⟨_, rfl⟩
  rw [hw1]
  rw [hx0] at H1 ⊢
  clear hw1
  go_wp2_with fail
  refine (there_yes b _ _ true w1 (HN.out.1.blk.grown H1.out.2.1 (by simp))).mono ?_
  rintro e w2 ⟨rfl, rfl⟩
  have hfn : ∀ wk, (binOp .eql 34 (.func (.func 13) #[] #[.pointer (some ⟨sb, 0, none⟩)]) .nilFunc).run Try.prog wk = .ok (.bool false) wk := fun _ => rfl
  have c0 := H1.out.1.cell 0
  simp at c0
  go_wp2_with fail
  refine (now_yes b B v q s w2 (HN.out.1.grown H1.out.2.1)).mono ?_
  rintro e w3 ⟨u, rfl, hw3, hg3⟩
  obtain ⟨uo, uc, rfl⟩ := hw3.sl
  rw [HN.out.2.2.1] at hw3 ⊢
  have H3 : Hid (Way w3 w.heap.size (.slice uo n uc) q ∧ w.grownBy w3 none ∧ Blk w3 x0 34 #[.func (.func 13) #[] #[.pointer (some ⟨sb, 0, none⟩)]] ∧ w.heap.size = x0) := ⟨⟨hw3.row.mono H1.out.2.1.size, hw3.par⟩, grown_trans H1.out.2.1 hg3, H1.out.1.grown hg3 (by simp), hx0⟩
  clear hw3 hg3 H1 c0 hx0
  go_upto_region 5 with fail
  obtain ⟨w5, hw5, H5⟩ := al2 w3 #[.slice uo n uc] #[.slice none 0 0] 56 64
  obtain ⟨x1, hx1⟩ : ∃ x, w3.heap.size = x := ⟨_, rfl⟩
  obtain ⟨x2, hx2⟩ : ∃ x, x1 + 1 = x := ⟨_, rfl⟩
  rw [hw5]
  rw [hx1, hx2] at H5 ⊢
  have HA : Hid (Way w5 w.heap.size (.slice uo n uc) q ∧ w.grownBy w5 none ∧ Blk w5 x0 34 #[.func (.func 13) #[] #[.pointer (some ⟨sb, 0, none⟩)]] ∧ Blk w5 x1 56 #[.slice uo n uc] ∧ Blk w5 x2 64 #[.slice none 0 0] ∧ w.heap.size ≤ x1 ∧ x1 < x2) := ⟨H3.out.1.grown H5.out.2.2.1, grown_trans H3.out.2.1 H5.out.2.2.1, H3.out.2.2.1.grown H5.out.2.2.1 (by simp), H5.out.1, H5.out.2.1, by rw [← hx1]; exact H3.out.2.1.size, by omega⟩
  have HX0 : Hid (w.heap.size = x0) := H3.out.2.2.2
  clear hw5 H5 H3 hx1 hx2
  have c0 := HA.out.2.2.2.1.cell 0
  simp at c0
  go_wp2_with fail
  refine (over_call uo n uc w5).mono ?_
  rintro e w6 ⟨rfl, hb6, hg6, hz6⟩
  obtain ⟨fb, hfb⟩ : ∃ x, w5.heap.size = x := ⟨_, rfl⟩
  rw [hfb] at hb6 hz6 ⊢
  obtain ⟨sz, hsz⟩ : ∃ x, w6.heap.size = x := ⟨_, rfl⟩
  have HW : Hid (Way w6 w.heap.size (.slice uo n uc) q ∧ w.grownBy w6 none ∧ Blk w6 x0 34 #[.func (.func 13) #[] #[.pointer (some ⟨sb, 0, none⟩)]] ∧ Blk w6 x1 56 #[.slice uo n uc] ∧ Blk w6 x2 64 #[.slice none 0 0] ∧ Blk w6 fb 56 #[.slice uo n uc] ∧ w.heap.size ≤ x1 ∧ x1 < x2 ∧ w6.heap.size = sz ∧ x2 < sz) := ⟨HA.out.1.grown hg6, grown_trans HA.out.2.1 hg6, HA.out.2.2.1.grown hg6 (by simp), HA.out.2.2.2.1.grown hg6 (by simp), HA.out.2.2.2.2.1.grown hg6 (by simp), hb6, HA.out.2.2.2.2.2.1, HA.out.2.2.2.2.2.2, hsz, by have h1 := HA.out.2.2.2.2.1.lt; have h2 := hg6.size; omega⟩
  clear hb6 hg6 hz6 hfb hsz HA c0
  go_wp2_with fail
  have HGV : Hid (GivesS Try.prog 43 #[.pointer (some ⟨fb, 0, none⟩)] 0 (fun k => k = q.length) (Xq q) (fun i => i = x2) w6) := by
    have z := HW.out
    refine overS _ fb w.heap.size (.slice uo n uc) q w6 z.2.2.2.2.2.1 z.1 (by have := HN.out; omega) (fun i hi e => ?_)
    subst e
    rcases hi with hi | ⟨a, ha, rfl⟩
    · obtain ⟨C, hC⟩ := z.1.row.blk _ hi
      exact absurd (blk_type hC z.2.2.2.2.1) (by decide)
    · exact absurd (blk_type (z.1.par a ha) z.2.2.2.2.1) (by decide)
  refine wp_rangeS (gf := 43) (lb := #[.pointer (some ⟨fb, 0, none⟩)]) rfl (enters_of Try.func43 (by kernel_rfl) rfl) HGV.out ?hps
    (fun k G A => Hid (k ≤ n ∧ Fr w6 A (fun i => i = x2) ∧ (∃ vz, Blk A x2 64 #[vz] ∧ Row 2 A sz vz ((outs pr q k).map (Value.int .i64)) ∧ ∀ c, vz.ownBlock = some c → G c) ∧ ∀ i, G i → sz + 2 ≤ i ∧ i < A.heap.size))
    (fun _ => False) ?hIg ?hXg ?h0 ?hround ?hdone ?hstop
  case hps =>
    rintro k k' W0 W1 xs ⟨_, _, _, rfl⟩
    rfl
  case hIg =>
    rintro k G A B' HA ht
    have z := HW.out
    obtain ⟨h1, h2, ⟨vz, v1, v2, v3⟩, h4⟩ := HA.out
    have hs := h2.size
    refine ⟨h1, ⟨ht.os.trans h2.os, ht.tape.trans h2.tape, ht.output.trans h2.output, Nat.le_trans h2.size ht.size, fun i hi hn => (ht.block i (by omega) (.inl (by omega))).trans (h2.block i hi hn)⟩, ⟨vz, ht.blk v1 (.inl (by decide)), v2.same fun c hc => ?_, v3⟩, fun i hi => ⟨(h4 i hi).1, by have := (h4 i hi).2; have := ht.size; omega⟩⟩
    obtain ⟨C, hC⟩ := v2.blk c hc
    exact ht.block c hC.lt (.inr ⟨_, _, _, hC, by decide⟩)
  case hXg => exact fun _ _ h _ => h
  case h0 =>
    have z := HW.out
    refine ⟨Nat.zero_le _, Fr.of (grown_refl _ none) (by simp), ⟨_, z.2.2.2.2.1, ?_, fun c hc => by simp [Value.ownBlock] at hc⟩, fun i h => h.elim⟩
    rw [outs_zero]
    exact Row.nil _ _ _
  case hstop => exact fun _ h => h.elim
  case hdone =>
    rintro A k G hfin HI hd
    have HD : Hid _ := hd
    have hk : k = n := by rw [hfin]; exact HN.out.2.2.1
    subst hk
    clear hd hfin
    obtain ⟨_, h2, ⟨vz, v1, v2, v3⟩, h4⟩ := HI.out
    obtain ⟨zo, zc, rfl⟩ := v2.sl
    rw [List.length_map] at v1 v2 v3
    obtain ⟨zn, hzn⟩ : ∃ x, (outs pr q k).length = x := ⟨_, rfl⟩
    rw [hzn] at v1 v2 v3
    have hwA : w.grownBy A none := by
      have z := HW.out
      have h5 := h2.size
      have h6 := z.2.1.size
      exact ⟨h2.os.trans z.2.1.os, h2.tape.trans z.2.1.tape, h2.output.trans z.2.1.output, by omega, fun i hi _ => (h2.block i (by omega) (by omega)).trans (z.2.1.block i hi (by simp))⟩
    have HF : Hid (Blk A x2 64 #[.slice zo zn zc] ∧ Row 2 A sz (.slice zo zn zc) ((outs pr q k).map (Value.int .i64)) ∧ w.grownBy A none ∧ Net A b B v q s ∧ (outs pr q k).length = zn ∧ w.heap.size ≤ sz ∧ q.length = k) := ⟨v1, v2, hwA, HN.out.1.grown hwA, hzn, by have := HW.out; omega, HN.out.2.2.1⟩
    clear h2 v1 v2 v3 h4 hwA hzn HI
    have c0 := HF.out.1.cell 0
    simp at c0
    go_wp2_with fail
    refine (drop_yes b B v q s (.slice zo zn zc) (outs pr q k) A HF.out.2.2.2.1 HF.out.2.1.rd (outs_asc HN.out.1.asc _) (by have := outs_len pr q k; have := HN.out; omega) (fun c hc => ⟨(HF.out.2.1.lt c hc).2, fun e => ?_⟩)).mono ?_
    · have h1 := (HF.out.2.1.lt c hc).1
      have h2 := (HN.out.1.way.row.lt c e).2
      have h3 := HF.out.2.2.2.2.2.1
      omega
    · rintro e w4 ⟨rfl, hN4⟩
      have hfl : q.filter (keepB (outs pr q k)) = kp pr q := by
        have := keep_outs (pr := pr) HN.out.1.asc
        rw [HF.out.2.2.2.2.2.2] at this
        exact this
      rw [hfl] at hN4 ⊢
      have hd4 : w4.heap[w6.heap.size]? = some (.deferred (some [])) := by
        obtain ⟨_, _, hf, _⟩ := hN4
        refine (hf.block _ (Array.getElem?_eq_some_iff.1 HD.out).1 fun e => ?_).trans HD.out
        have z := HW.out
        have z2 := z.2.1.size
        rcases e with e | e
        · have := HN.out.1.blk.lt
          omega
        · have := (HN.out.1.way.row.lt _ e).2
          omega
      have HE : Hid (NetTo A b B v w4 (kp pr q) s ∧ w4.heap[w6.heap.size]? = some (.deferred (some []))) := ⟨hN4, hd4⟩
      obtain ⟨m, hm⟩ : ∃ m, (kp pr q).length = m := ⟨_, rfl⟩
      have HM : Hid ((kp pr q).length = m) := hm
      rw [hm, HF.out.2.2.2.2.2.2]
      clear hN4 hd4 hfl hm c0
      go_wp2_with fail
      refine ⟨by simp, .inl ⟨_, _, rfl, run_takeDeferred HE.out.2, ?_⟩⟩
      refine ⟨_, results_tmp rfl _ _ _, ?_, ?_⟩
      · rw [HM.out, HF.out.2.2.2.2.2.2]; rfl
      · refine NetTo.put (NetTo.trans (Fr.of HF.out.2.2.1 (by simp)) (fun c hc => .inl hc) HE.out.1) HE.out.2 ?_
        have := HW.out
        have := HF.out.2.2.2.2.2.1
        omega
  case hround =>
    rintro l' k k' G W0 W1 xs HI hlt0 htn ⟨a, ha, rfl, rfl⟩ ⟨rc, hrc⟩
    have HO : Hid (Tx (w6.heap.size + 2) W0 W1 ∧ w6.heap.size + 1 < W0.heap.size ∧ W1.heap[w6.heap.size + 1]? = some (.loop rc) ∧ q[k]? = some a) := ⟨htn, hlt0, hrc, ha⟩
    clear htn hlt0 hrc ha
    simp only [List.zip_toArray, List.zip_cons_cons, List.zip_nil_right, List.foldl_toArray', List.size_toArray, List.foldl_cons, List.foldl_nil, List.setIfInBounds_toArray, List.set_cons_zero, List.set_cons_succ]
    refine wpIn_seq ?_
    refine region_round (by rintro ⟨_, _, h⟩; exact h) rfl ?_
    go_wp2_with fail
    refine region_round (by rintro ⟨_, _, h⟩; exact h) rfl ?_
    go_wp2_with fail
    refine ⟨grown_refl _ _, fun r => ?_⟩
    obtain ⟨W3, hW3⟩ : ∃ W3, W1.putObj (w6.heap.size + 1) (.loop r) = W3 := ⟨_, rfl⟩
    have HT3 : Hid (Tx (w6.heap.size + 1) W0 W3 ∧ W3.heap.size = W1.heap.size ∧ (∀ i, i ≠ w6.heap.size + 1 → W3.heap[i]? = W1.heap[i]?)) := by
      have ht : Tx (w6.heap.size + 1) W1 W3 := by rw [← hW3]; exact Tx.put _ HO.out.2.2.1 (Nat.le_refl _)
      exact ⟨(HO.out.1.mono (Nat.le_succ _)).trans ht, by rw [← hW3]; simp [World.putObj], fun i hi => by rw [← hW3, World.putObj_heap_other hi]⟩
    rw [hW3]
    clear hW3
    obtain ⟨h1, h2, ⟨vz, v1, v2, v3⟩, h4⟩ := HI.out
    obtain ⟨zo, zc, rfl⟩ := v2.sl
    rw [List.length_map] at v1 v2 v3
    obtain ⟨zn, hzn⟩ : ∃ x, (outs pr q k).length = x := ⟨_, rfl⟩
    rw [hzn] at v1 v2 v3
    have hf3 : Fr w6 W3 (fun i => i = x2) := by
      have ht := HT3.out.1
      have hs := h2.size
      exact ⟨ht.os.trans h2.os, ht.tape.trans h2.tape, ht.output.trans h2.output, Nat.le_trans h2.size ht.size, fun i hi hn => (ht.block i (by omega) (.inl (by omega))).trans (h2.block i hi hn)⟩
    have hr3 : Row 2 W3 sz (.slice zo zn zc) ((outs pr q k).map (Value.int .i64)) := v2.same fun c hc => by
      obtain ⟨C, hC⟩ := v2.blk c hc
      exact HT3.out.1.block c hC.lt (.inr ⟨_, _, _, hC, by decide⟩)
    have hg3 : w.grownBy W3 none := by
      have z := HW.out
      have h5 := hf3.size
      have h6 := z.2.1.size
      exact ⟨hf3.os.trans z.2.1.os, hf3.tape.trans z.2.1.tape, hf3.output.trans z.2.1.output, by omega, fun i hi _ => (hf3.block i (by omega) (by omega)).trans (z.2.1.block i hi (by simp))⟩
    have hbk : ∀ {i t c}, Blk w6 i t c → t ≠ 64 → Blk W3 i t c := fun {i t c} hb ht => hb.same (hf3.block i hb.lt fun e => by
      subst e
      exact ht (blk_type hb HW.out.2.2.2.2.1))
    have HB : Hid (Fr w6 W3 (fun i => i = x2) ∧ Row 2 W3 sz (.slice zo zn zc) ((outs pr q k).map (Value.int .i64)) ∧ Blk W3 x2 64 #[.slice zo zn zc] ∧ w.grownBy W3 none ∧ Blk W3 x0 34 #[.func (.func 13) #[] #[.pointer (some ⟨sb, 0, none⟩)]] ∧ Blk W3 x1 56 #[.slice uo n uc] ∧ (outs pr q k).length = zn ∧ (∀ c, (Value.slice zo zn zc).ownBlock = some c → G c) ∧ (∀ i, G i → sz + 2 ≤ i ∧ i < W1.heap.size) ∧ zn ≤ 65536) := by
      refine ⟨hf3, hr3, HT3.out.1.blk v1 (.inl (by decide)), hg3, hbk HW.out.2.2.1 (by decide), hbk HW.out.2.2.2.1 (by decide), hzn, v3, fun i hi => ⟨(h4 i hi).1, by have := (h4 i hi).2; have := HO.out.1.size; omega⟩, ?_⟩
      have := outs_len pr q k
      have := HN.out
      omega
    have hkn : k < n := by
      have h5 := (List.getElem?_eq_some_iff.1 HO.out.2.2.2).1
      have := HN.out.2.2.1
      omega
    have HWq : Hid (∃ g, uo = some ⟨g, 0, none⟩ ∧ W3.cell? ⟨g, k, none⟩ = some (.pointer (some ⟨a.p, 0, none⟩)) ∧ Blk W3 a.p 61 #[.int .i64 a.k, Value.string a.t] ∧ Blk W3 g 59 (((W3.heap[g]?).map fun o => match o with | .cells cs _ _ => cs | _ => #[]).getD #[])) := by
      have hw := HW.out.1
      have hkq := (List.getElem?_eq_some_iff.1 HO.out.2.2.2).1
      have haq : a ∈ q := List.mem_of_getElem? HO.out.2.2.2
      rcases hw.row.shape with ⟨_, e'⟩ | ⟨g, cp, C, e, _, hC, _⟩
      · rw [List.map_eq_nil_iff] at e'
        subst e'
        exact absurd hkq (by simp)
      · simp at e
        obtain ⟨rfl, _, rfl⟩ := e
        have h5 := hw.row.cell k (by simpa using hkq)
        have hg := hbk hC (by decide)
        refine ⟨g, rfl, ?_, hbk (hw.par a haq) (by decide), ?_⟩
        · rw [(hg.cell k), ← hC.cell k, h5]
          simp only [List.getElem_map]
          rw [(List.getElem?_eq_some_iff.1 HO.out.2.2.2).2]
          rfl
        · have : W3.heap[g]? = some (.cells C 59 (0, 0)) := hg
          rw [this]
          exact hg
    clear h1 h2 v1 v2 v3 h4 hf3 hr3 hg3 hzn HI hbk
    have c0 := HB.out.2.2.2.2.1.cell 0
    simp at c0
    refine wpIn_block (wpIn_seq ?_)
    refine region_round (by rintro ⟨_, _, h⟩; exact h) rfl ?_
    go_wp2_with fail
    refine (HPR.out a.t W3 HB.out.2.2.2.1).mono ?_
    rintro e w7 ⟨rfl, hg7⟩
    have H7 : Hid (W3.grownBy w7 none) := hg7
    clear hg7 c0
    have hsz2 : w6.heap.size = sz := HW.out.2.2.2.2.2.2.2.2.1
    by_cases hp : pr a.t = true
    · rw [hp]
      have HP : Hid (outs pr q (k + 1) = outs pr q k) := outs_skip HO.out.2.2.2 hp
      clear hp
      go_wp2_with fail
      refine wpIn_cond_false rfl (wpIn_skip ?_)
      have z := HB.out
      have s7 := H7.out.size
      have s3 := HT3.out.2.1
      have s0 := HO.out.1.size
      have s1 := HO.out.2.1
      refine ⟨⟨H7.out.block _ (by omega) (by simp), H7.out.block _ (by omega) (by simp)⟩, G, fun i hi => ⟨.inl hi, by have := (z.2.2.2.2.2.2.2.2.1 i hi).2; omega⟩, ⟨by omega, fun i h1 h2 _ _ _ => ?_⟩, by omega, ?_, ⟨_, z.2.2.1.grown H7.out (by simp), ?_, z.2.2.2.2.2.2.2.1⟩, fun i hi => ⟨(z.2.2.2.2.2.2.2.2.1 i hi).1, by have := (z.2.2.2.2.2.2.2.2.1 i hi).2; omega⟩⟩
      · rw [H7.out.block i (by omega) (by simp)]
        exact HT3.out.2.2 i (by omega)
      · exact z.1.trans (Fr.of (F := fun _ => False) H7.out (by simp)) (by simp)
      · rw [HP.out]
        exact z.2.1.grown H7.out
    · have hpf : pr a.t = false := by simpa using hp
      rw [hpf]
      have HP : Hid (outs pr q (k + 1) = outs pr q k ++ [a.k]) := outs_more HO.out.2.2.2 hpf
      clear hp hpf
      go_wp2_with fail
      refine wpIn_cond_true rfl ?_
      obtain ⟨g, rfl, q1, q2, q3⟩ := HWq.out
      have H8 : Hid (Blk w7 x2 64 #[.slice zo zn zc] ∧ Blk w7 x1 56 #[.slice (some ⟨g, 0, none⟩) n uc] ∧ w7.cell? ⟨g, k, none⟩ = some (.pointer (some ⟨a.p, 0, none⟩)) ∧ Blk w7 a.p 61 #[.int .i64 a.k, Value.string a.t] ∧ Row 2 w7 sz (.slice zo zn zc) ((outs pr q k).map (Value.int .i64)) ∧ Blk W3 a.p 61 #[.int .i64 a.k, Value.string a.t] ∧ ∃ C, Blk W3 g 59 C) := ⟨HB.out.2.2.1.grown H7.out (by simp), HB.out.2.2.2.2.2.1.grown H7.out (by simp), H7.out.cell q1 (by simp), q2.grown H7.out (by simp), HB.out.2.1.grown H7.out, q2, _, q3⟩
      have k1 : (k : Int) < (n : Int) := by omega
      have k2 : (0 : Int) ≤ (k : Int) := by omega
      clear q1 q2 q3 HWq
      refine region_round_hold 10 (fun y => Blk y x2 64 #[.slice zo zn zc] ∧ Blk y x1 56 #[.slice (some ⟨g, 0, none⟩) n uc] ∧ y.cell? ⟨g, k, none⟩ = some (.pointer (some ⟨a.p, 0, none⟩)) ∧ Blk y a.p 61 #[.int .i64 a.k, Value.string a.t]) (by rintro ⟨_, _, h⟩; exact h) rfl (by kernel_rfl) ?_
      have HD : Hid ((Blk w7.drew x2 64 #[.slice zo zn zc] ∧ Blk w7.drew x1 56 #[.slice (some ⟨g, 0, none⟩) n uc] ∧ w7.drew.cell? ⟨g, k, none⟩ = some (.pointer (some ⟨a.p, 0, none⟩)) ∧ Blk w7.drew a.p 61 #[.int .i64 a.k, Value.string a.t]) ∧ W3.grownBy w7.drew none) := ⟨⟨H8.out.1, H8.out.2.1, H8.out.2.2.1, H8.out.2.2.2.1⟩, grown_trans H7.out (grown_drew _ _)⟩
      generalize w7.drew = wd at HD ⊢
      have J : Idx [0, 1, 2, 3, 4, 5, 6, 7] := trivial
      iterate 8 (refine tk J (HD.out.1) rfl rfl (fun wk hk => by have c0 := hk.1.cell 0; have c1 := hk.2.1.cell 0; have c2 := hk.2.2.1; have c3 := hk.2.2.2.cell 0; simp at c0 c1 c3; go_simp; try rfl) ?_; replace J := J.tl; try simp only [Act.put, List.setIfInBounds_toArray, List.set_cons_zero, List.set_cons_succ])
      clear J
      refine wpHold_one (i := 8) rfl (by kernel_rfl) (by rfl) (fun K hK => ?_)
      go_wp2_with fail
      obtain ⟨g1, hg1⟩ : ∃ p, wd.heap.size = p := ⟨_, rfl⟩
      obtain ⟨w8, hw8, H9⟩ := al1 wd #[.int .i64 a.k] 2
      rw [hw8]
      rw [hg1] at H9 ⊢
      have HE : Hid ((Blk w8 x2 64 #[.slice zo zn zc] ∧ Blk w8 x1 56 #[.slice (some ⟨g, 0, none⟩) n uc] ∧ w8.cell? ⟨g, k, none⟩ = some (.pointer (some ⟨a.p, 0, none⟩)) ∧ Blk w8 a.p 61 #[.int .i64 a.k, Value.string a.t]) ∧ W3.grownBy w8 none ∧ Blk w8 g1 2 #[.int .i64 a.k]) := ⟨⟨HD.out.1.1.grown H9.out.2.1 (by simp), HD.out.1.2.1.grown H9.out.2.1 (by simp), H9.out.2.1.cell HD.out.1.2.2.1 (by simp), HD.out.1.2.2.2.grown H9.out.2.1 (by simp)⟩, grown_trans HD.out.2 H9.out.2.1, H9.out.1⟩
      clear hw8 H9 HD hg1
      refine hK.out _ _ (fun _ => HE.out.1) ?_
      clear hK K
      try simp only [Act.put, List.setIfInBounds_toArray, List.set_cons_zero, List.set_cons_succ]
      refine wpHold_one (i := 9) rfl (by kernel_rfl) (by rfl) (fun K hK => ?_)
      have HR : Hid (Row 2 w8 sz (.slice zo zn zc) ((outs pr q k).map (Value.int .i64))) := HB.out.2.1.grown HE.out.2.1
      refine appR_wp 64 2 8 (.int .i64 0) rfl info2 rfl w8 _ _ rfl sz (.slice zo zn zc) ((outs pr q k).map (Value.int .i64)) (.slice (some ⟨g1, 0, none⟩) 1 1) [.int .i64 a.k] rfl rfl HR.out (rd_blk HE.out.2.2) (by intro y hy; simp at hy; subst hy; rfl) ?c0 ?c1 ?c2 ?_
      case c0 => have := HB.out.2.2.2.2.2.2; simp; omega
      case c1 => have := HB.out.2.2.2.2.2.2; unfold maxLen; simp; omega
      case c2 => have h1 := HE.out.2.1.size; have h2 := HB.out.1.size; omega
      intro v5 w9 hr5 hg5 hv5
      have hbk : ∀ {i t c}, Blk w8 i t c → t ≠ 2 → Blk w9 i t c := fun {i t c} hb ht => hb.grown hg5 fun e => by
        obtain ⟨C, hC⟩ := HR.out.blk i e
        exact ht (blk_type hb hC)
      have HF : Hid ((Blk w9 x2 64 #[.slice zo zn zc] ∧ Blk w9 x1 56 #[.slice (some ⟨g, 0, none⟩) n uc] ∧ w9.cell? ⟨g, k, none⟩ = some (.pointer (some ⟨a.p, 0, none⟩)) ∧ Blk w9 a.p 61 #[.int .i64 a.k, Value.string a.t]) ∧ Row 2 w9 sz v5 ((outs pr q (k + 1)).map (Value.int .i64)) ∧ (∀ c, v5.ownBlock = some c → (Value.slice zo zn zc).ownBlock = some c ∨ W3.heap.size ≤ c) ∧ w8.grownBy w9 (Value.slice zo zn zc).ownBlock) := by
        refine ⟨⟨hbk HE.out.1.1 (by decide), hbk HE.out.1.2.1 (by decide), ?_, hbk HE.out.1.2.2.2 (by decide)⟩, ?_, fun c hc => ?_, hg5⟩
        · obtain ⟨C, hC⟩ := H8.out.2.2.2.2.2.2
          have h5 := hC.grown HE.out.2.1 (by simp)
          have h6 := hbk h5 (by decide)
          have h7 := HE.out.1.2.2.1
          rw [h5.cell k] at h7
          rw [h6.cell k]
          exact h7
        · rw [HP.out, List.map_append]
          exact hr5
        · rcases hv5 c hc with e | e
          · exact .inl e
          · have := HE.out.2.1.size
            exact .inr (by omega)
      obtain ⟨qo, qc, e5⟩ := hr5.sl
      have el : ((outs pr q k).map (Value.int .i64) ++ [Value.int .i64 a.k]).length = zn + 1 := by have := HB.out.2.2.2.2.2.2.1; simp; omega
      rw [el] at e5
      subst e5
      clear hr5 hg5 hv5 el HR hbk
      refine hK.out _ _ (fun _ => HF.out.1) ?_
      clear hK K
      try simp only [Act.put, List.setIfInBounds_toArray, List.set_cons_zero, List.set_cons_succ]
      refine wpHold_one (i := 10) rfl (by kernel_rfl) (by rfl) (fun K hK => ?_)
      have f0 := HF.out.1.1.free 0
      have k0 := HF.out.1.1.cell 0
      simp at k0
      go_wp2_with fail
      obtain ⟨W5, hW5⟩ : ∃ W, w9.setCell ⟨x2, 0, none⟩ (.slice qo (zn + 1) qc) = W := ⟨_, rfl⟩
      have HG : Hid (Blk W5 x2 64 #[.slice qo (zn + 1) qc] ∧ w9.grownBy W5 (some x2)) := by
        rw [← hW5]
        exact ⟨HF.out.1.1.store 0 _, grown_setCell _ _ _ _⟩
      rw [hW5]
      clear hW5 f0 k0
      refine hK.out _ _ (fun h => absurd rfl h) ?_
      clear hK K
      try simp only [Act.put, List.setIfInBounds_toArray, List.set_cons_zero, List.set_cons_succ]
      refine wpHold_done (by kernel_rfl) ?_
      have z := HB.out
      have s7 := HE.out.2.1.size
      have s8 := HF.out.2.2.2.size
      have s9 := HG.out.2.size
      have s3 := HT3.out.2.1
      have s0 := HO.out.1.size
      have s1 := HO.out.2.1
      have hx2 := HW.out.2.2.2.2.2.2.2.2.2
      have low : ∀ i, i < W3.heap.size → i ≠ x2 → ¬ G i → W5.heap[i]? = W3.heap[i]? := fun i h1 h2 h3 => by
        rw [HG.out.2.block i (by omega) (by simpa using h2), HF.out.2.2.2.block i (by omega) (fun e => h3 (z.2.2.2.2.2.2.2.1 i e.symm)), HE.out.2.1.block i h1 (by simp)]
      have hGs : ∀ i, i < sz + 2 → ¬ G i := fun i h1 h2 => by have := (z.2.2.2.2.2.2.2.2.1 i h2).1; omega
      have hrow : Row 2 W5 sz (.slice qo (zn + 1) qc) ((outs pr q (k + 1)).map (Value.int .i64)) := HF.out.2.1.same fun c hc => by
        obtain ⟨C, hC⟩ := HF.out.2.1.blk c hc
        refine HG.out.2.block c hC.lt fun e => ?_
        simp at e
        subst e
        exact absurd (blk_type hC HF.out.1.1) (by decide)
      refine ⟨⟨low _ (by omega) (by omega) (hGs _ (by omega)), low _ (by omega) (by omega) (hGs _ (by omega))⟩, fun i => G i ∨ (Value.slice qo (zn + 1) qc).ownBlock = some i, fun i hi => ?_, ⟨by omega, fun i h1 h2 h3 _ h5 => ?_⟩, by omega, ?_, ⟨_, HG.out.1, hrow, fun c hc => .inr hc⟩, fun i hi => ?_⟩
      · rcases hi with hi | hi
        · exact ⟨.inl hi, by have := (z.2.2.2.2.2.2.2.2.1 i hi).2; omega⟩
        · have h6 := (hrow.lt i hi).2
          rcases HF.out.2.2.1 i hi with h7 | h7
          · exact ⟨.inl (z.2.2.2.2.2.2.2.1 i h7), h6⟩
          · exact ⟨.inr (by omega), h6⟩
      · rw [low i (by omega) h3 h5]
        exact HT3.out.2.2 i (by omega)
      · refine ⟨?_, ?_, ?_, by have := z.1.size; omega, fun i h1 h2 => ?_⟩
        · exact HG.out.2.os.trans (HF.out.2.2.2.os.trans (HE.out.2.1.os.trans z.1.os))
        · exact HG.out.2.tape.trans (HF.out.2.2.2.tape.trans (HE.out.2.1.tape.trans z.1.tape))
        · exact HG.out.2.output.trans (HF.out.2.2.2.output.trans (HE.out.2.1.output.trans z.1.output))
        · rw [low i (by have := z.1.size; omega) h2 (hGs i (by omega))]
          exact z.1.block i h1 h2
      · rcases hi with hi | hi
        · have := z.2.2.2.2.2.2.2.2.1 i hi
          exact ⟨this.1, by omega⟩
        · have h6 := (hrow.lt i hi).2
          rcases HF.out.2.2.1 i hi with h7 | h7
          · have := z.2.2.2.2.2.2.2.2.1 i (z.2.2.2.2.2.2.2.1 i h7)
            exact ⟨this.1, h6⟩
          · exact ⟨by omega, h6⟩
end Go.Proofs.Ythobfpegbnkpfaa.S
