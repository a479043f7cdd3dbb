/-
  NetNil: a closed sentence: nets that are not there, zero ones.
-/
import Derived.Test.YthobfpegbnkpfaaIN
import Derived.Test.YthobfpegbnkpfaaNd
import Derived.Test.YthobfpegbnkpfaaPr
namespace Go.Proofs.Ythobfpegbnkpfaa
open Go.RowKit Disk Table I

theorem Tx.grown' {n0 : Nat} {w W W' : World} (h : Tx n0 W W') (hg : w.grownBy W none) (hn : w.heap.size ≤ n0) : w.grownBy W' none :=
  ⟨h.os.trans hg.os, h.tape.trans hg.tape, h.output.trans hg.output, Nat.le_trans hg.size h.size, fun i hi _ => (h.block i (Nat.lt_of_lt_of_le hi hg.size) (.inl (by omega))).trans (hg.block i hi (by simp))⟩
set_option maxRecDepth 100000 in
set_option maxHeartbeats 8000000 in
theorem nil5 (w : World) : Calls Try.prog 5 #[] w fun e w' => e = .returned (.bool true) ∧ w.grownBy w' none := by
  refine calls_marks Try.func5 rfl ?_
  simp only [Try.ntmps5, List.size_toArray, List.length_nil, Nat.reduceSub, Array.replicate_succ, Array.replicate_zero, List.push_toArray, List.append_toArray, List.nil_append, List.cons_append]
  go_upto_region 2 with fail
  obtain ⟨w3, hw3, H3⟩ := al3 w #[.bool false] #[.bool false, .slice none 0 0, .int .i64 0] #[.pointer none, .pointer (some ⟨w.heap.size + 1, 0, none⟩)] 4 50 41
  rw [hw3]
  obtain ⟨x0, hx0⟩ : ∃ x, w.heap.size = x := ⟨_, rfl⟩
  obtain ⟨zb, hzb⟩ : ∃ x, x0 + 1 = x := ⟨_, rfl⟩
  obtain ⟨lb, hlb⟩ : ∃ x, zb + 1 = x := ⟨_, rfl⟩
  rw [hx0, hzb, hlb] at H3 ⊢
  obtain ⟨wx0, hwx⟩ : ∃ y : World, y = w3 := ⟨_, rfl⟩
  subst hwx
  have I0 : Hid (w.grownBy wx0 none ∧ Blk wx0 zb 50 #[.bool false, .slice none 0 0, .int .i64 0] ∧ Blk wx0 lb 41 #[.pointer none, .pointer (some ⟨zb, 0, none⟩)] ∧ Blk wx0 x0 4 #[.bool false]) := ⟨H3.out.2.2.2.1, H3.out.2.1, H3.out.2.2.1, H3.out.1⟩
  have HZ0 : Hid (w.heap.size = x0) := hx0
  clear hw3 hx0 hzb hlb H3
  go_wp2_with fail
  refine wp_loop_rounds 3 ?_
  rw [rounds_succ]
  have HX : Hid (NoNet wx0 (.pointer none)) := by
    have h := I0.out.2.1
    exact Or.inl rfl
  have c0 := (I0.out.2.2.1).cell 0
  simp at c0
  go_wp2_with fail
  refine (take_no _ 0 wx0 HX.out).mono ?_
  rintro e wa ⟨rfl, rfl⟩
  clear c0
  go_wp2_with fail
  refine (at_no _ 0 wa HX.out).mono ?_
  rintro e wb ⟨rfl, rfl⟩
  go_wp2_with fail
  obtain ⟨wc, hwc, HC⟩ := al1 wb #[.int .i64 1] 3
  rw [hwc]
  clear hwc
  have HX2 : Hid (NoNet wc (.pointer none)) := HX.out.grown HC.out.2.1
  refine (send_no _ _ wc HX2.out).mono ?_
  rintro e wd ⟨rfl, rfl⟩
  go_wp2_with fail
  refine (twin_no _ 0 wd HX2.out).mono ?_
  rintro e we ⟨rfl, rfl⟩
  go_wp2_with fail
  refine (lose_no _ 0 we HX2.out).mono ?_
  rintro e wf ⟨rfl, rfl⟩
  go_wp2_with fail
  refine (len_no _ wf HX2.out).mono ?_
  rintro e wg ⟨rfl, rfl⟩
  go_wp2_with fail
  refine (sent_no _ wg HX2.out).mono ?_
  rintro e wh ⟨rfl, rfl⟩
  go_wp2_with fail
  refine (copy_no _ wh HX2.out).mono ?_
  rintro e wi ⟨rfl, rfl⟩
  go_wp2_with fail
  refine (keep_no _ wi HX2.out).mono ?_
  rintro e wj ⟨rfl, gj⟩
  have HX3 : Hid (NoNet wj (.pointer none) ∧ wb.grownBy wj none) := ⟨HX2.out.grown gj, grown_trans HC.out.2.1 gj⟩
  clear gj HX HX2 HC
  go_wp2_with fail
  refine (all_no _ wj HX3.out.1).mono ?_
  rintro e wk ⟨bx, u, rfl, hbx, hbk, hway, gk⟩
  have HK : Hid (Blk wk bx 48 #[u] ∧ I.Way wk wj.heap.size u [] ∧ wb.grownBy wk none) := ⟨hbk, hway, grown_trans HX3.out.2 gk⟩
  have hfn : ∀ wz, (binOp .eql 54 (.func (.func 48) #[] #[.pointer (some ⟨bx, 0, none⟩)]) .nilFunc).run Try.prog wz = .ok (.bool false) wz := fun _ => rfl
  clear hbx hbk hway gk HX3
  go_wp2_with fail
  have HGV : Hid (GivesS Try.prog 48 #[.pointer (some ⟨bx, 0, none⟩)] 0 (fun k => k = ([] : List Pcl).length) (Xq []) (fun _ => False) wk) := overS _ bx wj.heap.size u [] wk HK.out.1 HK.out.2.1 (by simp) (fun i _ e => e)
  obtain ⟨sz0, hsz⟩ : ∃ x, wk.heap.size = x := ⟨_, rfl⟩
  have HSZ : Hid (wk.heap.size = sz0) := hsz
  clear hsz
  refine wp_rangeS (gf := 48) (lb := #[.pointer (some ⟨bx, 0, none⟩)]) rfl (enters_of Try.func48 (by kernel_rfl) rfl) HGV.out ?hps0
    (fun k G A => Hid (wk.grownBy A none)) (fun _ => False) ?hIg0 ?hXg0 ?h00 ?hround0 ?hdone0 ?hstop0
  case hps0 =>
    rintro k k' W0 W1 xs ⟨_, _, _, rfl⟩
    rfl
  case hIg0 =>
    rintro k G A B HA ht
    exact Tx.grown' ht HA.out (by omega)
  case hXg0 => exact fun _ _ h _ => h
  case h00 => exact grown_refl _ _
  case hstop0 => exact fun _ h => h.elim
  case hround0 =>
    rintro l' k k' G W0 W1 xs HI hlt0 htn ⟨a, ha, rfl, rfl⟩ _
    exact absurd ha (by simp)
  case hdone0 =>
    rintro A k G hfin HA hd
    have HD : Hid (A.heap[sz0]? = some (.deferred (some []))) := by rw [← HSZ.out]; exact hd
    rw [HSZ.out]
    clear hd hfin
    have I1 : Hid (w.grownBy A none ∧ Blk A zb 50 #[.bool false, .slice none 0 0, .int .i64 0] ∧ Blk A lb 41 #[.pointer none, .pointer (some ⟨zb, 0, none⟩)] ∧ Blk A x0 4 #[.bool false] ∧ A.heap[sz0]? = some (.deferred (some [])) ∧ w.heap.size ≤ sz0) := by
      have g := grown_trans HK.out.2.2 HA.out
      have h := I0.out
      have s1 := HK.out.2.2.size
      have s2 := h.1.size
      have s3 := HSZ.out
      exact ⟨grown_trans h.1 g, h.2.1.grown g (by simp), h.2.2.1.grown g (by simp), h.2.2.2.grown g (by simp), HD.out, by omega⟩
    clear HK HD HSZ HGV HA hfn I0
    obtain ⟨wx1, hwx⟩ : ∃ y : World, y = A := ⟨_, rfl⟩
    subst hwx
    go_wp2_with fail
    rw [rounds_succ]
    have HX : Hid (NoNet wx1 (.pointer (some ⟨zb, 0, none⟩))) := by
      have h := I1.out.2.1
      exact .inr ⟨zb, _, _, rfl, h⟩
    have c0 := (I1.out.2.2.1).cell 1
    simp at c0
    go_wp2_with fail
    refine (take_no _ 0 wx1 HX.out).mono ?_
    rintro e wa ⟨rfl, rfl⟩
    clear c0
    go_wp2_with fail
    refine (at_no _ 0 wa HX.out).mono ?_
    rintro e wb ⟨rfl, rfl⟩
    go_wp2_with fail
    obtain ⟨wc, hwc, HC⟩ := al1 wb #[.int .i64 1] 3
    rw [hwc]
    clear hwc
    have HX2 : Hid (NoNet wc (.pointer (some ⟨zb, 0, none⟩))) := HX.out.grown HC.out.2.1
    refine (send_no _ _ wc HX2.out).mono ?_
    rintro e wd ⟨rfl, rfl⟩
    go_wp2_with fail
    refine (twin_no _ 0 wd HX2.out).mono ?_
    rintro e we ⟨rfl, rfl⟩
    go_wp2_with fail
    refine (lose_no _ 0 we HX2.out).mono ?_
    rintro e wf ⟨rfl, rfl⟩
    go_wp2_with fail
    refine (len_no _ wf HX2.out).mono ?_
    rintro e wg ⟨rfl, rfl⟩
    go_wp2_with fail
    refine (sent_no _ wg HX2.out).mono ?_
    rintro e wh ⟨rfl, rfl⟩
    go_wp2_with fail
    refine (copy_no _ wh HX2.out).mono ?_
    rintro e wi ⟨rfl, rfl⟩
    go_wp2_with fail
    refine (keep_no _ wi HX2.out).mono ?_
    rintro e wj ⟨rfl, gj⟩
    have HX3 : Hid (NoNet wj (.pointer (some ⟨zb, 0, none⟩)) ∧ wb.grownBy wj none) := ⟨HX2.out.grown gj, grown_trans HC.out.2.1 gj⟩
    clear gj HX HX2 HC
    go_wp2_with fail
    refine (all_no _ wj HX3.out.1).mono ?_
    rintro e wk ⟨bx, u, rfl, hbx, hbk, hway, gk⟩
    have HK : Hid (Blk wk bx 48 #[u] ∧ I.Way wk wj.heap.size u [] ∧ wb.grownBy wk none) := ⟨hbk, hway, grown_trans HX3.out.2 gk⟩
    have hfn : ∀ wz, (binOp .eql 54 (.func (.func 48) #[] #[.pointer (some ⟨bx, 0, none⟩)]) .nilFunc).run Try.prog wz = .ok (.bool false) wz := fun _ => rfl
    clear hbx hbk hway gk HX3
    go_wp2_with fail
    have HGV : Hid (GivesS Try.prog 48 #[.pointer (some ⟨bx, 0, none⟩)] 0 (fun k => k = ([] : List Pcl).length) (Xq []) (fun _ => False) wk) := overS _ bx wj.heap.size u [] wk HK.out.1 HK.out.2.1 (by simp) (fun i _ e => e)
    obtain ⟨sz1, hsz⟩ : ∃ x, wk.heap.size = x := ⟨_, rfl⟩
    have HSZ : Hid (wk.heap.size = sz1) := hsz
    clear hsz
    refine wp_rangeS (gf := 48) (lb := #[.pointer (some ⟨bx, 0, none⟩)]) rfl (enters_of Try.func48 (by kernel_rfl) rfl) HGV.out ?hps1
      (fun k G A => Hid (wk.grownBy A none)) (fun _ => False) ?hIg1 ?hXg1 ?h01 ?hround1 ?hdone1 ?hstop1
    case hps1 =>
      rintro k k' W0 W1 xs ⟨_, _, _, rfl⟩
      rfl
    case hIg1 =>
      rintro k G A B HA ht
      exact Tx.grown' ht HA.out (by omega)
    case hXg1 => exact fun _ _ h _ => h
    case h01 => exact grown_refl _ _
    case hstop1 => exact fun _ h => h.elim
    case hround1 =>
      rintro l' k k' G W0 W1 xs HI hlt0 htn ⟨a, ha, rfl, rfl⟩ _
      exact absurd ha (by simp)
    case hdone1 =>
      rintro A k G hfin HA hd
      have HD : Hid (A.heap[sz1]? = some (.deferred (some []))) := by rw [← HSZ.out]; exact hd
      rw [HSZ.out]
      clear hd hfin
      have I2 : Hid (w.grownBy A none ∧ Blk A zb 50 #[.bool false, .slice none 0 0, .int .i64 0] ∧ Blk A lb 41 #[.pointer none, .pointer (some ⟨zb, 0, none⟩)] ∧ Blk A x0 4 #[.bool false] ∧ A.heap[sz1]? = some (.deferred (some [])) ∧ w.heap.size ≤ sz1 ∧ A.heap[sz0]? = some (.deferred (some [])) ∧ w.heap.size ≤ sz0 ∧ sz0 < sz1) := by
        have g := grown_trans HK.out.2.2 HA.out
        have h := I1.out
        have s1 := HK.out.2.2.size
        have s2 := h.1.size
        have s3 := HSZ.out
        exact ⟨grown_trans h.1 g, h.2.1.grown g (by simp), h.2.2.1.grown g (by simp), h.2.2.2.1.grown g (by simp), HD.out, by omega, (g.block _ (Array.getElem?_eq_some_iff.1 h.2.2.2.2.1).1 (by simp)).trans h.2.2.2.2.1, h.2.2.2.2.2, by have := (Array.getElem?_eq_some_iff.1 h.2.2.2.2.1).1; omega⟩
      clear HK HD HSZ HGV HA hfn I1
      obtain ⟨wx2, hwx⟩ : ∃ y : World, y = A := ⟨_, rfl⟩
      subst hwx
      go_wp2_with fail
      rw [rounds_succ]
      go_wp2_with fail
      refine (known18 wx2).mono ?_
      rintro e wk ⟨rfl, gk⟩
      have HK : Hid (wx2.grownBy wk none) := gk
      clear gk
      have HRB : Hid (Blk wk x0 4 #[.bool false] ∧ w.grownBy wk none) := ⟨I2.out.2.2.2.1.grown HK.out (by simp), grown_trans I2.out.1 HK.out⟩
      have r0 := HRB.out.1.cell 0
      have r1 := HRB.out.1.free 0
      simp at r0
      go_wp2_with fail
      have gs := grown_setCell wk x0 0 (.bool true)
      have hb5 := HRB.out.1.store 0 (.bool true)
      generalize wk.setCell ⟨x0, 0, none⟩ (.bool true) = we at gs hb5 ⊢
      have HE : Hid (w.grownBy we none ∧ Blk we x0 4 #[.bool true] ∧ we.heap[sz1]? = some (.deferred (some [])) ∧ we.heap[sz0]? = some (.deferred (some [])) ∧ sz0 < sz1 ∧ w.heap.size ≤ sz0) := by
        have hi := I2.out
        have hgk := HK.out
        have hd1 := (hgk.block _ (Array.getElem?_eq_some_iff.1 hi.2.2.2.2.1).1 (by simp)).trans hi.2.2.2.2.1
        have hd0 := (hgk.block _ (Array.getElem?_eq_some_iff.1 hi.2.2.2.2.2.2.1).1 (by simp)).trans hi.2.2.2.2.2.2.1
        have hne : ∀ z, wk.heap[z]? = some (.deferred (some [])) → z ≠ x0 := fun z hz e => by
          subst e
          have := HRB.out.1
          unfold Blk at this
          rw [hz] at this
          cases this
        exact ⟨grown_new HRB.out.2 gs (fun x hx => by simp at hx; have := HZ0.out; omega), by simpa using hb5, (gs.block _ (Array.getElem?_eq_some_iff.1 hd1).1 (by have := hne _ hd1; simp; exact this)).trans hd1, (gs.block _ (Array.getElem?_eq_some_iff.1 hd0).1 (by have := hne _ hd0; simp; exact this)).trans hd0, hi.2.2.2.2.2.2.2.2, hi.2.2.2.2.2.2.2.1⟩
      clear gs hb5 r0 r1
      refine ⟨by simp, .inl ⟨_, _, rfl, run_takeDeferred HE.out.2.2.1, ?_⟩⟩
      refine ⟨by simp, .inl ⟨_, _, rfl, run_takeDeferred ((World.putObj_heap_other (by have := HE.out; omega)).trans HE.out.2.2.2.1), ?_⟩⟩
      have t1 := Tx.putD (n0 := w.heap.size) (.deferred none) HE.out.2.2.1 (by have := HE.out; omega)
      have t2 := t1.trans (Tx.putD (n0 := w.heap.size) (.deferred none) ((World.putObj_heap_other (by have := HE.out; omega)).trans HE.out.2.2.2.1) (by have := HE.out; omega))
      have z4 := (t2.blk HE.out.2.1 (.inl (by decide))).cell 0
      simp at z4
      exact ⟨.bool true, by simp [results, Try.results5, go_sem, z4], rfl, Tx.grown' t2 HE.out.1 (Nat.le_refl _)⟩
end Go.Proofs.Ythobfpegbnkpfaa
