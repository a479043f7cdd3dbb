/-
  Databases that are not there, gone over: Tables, All; 'nothing'.
-/
import Derived.Test.YtakmlhhapegpoaaGreatMx
namespace Go.Proofs.YtakmlhhapegpoaaGreat
open Go.RowKit Disk Table
open Names (Str cmpL keyB valueB tabB)
open _root_.Go.Proofs.YtakmlhhapegpoaaGreat.Calls (POp POut PRes opV OpSeg mayOp Ops OpAt ops_at ops_open chk rds mayCall)

theorem tn_grown {W W' : World} {n0 : Nat} (h : Tn n0 W W') (hn : W.heap.size ≤ n0) : W.grownBy W' none := ⟨h.os, h.tape, h.output, h.size, fun i hi _ => h.block i hi (.inl (by omega))⟩
/-- Nothing is handed over. -/
def Xn (_ : Nat) (_ _ : World) (_ : Array Value) : Prop := False
set_option maxRecDepth 100000 in
set_option maxHeartbeats 4000000 in
theorem gives80_no (kb : Nat) (Fw : Nat → Prop) (w : World) (hb : Blk w kb 62 #[.map none]) : Gives Tryz.prog 80 #[.pointer (some ⟨kb, 0, none⟩)] 0 Xn Fw w := by
  intro lp J Jx W hgW hJ hJx hY h0
  have c0 := (hb.grown hgW (by simp)).cell 0
  simp at c0
  have hr := run_range_no W
  have hn := run_next_nil W
  have HJ : Hid _ := hJ
  have H0 : Hid (J 0 W) := h0
  clear hJ hJx hY h0 hb hgW
  show Calls Tryz.prog 80 #[.func (.yield lp) #[] #[], .pointer (some ⟨kb, 0, none⟩)] W _
  go_enter Tryz.func80, Tryz.ntmps80
  go_wp2_with fail
  refine wp_loop_rounds 2 ?_
  rw [rounds_succ]
  go_wp2_with fail
  exact ⟨rfl, _, results_none rfl _ _ _, ⟨_, rfl⟩, .inl (HJ.out 0 W _ H0.out (Tn.of_grown (World.grownBy_alloc _ _ _)))⟩
set_option maxRecDepth 100000 in
set_option maxHeartbeats 4000000 in
theorem keys55 (mo : Option Nat) (w : World) : Calls Tryz.prog 55 #[.map mo] w fun e w' => e = .returned (.func (.func 80) #[] #[.pointer (some ⟨w.heap.size, 0, none⟩)]) ∧ Blk w' w.heap.size 62 #[.map mo] ∧ w.grownBy w' none := by
  have hmf : ∀ (fn : Fn) (first cap : Array Value) (w : World), (Instr.makeFunc fn first cap).run Tryz.prog w = .ok (.func fn first cap) w := fun _ _ _ _ => rfl
  go_enter Tryz.func55, Tryz.ntmps55
  go_wp2_with fail
  go_ret
  exact ⟨rfl, heap_alloc_new _ _, World.grownBy_alloc _ _ _⟩
set_option maxRecDepth 100000 in
set_option maxHeartbeats 8000000 in
theorem append105_no (kb : Nat) (w : World) (hb : Blk w kb 62 #[.map none]) : Calls Tryz.prog 105 #[.slice none 0 0, .func (.func 80) #[] #[.pointer (some ⟨kb, 0, none⟩)]] w fun e w' => e = .returned (.slice none 0 0) ∧ w.grownBy w' none := by
  have HB : Hid (Blk w kb 62 #[.map none]) := hb
  clear hb
  refine calls_marks Tryz.func105 rfl ?_
  simp only [Tryz.ntmps105, List.size_toArray, List.length_cons, List.length_nil, Nat.reduceAdd, Nat.reduceSub, Array.replicate_succ, Array.replicate_zero, List.push_toArray, List.append_toArray, List.nil_append, List.cons_append]
  go_wp2_with fail
  obtain ⟨w1, hw1, H1⟩ := al w #[.slice none 0 0] 89
  rw [hw1]
  clear hw1
  refine wp_range (gf := 80) (lb := #[.pointer (some ⟨kb, 0, none⟩)]) rfl (enters_of Tryz.func80 (by kernel_rfl) rfl) (gives80_no kb (fun _ => False) w1 (HB.out.grown H1.out.2.1 (by simp))) ?hps (fun _ A => Blk A w.heap.size 89 #[.slice none 0 0] ∧ Tn (w1.heap.size + 1) w1 A) (fun _ => False) ?hIg ?hXg ⟨H1.out.1, Tn.refl _ _⟩ ?hround ?hdone ?hstop
  case hps => rintro k W0 W1 xs h; exact h.elim
  case hIg => exact fun k A B h ht => ⟨ht.blk h.1, h.2.trans ht⟩
  case hXg => exact fun A B h _ => h
  case hround => intro l k W0 W1 xs hk; omega
  case hstop => intro A hA; exact hA.elim
  case hdone =>
    intro A hA hd
    have HA : Hid (Blk A w.heap.size 89 #[.slice none 0 0] ∧ Tn (w1.heap.size + 1) w1 A) := hA
    have HD : Hid _ := hd
    clear hA hd
    have q0 := HA.out.1.cell 0
    simp at q0
    refine (‹∀ (a : Act) (w : World), Code.wp Tryz.prog _ _ a w → _› _ _ ?_)
    go_wp2_with fail
    refine ⟨by simp, .inl ⟨_, _, rfl, run_takeDeferred HD.out, ?_⟩⟩
    refine ⟨.slice none 0 0, by simp [results, Tryz.results105, go_sem], rfl, ?_⟩
    exact grown_trans H1.out.2.1 (tn_grown ((HA.out.2.mono (Nat.le_succ _)).trans (Tn.putD (.deferred none) HD.out (Nat.le_refl _))) (Nat.le_refl _))
set_option maxRecDepth 100000 in
set_option maxHeartbeats 4000000 in
theorem collect78_no (kb : Nat) (w : World) (hb : Blk w kb 62 #[.map none]) : Calls Tryz.prog 78 #[.func (.func 80) #[] #[.pointer (some ⟨kb, 0, none⟩)]] w fun e w' => e = .returned (.slice none 0 0) ∧ w.grownBy w' none := by
  have HB : Hid (Blk w kb 62 #[.map none]) := hb
  clear hb
  go_enter Tryz.func78, Tryz.ntmps78
  go_wp2_with fail
  refine (append105_no kb w HB.out).mono ?_
  rintro e w1 ⟨rfl, g1⟩
  have G1 : Hid (w.grownBy w1 none) := g1
  clear g1
  go_wp2_with fail
  go_ret
  exact ⟨rfl, G1.out⟩
set_option maxRecDepth 100000 in
set_option maxHeartbeats 4000000 in
theorem sorted54_no (kb : Nat) (w : World) (hb : Blk w kb 62 #[.map none]) : Calls Tryz.prog 54 #[.func (.func 80) #[] #[.pointer (some ⟨kb, 0, none⟩)]] w fun e w' => e = .returned (.slice none 0 0) ∧ w.grownBy w' none := by
  have HB : Hid (Blk w kb 62 #[.map none]) := hb
  clear hb
  go_enter Tryz.func54, Tryz.ntmps54
  go_wp2_with fail
  refine (collect78_no kb w HB.out).mono ?_
  rintro e w1 ⟨rfl, g1⟩
  have G1 : Hid (w.grownBy w1 none) := g1
  clear g1
  go_wp2_with fail
  refine (Tryz.slices_Sort_string_none none 0 w1).mono ?_
  rintro e w2 ⟨rfl, hw⟩
  rw [hw]
  clear hw
  go_wp2_with fail
  go_ret
  exact ⟨rfl, G1.out⟩
set_option maxRecDepth 100000 in
set_option maxHeartbeats 4000000 in
theorem tables40_no (ev : Value) (w : World) (h : NoEng w ev) : Calls Tryz.prog 40 #[ev] w fun e w' => e = .returned (.slice none 0 0) ∧ w.grownBy w' none := by
  have HB : Hid (NoEng w ev) := h
  clear h
  go_enter Tryz.func40, Tryz.ntmps40
  go_wp2_with (go_at_call 42; refine (byName42_no ev w HB.out).mono ?_; rintro e w1 ⟨rfl, hw⟩; rw [hw]; clear hw)
  refine (keys55 none w).mono ?_
  rintro e w1 ⟨rfl, hk, g1⟩
  have H1 : Hid (Blk w1 w.heap.size 62 #[.map none] ∧ w.grownBy w1 none) := ⟨hk, g1⟩
  clear hk g1
  go_wp2_with fail
  refine (sorted54_no w.heap.size w1 H1.out.1).mono ?_
  rintro e w2 ⟨rfl, g2⟩
  have G2 : Hid (w.grownBy w2 none) := grown_trans H1.out.2 g2
  clear g2
  go_wp2_with fail
  go_ret
  exact ⟨rfl, G2.out⟩
set_option maxRecDepth 100000 in
set_option maxHeartbeats 4000000 in
theorem all23 (ev : Value) (he : ∃ a, ev = .pointer a) (w : World) : Calls Tryz.prog 23 #[ev] w fun e w' => e = .returned (.func (.func 53) #[] #[.pointer (some ⟨w.heap.size, 0, none⟩)]) ∧ Blk w' w.heap.size 28 #[ev] ∧ w.grownBy w' none := by
  obtain ⟨a, rfl⟩ := he
  have hmf : ∀ (fn : Fn) (first cap : Array Value) (w : World), (Instr.makeFunc fn first cap).run Tryz.prog w = .ok (.func fn first cap) w := fun _ _ _ _ => rfl
  go_enter Tryz.func23, Tryz.ntmps23
  go_wp2_with fail
  go_ret
  exact ⟨rfl, heap_alloc_new _ _, World.grownBy_alloc _ _ _⟩
theorem noEng_ptr {w : World} {v : Value} (h : NoEng w v) : ∃ a, v = .pointer a := by
  rcases h with rfl | ⟨b, rfl, _⟩
  · exact ⟨_, rfl⟩
  · exact ⟨_, rfl⟩
set_option maxRecDepth 100000 in
set_option maxHeartbeats 4000000 in
theorem gives53_no (eb : Nat) (ev : Value) (Fw : Nat → Prop) (w : World) (hb : Blk w eb 28 #[ev]) (hv : NoEng w ev) : Gives Tryz.prog 53 #[.pointer (some ⟨eb, 0, none⟩)] 0 Xn Fw w := by
  intro lp J Jx W hgW hJ hJx hY h0
  obtain ⟨a, rfl⟩ := noEng_ptr hv
  have HE : Hid (NoEng W (.pointer a) ∧ Blk W eb 28 #[.pointer a]) := ⟨hv.grown hgW, hb.grown hgW (by simp)⟩
  have HJ : Hid _ := hJ
  have H0 : Hid (J 0 W) := h0
  clear hJ hJx hY h0 hb hgW hv
  show Calls Tryz.prog 53 #[.func (.yield lp) #[] #[], .pointer (some ⟨eb, 0, none⟩)] W _
  refine calls_marks Tryz.func53 rfl ?_
  simp only [Tryz.ntmps53, List.size_toArray, List.length_cons, List.length_nil, Nat.reduceAdd, Nat.reduceSub, Array.replicate_succ, Array.replicate_zero, List.push_toArray, List.append_toArray, List.nil_append, List.cons_append]
  obtain ⟨w1, hw1, H1⟩ := al W #[.func (.yield lp) #[] #[]] 103
  have c0 := (HE.out.2.grown H1.out.2.1 (by simp)).cell 0
  simp at c0
  go_wp2_with (go_at_call 42; refine (byName42_no (.pointer a) w1 (HE.out.1.grown H1.out.2.1)).mono ?_; rintro e w2 ⟨rfl, hw⟩; rw [hw]; clear hw)
  refine (keys55 none w1).mono ?_
  rintro e w2 ⟨rfl, hk, g2⟩
  have H2 : Hid (Blk w2 w1.heap.size 62 #[.map none] ∧ W.grownBy w2 none) := ⟨hk, grown_trans H1.out.2.1 g2⟩
  clear hk g2
  go_wp2_with fail
  refine (sorted54_no w1.heap.size w2 H2.out.1).mono ?_
  rintro e w3 ⟨rfl, g3⟩
  have G3 : Hid (W.grownBy w3 none) := grown_trans H2.out.2 g3
  clear g3
  go_wp2_with fail
  refine wp_loop_rounds 2 ?_
  rw [rounds_succ]
  go_wp2_with fail
  exact ⟨_, results_none rfl _ _ _, ⟨_, rfl⟩, .inl (HJ.out 0 W _ H0.out (Tn.of_grown G3.out))⟩
theorem ops_nil (w : World) : Ops w (.slice none 0 0) [] := ⟨none, 0, rfl, by simp, fun j hj => absurd hj (by simp)⟩
set_option maxHeartbeats 400000 in
theorem num16 (x : Int) (w : World) : Calls Tryz.prog 16 #[.int .i64 x] w fun e w' => e = .returned (.int .i64 x) ∧ w' = w := by
  go_enter Tryz.func16, Tryz.ntmps16
  go_wp2
  go_ret
  exact ⟨rfl, rfl⟩
end Go.Proofs.YtakmlhhapegpoaaGreat
