/-
  The form of a result that says why a call was aborted; the call that the law knows.
-/
import Derived.Test.YtfocmbnhkldnfaaGreatDoorF
namespace Go.Proofs.YtfocmbnhkldnfaaGreatDoor
open Go.RowKit Disk
open Names (Str)

set_option maxRecDepth 100000 in
set_option maxHeartbeats 4000000 in
theorem form59_abort (ab pl : Int) (w : World) (ha : ab = 1 ∨ ab = 2 ∨ ab = 3) (h0 : 0 ≤ pl) (h1 : pl < 16) :
    Calls Tryz.prog 59 #[.agg #[.int .i64 ab, .int .i64 pl, .slice none 0 0]] w fun e w' => ∃ u, e = .returned u ∧ Own w' w.heap.size u (Wire.numForm ab.toNat ++ Wire.numForm pl.toNat) ∧ w.grownBy w' none := by
  have wu : IntKind.u64.wrap pl = pl := by rw [IntKind.wrap_u64]; omega
  obtain ⟨m, hm⟩ : ∃ m : Nat, m = ab.toNat := ⟨_, rfl⟩
  rw [← hm]
  have hm2 : ab = (m : Int) := by omega
  have HM : Hid (m < 10 ∧ ab = (m : Int)) := ⟨by omega, hm2⟩
  clear hm hm2
  rcases ha with rfl | rfl | rfl
  all_goals (
    go_enter Tryz.func59, Tryz.ntmps59
    go_wp2_with (go_at_call 103; refine (Wire.number9_int _ m (by first | exact HM.out.2 | (have := HM.out.2; simp [IntKind.wrap_u64]; omega)) (by have := HM.out.1; omega) _).mono ?_)
    rintro e w1 ⟨u1, rfl, ho1, hg1⟩
    have ho1' : Own w1 _ u1 _ := ho1
    have hb : Blk w1 w.heap.size 51 _ := Blk.grown (heap_alloc_new w _) hg1 (by simp)
    have c0 := hb.cell 0
    have c1 := hb.cell 1
    have c2 := hb.cell 2
    obtain ⟨x1, n1, y1, rfl⟩ := slice_of ho1'
    have H1 : Hid (Own w1 w.heap.size (.slice x1 n1 y1) (Wire.numForm m) ∧ w.grownBy w1 none) := ⟨ho1'.mono (by simp), grown_trans (World.grownBy_alloc _ _ none) hg1⟩
    clear ho1 ho1' hg1 hb
    go_wp2_with (first | (go_at_call 55; refine (sure_yes _ _).mono ?_; rintro e w2 ⟨rfl, hw2⟩; rw [hw2]; clear hw2) | (go_at_call 103; refine (Wire.number9_int _ pl.toNat (by first | omega | (rw [wu]; omega)) (by omega) _).mono ?_))
    rintro e w2 ⟨u2, rfl, ho2, hg2⟩
    have ho2' : Own w2 _ u2 _ := ho2
    obtain ⟨x2, n2, y2, rfl⟩ := slice_of ho2'
    have H2 : Hid (Own w2 w.heap.size (.slice x1 n1 y1) (Wire.numForm m) ∧ Own w2 w.heap.size (.slice x2 n2 y2) (Wire.numForm pl.toNat) ∧ w.grownBy w2 none) := ⟨H1.out.1.grown hg2, ho2'.mono H1.out.2.size, grown_trans H1.out.2 hg2⟩
    clear ho2 ho2' hg2
    go_wp2_with (go_at_call 104; refine (Wire.join10 _ _ _ (Wire.segs_two H2.out.1.seg H2.out.2.1.seg) ?g1).mono ?_)
    case g1 =>
      have q1 := Wire.numForm_len10 pl.toNat (by omega)
      have q2 := Wire.numForm_len10 m (by have := HM.out.1; omega)
      simp; omega
    rintro e w3 ⟨u3, rfl, ho3, hg3⟩
    have H3 : Hid (Own w3 w.heap.size u3 (Wire.numForm m ++ Wire.numForm pl.toNat) ∧ w.grownBy w3 none) := by
      refine ⟨?_, grown_trans H2.out.2.2 (grown_trans (World.grownBy_alloc _ _ none) hg3)⟩
      have := own_mono_trans (w := w) ho3 (grown_refl _ _) (by have := H2.out.2.2.size; simp; omega)
      simpa using this
    clear ho3 hg3
    go_wp2_with fail
    go_ret
    exact ⟨_, rfl, H3.out.1, H3.out.2⟩)

set_option maxRecDepth 100000 in
set_option maxHeartbeats 4000000 in
theorem form59_far (ab pl : Int) (w : World) (ha : ab = 1 ∨ ab = 2 ∨ ab = 3) (h1 : 16 ≤ pl) (h2 : pl ≤ 1000) :
    Calls Tryz.prog 59 #[.agg #[.int .i64 ab, .int .i64 pl, .slice none 0 0]] w fun e w' => e = Pan 2 ∧ w.grownBy w' none := by
  have i1 : (0 : Int) ≤ pl := by omega
  have i2 : (pl < (16 : Int)) = False := eq_false (by omega)
  rcases ha with rfl | rfl | rfl
  all_goals (
    go_enter Tryz.func59, Tryz.ntmps59
    go_wp2_with (go_at_call 103; refine (Wire.number9_int _ _ rfl (by decide) _).mono ?_)
    rintro e w1 ⟨u1, rfl, ho1, hg1⟩
    have hb : Blk w1 w.heap.size 51 _ := Blk.grown (heap_alloc_new w _) hg1 (by simp)
    have c0 := hb.cell 0
    have c1 := hb.cell 1
    have c2 := hb.cell 2
    have H1 : Hid (w.grownBy w1 none) := grown_trans (World.grownBy_alloc _ _ none) hg1
    clear ho1 hg1 hb
    go_wp2_with (first | (go_at_call 55; refine (sure_no _ _).mono ?_; rintro e w2 ⟨rfl, hw2⟩; rw [hw2]; clear hw2; unfold Pan))
    exact ⟨rfl, rfl, H1.out⟩)

set_option maxRecDepth 100000 in
set_option maxHeartbeats 4000000 in
theorem result58_abort (b : Nat) (ab pl : Int) (w : World) (ha : ab = 1 ∨ ab = 2 ∨ ab = 3) (h0 : 0 ≤ pl) (h2 : pl ≤ 1000) (hb : Blk w b 51 #[.int .i64 ab, .int .i64 pl, .slice none 0 0]) :
    Calls Tryz.prog 58 #[.pointer (some ⟨b, 0, none⟩)] w (Within w (fun u w' => pl < 16 ∧ Own w' w.heap.size u (Wire.numForm ab.toNat ++ Wire.numForm pl.toNat)) (fun c _ => 16 ≤ pl ∧ c = 2)) := by
  have c0 := hb.cell 0
  have c1 := hb.cell 1
  have c2 := hb.cell 2
  clear hb
  by_cases h1 : pl < 16
  · go_enter Tryz.func58, Tryz.ntmps58
    go_wp2_with (go_at_call 59; refine (form59_abort ab pl _ ha h0 h1).mono ?_)
    rintro e w1 ⟨u, rfl, ho, hg⟩
    have H : Hid (Own w1 w.heap.size u (Wire.numForm ab.toNat ++ Wire.numForm pl.toNat) ∧ w.grownBy w1 none) := ⟨ho, hg⟩
    clear ho hg
    go_wp2_with fail
    go_ret
    exact .inl ⟨_, rfl, ⟨h1, H.out.1⟩, H.out.2⟩
  · go_enter Tryz.func58, Tryz.ntmps58
    go_wp2_with (go_at_call 59; refine (form59_far ab pl _ ha (by omega) h2).mono ?_; rintro e w1 ⟨rfl, hg⟩; have H : Hid (w.grownBy w1 none) := hg; clear hg; unfold Pan)
    exact ⟨rfl, .inr ⟨2, rfl, ⟨by omega, rfl⟩, H.out⟩⟩

set_option maxRecDepth 100000 in
set_option maxHeartbeats 4000000 in
/-- Result, of a result without outs that says why. -/
theorem result27_abort (ab pl : Int) (w : World) (ha : ab = 1 ∨ ab = 2 ∨ ab = 3) (h0 : 0 ≤ pl) (h2 : pl ≤ 1000) :
    Calls Tryz.prog 27 #[.agg #[.int .i64 ab, .int .i64 pl, .slice none 0 0]] w fun e w' => (pl < 16 ∧ ∃ u, e = .returned (.tuple #[u, .int .i64 0]) ∧ Own w' w.heap.size u (Wire.numForm ab.toNat ++ Wire.numForm pl.toNat) ∧ w.grownBy w' none) ∨ (¬ pl < 16 ∧ e = .returned (.tuple #[.slice none 0 0, .int .i64 2]) ∧ w.grownBy w' none) := by
  have hmf : ∀ (fn : Fn) (first cap : Array Value) (w : World), (Instr.makeFunc fn first cap).run Tryz.prog w = .ok (.func fn first cap) w := fun _ _ _ _ => rfl
  have hin := result58_abort w.heap.size ab pl ((w.alloc (.cells #[.int .i64 ab, .int .i64 pl, .slice none 0 0] 51)).alloc (.cells #[.int .i64 0] 30)) ha h0 h2 (Blk.grown (heap_alloc_new w _) (World.grownBy_alloc _ _ none) (by simp))
  have HF : Hid _ := face57_58 _ _ _ _ hin
  clear hin
  go_enter Tryz.func27, Tryz.ntmps27
  go_wp2_with (go_at_call 57; refine Calls.mono HF.out ?_)
  rintro e w1 ⟨(⟨u, w2, rfl, ⟨hm, ho⟩, hl⟩ | ⟨c, w2, rfl, ⟨hm, rfl⟩, hl⟩), hg⟩
  · have HO : Hid (pl < 16 ∧ Own w1 w.heap.size u (Wire.numForm ab.toNat ++ Wire.numForm pl.toNat) ∧ w.grownBy w1 none) := ⟨hm, own_later (ho.mono (B' := w.heap.size) (by simp; omega)) hl, grown_trans (World.grownBy_alloc _ _ none) hg⟩
    clear hm ho hl hg HF
    go_wp2_with fail
    go_ret2
    exact .inl ⟨HO.out.1, _, rfl, HO.out.2.1, HO.out.2.2⟩
  · have HO : Hid (¬ pl < 16 ∧ w.grownBy w1 none) := ⟨by omega, grown_trans (World.grownBy_alloc _ _ none) hg⟩
    clear hm hl hg HF
    go_wp2_with fail
    go_ret2
    exact .inr ⟨HO.out.1, rfl, HO.out.2⟩
end Go.Proofs.YtfocmbnhkldnfaaGreatDoor
