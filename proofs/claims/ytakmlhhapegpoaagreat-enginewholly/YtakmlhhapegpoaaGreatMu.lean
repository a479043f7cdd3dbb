/-
  Try: another database, and the result.
-/
import Derived.Test.YtakmlhhapegpoaaGreatMt
namespace Go.Proofs.YtakmlhhapegpoaaGreat
open Go.RowKit Disk Table
open Names (Str cmpL keyB valueB tabB)
open _root_.Go.Proofs.YtakmlhhapegpoaaGreat.Calls (POp POut PRes opV OpSeg mayOp Ops OpAt ops_at ops_open chk rds mayCall)

def resV3 (x y : Int) (v : Value) : Value := .agg #[.int .i64 x, .int .i64 y, v]
theorem load49 {w : World} {rb : Nat} {x y z : Value} (hr : Blk w rb 49 #[x, y, z]) : (loadVar 49 ⟨rb, 0, none⟩).run Tryz.prog w = .ok (.agg #[x, y, z]) w := run_loadVar_row w rb 49 49 #[x, y, z] (0, 0) _ hr Tryz.underlying49 rfl (by kernel_rfl)
theorem res34 {w : World} {tmps : Array Value} {rb : Nat} {p e x y z : Value} (h4 : tmps[4]? = some p) (h5 : tmps[5]? = some (.pointer (some ⟨rb, 0, none⟩))) (h6 : tmps[6]? = some e) (hr : Blk w rb 49 #[x, y, z]) : (results Tryz.f34 tmps).run Tryz.prog w = .ok (.tuple #[p, .agg #[x, y, z], e]) w := by
  simp [results, Tryz.results34, h4, h5, h6, asAddr, load49 hr, Result.andThen]
theorem res17 {w : World} {tmps : Array Value} {rb : Nat} {e x y z : Value} (h4 : tmps[4]? = some (.pointer (some ⟨rb, 0, none⟩))) (h5 : tmps[5]? = some e) (hr : Blk w rb 49 #[x, y, z]) : (results Tryz.f17 tmps).run Tryz.prog w = .ok (.tuple #[.agg #[x, y, z], e]) w := by
  simp [results, Tryz.results17, h4, h5, asAddr, load49 hr, Result.andThen]
theorem res26 {w : World} {tmps : Array Value} {rb : Nat} {e x y z : Value} (h4 : tmps[4]? = some (.pointer (some ⟨rb, 0, none⟩))) (h5 : tmps[5]? = some e) (hr : Blk w rb 49 #[x, y, z]) : (results Tryz.f26 tmps).run Tryz.prog w = .ok (.tuple #[.agg #[x, y, z], e]) w := by
  simp [results, Tryz.results26, h4, h5, asAddr, load49 hr, Result.andThen]
/-- A call that may be: its ops may be, and are few. -/
theorem chk_may {l : List POp} (h : chk l = 0) : (∀ o ∈ l, mayOp o = true) ∧ 1 ≤ l.length ∧ l.length ≤ 16 := by
  unfold chk at h
  split at h
  · rename_i hm
    unfold mayCall at hm
    simp at hm
    exact ⟨fun o ho => hm.2 o ho, hm.1.1, hm.1.2⟩
  · omega
/-- What Try comes to. -/
def TryE (X : Nat → Prop) (q : Int × Int) (D : DB) (l : List POp) (m : Nat) (w : World) (e : Ending) (w' : World) : Prop :=
  w.grownBy w' none ∧ ((chk l ≠ 0 ∧ e = .returned (.tuple #[.pointer none, resV3 0 0 (.slice none 0 0), .int .i64 (chk l)])) ∨
    (chk l = 0 ∧ ∃ outs D', callD q D [] l = .ok (outs, D') ∧ DbQ q D' ∧ ∃ db v, e = .returned (.tuple #[ptr db, resV3 0 0 v, .int .i64 0]) ∧ w.heap.size ≤ db ∧ Eng X w' db q D' ∧ OutsN w' w.heap.size v outs) ∨
    (chk l = 0 ∧ ∃ c n, callD q D [] l = .error (c, n) ∧ ∃ cb, e = .returned (.tuple #[ptr cb, resV3 c n (.slice none 0 0), .int .i64 0]) ∧ w.heap.size ≤ cb ∧ EngB w' cb q m))
theorem grown_s3 {w w1 : World} {B : Nat} {u v x : Value} (h : w.grownBy w1 none) (hB : w.heap.size ≤ B) : w.grownBy (((w1.setCell ⟨B, 0, none⟩ u).setCell ⟨B, 1, none⟩ v).setCell ⟨B, 2, none⟩ x) none := grown_set3 h hB
/-- A result written: what stands. -/
theorem em_res {X : Nat → Prop} {w : World} {m rb : Nat} {D : DB} {i j x y : Int} {a a' : Option Addr} {n n' c c' : Nat} (h : EM X w m D) (hr : Blk w rb 49 #[.int .i64 i, .int .i64 j, .slice a n c]) : EM X (((w.setCell ⟨rb, 0, none⟩ (.int .i64 x)).setCell ⟨rb, 1, none⟩ (.int .i64 y)).setCell ⟨rb, 2, none⟩ (.slice a' n' c')) m D :=
  em_offT (em_offT (em_offT h (grown_setCell _ _ _ _) hr (by decide) (by decide) (by decide) (noP3 _ _ _ _ _)) (grown_setCell _ _ _ _) (hr.store 0 (.int .i64 x)) (by decide) (by decide) (by decide) (noP3 _ _ _ _ _)) (grown_setCell _ _ _ _) ((hr.store 0 (.int .i64 x)).store 1 (.int .i64 y)) (by decide) (by decide) (by decide) (noP3 _ _ _ _ _)
theorem outs_res {w : World} {B rb : Nat} {v : Value} {l : List POut} {i j x y : Int} {a a' : Option Addr} {n n' c c' : Nat} (h : OutsN w B v l) (hr : Blk w rb 49 #[.int .i64 i, .int .i64 j, .slice a n c]) : OutsN (((w.setCell ⟨rb, 0, none⟩ (.int .i64 x)).setCell ⟨rb, 1, none⟩ (.int .i64 y)).setCell ⟨rb, 2, none⟩ (.slice a' n' c')) B v l :=
  ((h.off (grown_setCell _ _ _ _) hr (by decide) (by decide) (by decide)).off (grown_setCell _ _ _ _) (hr.store 0 (.int .i64 x)) (by decide) (by decide) (by decide)).off (grown_setCell _ _ _ _) ((hr.store 0 (.int .i64 x)).store 1 (.int .i64 y)) (by decide) (by decide) (by decide)
theorem eng_res {w : World} {b m rb : Nat} {q : Int × Int} {i j : Int} {u v x : Value} {a : Option Addr} {n c : Nat} (h : EngB w b q m) (hr : Blk w rb 49 #[.int .i64 i, .int .i64 j, .slice a n c]) : EngB (((w.setCell ⟨rb, 0, none⟩ u).setCell ⟨rb, 1, none⟩ v).setCell ⟨rb, 2, none⟩ x) b q m := by
  have hne : some rb ≠ some b := by
    intro e
    simp at e
    subst e
    unfold EngB Blk at h
    unfold Blk at hr
    rw [h] at hr
    simp at hr
  exact ((Blk.grown h (grown_setCell _ _ _ _) hne).grown (grown_setCell _ _ _ _) hne).grown (grown_setCell _ _ _ _) hne
set_option maxRecDepth 100000 in
set_option maxHeartbeats 8000000 in
theorem try34 {X : Nat → Prop} (b m : Nat) (q : Int × Int) (D : DB) (hD : DbQ q D) (v : Value) (l : List POp) (w : World) (hX : ∀ g, X g → g < w.heap.size) (hb : EngB w b q m) (hm : EM X w m D) (hv : Ops w v l) : Calls Tryz.prog 34 #[.pointer (some ⟨b, 0, none⟩), .agg #[v]] w (TryE X q D l m w) := by
  obtain ⟨ao, n, cap, rfl, hn, hn2, HV⟩ := ops_open hv
  have HH : Hid (DbQ q D ∧ (∀ g, X g → g < w.heap.size) ∧ EngB w b q m ∧ EM X w m D) := ⟨hD, hX, hb, hm⟩
  obtain ⟨C, hC⟩ : ∃ C, chk l = C := ⟨_, rfl⟩
  have HC0 : Hid (chk l = C) := hC
  clear hv hD hX hb hm hn hn2 hC
  go_enter Tryz.func34, Tryz.ntmps34
  go_wp2_with fail
  obtain ⟨w1, hw1, H1⟩ := al w #[.slice ao n cap] 37
  rw [hw1]
  clear hw1
  obtain ⟨w2, hw2, H2⟩ := al w1 #[.int .i64 0, .int .i64 0, .slice none 0 0] 49
  rw [hw2]
  clear hw2
  have s1 := H1.out.2.2
  obtain ⟨rb, hrb⟩ : ∃ rb, w.heap.size + 1 = rb := ⟨_, rfl⟩
  have HB : Hid (w.grownBy w2 none ∧ Blk w2 rb 49 #[.int .i64 0, .int .i64 0, .slice none 0 0] ∧ Blk w2 w.heap.size 37 #[.slice ao n cap] ∧ w.heap.size < rb) := ⟨grown_trans H1.out.2.1 H2.out.2.1, by rw [← hrb, ← s1]; exact H2.out.1, H1.out.1.grown H2.out.2.1 (by simp), by omega⟩
  rw [hrb]
  clear H1 H2 s1 hrb
  have c0 := HB.out.2.2.1.cell 0
  simp at c0
  go_wp2_with fail
  refine (refuses57 b m q (.slice ao n cap) l w2 (Blk.grown HH.out.2.2.1 HB.out.1 (by simp)) (HV.out.grown HB.out.1)).mono ?_
  rw [HC0.out]
  rintro e w3 ⟨rfl, g3⟩
  have G3 : Hid (w.grownBy w3 none ∧ Blk w3 rb 49 #[.int .i64 0, .int .i64 0, .slice none 0 0]) := ⟨grown_trans HB.out.1 g3, HB.out.2.1.grown g3 (by simp)⟩
  replace c0 := g3.cell c0 (by simp)
  clear g3
  by_cases hz : C = 0
  · subst hz
    go_wp2_with fail
    refine (behind59 (X := X) b m q D HH.out.1 (.slice ao n cap) l (chk_may HC0.out).1 (by have := (chk_may HC0.out).2.2; omega) w3 (fun g hg => by have := HH.out.2.1 g hg; have := G3.out.1.size; omega) (Blk.grown HH.out.2.2.1 G3.out.1 (by simp)) (HH.out.2.2.2.grown G3.out.1) (HV.out.grown G3.out.1)).mono ?_
    rintro e w4 ⟨g4, ⟨outs, D1, hcall, hdb, db, u, rfl, hdbl, hE, hO⟩ | ⟨c, k, hcall, db, rfl, hdbl, hE⟩⟩
    · obtain ⟨au, nu, cu, rfl, _, _, _⟩ := hO.shape
      have H4 : Hid (callD q D [] l = .ok (outs, D1) ∧ DbQ q D1 ∧ w.heap.size ≤ db ∧ Eng X w4 db q D1 ∧ OutsN w4 w.heap.size (.slice au nu cu) outs ∧ w.grownBy w4 none ∧ Blk w4 rb 49 #[.int .i64 0, .int .i64 0, .slice none 0 0]) := ⟨hcall, hdb, Nat.le_trans G3.out.1.size hdbl, hE, by obtain ⟨ks, k1, k2, k3⟩ := hO; exact ⟨ks, owns_mono k1 G3.out.1.size, ⟨k2.1, fun j a b => ⟨(k2.2 j a b).has, (k2.2 j a b).value.mono G3.out.1.size, (k2.2 j a b).rows.mono G3.out.1.size⟩⟩, k3⟩, grown_trans G3.out.1 g4, G3.out.2.grown g4 (by simp)⟩
      clear hcall hdb hdbl hE hO g4
      unfold ptr
      go_wp2_with fail
      obtain ⟨w5, hw5, H5⟩ := al w4 #[.int .i64 0, .int .i64 0, .slice au nu cu] 49
      rw [hw5]
      clear hw5
      refine wp_region_noPanic ?_
      refine wp_region_hold 1000 (fun y => Blk y w4.heap.size 49 #[.int .i64 0, .int .i64 0, .slice au nu cu]) (by kernel_rfl) ?_
      have HD : Hid (Blk w5.drew w4.heap.size 49 #[.int .i64 0, .int .i64 0, .slice au nu cu] ∧ w4.grownBy w5.drew none) := ⟨H5.out.1.grown (grown_drew _ none) (by simp), grown_trans H5.out.2.1 (grown_drew _ _)⟩
      generalize w5.drew = wd at HD ⊢
      refine wpHold_take (i := 0) (v := _) (HD.out.1) rfl rfl (by kernel_rfl) (by kernel_rfl) (by kernel_rfl) (by kernel_rfl) (by kernel_rfl) (fun _ _ _ h => h) (by rfl) (fun wk hk => by have y0 := hk.cell 0; have y1 := hk.cell 1; have y2 := hk.cell 2; simp at y0 y1 y2; go_simp; try rfl) ?_
      try simp only [Act.put, List.setIfInBounds_toArray, List.set_cons_zero, List.set_cons_succ]
      refine wpHold_take (i := 1) (v := _) (HD.out.1) rfl rfl (by kernel_rfl) (by kernel_rfl) (by kernel_rfl) (by kernel_rfl) (by kernel_rfl) (fun _ _ _ h => h) (by rfl) (fun wk hk => by have y0 := hk.cell 0; have y1 := hk.cell 1; have y2 := hk.cell 2; simp at y0 y1 y2; go_simp; try rfl) ?_
      try simp only [Act.put, List.setIfInBounds_toArray, List.set_cons_zero, List.set_cons_succ]
      refine wpHold_take (i := 2) (v := _) (HD.out.1) rfl rfl (by kernel_rfl) (by kernel_rfl) (by kernel_rfl) (by kernel_rfl) (by kernel_rfl) (fun _ _ _ h => h) (by rfl) (fun wk hk => by have y0 := hk.cell 0; have y1 := hk.cell 1; have y2 := hk.cell 2; simp at y0 y1 y2; go_simp; try rfl) ?_
      try simp only [Act.put, List.setIfInBounds_toArray, List.set_cons_zero, List.set_cons_succ]
      refine wpHold_one (i := 3) rfl (by kernel_rfl) (by rfl) (fun K hK => ?_)
      have hr := H4.out.2.2.2.2.2.2.grown HD.out.2 (by simp)
      have f0 := hr.free 0
      have f1 := hr.free 1
      have f2 := hr.free 2
      have v0 := hr.cell 0
      have v1 := hr.cell 1
      have v2 := hr.cell 2
      simp at v0 v1 v2
      have HRB : Hid (Blk wd rb 49 #[.int .i64 0, .int .i64 0, .slice none 0 0]) := hr
      clear hr
      go_wp2_with fail
      have hlt : rb < w4.heap.size := H4.out.2.2.2.2.2.2.lt
      have hne : some rb ≠ some w4.heap.size := by simp; omega
      have HD2 : Hid (Blk (((wd.setCell ⟨rb, 0, none⟩ (.int .i64 0)).setCell ⟨rb, 1, none⟩ (.int .i64 0)).setCell ⟨rb, 2, none⟩ (.slice au nu cu)) w4.heap.size 49 #[.int .i64 0, .int .i64 0, .slice au nu cu]) := ((HD.out.1.grown (grown_setCell _ _ _ _) hne).grown (grown_setCell _ _ _ _) hne).grown (grown_setCell _ _ _ _) hne
      refine hK.out _ _ (fun _ => HD2.out) ?_
      clear hK K f0 f1 f2 v0 v1 v2 hlt hne
      try simp only [Act.put, List.setIfInBounds_toArray, List.set_cons_zero, List.set_cons_succ]
      refine wpHold_take (i := 4) (v := _) (HD2.out) rfl rfl (by kernel_rfl) (by kernel_rfl) (by kernel_rfl) (by kernel_rfl) (by kernel_rfl) (fun _ _ _ h => h) (by rfl) (fun wk hk => by have y0 := hk.cell 0; have y1 := hk.cell 1; have y2 := hk.cell 2; simp at y0 y1 y2; go_simp; try rfl) ?_
      try simp only [Act.put, List.setIfInBounds_toArray, List.set_cons_zero, List.set_cons_succ]
      refine wpHold_done (by kernel_rfl) ?_
      refine (‹∀ (a : Act) (w : World), Code.wp Tryz.prog _ _ a w → _› _ _ ?_)
      go_wp2_with fail
      refine bodyPost_ret (v := _) (res34 rfl rfl rfl (((HRB.out.store 0 (.int .i64 0)).store 1 (.int .i64 0)).store 2 (.slice au nu cu))) rfl ?_
      obtain ⟨m1, e1, e2⟩ := H4.out.2.2.2.1
      refine ⟨grown_s3 (grown_trans H4.out.2.2.2.2.2.1 HD.out.2) (by have := HB.out.2.2.2; omega), .inr (.inl ⟨HC0.out, outs, D1, H4.out.1, H4.out.2.1, db, _, rfl, H4.out.2.2.1, ⟨m1, eng_res (Blk.grown e1 HD.out.2 (by simp)) HRB.out, em_res (e2.grown HD.out.2) HRB.out⟩, outs_res (H4.out.2.2.2.2.1.grown HD.out.2) HRB.out⟩)⟩
    · have H4 : Hid (callD q D [] l = .error (c, k) ∧ w.heap.size ≤ db ∧ EngB w4 db q m ∧ w.grownBy w4 none ∧ Blk w4 rb 49 #[.int .i64 0, .int .i64 0, .slice none 0 0]) := ⟨hcall, Nat.le_trans G3.out.1.size hdbl, hE, grown_trans G3.out.1 g4, G3.out.2.grown g4 (by simp)⟩
      clear hcall hdbl hE g4
      unfold ptr
      go_wp2_with fail
      obtain ⟨w5, hw5, H5⟩ := al w4 #[.int .i64 c, .int .i64 (k : Int), .slice none 0 0] 49
      rw [hw5]
      clear hw5
      refine wp_region_noPanic ?_
      refine wp_region_hold 1000 (fun y => Blk y w4.heap.size 49 #[.int .i64 c, .int .i64 (k : Int), .slice none 0 0]) (by kernel_rfl) ?_
      have HD : Hid (Blk w5.drew w4.heap.size 49 #[.int .i64 c, .int .i64 (k : Int), .slice none 0 0] ∧ w4.grownBy w5.drew none) := ⟨H5.out.1.grown (grown_drew _ none) (by simp), grown_trans H5.out.2.1 (grown_drew _ _)⟩
      generalize w5.drew = wd at HD ⊢
      refine wpHold_take (i := 0) (v := _) (HD.out.1) rfl rfl (by kernel_rfl) (by kernel_rfl) (by kernel_rfl) (by kernel_rfl) (by kernel_rfl) (fun _ _ _ h => h) (by rfl) (fun wk hk => by have y0 := hk.cell 0; have y1 := hk.cell 1; have y2 := hk.cell 2; simp at y0 y1 y2; go_simp; try rfl) ?_
      try simp only [Act.put, List.setIfInBounds_toArray, List.set_cons_zero, List.set_cons_succ]
      refine wpHold_take (i := 1) (v := _) (HD.out.1) rfl rfl (by kernel_rfl) (by kernel_rfl) (by kernel_rfl) (by kernel_rfl) (by kernel_rfl) (fun _ _ _ h => h) (by rfl) (fun wk hk => by have y0 := hk.cell 0; have y1 := hk.cell 1; have y2 := hk.cell 2; simp at y0 y1 y2; go_simp; try rfl) ?_
      try simp only [Act.put, List.setIfInBounds_toArray, List.set_cons_zero, List.set_cons_succ]
      refine wpHold_take (i := 2) (v := _) (HD.out.1) rfl rfl (by kernel_rfl) (by kernel_rfl) (by kernel_rfl) (by kernel_rfl) (by kernel_rfl) (fun _ _ _ h => h) (by rfl) (fun wk hk => by have y0 := hk.cell 0; have y1 := hk.cell 1; have y2 := hk.cell 2; simp at y0 y1 y2; go_simp; try rfl) ?_
      try simp only [Act.put, List.setIfInBounds_toArray, List.set_cons_zero, List.set_cons_succ]
      refine wpHold_one (i := 3) rfl (by kernel_rfl) (by rfl) (fun K hK => ?_)
      have hr := H4.out.2.2.2.2.grown HD.out.2 (by simp)
      have f0 := hr.free 0
      have f1 := hr.free 1
      have f2 := hr.free 2
      have v0 := hr.cell 0
      have v1 := hr.cell 1
      have v2 := hr.cell 2
      simp at v0 v1 v2
      have HRB : Hid (Blk wd rb 49 #[.int .i64 0, .int .i64 0, .slice none 0 0]) := hr
      clear hr
      go_wp2_with fail
      have hlt : rb < w4.heap.size := H4.out.2.2.2.2.lt
      have hne : some rb ≠ some w4.heap.size := by simp; omega
      have HD2 : Hid (Blk (((wd.setCell ⟨rb, 0, none⟩ (.int .i64 c)).setCell ⟨rb, 1, none⟩ (.int .i64 (k : Int))).setCell ⟨rb, 2, none⟩ (.slice none 0 0)) w4.heap.size 49 #[.int .i64 c, .int .i64 (k : Int), .slice none 0 0]) := ((HD.out.1.grown (grown_setCell _ _ _ _) hne).grown (grown_setCell _ _ _ _) hne).grown (grown_setCell _ _ _ _) hne
      refine hK.out _ _ (fun _ => HD2.out) ?_
      clear hK K f0 f1 f2 v0 v1 v2 hlt hne
      try simp only [Act.put, List.setIfInBounds_toArray, List.set_cons_zero, List.set_cons_succ]
      refine wpHold_take (i := 4) (v := _) (HD2.out) rfl rfl (by kernel_rfl) (by kernel_rfl) (by kernel_rfl) (by kernel_rfl) (by kernel_rfl) (fun _ _ _ h => h) (by rfl) (fun wk hk => by have y0 := hk.cell 0; have y1 := hk.cell 1; have y2 := hk.cell 2; simp at y0 y1 y2; go_simp; try rfl) ?_
      try simp only [Act.put, List.setIfInBounds_toArray, List.set_cons_zero, List.set_cons_succ]
      refine wpHold_done (by kernel_rfl) ?_
      refine (‹∀ (a : Act) (w : World), Code.wp Tryz.prog _ _ a w → _› _ _ ?_)
      go_wp2_with fail
      refine bodyPost_ret (v := _) (res34 rfl rfl rfl (((HRB.out.store 0 (.int .i64 c)).store 1 (.int .i64 (k : Int))).store 2 (.slice none 0 0))) rfl ?_
      exact ⟨grown_s3 (grown_trans H4.out.2.2.2.1 HD.out.2) (by have := HB.out.2.2.2; omega), .inr (.inr ⟨HC0.out, c, k, H4.out.1, db, rfl, H4.out.2.1, eng_res (Blk.grown H4.out.2.2.1 HD.out.2 (by simp)) HRB.out⟩)⟩
  · have HZ : Hid (C ≠ 0) := hz
    have a0 : (C == 0) = false := by simpa using hz
    have a1 : (C = 0) = False := by simpa using hz
    clear hz
    have hr := G3.out.2
    have f0 := hr.free 0
    have f1 := hr.free 1
    have f2 := hr.free 2
    have v0 := hr.cell 0
    have v1 := hr.cell 1
    have v2 := hr.cell 2
    simp at v0 v1 v2
    clear hr
    go_wp2_with fail
    refine bodyPost_ret (v := _) (res34 rfl rfl rfl (((G3.out.2.store 0 (.int .i64 0)).store 1 (.int .i64 0)).store 2 (.slice none 0 0))) rfl ?_
    exact ⟨grown_s3 G3.out.1 (by have := HB.out.2.2.2; omega), .inl ⟨by rw [HC0.out]; exact HZ.out, by rw [HC0.out]; rfl⟩⟩
end Go.Proofs.YtakmlhhapegpoaaGreat
