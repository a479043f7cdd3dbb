/-
  Do, Look; of databases that are not there.
-/
import Derived.Test.YtakmlhhapegpoaaGreatMu
namespace Go.Proofs.YtakmlhhapegpoaaGreat
open Go.RowKit Disk Table
open Names (Str cmpL keyB valueB tabB)
open _root_.Go.Proofs.YtakmlhhapegpoaaGreat.Calls (POp POut PRes opV OpSeg mayOp Ops OpAt ops_at ops_open chk rds mayCall)

/-- What Do comes to. -/
def DoE (X : Nat → Prop) (q : Int × Int) (D : DB) (l : List POp) (m b : Nat) (w : World) (e : Ending) (w' : World) : Prop :=
  (chk l ≠ 0 ∧ w.grownBy w' none ∧ e = .returned (.tuple #[resV3 0 0 (.slice none 0 0), .int .i64 (chk l)])) ∨
    (chk l = 0 ∧ w.grownBy w' (some b) ∧ ((∃ outs D', callD q D [] l = .ok (outs, D') ∧ DbQ q D' ∧ Eng X w' b q D' ∧ ∃ v, e = .returned (.tuple #[resV3 0 0 v, .int .i64 0]) ∧ OutsN w' w.heap.size v outs) ∨
      (∃ c n, callD q D [] l = .error (c, n) ∧ EngB w' b q m ∧ EM X w' m D ∧ e = .returned (.tuple #[resV3 c n (.slice none 0 0), .int .i64 0]))))
theorem noP_eng (q : Int × Int) (m : Nat) : ∀ u ∈ (#[Value.int .i64 q.1, .int .i64 q.2, .map (some m)] : Array Value).toList, noP u := by
  intro u hu p
  simp at hu
  rcases hu with rfl | rfl | rfl <;> simp [ptr]
theorem OutsN.mono {w : World} {B B' : Nat} {v : Value} {l : List POut} (h : OutsN w B v l) (hB : B' ≤ B) : OutsN w B' v l := by
  obtain ⟨ks, k1, k2, k3⟩ := h
  exact ⟨ks, owns_mono k1 hB, ⟨k2.1, fun j a b => ⟨(k2.2 j a b).has, (k2.2 j a b).value.mono hB, (k2.2 j a b).rows.mono hB⟩⟩, k3⟩
set_option maxRecDepth 100000 in
set_option maxHeartbeats 8000000 in
theorem do17 {X : Nat → Prop} (b m : Nat) (q : Int × Int) (D : DB) (hD : DbQ q D) (v : Value) (l : List POp) (w : World) (hX : ∀ g, X g → g < w.heap.size) (hb : EngB w b q m) (hm : EM X w m D) (hv : Ops w v l) : Calls Tryz.prog 17 #[.pointer (some ⟨b, 0, none⟩), .agg #[v]] w (DoE X q D l m b w) := by
  obtain ⟨ao, n, cap, rfl, hn, hn2, HV⟩ := ops_open hv
  have HH : Hid (DbQ q D ∧ (∀ g, X g → g < w.heap.size) ∧ EngB w b q m ∧ EM X w m D) := ⟨hD, hX, hb, hm⟩
  clear hv hD hX hb hm hn hn2
  go_enter Tryz.func17, Tryz.ntmps17
  go_wp2_with fail
  obtain ⟨w1, hw1, H1⟩ := al w #[.slice ao n cap] 37
  rw [hw1]
  clear hw1
  obtain ⟨w2, hw2, H2⟩ := al w1 #[.int .i64 0, .int .i64 0, .slice none 0 0] 49
  rw [hw2]
  clear hw2
  have s1 := H1.out.2.2
  obtain ⟨rb, hrb⟩ : ∃ rb, w.heap.size + 1 = rb := ⟨_, rfl⟩
  have HB : Hid (w.grownBy w2 none ∧ Blk w2 rb 49 #[.int .i64 0, .int .i64 0, .slice none 0 0] ∧ w.heap.size < rb) := ⟨grown_trans H1.out.2.1 H2.out.2.1, by rw [← hrb, ← s1]; exact H2.out.1, by omega⟩
  rw [hrb]
  clear H1 H2 s1 hrb
  refine (try34 (X := X) b m q D HH.out.1 (.slice ao n cap) l w2 (fun g hg => by have := HH.out.2.1 g hg; have := HB.out.1.size; omega) (Blk.grown HH.out.2.2.1 HB.out.1 (by simp)) (HH.out.2.2.2.grown HB.out.1) (HV.out.grown HB.out.1)).mono ?_
  rintro e w3 ⟨g3, ⟨hC, rfl⟩ | ⟨hC, outs, D1, hcall, hdb, db, u, rfl, hdbl, hE, hO⟩ | ⟨hC, c, k, hcall, db, rfl, hdbl, hE⟩⟩
  · obtain ⟨C, hC0⟩ : ∃ C, chk l = C := ⟨_, rfl⟩
    rw [hC0] at hC ⊢
    have H3 : Hid (C ≠ 0 ∧ chk l = C ∧ w.grownBy w3 none ∧ Blk w3 rb 49 #[.int .i64 0, .int .i64 0, .slice none 0 0]) := ⟨hC, hC0, grown_trans HB.out.1 g3, HB.out.2.1.grown g3 (by simp)⟩
    have a0 : (C == 0) = false := by simpa using hC
    have a1 : (C = 0) = False := by simpa using hC
    clear hC hC0 g3
    unfold resV3
    have hb5 : Blk (w3.alloc (.cells #[.int .i64 0, .int .i64 0, .slice none 0 0] 49)) rb 49 #[.int .i64 0, .int .i64 0, .slice none 0 0] := H3.out.2.2.2.grown (World.grownBy_alloc _ _ none) (by simp)
    have HB5 : Hid (Blk (w3.alloc (.cells #[.int .i64 0, .int .i64 0, .slice none 0 0] 49)) rb 49 #[.int .i64 0, .int .i64 0, .slice none 0 0]) := hb5
    have f0 := hb5.free 0
    have f1 := hb5.free 1
    have f2 := hb5.free 2
    have v0 := hb5.cell 0
    have v1 := hb5.cell 1
    have v2 := hb5.cell 2
    simp only [List.getElem?_toArray, List.getElem?_cons_zero, List.getElem?_cons_succ] at v0 v1 v2
    clear hb5
    go_wp2_with fail
    refine bodyPost_ret (v := _) (res17 rfl rfl (((HB5.out.store 0 (.int .i64 0)).store 1 (.int .i64 0)).store 2 (.slice none 0 0))) rfl ?_
    exact .inl ⟨by rw [H3.out.2.1]; exact H3.out.1, grown_s3 (grown_trans H3.out.2.2.1 (World.grownBy_alloc _ _ none)) (by have := HB.out.2.2; omega), by rw [H3.out.2.1]; rfl⟩
  · obtain ⟨au, nu, cu, rfl, _, _, _⟩ := hO.shape
    obtain ⟨m1, he1, hm1⟩ := hE
    have H4 : Hid (EngB w3 db q m1 ∧ EngB w3 b q m ∧ Blk w3 rb 49 #[.int .i64 0, .int .i64 0, .slice none 0 0] ∧ w.grownBy w3 none ∧ chk l = 0 ∧ callD q D [] l = .ok (outs, D1) ∧ DbQ q D1 ∧ EM X w3 m1 D1 ∧ OutsN w3 w.heap.size (.slice au nu cu) outs) := ⟨he1, Blk.grown HH.out.2.2.1 (grown_trans HB.out.1 g3) (by simp), HB.out.2.1.grown g3 (by simp), grown_trans HB.out.1 g3, hC, hcall, hdb, hm1, hO.mono HB.out.1.size⟩
    clear hC hcall hdb hdbl he1 hm1 hO g3
    unfold ptr resV3
    obtain ⟨W5, hW5, H5⟩ := al w3 #[.int .i64 0, .int .i64 0, .slice au nu cu] 49
    have hE5 : EngB W5 db q m1 := Blk.grown H4.out.1 H5.out.2.1 (by simp)
    have hB5 : EngB W5 b q m := Blk.grown H4.out.2.1 H5.out.2.1 (by simp)
    have hd2 := Blk.cell hE5 2
    have hb2 := Blk.cell hB5 2
    have hf2 := Blk.free hB5 2
    simp at hd2 hb2
    obtain ⟨W6, hW6⟩ : ∃ W, W5.setCell ⟨b, 2, none⟩ (.map (some m1)) = W := ⟨_, rfl⟩
    have g6 : W5.grownBy W6 (some b) := by rw [← hW6]; exact grown_setCell _ _ _ _
    have e6 : EngB W6 b q m1 := by rw [← hW6]; exact Blk.store hB5 2 _
    have nr : ∀ (x : Nat) (c : Array Value), Blk W5 x 49 c → some b ≠ some x := fun x c hx e => by
      simp at e
      subst e
      unfold EngB Blk at hB5
      unfold Blk at hx
      rw [hB5] at hx
      simp at hx
    have t6 : Blk W6 w3.heap.size 49 #[.int .i64 0, .int .i64 0, .slice au nu cu] := H5.out.1.grown g6 (nr _ _ H5.out.1)
    have r5 : Blk W5 rb 49 #[.int .i64 0, .int .i64 0, .slice none 0 0] := H4.out.2.2.1.grown H5.out.2.1 (by simp)
    have r6 : Blk W6 rb 49 #[.int .i64 0, .int .i64 0, .slice none 0 0] := r5.grown g6 (nr _ _ r5)
    have H6 : Hid (EngB W6 b q m1 ∧ W5.grownBy W6 (some b) ∧ Blk W6 rb 49 #[.int .i64 0, .int .i64 0, .slice none 0 0] ∧ EngB W5 b q m ∧ w3.grownBy W5 none) := ⟨e6, g6, r6, hB5, H5.out.2.1⟩
    have k0 := t6.cell 0
    have k1 := t6.cell 1
    have k2 := t6.cell 2
    have f0 := r6.free 0
    have f1 := r6.free 1
    have f2 := r6.free 2
    have v0 := r6.cell 0
    have v1 := r6.cell 1
    have v2 := r6.cell 2
    simp at k0 k1 k2 v0 v1 v2
    clear e6 g6 r6 r5 t6 nr hE5 hB5
    go_wp2_with fail
    refine bodyPost_ret (v := _) (res17 rfl rfl (((H6.out.2.2.1.store 0 (.int .i64 0)).store 1 (.int .i64 0)).store 2 (.slice au nu cu))) rfl ?_
    have hgw : w.grownBy (((W6.setCell ⟨rb, 0, none⟩ (.int .i64 0)).setCell ⟨rb, 1, none⟩ (.int .i64 0)).setCell ⟨rb, 2, none⟩ (.slice au nu cu)) (some b) := grown_new3 (grown_trans (grown_weak (grown_trans H4.out.2.2.2.1 H6.out.2.2.2.2) _) H6.out.2.1) (by have := HB.out.2.2; omega)
    have hmW : EM X W6 m1 D1 := em_offT (H4.out.2.2.2.2.2.2.2.1.grown H6.out.2.2.2.2) H6.out.2.1 H6.out.2.2.2.1 (by decide) (by decide) (by decide) (noP_eng q m)
    have hoW := (H4.out.2.2.2.2.2.2.2.2.grown H6.out.2.2.2.2).off H6.out.2.1 H6.out.2.2.2.1 (by decide) (by decide) (by decide)
    exact .inr ⟨H4.out.2.2.2.2.1, hgw, .inl ⟨outs, D1, H4.out.2.2.2.2.2.1, H4.out.2.2.2.2.2.2.1, ⟨m1, eng_res H6.out.1 H6.out.2.2.1, em_res hmW H6.out.2.2.1⟩, _, rfl, outs_res hoW H6.out.2.2.1⟩⟩
  · have H4 : Hid (EngB w3 db q m ∧ EngB w3 b q m ∧ Blk w3 rb 49 #[.int .i64 0, .int .i64 0, .slice none 0 0] ∧ w.grownBy w3 none ∧ chk l = 0 ∧ callD q D [] l = .error (c, k)) := ⟨hE, Blk.grown HH.out.2.2.1 (grown_trans HB.out.1 g3) (by simp), HB.out.2.1.grown g3 (by simp), grown_trans HB.out.1 g3, hC, hcall⟩
    clear hC hcall hdbl hE g3
    unfold ptr resV3
    have H5 : Hid (Blk (w3.alloc (.cells #[.int .i64 c, .int .i64 (k : Int), .slice none 0 0] 49)) w3.heap.size 49 #[.int .i64 c, .int .i64 (k : Int), .slice none 0 0] ∧ w3.grownBy (w3.alloc (.cells #[.int .i64 c, .int .i64 (k : Int), .slice none 0 0] 49)) none) := ⟨heap_alloc_new _ _, World.grownBy_alloc _ _ _⟩
    have hE5 : EngB (w3.alloc (.cells #[.int .i64 c, .int .i64 (k : Int), .slice none 0 0] 49)) db q m := Blk.grown H4.out.1 H5.out.2 (by simp)
    have hB5 : EngB (w3.alloc (.cells #[.int .i64 c, .int .i64 (k : Int), .slice none 0 0] 49)) b q m := Blk.grown H4.out.2.1 H5.out.2 (by simp)
    have hd2 := Blk.cell hE5 2
    have hb2 := Blk.cell hB5 2
    have hf2 := Blk.free hB5 2
    simp only [List.getElem?_toArray, List.getElem?_cons_zero, List.getElem?_cons_succ] at hd2 hb2
    obtain ⟨W6, hW6⟩ : ∃ W, (w3.alloc (.cells #[.int .i64 c, .int .i64 (k : Int), .slice none 0 0] 49)).setCell ⟨b, 2, none⟩ (.map (some m)) = W := ⟨_, rfl⟩
    have g6 : (w3.alloc (.cells #[.int .i64 c, .int .i64 (k : Int), .slice none 0 0] 49)).grownBy W6 (some b) := by rw [← hW6]; exact grown_setCell _ _ _ _
    have e6 : EngB W6 b q m := by rw [← hW6]; exact Blk.store hB5 2 _
    have nr : ∀ (x : Nat) (cc : Array Value), Blk (w3.alloc (.cells #[.int .i64 c, .int .i64 (k : Int), .slice none 0 0] 49)) x 49 cc → some b ≠ some x := fun x cc hx e => by
      simp at e
      subst e
      unfold EngB Blk at hB5
      unfold Blk at hx
      rw [hB5] at hx
      simp at hx
    have t6 : Blk W6 w3.heap.size 49 #[.int .i64 c, .int .i64 (k : Int), .slice none 0 0] := H5.out.1.grown g6 (nr _ _ H5.out.1)
    have r5 : Blk (w3.alloc (.cells #[.int .i64 c, .int .i64 (k : Int), .slice none 0 0] 49)) rb 49 #[.int .i64 0, .int .i64 0, .slice none 0 0] := H4.out.2.2.1.grown H5.out.2 (by simp)
    have r6 : Blk W6 rb 49 #[.int .i64 0, .int .i64 0, .slice none 0 0] := r5.grown g6 (nr _ _ r5)
    have H6 : Hid (EngB W6 b q m ∧ (w3.alloc (.cells #[.int .i64 c, .int .i64 (k : Int), .slice none 0 0] 49)).grownBy W6 (some b) ∧ Blk W6 rb 49 #[.int .i64 0, .int .i64 0, .slice none 0 0] ∧ EngB (w3.alloc (.cells #[.int .i64 c, .int .i64 (k : Int), .slice none 0 0] 49)) b q m ∧ w3.grownBy (w3.alloc (.cells #[.int .i64 c, .int .i64 (k : Int), .slice none 0 0] 49)) none) := ⟨e6, g6, r6, hB5, H5.out.2⟩
    have k0 := t6.cell 0
    have k1 := t6.cell 1
    have k2 := t6.cell 2
    have f0 := r6.free 0
    have f1 := r6.free 1
    have f2 := r6.free 2
    have v0 := r6.cell 0
    have v1 := r6.cell 1
    have v2 := r6.cell 2
    simp at k0 k1 k2 v0 v1 v2
    clear e6 g6 r6 r5 t6 nr hE5 hB5
    go_wp2_with fail
    refine bodyPost_ret (v := _) (res17 rfl rfl (((H6.out.2.2.1.store 0 (.int .i64 c)).store 1 (.int .i64 (k : Int))).store 2 (.slice none 0 0))) rfl ?_
    have hgw : w.grownBy (((W6.setCell ⟨rb, 0, none⟩ (.int .i64 c)).setCell ⟨rb, 1, none⟩ (.int .i64 (k : Int))).setCell ⟨rb, 2, none⟩ (.slice none 0 0)) (some b) := grown_new3 (grown_trans (grown_weak (grown_trans H4.out.2.2.2.1 H6.out.2.2.2.2) _) H6.out.2.1) (by have := HB.out.2.2; omega)
    have hmW : EM X W6 m D := em_offT ((HH.out.2.2.2.grown H4.out.2.2.2.1).grown H6.out.2.2.2.2) H6.out.2.1 H6.out.2.2.2.1 (by decide) (by decide) (by decide) (noP_eng q m)
    exact .inr ⟨H4.out.2.2.2.2.1, hgw, .inr ⟨c, k, H4.out.2.2.2.2.2, eng_res H6.out.1 H6.out.2.2.1, em_res hmW H6.out.2.2.1, rfl⟩⟩
end Go.Proofs.YtakmlhhapegpoaaGreat
