/-
  One op done to a draft: get.
-/
import Derived.Test.YtakmlhhapegpoaaGreatMm
namespace Go.Proofs.YtakmlhhapegpoaaGreat
open Go.RowKit Disk Table
open Names (Str cmpL keyB valueB tabB)
open _root_.Go.Proofs.YtakmlhhapegpoaaGreat.Calls (POp POut PRes opV OpSeg mayOp)

set_option maxRecDepth 100000 in
set_option maxHeartbeats 8000000 in
theorem op90_1 {X : Nat → Prop} (b m : Nat) (q : Int × Int) (D : DB) (hD : GoodD D) (hf : lenD D ≤ 100000) (kv vv ol tv : Value) (o : POp) (hkd : o.kind = 1) (hmay : mayOp o = true) (w : World) (hX : ∀ g, X g → g < w.heap.size) (hb : EngB w b q m) (hm : EM X w m D) (ho : OpSeg w kv vv ol tv o) : Calls Tryz.prog 90 #[.pointer (some ⟨b, 0, none⟩), opV kv vv ol tv o] w (OpE X q D o m w) := by
  have HO : Hid (OpSeg w kv vv ol tv o ∧ mayOp o = true ∧ (∀ g, X g → g < w.heap.size) ∧ lenD D ≤ 100000) := ⟨ho, hmay, hX, hf⟩
  obtain ⟨a1, n1, c1, a2, n2, c2, a3, n3, c3, a4, n4, c4, rfl, rfl, rfl, rfl⟩ := op_shape ho
  have HG : Hid (GoodD D) := hD
  have HM : Hid (EngB w b q m ∧ EM X w m D) := ⟨hb, hm⟩
  obtain ⟨kd, T, KY, V, hs, OL, to', mo⟩ := o
  simp only at hkd
  subst hkd
  obtain ⟨o, hoo⟩ : ∃ o : POp, (⟨1, T, KY, V, hs, OL, to', mo⟩ : POp) = o := ⟨_, rfl⟩
  have HP : Hid ((⟨1, T, KY, V, hs, OL, to', mo⟩ : POp) = o) := hoo
  unfold opV
  rw [hoo] at HO
  simp only
  rw [hoo]
  clear ho hD hb hm hmay hX hf hoo
  go_enter Tryz.func90, Tryz.ntmps90
  go_wp2_with fail
  obtain ⟨w1, hw1, H1⟩ := al w #[.int .i64 1, Str T, .slice a1 n1 c1, .slice a2 n2 c2, .bool hs, .slice a3 n3 c3, .slice a4 n4 c4, .int .i64 mo] 67
  rw [hw1]
  clear hw1
  obtain ⟨w2, hw2, H2⟩ := al w1 #[.bool false, .slice none 0 0, .slice none 0 0] 72
  rw [hw2]
  clear hw2
  obtain ⟨ob, hob⟩ : ∃ ob, w1.heap.size = ob := ⟨_, rfl⟩
  have hsz : w1.heap.size = w.heap.size + 1 := H1.out.2.2
  have hob2 : w.heap.size + 1 = ob := by omega
  have G2 : Hid (w.grownBy w2 none ∧ Blk w2 ob 72 #[.bool false, .slice none 0 0, .slice none 0 0] ∧ w.heap.size < ob) := ⟨grown_trans H1.out.2.1 H2.out.2.1, by rw [← hob]; exact H2.out.1, by omega⟩
  have HB2 : Hid (Blk w2 w.heap.size 67 #[.int .i64 1, Str T, .slice a1 n1 c1, .slice a2 n2 c2, .bool hs, .slice a3 n3 c3, .slice a4 n4 c4, .int .i64 mo]) := H1.out.1.grown H2.out.2.1 (by simp)
  try rw [hob]
  try rw [hob2]
  clear hob hob2 hsz
  refine (get117 (X := X) b q D HG.out _ _ _ _ ⟨1, T, KY, V, hs, OL, to', mo⟩ w2 ⟨m, Blk.grown HM.out.1 G2.out.1 (by simp), HM.out.2.grown G2.out.1⟩ (by rw [HP.out]; exact HO.out.1.grown G2.out.1)).mono ?_
  rintro e w3 ⟨x, rfl, hx, g3⟩
  obtain ⟨ax, cx, ex⟩ := hx.seg.shape
  obtain ⟨nx, hnx⟩ : ∃ nx, (gotD D T KY).length = nx := ⟨_, rfl⟩
  rw [hnx] at ex
  subst ex
  have hB3 := G2.out.2.1.grown g3 (by simp)
  have H3 : Hid (Disk.Own w3 w.heap.size (.slice ax nx cx) (gotD D T KY) ∧ w2.grownBy w3 none ∧ Blk w3 ob 72 #[.bool false, .slice none 0 0, .slice none 0 0]) := ⟨hx.mono G2.out.1.size, g3, hB3⟩
  clear hx g3 hnx
  have f0 := hB3.free 0
  have f1 := hB3.free 1
  have f2 := hB3.free 2
  have b0 := hB3.cell 0
  have b1 := hB3.cell 1
  have b2 := hB3.cell 2
  simp at b0 b1 b2
  clear hB3
  go_wp2_with fail
  refine bodyPost_ret (v := _) (results_cell_row rfl _ _ ob 72 _ (0, 0) _ rfl (((H3.out.2.2.store 0 (.bool (hasD D T KY))).store 1 (.slice ax nx cx)).store 2 (.slice none 0 0)) Tryz.underlying72 rfl (by kernel_rfl)) rfl ?_
  refine ⟨grown_new3 (grown_weak (grown_trans G2.out.1 H3.out.2.1) _) (by have := G2.out.2.2; omega), .inl ⟨⟨hasD D T KY, gotD D T KY, []⟩, D, by rw [← HP.out]; rfl, _, _, rfl, own_set3 H3.out.1 H3.out.2.2 (by decide), TRws.nil _ _, em_set3g (HM.out.2.grown (grown_trans G2.out.1 H3.out.2.1)) H3.out.2.2⟩⟩
end Go.Proofs.YtakmlhhapegpoaaGreat
