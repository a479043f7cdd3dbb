/-
  Calls of one op, as the law makes them: put, get; calls put together.
-/
import Derived.Test.YtakmlhhapegpoaaGreatMz
import Derived.Test.YtakmlhhapegpoaaGreatLk
namespace Go.Proofs.YtakmlhhapegpoaaGreat
open Go.RowKit Disk Table
open Names (Str cmpL keyB valueB tabB)
open _root_.Go.Proofs.YtakmlhhapegpoaaGreat.Calls (POp POut PRes opV OpSeg OpIn mayOp Ops OpAt ops_at ops_open chk rds mayCall)

/-- An op's cells. -/
def pcells (o : POp) (k v ol t : Value) : List Value := [.int .i64 o.kind, Str o.table, k, v, .bool o.has, ol, t, .int .i64 o.most]
/-- A list of one op, just as long as its row. -/
def One (w : World) (u : Value) (o : POp) : Prop := ∃ ao k v ol t, u = .slice ao 1 1 ∧ Vec w 8 u 1 (pcells o k v ol t) ∧ OpSeg w k v ol t o
theorem One.grown {w w' : World} {u : Value} {o : POp} (h : One w u o) (hg : w.grownBy w' none) : One w' u o := by
  obtain ⟨ao, k, v, ol, t, e, h1, h2⟩ := h
  exact ⟨ao, k, v, ol, t, e, h1.grown hg, h2.grown hg⟩
theorem vec_ops1 {w : World} {u k v ol t : Value} {o : POp} (h : Vec w 8 u 1 (pcells o k v ol t)) (hs : OpSeg w k v ol t o) : Ops w u [o] := by
  obtain ⟨ao, cap, e, _, _, _, _, h6⟩ := h
  refine ⟨ao, cap, e, by simp, fun j hj => ?_⟩
  have hj0 : j = 0 := by simpa using hj
  subst hj0
  obtain ⟨b, off, e0, c0⟩ := h6 0 _ rfl
  have hh : ∀ j u, (pcells o k v ol t)[j]? = some u → w.cell? ⟨b, off + j, none⟩ = some u := fun j u hj => by
    obtain ⟨b', off', e', c'⟩ := h6 j u hj
    rw [e0] at e'
    simp at e'
    obtain ⟨rfl, rfl⟩ := e'
    exact c'
  exact ⟨b, off, k, v, ol, t, e0, ⟨hh 0 _ rfl, hh 1 _ rfl, hh 2 _ rfl, hh 3 _ rfl, hh 4 _ rfl, hh 5 _ rfl, hh 6 _ rfl, hh 7 _ rfl⟩, hs⟩
theorem vec_ops2 {w : World} {u k v ol t k' v' ol' t' : Value} {o p : POp} (h : Vec w 8 u 2 (pcells o k v ol t ++ pcells p k' v' ol' t')) (hs : OpSeg w k v ol t o) (hp : OpSeg w k' v' ol' t' p) : Ops w u [o, p] := by
  obtain ⟨ao, cap, e, _, _, _, _, h6⟩ := h
  refine ⟨ao, cap, e, by simp, fun j hj => ?_⟩
  obtain ⟨b, off, e0, c0⟩ := h6 0 _ rfl
  have hh : ∀ j u, (pcells o k v ol t ++ pcells p k' v' ol' t')[j]? = some u → w.cell? ⟨b, off + j, none⟩ = some u := fun j u hj => by
    obtain ⟨b', off', e', c'⟩ := h6 j u hj
    rw [e0] at e'
    simp at e'
    obtain ⟨rfl, rfl⟩ := e'
    exact c'
  match j, hj with
  | 0, _ => exact ⟨b, off, k, v, ol, t, e0, ⟨hh 0 _ rfl, hh 1 _ rfl, hh 2 _ rfl, hh 3 _ rfl, hh 4 _ rfl, hh 5 _ rfl, hh 6 _ rfl, hh 7 _ rfl⟩, hs⟩
  | 1, _ => exact ⟨b, off, k', v', ol', t', e0, ⟨hh 8 _ rfl, hh 9 _ rfl, hh 10 _ rfl, hh 11 _ rfl, hh 12 _ rfl, hh 13 _ rfl, hh 14 _ rfl, hh 15 _ rfl⟩, hp⟩
  | j + 2, hj => exact absurd hj (by simp)
theorem One.ops {w : World} {u : Value} {o : POp} (h : One w u o) : Ops w u [o] := by
  obtain ⟨ao, k, v, ol, t, e, h1, h2⟩ := h
  exact vec_ops1 h1 h2
def putO (k v : Bs) : POp := ⟨2, [116], k, v, false, [], [], 0⟩
def getO (k : Bs) : POp := ⟨1, [116], k, [], false, [], [], 0⟩
theorem vec_block8 {w : World} {b : Nat} {x0 x1 x2 x3 x4 x5 x6 x7 : Value} (hb : Blk w b 67 #[x0, x1, x2, x3, x4, x5, x6, x7]) : Vec w 8 (.slice (some ⟨b, 0, none⟩) 1 1) 1 [x0, x1, x2, x3, x4, x5, x6, x7] := by
  refine ⟨_, 1, rfl, Nat.le_refl _, by unfold maxLen; omega, by simp, rfl, fun j u hj => ⟨_, 0, rfl, ?_⟩⟩
  rw [hb.cell, Nat.zero_add]
  simpa using hj
theorem res37 {w : World} {fn : Func} {tmps : Array Value} {p rb : Nat} {x : Value} (hf : fn.results = #[.cell p 37]) (hp : tmps.getD p undef = .pointer (some ⟨rb, 0, none⟩)) (hr : Blk w rb 37 #[x]) : (results fn tmps).run Tryz.prog w = .ok (.agg #[x]) w := results_cell_row hf tmps w rb 37 _ (0, 0) _ hp hr Tryz.underlying37 rfl (by kernel_rfl)
theorem seg_set37 {w : World} {b : Nat} {a : Option Addr} {n c : Nat} {v x : Value} {L : Bs} (h : Seg w v L) (hb : Blk w b 37 #[.slice a n c]) : Seg (w.setCell ⟨b, 0, none⟩ x) v L := h.of_cells fun b' j y hy => by
  refine (grown_setCell w b 0 x).cell hy ?_
  intro e
  simp at e
  subst e
  rw [hb.cell] at hy
  rcases j with _ | j
  · simp at hy
  · simp at hy
theorem opIn_put (k v : Bs) : OpIn (putO k v) := ⟨by simp [putO], by simp [putO], by simp [putO], by simp [putO], by simp [putO]⟩
theorem opIn_get (k : Bs) : OpIn (getO k) := ⟨by simp [getO], by simp [getO], by simp [getO], by simp [getO], by simp [getO]⟩
set_option maxRecDepth 100000 in
set_option maxHeartbeats 8000000 in
theorem put25 (k v : Bs) (hk : k.length ≤ 1000000) (hv : v.length ≤ 1000000) (w : World) : Calls Tryz.prog 25 #[Str k, Str v] w fun e w' => ∃ u, e = .returned (.agg #[u]) ∧ One w' u (putO k v) ∧ w.grownBy w' none := by
  have HK : Hid (k.length ≤ 1000000 ∧ v.length ≤ 1000000) := ⟨hk, hv⟩
  obtain ⟨w1, hw1, H1⟩ := al w #[.slice none 0 0] 37
  have cv1 := Calls.conv_bytes w1 k
  obtain ⟨w2, hw2⟩ : ∃ W, Lib.bytesWorld w1 5 ⟨k.toArray⟩ = W := ⟨_, rfl⟩
  have G2 : Hid (w1.grownBy w2 none ∧ Seg w2 (.slice (some ⟨w1.heap.size, 0, none⟩) k.length (grownCap w1 k.length 0 5)) k) := by
    rw [← hw2]
    exact ⟨Calls.bytes_grown _ _, Calls.bytes_seg _ _ (by omega)⟩
  rw [hw2] at cv1
  have cv2 := Calls.conv_bytes w2 v
  obtain ⟨w3, hw3⟩ : ∃ W, Lib.bytesWorld w2 5 ⟨v.toArray⟩ = W := ⟨_, rfl⟩
  have G3 : Hid (w2.grownBy w3 none ∧ Seg w3 (.slice (some ⟨w2.heap.size, 0, none⟩) v.length (grownCap w2 v.length 0 5)) v) := by
    rw [← hw3]
    exact ⟨Calls.bytes_grown _ _, Calls.bytes_seg _ _ (by omega)⟩
  rw [hw3] at cv2
  generalize grownCap w1 k.length 0 5 = ck at cv1 G2
  generalize grownCap w2 v.length 0 5 = cw at cv2 G3
  generalize w1.heap.size = s1 at cv1 G2
  generalize w2.heap.size = s2 at cv2 G3
  obtain ⟨w4, hw4, H4⟩ := al w3 #[.int .i64 2, .string ⟨#[116]⟩, .slice (some ⟨s1, 0, none⟩) k.length ck, .slice (some ⟨s2, 0, none⟩) v.length cw, .bool false, .slice none 0 0, .slice none 0 0, .int .i64 0] 67
  have hrb := ((H1.out.1.grown G2.out.1 (by simp)).grown G3.out.1 (by simp)).grown H4.out.2.1 (by simp)
  have HRB : Hid (Blk w4 w.heap.size 37 #[.slice none 0 0]) := hrb
  have f0 := hrb.free 0
  have v0 := hrb.cell 0
  simp at v0
  unfold Str
  clear hw2 hw3 hk hv hrb
  go_enter Tryz.func25, Tryz.ntmps25
  go_wp2_with fail
  refine bodyPost_ret (v := _) (res37 rfl rfl (HRB.out.store 0 (.slice (some ⟨w3.heap.size, 0, none⟩) 1 1))) rfl ?_
  have g5 := grown_setCell w4 w.heap.size 0 (.slice (some ⟨w3.heap.size, 0, none⟩) 1 1)
  have hs1 := (H1.out.2.1.size)
  have hlt : w.heap.size < w3.heap.size := by have h1 := H1.out.2.2; have h2 := G2.out.1.size; have h3 := G3.out.1.size; omega
  have hb5 : Blk (w4.setCell ⟨w.heap.size, 0, none⟩ (.slice (some ⟨w3.heap.size, 0, none⟩) 1 1)) w3.heap.size 67 _ := H4.out.1.grown g5 (by simp; omega)
  refine ⟨_, rfl, ⟨_, _, _, _, _, rfl, vec_block8 hb5, ⟨seg_set37 ((G2.out.2.grown G3.out.1).grown H4.out.2.1) HRB.out, seg_set37 (G3.out.2.grown H4.out.2.1) HRB.out, seg_nil _, seg_nil _, opIn_put k v⟩⟩, ?_⟩
  exact grown_new (grown_trans H1.out.2.1 (grown_trans G2.out.1 (grown_trans G3.out.1 H4.out.2.1))) g5 (fun x hx => by simp at hx; omega)
set_option maxRecDepth 100000 in
set_option maxHeartbeats 8000000 in
theorem get27 (k : Bs) (hk : k.length ≤ 1000000) (w : World) : Calls Tryz.prog 27 #[Str k] w fun e w' => ∃ u, e = .returned (.agg #[u]) ∧ One w' u (getO k) ∧ w.grownBy w' none := by
  obtain ⟨w1, hw1, H1⟩ := al w #[.slice none 0 0] 37
  have cv1 := Calls.conv_bytes w1 k
  obtain ⟨w2, hw2⟩ : ∃ W, Lib.bytesWorld w1 5 ⟨k.toArray⟩ = W := ⟨_, rfl⟩
  have G2 : Hid (w1.grownBy w2 none ∧ Seg w2 (.slice (some ⟨w1.heap.size, 0, none⟩) k.length (grownCap w1 k.length 0 5)) k) := by
    rw [← hw2]
    exact ⟨Calls.bytes_grown _ _, Calls.bytes_seg _ _ (by omega)⟩
  rw [hw2] at cv1
  generalize grownCap w1 k.length 0 5 = ck at cv1 G2
  generalize w1.heap.size = s1 at cv1 G2
  obtain ⟨w4, hw4, H4⟩ := al w2 #[.int .i64 1, .string ⟨#[116]⟩, .slice (some ⟨s1, 0, none⟩) k.length ck, .slice none 0 0, .bool false, .slice none 0 0, .slice none 0 0, .int .i64 0] 67
  have hrb := (H1.out.1.grown G2.out.1 (by simp)).grown H4.out.2.1 (by simp)
  have HRB : Hid (Blk w4 w.heap.size 37 #[.slice none 0 0]) := hrb
  have f0 := hrb.free 0
  have v0 := hrb.cell 0
  simp at v0
  unfold Str
  clear hw2 hk hrb
  go_enter Tryz.func27, Tryz.ntmps27
  go_wp2_with fail
  refine bodyPost_ret (v := _) (res37 rfl rfl (HRB.out.store 0 (.slice (some ⟨w2.heap.size, 0, none⟩) 1 1))) rfl ?_
  have g5 := grown_setCell w4 w.heap.size 0 (.slice (some ⟨w2.heap.size, 0, none⟩) 1 1)
  have hlt : w.heap.size < w2.heap.size := by have h1 := H1.out.2.2; have h2 := G2.out.1.size; omega
  have hb5 : Blk (w4.setCell ⟨w.heap.size, 0, none⟩ (.slice (some ⟨w2.heap.size, 0, none⟩) 1 1)) w2.heap.size 67 _ := H4.out.1.grown g5 (by simp; omega)
  refine ⟨_, rfl, ⟨_, _, _, _, _, rfl, vec_block8 hb5, ⟨seg_set37 (G2.out.2.grown H4.out.2.1) HRB.out, seg_nil _, seg_nil _, seg_nil _, opIn_get k⟩⟩, ?_⟩
  exact grown_new (grown_trans H1.out.2.1 (grown_trans G2.out.1 H4.out.2.1)) g5 (fun x hx => by simp at hx; omega)
theorem Tryz.info67 : (Tryz.prog.info? 67).map (fun i => (i.zero, i.size, i.bytes)) = some (some (.agg #[.int .i64 0, .string ⟨#[]⟩, .slice none 0 0, .slice none 0 0, .bool false, .slice none 0 0, .slice none 0 0, .int .i64 0]), 8, 136) := by kernel_rfl
theorem ut35 : Tryz.prog.underlying 35 = some (.slice 67) := by kernel_rfl
/-- Two calls put together. -/
theorem appP_at {ops : Array Oper} {rest : List Oper} {o : Oper} {a : Act} {Q : Exit → Act → World → Prop} (w : World) (hw : Region.wanted o (yielded ops a.tmps) = true) (s x : Operand) (ho : o.op = .call { callee := .builtin .append, args := #[s, x], argTypes := #[35, 35] })
    (u v : Value) (p q : POp) (hs : a.eval s = u) (hx : a.eval x = v) (hu : One w u p) (hv : One w v q)
    (h : ∀ r w', Ops w' r [p, q] → w.grownBy w' none → wpList Tryz.prog ops Q rest (a.put o.dst r) w') : wpList Tryz.prog ops Q (o :: rest) a w := by
  obtain ⟨ao, k, v1, ol, t, e, h1, h2⟩ := hu
  obtain ⟨ao', k', v1', ol', t', e', h1', h2'⟩ := hv
  have hone : ∀ y ∈ pcells q k' v1' ol' t', y.oneCell' = true := by
    intro y hy
    simp [pcells] at hy
    rcases hy with rfl | rfl | rfl | rfl | rfl | rfl | rfl | rfl
    · rfl
    · rfl
    · exact seg_one h2'.key
    · exact seg_one h2'.value
    · rfl
    · exact seg_one h2'.old
    · exact seg_one h2'.to
    · rfl
  refine app_at w hw s x 35 67 _ 8 136 Tryz.info67 ut35 rfl (by decide) ho w.heap.size u 1 _ v 1 _ hs hx (.inr ⟨⟨ao, e⟩, h1⟩) h1' hone (by omega) (by unfold maxLen; omega) (Nat.le_refl _) ?_
  intro r w' hA hG _
  have hg := hG.none (Nat.le_refl _)
  exact h r w' (vec_ops2 hA.vec (h2.grown hg) (h2'.grown hg)) hg
end Go.Proofs.YtakmlhhapegpoaaGreat
