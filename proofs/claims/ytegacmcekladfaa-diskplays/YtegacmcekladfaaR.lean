/-
  The document's disk: words, the steps.
-/
import Derived.Test.YtegacmcekladfaaM
namespace Go.Proofs.Ytegacmcekladfaa
open Go.RowKit

/-- Which place is the last one, as the document has it: -1, if none is. -/
def St.rlast (S : St) : Int := if S.last = 0 then 0 else if S.h1 then 1 else -1
def rC (S : St) (lv v0 v1 : Value) : Array Value := #[.int .i64 S.cap, lv, .int .i64 S.sure, v0, v1, .bool S.h0, .bool S.h1, .int .i64 S.rlast, .int .i64 S.steps]

/-- The document's disk v lies in the blocks F, and stands as S. -/
structure RKb (w : World) (F : Nat → Prop) (b : Nat) (lv v0 v1 : Value) (S : St) : Prop where
  blk : Blk w b 63 (rC S lv v0 v1)
  log : Own w 0 lv S.log
  p0 : Own w 0 v0 S.b0
  p1 : Own w 0 v1 S.b1
  a0 : ∀ k, lv.ownBlock = some k → v0.ownBlock ≠ some k
  a1 : ∀ k, lv.ownBlock = some k → v1.ownBlock ≠ some k
  inb : F b
  inl : In F lv
  in0 : In F v0
  in1 : In F v1
  lt : ∀ k, F k → k < w.heap.size
  ok : S.Ok

def RK (w : World) (F : Nat → Prop) (v : Value) (S : St) : Prop := ∃ b lv v0 v1, v = .pointer (some ⟨b, 0, none⟩) ∧ RKb w F b lv v0 v1 S

theorem RKb.same {w w' : World} {F : Nat → Prop} {b : Nat} {lv v0 v1 : Value} {S : St} (h : RKb w F b lv v0 v1 S) (hz : w.heap.size ≤ w'.heap.size) (hs : ∀ k, F k → w'.heap[k]? = w.heap[k]?) : RKb w' F b lv v0 v1 S :=
  ⟨h.blk.same (hs b h.inb), h.log.same fun k hk => hs k (h.inl k hk), h.p0.same fun k hk => hs k (h.in0 k hk), h.p1.same fun k hk => hs k (h.in1 k hk), h.a0, h.a1, h.inb, h.inl, h.in0, h.in1, fun k hk => Nat.lt_of_lt_of_le (h.lt k hk) hz, h.ok⟩
theorem RKb.grown {w w' : World} {F : Nat → Prop} {b : Nat} {lv v0 v1 : Value} {S : St} (h : RKb w F b lv v0 v1 S) (hg : w.grownBy w' none) : RKb w' F b lv v0 v1 S := h.same hg.size (grown_same hg h.lt)
theorem RK.same {w w' : World} {F : Nat → Prop} {v : Value} {S : St} (h : RK w F v S) (hz : w.heap.size ≤ w'.heap.size) (hs : ∀ k, F k → w'.heap[k]? = w.heap[k]?) : RK w' F v S := by
  obtain ⟨b, lv, v0, v1, rfl, h⟩ := h
  exact ⟨b, lv, v0, v1, rfl, h.same hz hs⟩
theorem RK.lt {w : World} {F : Nat → Prop} {v : Value} {S : St} (h : RK w F v S) : ∀ k, F k → k < w.heap.size := by
  obtain ⟨b, lv, v0, v1, rfl, h⟩ := h
  exact h.lt
theorem RK.ok {w : World} {F : Nat → Prop} {v : Value} {S : St} (h : RK w F v S) : S.Ok := by
  obtain ⟨b, lv, v0, v1, rfl, h⟩ := h
  exact h.ok
theorem RK.grown {w w' : World} {F : Nat → Prop} {v : Value} {S : St} (h : RK w F v S) (hg : w.grownBy w' none) : RK w' F v S := h.same hg.size (grown_same hg h.lt)
theorem RK.far {w w' : World} {F G : Nat → Prop} {v : Value} {S : St} (h : RK w F v S) (hf : Fr w w' G) (hd : ∀ k, F k → ¬ G k) : RK w' F v S := h.same hf.size (hf.same h.lt hd)

theorem RKb.cells {w : World} {F : Nat → Prop} {b : Nat} {lv v0 v1 : Value} {S : St} (h : RKb w F b lv v0 v1 S) :
    w.cell? ⟨b, 0, none⟩ = some (.int .i64 S.cap) ∧ w.cell? ⟨b, 1, none⟩ = some lv ∧ w.cell? ⟨b, 2, none⟩ = some (.int .i64 S.sure) ∧ w.cell? ⟨b, 3, none⟩ = some v0 ∧ w.cell? ⟨b, 4, none⟩ = some v1 ∧
    w.cell? ⟨b, 5, none⟩ = some (.bool S.h0) ∧ w.cell? ⟨b, 6, none⟩ = some (.bool S.h1) ∧ w.cell? ⟨b, 7, none⟩ = some (.int .i64 S.rlast) ∧ w.cell? ⟨b, 8, none⟩ = some (.int .i64 S.steps) :=
  ⟨h.blk.cell 0, h.blk.cell 1, h.blk.cell 2, h.blk.cell 3, h.blk.cell 4, h.blk.cell 5, h.blk.cell 6, h.blk.cell 7, h.blk.cell 8⟩

/-- What a step leaves. -/
def RAft (w : World) (F : Nat → Prop) (w' : World) (v : Value) (S : St) : Prop := ∃ F', RK w' F' v S ∧ Aft w F w' F'

theorem RKb.set {w : World} {F : Nat → Prop} {b : Nat} {lv v0 v1 : Value} {S S' : St} (h : RKb w F b lv v0 v1 S) (i : Nat) (x : Value) (hc : (rC S lv v0 v1).setIfInBounds i x = rC S' lv v0 v1) (hl : S'.log = S.log) (h0 : S'.b0 = S.b0) (h1 : S'.b1 = S.b1) (ok : S'.Ok) : RKb (w.setCell ⟨b, i, none⟩ x) F b lv v0 v1 S' := by
  have hg := grown_setCell w b i x
  have q : ∀ {u L}, Own w 0 u L → Own (w.setCell ⟨b, i, none⟩ x) 0 u L := fun {u L} ho => World.ownsRow.kept ho hg (.inr (ho.other h.blk (by decide)))
  exact ⟨by rw [← hc]; exact h.blk.store i x, by rw [hl]; exact q h.log, by rw [h0]; exact q h.p0, by rw [h1]; exact q h.p1, h.a0, h.a1, h.inb, h.inl, h.in0, h.in1, fun k hk => Nat.lt_of_lt_of_le (h.lt k hk) hg.size, ok⟩

/-- Another log. -/
theorem RKb.relog {w w' : World} {F : Nat → Prop} {b : Nat} {lv v0 v1 v' : Value} {S S' : St} (h : RKb w F b lv v0 v1 S) (ho : Own w 0 v' S'.log) (hn : ∀ k, v'.ownBlock = some k → lv.ownBlock = some k ∨ ¬ F k) (hg : w.grownBy w' (some b)) (hb : Blk w' b 63 (rC S' v' v0 v1)) (h0 : S'.b0 = S.b0) (h1 : S'.b1 = S.b1) (ok : S'.Ok) :
    RKb w' (fun k => F k ∨ v'.ownBlock = some k) b v' v0 v1 S' := by
  have q : ∀ {u L}, Own w 0 u L → Own w' 0 u L := fun {u L} ho => World.ownsRow.kept ho hg (.inr (ho.other h.blk (by decide)))
  refine ⟨hb, q ho, by rw [h0]; exact q h.p0, by rw [h1]; exact q h.p1, fun k hk e => ?_, fun k hk e => ?_, .inl h.inb, fun k hk => .inr hk, fun k hk => .inl (h.in0 k hk), fun k hk => .inl (h.in1 k hk), fun k hk => ?_, ok⟩
  · rcases hn k hk with h2 | h2
    · exact h.a0 k h2 e
    · exact h2 (h.in0 k e)
  · rcases hn k hk with h2 | h2
    · exact h.a1 k h2 e
    · exact h2 (h.in1 k e)
  · rcases hk with h2 | h2
    · exact Nat.lt_of_lt_of_le (h.lt k h2) hg.size
    · exact Nat.lt_of_lt_of_le (ho.lt k h2).2 hg.size

/-- Another snapshot in the first place. -/
theorem RKb.reput0 {w w' : World} {F : Nat → Prop} {b : Nat} {lv v0 v1 v' : Value} {S S' : St} (h : RKb w F b lv v0 v1 S) (ho : Own w 0 v' S'.b0) (hn : ∀ k, v'.ownBlock = some k → ¬ F k) (hg : w.grownBy w' (some b)) (hb : Blk w' b 63 (rC S' lv v' v1)) (hl : S'.log = S.log) (h1 : S'.b1 = S.b1) (ok : S'.Ok) :
    RKb w' (fun k => F k ∨ v'.ownBlock = some k) b lv v' v1 S' := by
  have q : ∀ {u L}, Own w 0 u L → Own w' 0 u L := fun {u L} ho => World.ownsRow.kept ho hg (.inr (ho.other h.blk (by decide)))
  refine ⟨hb, by rw [hl]; exact q h.log, q ho, by rw [h1]; exact q h.p1, fun k hk e => hn k e (h.inl k hk), h.a1, .inl h.inb, fun k hk => .inl (h.inl k hk), fun k hk => .inr hk, fun k hk => .inl (h.in1 k hk), fun k hk => ?_, ok⟩
  rcases hk with h2 | h2
  · exact Nat.lt_of_lt_of_le (h.lt k h2) hg.size
  · exact Nat.lt_of_lt_of_le (ho.lt k h2).2 hg.size
theorem RKb.reput1 {w w' : World} {F : Nat → Prop} {b : Nat} {lv v0 v1 v' : Value} {S S' : St} (h : RKb w F b lv v0 v1 S) (ho : Own w 0 v' S'.b1) (hn : ∀ k, v'.ownBlock = some k → ¬ F k) (hg : w.grownBy w' (some b)) (hb : Blk w' b 63 (rC S' lv v0 v')) (hl : S'.log = S.log) (h0 : S'.b0 = S.b0) (ok : S'.Ok) :
    RKb w' (fun k => F k ∨ v'.ownBlock = some k) b lv v0 v' S' := by
  have q : ∀ {u L}, Own w 0 u L → Own w' 0 u L := fun {u L} ho => World.ownsRow.kept ho hg (.inr (ho.other h.blk (by decide)))
  refine ⟨hb, by rw [hl]; exact q h.log, by rw [h0]; exact q h.p0, q ho, h.a0, fun k hk e => hn k e (h.inl k hk), .inl h.inb, fun k hk => .inl (h.inl k hk), fun k hk => .inl (h.in0 k hk), fun k hk => .inr hk, fun k hk => ?_, ok⟩
  rcases hk with h2 | h2
  · exact Nat.lt_of_lt_of_le (h.lt k h2) hg.size
  · exact Nat.lt_of_lt_of_le (ho.lt k h2).2 hg.size

theorem RKb.stepped {w : World} {F : Nat → Prop} {b : Nat} {lv v0 v1 : Value} {S : St} (h : RKb w F b lv v0 v1 S) : RKb (w.setCell ⟨b, 8, none⟩ (.int .i64 ((S.steps + 1 : Nat) : Int))) F b lv v0 v1 S.step :=
  h.set 8 _ rfl rfl rfl rfl h.ok.step

/-- Behind hold. -/
theorem RKb.held {w w1 : World} {F : Nat → Prop} {b : Nat} {lv v0 v1 v' : Value} {S S' : St} {n : Nat} (h : RKb w F b lv v0 v1 S) (g : w.grownBy w1 none) (o : Own w1 w.heap.size v' S'.log) (hS : S' = { S with log := S'.log, sure := n }) (ok : S'.Ok) :
    RAft w F ((w1.setCell ⟨b, 1, none⟩ v').setCell ⟨b, 2, none⟩ (.int .i64 (n : Int))) (.pointer (some ⟨b, 0, none⟩)) S' := by
  have h1 := h.grown g
  have g2 : w1.grownBy ((w1.setCell ⟨b, 1, none⟩ v').setCell ⟨b, 2, none⟩ (.int .i64 (n : Int))) (some b) := grown_trans (grown_setCell _ _ _ _) (grown_setCell _ _ _ _)
  have hb : Blk ((w1.setCell ⟨b, 1, none⟩ v').setCell ⟨b, 2, none⟩ (.int .i64 (n : Int))) b 63 (rC S' v' v0 v1) := by
    rw [hS]
    exact (h1.blk.store 1 _).store 2 _
  have hn : ∀ k, v'.ownBlock = some k → ¬ F k := fun k hk hF => by
    have := (o.lt k hk).1
    have := h.lt k hF
    omega
  refine ⟨fun k => F k ∨ v'.ownBlock = some k, ⟨b, v', v0, v1, rfl, h1.relog (o.mono (Nat.zero_le _)) (fun k hk => .inr (hn k hk)) g2 hb (by rw [hS]) (by rw [hS]) ok⟩, ⟨Fr.trans (Fr.of (F := F) g (by simp)) (Fr.of (F := F) g2 (fun k hk => by simp at hk; subst hk; exact h.inb)) (fun k hk => .inl hk), fun k hk => ?_⟩⟩
  rcases hk with hk | hk
  · exact .inl hk
  · exact .inr (o.lt k hk).1

theorem RAft.after {w w1 w' : World} {F : Nat → Prop} {v : Value} {S : St} (h : RAft w1 F w' v S) (ha : Aft w F w1 F) : RAft w F w' v S := by
  obtain ⟨F', h1, h2⟩ := h
  exact ⟨F', h1, ha.trans h2⟩

/-- A new disk of the document's. -/
def RNew (w w' : World) (v : Value) (S : St) : Prop := w.grownBy w' none ∧ ∃ F, RK w' F v S ∧ ∀ k, F k → w.heap.size ≤ k

theorem RNew.of {w w0 w' : World} {v : Value} {S : St} (h : RNew w0 w' v S) (hg : w.grownBy w0 none) : RNew w w' v S := by
  obtain ⟨h1, F, h2, h3⟩ := h
  exact ⟨grown_trans hg h1, F, h2, fun k hk => Nat.le_trans hg.size (h3 k hk)⟩


set_option maxHeartbeats 400000 in
theorem ref34_nil (u : Value) (w : World) : Calls Try.prog 34 #[.pointer none, u] w fun e w' => e = .returned (.int .i64 1) ∧ w' = w := by
  go_enter Try.func34, Try.ntmps34
  go_wp2_with fail
  go_ret
  exact ⟨rfl, rfl⟩

set_option maxHeartbeats 400000 in
theorem ref35_nil (u : Value) (w : World) : Calls Try.prog 35 #[.pointer none, u] w fun e w' => e = .returned (.int .i64 1) ∧ w' = w := by
  go_enter Try.func35, Try.ntmps35
  go_wp2_with fail
  go_ret
  exact ⟨rfl, rfl⟩

set_option maxHeartbeats 400000 in
theorem ref36_nil (w : World) : Calls Try.prog 36 #[.pointer none] w fun e w' => e = .returned (.int .i64 1) ∧ w' = w := by
  go_enter Try.func36, Try.ntmps36
  go_wp2_with fail
  go_ret
  exact ⟨rfl, rfl⟩

set_option maxHeartbeats 400000 in
theorem ref37_nil (n : Int) (w : World) : Calls Try.prog 37 #[.pointer none, .int .i64 n] w fun e w' => e = .returned (.int .i64 1) ∧ w' = w := by
  go_enter Try.func37, Try.ntmps37
  go_wp2_with fail
  go_ret
  exact ⟨rfl, rfl⟩

set_option maxHeartbeats 400000 in
theorem ref38_nil (n : Int) (w : World) : Calls Try.prog 38 #[.pointer none, .int .i64 n] w fun e w' => e = .returned (.int .i64 1) ∧ w' = w := by
  go_enter Try.func38, Try.ntmps38
  go_wp2_with fail
  go_ret
  exact ⟨rfl, rfl⟩

set_option maxHeartbeats 400000 in
theorem ref39_nil (w : World) : Calls Try.prog 39 #[.pointer none] w fun e w' => e = .returned (.int .i64 1) ∧ w' = w := by
  go_enter Try.func39, Try.ntmps39
  go_wp2_with fail
  go_ret
  exact ⟨rfl, rfl⟩

set_option maxHeartbeats 400000 in
theorem ref40_nil (n : Int) (w : World) : Calls Try.prog 40 #[.pointer none, .int .i64 n] w fun e w' => e = .returned (.pointer none) ∧ w' = w := by
  go_enter Try.func40, Try.ntmps40
  go_wp2_with fail
  go_ret
  exact ⟨rfl, rfl⟩

set_option maxHeartbeats 400000 in
theorem ref41_nil (w : World) : Calls Try.prog 41 #[.pointer none] w fun e w' => e = .returned (.pointer none) ∧ w' = w := by
  go_enter Try.func41, Try.ntmps41
  go_wp2_with fail
  go_ret
  exact ⟨rfl, rfl⟩

set_option maxHeartbeats 400000 in
theorem ref28_nil (w : World) : Calls Try.prog 28 #[.pointer none] w fun e w' => e = .returned (.tuple #[.slice none 0 0, .bool false]) ∧ w' = w := by
  go_enter Try.func28, Try.ntmps28
  go_wp2_with fail
  go_ret2
  exact ⟨rfl, rfl⟩

set_option maxRecDepth 100000 in
set_option maxHeartbeats 400000 in
theorem ref36 (F : Nat → Prop) (v : Value) (S : St) (w : World) (h : RK w F v S) (hm : S.steps < 9223372036854775807) :
    Calls Try.prog 36 #[v] w fun e w' => e = .returned (.int .i64 0) ∧ RAft w F w' v S.sync := by
  obtain ⟨b, lv, v0, v1, rfl, h⟩ := h
  obtain ⟨c0, c1, c2, c3, c4, c5, c6, c7, c8⟩ := h.cells
  have hf := h.blk.free 8
  have h1 := h.stepped
  obtain ⟨ao, cap, hsv⟩ := h.log.seg.shape
  subst hsv
  have HS : Hid (RKb (w.setCell ⟨b, 8, none⟩ (.int .i64 ((S.steps + 1 : Nat) : Int))) F b (.slice ao S.log.length cap) v0 v1 S.step ∧ Aft w F (w.setCell ⟨b, 8, none⟩ (.int .i64 ((S.steps + 1 : Nat) : Int))) F) := ⟨h1, aft_set h.inb _ _⟩
  have HO : Hid S.Ok := h.ok
  have hl := h.ok.log
  have hsl := h.ok.sure
  have hcp : S.log.length ≤ cap ∧ cap ≤ 9223372036854775807 := by
    obtain ⟨ao', cap', hv, q1, q2, _⟩ := h.log.seg
    simp at hv; unfold maxLen at q2; omega
  obtain ⟨hcp1, hcp2⟩ := hcp
  rw [show ((S.steps + 1 : Nat) : Int) = (S.steps : Int) + 1 by omega] at HS
  have k1 := HS.out.1.cells.2.1
  have k2 := HS.out.1.cells.2.2.1
  have f2 := HS.out.1.blk.free 2
  clear h h1 c0 c1 c2 c3 c4 c5 c6 c7
  go_enter Try.func36, Try.ntmps36
  go_wp2_with fail
  go_ret
  refine ⟨rfl, F, ⟨b, _, v0, v1, rfl, HS.out.1.set (S' := S.sync) 2 _ rfl rfl rfl rfl ?_⟩, HS.out.2.trans (aft_set HS.out.1.inb _ _)⟩
  have o := HS.out.1.ok
  exact ⟨o.cap1, o.cap2, o.log, Nat.le_refl _, o.l0, o.l1, o.last, o.first, o.e0, o.e1⟩
end Go.Proofs.Ytegacmcekladfaa
