/-
  The program's disk: Sync, Write, Trim, Drop, Put, Switch.
-/
import Derived.Test.YtegacmcekladfaaE
namespace Go.Proofs.Ytegacmcekladfaa
open Go.RowKit

theorem Fr.cell {w w' : World} {F : Nat → Prop} (hf : Fr w w' F) {a : Addr} {v : Value} (h : w.cell? a = some v) (hn : ¬ F a.block) : w'.cell? a = some v :=
  (World.cell?_of_block (hf.block a.block (World.block_lt_of_cell? w a h) hn)).trans h
theorem Seg.far {w w' : World} {F : Nat → Prop} {u : Value} {M : List UInt8} (h : Seg w u M) (hf : Fr w w' F) (hu : M ≠ [] → ∀ k, u.ownBlock = some k → ¬ F k) : Seg w' u M := by
  obtain ⟨ao, cap, rfl, h1, h2, h3, h4⟩ := h
  refine ⟨ao, cap, rfl, h1, h2, h3, fun j hj => ?_⟩
  obtain ⟨b, off, e, hcell⟩ := h4 j hj
  subst e
  exact ⟨b, off, rfl, hf.cell hcell (hu (fun e => by subst e; simp at hj) b rfl)⟩

/-- What a step leaves. -/
def DAft (w : World) (F : Nat → Prop) (w' : World) (v : Value) (S : St) : Prop := ∃ F', DK w' F' v S ∧ Aft w F w' F'

theorem DKb.set {w : World} {F : Nat → Prop} {b : Nat} {lv v0 v1 : Value} {S S' : St} (h : DKb w F b lv v0 v1 S) (i : Nat) (x : Value) (hc : (dC S lv v0 v1).setIfInBounds i x = dC S' lv v0 v1) (hl : S'.log = S.log) (h0 : S'.b0 = S.b0) (h1 : S'.b1 = S.b1) (ok : S'.Ok) : DKb (w.setCell ⟨b, i, none⟩ x) F b lv v0 v1 S' := by
  have hg := grown_setCell w b i x
  have q : ∀ {u L}, Own w 0 u L → Own (w.setCell ⟨b, i, none⟩ x) 0 u L := fun {u L} ho => World.ownsRow.kept ho hg (.inr (ho.other h.blk (by decide)))
  exact ⟨by rw [← hc]; exact h.blk.store i x, by rw [hl]; exact q h.log, by rw [h0]; exact q h.p0, by rw [h1]; exact q h.p1, h.a0, h.a1, h.inb, h.inl, h.in0, h.in1, fun k hk => Nat.lt_of_lt_of_le (h.lt k hk) hg.size, ok⟩

/-- Another log. -/
theorem DKb.relog {w w' : World} {F : Nat → Prop} {b : Nat} {lv v0 v1 v' : Value} {S S' : St} (h : DKb w F b lv v0 v1 S) (ho : Own w 0 v' S'.log) (hn : ∀ k, v'.ownBlock = some k → lv.ownBlock = some k ∨ ¬ F k) (hg : w.grownBy w' (some b)) (hb : Blk w' b 54 (dC S' v' v0 v1)) (h0 : S'.b0 = S.b0) (h1 : S'.b1 = S.b1) (ok : S'.Ok) :
    DKb w' (fun k => F k ∨ v'.ownBlock = some k) b v' v0 v1 S' := by
  have q : ∀ {u L}, Own w 0 u L → Own w' 0 u L := fun {u L} ho => World.ownsRow.kept ho hg (.inr (ho.other h.blk (by decide)))
  refine ⟨hb, q ho, by rw [h0]; exact q h.p0, by rw [h1]; exact q h.p1, fun k hk e => ?_, fun k hk e => ?_, .inl h.inb, fun k hk => .inr hk, fun k hk => .inl (h.in0 k hk), fun k hk => .inl (h.in1 k hk), fun k hk => ?_, ok⟩
  · rcases hn k hk with h2 | h2
    · exact h.a0 k h2 e
    · exact h2 (h.in0 k e)
  · rcases hn k hk with h2 | h2
    · exact h.a1 k h2 e
    · exact h2 (h.in1 k e)
  · rcases hk with h2 | h2
    · exact Nat.lt_of_lt_of_le (h.lt k h2) hg.size
    · exact Nat.lt_of_lt_of_le (ho.lt k h2).2 hg.size

/-- Another snapshot in the first place. -/
theorem DKb.reput0 {w w' : World} {F : Nat → Prop} {b : Nat} {lv v0 v1 v' : Value} {S S' : St} (h : DKb w F b lv v0 v1 S) (ho : Own w 0 v' S'.b0) (hn : ∀ k, v'.ownBlock = some k → ¬ F k) (hg : w.grownBy w' (some b)) (hb : Blk w' b 54 (dC S' lv v' v1)) (hl : S'.log = S.log) (h1 : S'.b1 = S.b1) (ok : S'.Ok) :
    DKb w' (fun k => F k ∨ v'.ownBlock = some k) b lv v' v1 S' := by
  have q : ∀ {u L}, Own w 0 u L → Own w' 0 u L := fun {u L} ho => World.ownsRow.kept ho hg (.inr (ho.other h.blk (by decide)))
  refine ⟨hb, by rw [hl]; exact q h.log, q ho, by rw [h1]; exact q h.p1, fun k hk e => hn k e (h.inl k hk), h.a1, .inl h.inb, fun k hk => .inl (h.inl k hk), fun k hk => .inr hk, fun k hk => .inl (h.in1 k hk), fun k hk => ?_, ok⟩
  rcases hk with h2 | h2
  · exact Nat.lt_of_lt_of_le (h.lt k h2) hg.size
  · exact Nat.lt_of_lt_of_le (ho.lt k h2).2 hg.size
theorem DKb.reput1 {w w' : World} {F : Nat → Prop} {b : Nat} {lv v0 v1 v' : Value} {S S' : St} (h : DKb w F b lv v0 v1 S) (ho : Own w 0 v' S'.b1) (hn : ∀ k, v'.ownBlock = some k → ¬ F k) (hg : w.grownBy w' (some b)) (hb : Blk w' b 54 (dC S' lv v0 v')) (hl : S'.log = S.log) (h0 : S'.b0 = S.b0) (ok : S'.Ok) :
    DKb w' (fun k => F k ∨ v'.ownBlock = some k) b lv v0 v' S' := by
  have q : ∀ {u L}, Own w 0 u L → Own w' 0 u L := fun {u L} ho => World.ownsRow.kept ho hg (.inr (ho.other h.blk (by decide)))
  refine ⟨hb, by rw [hl]; exact q h.log, by rw [h0]; exact q h.p0, q ho, h.a0, fun k hk e => hn k e (h.inl k hk), .inl h.inb, fun k hk => .inl (h.inl k hk), fun k hk => .inl (h.in0 k hk), fun k hk => .inr hk, fun k hk => ?_, ok⟩
  rcases hk with h2 | h2
  · exact Nat.lt_of_lt_of_le (h.lt k h2) hg.size
  · exact Nat.lt_of_lt_of_le (ho.lt k h2).2 hg.size

/-- A step is counted. -/
def St.step (S : St) : St := { S with steps := S.steps + 1 }
theorem St.Ok.step {S : St} (h : S.Ok) : S.step.Ok := ⟨h.cap1, h.cap2, h.log, h.sure, h.l0, h.l1, h.last, h.first, h.e0, h.e1⟩
theorem DKb.stepped {w : World} {F : Nat → Prop} {b : Nat} {lv v0 v1 : Value} {S : St} (h : DKb w F b lv v0 v1 S) : DKb (w.setCell ⟨b, 8, none⟩ (.int .i64 ((S.steps + 1 : Nat) : Int))) F b lv v0 v1 S.step :=
  h.set 8 _ rfl rfl rfl rfl h.ok.step

theorem aft_set {w : World} {F : Nat → Prop} {b : Nat} (hb : F b) (i : Nat) (x : Value) : Aft w F (w.setCell ⟨b, i, none⟩ x) F := ⟨Fr.of (grown_setCell w b i x) (fun k hk => by simp at hk; subst hk; exact hb), fun _ hk => .inl hk⟩
theorem aft_grown {w w' : World} {F : Nat → Prop} (h : w.grownBy w' none) : Aft w F w' F := ⟨Fr.of h (by simp), fun _ hk => .inl hk⟩

set_option maxHeartbeats 400000 in
theorem sync18_gone (v : Value) (w : World) (h : Gone w v) : Calls Try.prog 18 #[v] w fun e w' => e = .returned (.int .i64 1) ∧ w' = w := by
  have H : Hid _ := h
  clear h
  go_enter Try.func18, Try.ntmps18
  go_wp2_with fail
  refine (step46_gone _ _ H.out).mono ?_
  rintro e w1 ⟨rfl, he⟩; subst he
  go_wp2_with fail
  go_ret
  exact ⟨rfl, rfl⟩

set_option maxHeartbeats 400000 in
theorem write19_gone (v u : Value) (w : World) (h : Gone w v) : Calls Try.prog 19 #[v, u] w fun e w' => e = .returned (.int .i64 1) ∧ w' = w := by
  have H : Hid _ := h
  clear h
  go_enter Try.func19, Try.ntmps19
  go_wp2_with fail
  refine (step46_gone _ _ H.out).mono ?_
  rintro e w1 ⟨rfl, he⟩; subst he
  go_wp2_with fail
  go_ret
  exact ⟨rfl, rfl⟩

set_option maxHeartbeats 400000 in
theorem trim20_gone (v : Value) (n : Int) (w : World) (h : Gone w v) : Calls Try.prog 20 #[v, .int .i64 n] w fun e w' => e = .returned (.int .i64 1) ∧ w' = w := by
  have H : Hid _ := h
  clear h
  go_enter Try.func20, Try.ntmps20
  go_wp2_with fail
  refine (step46_gone _ _ H.out).mono ?_
  rintro e w1 ⟨rfl, he⟩; subst he
  go_wp2_with fail
  go_ret
  exact ⟨rfl, rfl⟩

set_option maxHeartbeats 400000 in
theorem drop21_gone (v : Value) (n : Int) (w : World) (h : Gone w v) : Calls Try.prog 21 #[v, .int .i64 n] w fun e w' => e = .returned (.int .i64 1) ∧ w' = w := by
  have H : Hid _ := h
  clear h
  go_enter Try.func21, Try.ntmps21
  go_wp2_with fail
  refine (step46_gone _ _ H.out).mono ?_
  rintro e w1 ⟨rfl, he⟩; subst he
  go_wp2_with fail
  go_ret
  exact ⟨rfl, rfl⟩

set_option maxHeartbeats 400000 in
theorem put17_gone (v u : Value) (w : World) (h : Gone w v) : Calls Try.prog 17 #[v, u] w fun e w' => e = .returned (.int .i64 1) ∧ w' = w := by
  have H : Hid _ := h
  clear h
  go_enter Try.func17, Try.ntmps17
  go_wp2_with fail
  refine (step46_gone _ _ H.out).mono ?_
  rintro e w1 ⟨rfl, he⟩; subst he
  go_wp2_with fail
  go_ret
  exact ⟨rfl, rfl⟩

set_option maxHeartbeats 400000 in
theorem switch22_gone (v : Value) (w : World) (h : Gone w v) : Calls Try.prog 22 #[v] w fun e w' => e = .returned (.int .i64 1) ∧ w' = w := by
  have H : Hid _ := h
  clear h
  go_enter Try.func22, Try.ntmps22
  go_wp2_with fail
  refine (step46_gone _ _ H.out).mono ?_
  rintro e w1 ⟨rfl, he⟩; subst he
  go_wp2_with fail
  go_ret
  exact ⟨rfl, rfl⟩

set_option maxRecDepth 100000 in
set_option maxHeartbeats 400000 in
theorem holding24 (v : Value) (L : List UInt8) (w : World) (hs : Seg w v L) (hL : L.length ≤ 140737488355328) :
    Calls Try.prog 24 #[v] w fun e w' => ∃ u, e = .returned (.agg #[.bool true, u]) ∧ Own w' w.heap.size u L ∧ w.grownBy w' none := by
  have HS : Hid (Seg w v L) := hs
  clear hs
  go_enter Try.func24, Try.ntmps24
  go_wp2_with fail
  refine (clone25 _ L _ (Seg.grown HS.out (World.grownBy_alloc _ _ _)) hL).mono ?_
  rintro e w1 ⟨u, rfl, o, g⟩
  obtain ⟨ao, cap, rfl⟩ := o.seg.shape
  have hb := Blk.grown (heap_alloc_new w (.cells #[.bool false, .slice none 0 0] 51)) g (by simp)
  have k0 := hb.cell 0
  have k1 := hb.cell 1
  have f0 := hb.free 0
  have f1 := hb.free 1
  simp at k0 k1
  have S1 : Hid (Own ((w1.setCell ⟨w.heap.size, 0, none⟩ (.bool true)).setCell ⟨w.heap.size, 1, none⟩ (.slice ao L.length cap)) w.heap.size (.slice ao L.length cap) L ∧ w.grownBy ((w1.setCell ⟨w.heap.size, 0, none⟩ (.bool true)).setCell ⟨w.heap.size, 1, none⟩ (.slice ao L.length cap)) none ∧ Blk ((w1.setCell ⟨w.heap.size, 0, none⟩ (.bool true)).setCell ⟨w.heap.size, 1, none⟩ (.slice ao L.length cap)) w.heap.size 51 #[.bool true, .slice ao L.length cap]) := by
    have g1 := grown_trans (World.grownBy_alloc w _ none) g
    have g2 : w1.grownBy ((w1.setCell ⟨w.heap.size, 0, none⟩ (.bool true)).setCell ⟨w.heap.size, 1, none⟩ (.slice ao L.length cap)) (some w.heap.size) := grown_trans (grown_setCell _ _ _ _) (grown_setCell _ _ _ _)
    exact ⟨Own.mono (World.ownsRow.kept o g2 (.inr (Own.other o hb (by decide)))) (by simp), grown_new g1 g2 (by intro x hx; simp at hx; omega), (hb.store 0 _).store 1 _⟩
  clear o g hb
  go_wp2_with fail
  generalize (w1.setCell ⟨w.heap.size, 0, none⟩ (.bool true)).setCell ⟨w.heap.size, 1, none⟩ (.slice ao L.length cap) = W2 at S1 ⊢
  have q0 := S1.out.2.2.cell 0
  have q1 := S1.out.2.2.cell 1
  simp at q0 q1
  exact bodyPost_ret (v := .agg #[.bool true, .slice ao L.length cap]) (by simp [results, Try.results24, go_sem, q0, q1]) rfl ⟨_, rfl, S1.out.1, S1.out.2.1⟩

set_option maxRecDepth 100000 in
set_option maxHeartbeats 400000 in
theorem hold48 (b : Nat) (c : Array Value) (u : Value) (M : List UInt8) (n : Int) (w : World) (hb : Blk w b 54 c) (h9 : c.size = 9) (hu : Seg w u M) (hM : M.length ≤ 140737488355328) :
    Calls Try.prog 48 #[.pointer (some ⟨b, 0, none⟩), u, .int .i64 n] w fun e w' => e = .returned (.tuple #[]) ∧ ∃ v' w1, Own w1 w.heap.size v' M ∧ w.grownBy w1 none ∧ w' = (w1.setCell ⟨b, 1, none⟩ v').setCell ⟨b, 2, none⟩ (.int .i64 n) := by
  have H : Hid (Blk w b 54 c ∧ Seg w u M) := ⟨hb, hu⟩
  clear hb hu
  go_enter Try.func48, Try.ntmps48
  go_wp2_with fail
  refine (clone25 _ M _ H.out.2 hM).mono ?_
  rintro e w1 ⟨v', rfl, o, g⟩
  obtain ⟨ao, cap, rfl⟩ := o.seg.shape
  have hb := H.out.1.grown g (by simp)
  have k1 : w1.cell? ⟨b, 1, none⟩ = some c[1] := by rw [hb.cell 1, Array.getElem?_eq_getElem (by omega)]
  have k2 : w1.cell? ⟨b, 2, none⟩ = some c[2] := by rw [hb.cell 2, Array.getElem?_eq_getElem (by omega)]
  have f1 := hb.free 1
  have f2 := hb.free 2
  have F2 : Hid _ := And.intro o g
  clear o g hb
  go_wp2_with fail
  exact bodyPost_end (v := .tuple #[]) (by simp [results, Try.results48, go_sem]) rfl ⟨rfl, _, w1, F2.out.1, F2.out.2, rfl⟩

def St.sync (S : St) : St := { S.step with sure := S.log.length }

set_option maxRecDepth 100000 in
set_option maxHeartbeats 400000 in
theorem sync18 (F : Nat → Prop) (v : Value) (S : St) (w : World) (h : DK w F v S) (hm : S.steps < 9223372036854775807) :
    Calls Try.prog 18 #[v] w fun e w' => e = .returned (.int .i64 0) ∧ DAft w F w' v S.sync := by
  obtain ⟨b, lv, v0, v1, rfl, h⟩ := h
  obtain ⟨c0, c1, c2, c3, c4, c5, c6, c7, c8⟩ := h.cells
  have hf := h.blk.free 8
  have h1 := h.stepped
  obtain ⟨ao, cap, hsv⟩ := h.log.seg.shape
  subst hsv
  have HS : Hid (DKb (w.setCell ⟨b, 8, none⟩ (.int .i64 ((S.steps + 1 : Nat) : Int))) F b (.slice ao S.log.length cap) v0 v1 S.step ∧ Aft w F (w.setCell ⟨b, 8, none⟩ (.int .i64 ((S.steps + 1 : Nat) : Int))) F) := ⟨h1, aft_set h.inb _ _⟩
  have hc1 := h.ok.cap1
  clear h h1 c2 c3 c4 c5 c6 c7
  go_enter Try.func18, Try.ntmps18
  go_wp2_with fail
  refine (step46 _ _ _ _ c0 hc1 c8 hf hm).mono ?_
  rintro e w1 ⟨rfl, he⟩
  rw [← he] at HS
  clear he c0 c1 c8 hf hm hc1
  have k1 := HS.out.1.cells.2.1
  have k2 := HS.out.1.cells.2.2.1
  have f2 := HS.out.1.blk.free 2
  go_wp2_with fail
  go_ret
  refine ⟨rfl, F, ⟨b, _, v0, v1, rfl, HS.out.1.set (S' := S.sync) 2 _ rfl rfl rfl rfl ?_⟩, HS.out.2.trans (aft_set HS.out.1.inb _ _)⟩
  have o := HS.out.1.ok
  exact ⟨o.cap1, o.cap2, o.log, Nat.le_refl _, o.l0, o.l1, o.last, o.first, o.e0, o.e1⟩

/-- Whether a write is refused; what one leaves. -/
def St.full (S : St) (M : List UInt8) : Bool := decide (S.cap - S.log.length < M.length)
def St.write (S : St) (M : List UInt8) : St := if S.full M then S.step else { S.step with log := S.log ++ M }
def St.writeCode (S : St) (M : List UInt8) : Int := if S.full M then 7 else 0

theorem St.write_ok {S : St} {M : List UInt8} (h : S.Ok) : (S.write M).Ok := by
  unfold St.write
  cases hf : S.full M with
  | true => exact h.step
  | false =>
    have h1 : ¬ S.cap - S.log.length < M.length := by simpa [St.full] using hf
    have h2 := h.cap2
    have h3 := h.log
    have h4 := h.sure
    refine ⟨h.cap1, h.cap2, ?_, ?_, h.l0, h.l1, h.last, h.first, h.e0, h.e1⟩
    · simp [St.step]; omega
    · simp [St.step]; omega

set_option maxRecDepth 100000 in
set_option maxHeartbeats 400000 in
theorem write19 (F : Nat → Prop) (v u : Value) (S : St) (M : List UInt8) (w : World) (h : DK w F v S) (hm : S.steps < 9223372036854775807) (hu : Seg w u M) (hd : M ≠ [] → ∀ k, u.ownBlock = some k → ¬ F k) :
    Calls Try.prog 19 #[v, u] w fun e w' => e = .returned (.int .i64 (S.writeCode M)) ∧ DAft w F w' v (S.write M) := by
  obtain ⟨b, lv, v0, v1, rfl, h⟩ := h
  obtain ⟨c0, c1, c2, c3, c4, c5, c6, c7, c8⟩ := h.cells
  have hf := h.blk.free 8
  have h1 := h.stepped
  have hl := h.ok.log
  have hcap := h.ok.cap2
  have hul := hu.len
  obtain ⟨ao, cap, hsv⟩ := h.log.seg.shape
  obtain ⟨au, cu, huv⟩ := hu.shape
  subst hsv huv
  have HS : Hid (DKb (w.setCell ⟨b, 8, none⟩ (.int .i64 ((S.steps + 1 : Nat) : Int))) F b (.slice ao S.log.length cap) v0 v1 S.step ∧ Aft w F (w.setCell ⟨b, 8, none⟩ (.int .i64 ((S.steps + 1 : Nat) : Int))) F ∧ Seg (w.setCell ⟨b, 8, none⟩ (.int .i64 ((S.steps + 1 : Nat) : Int))) (.slice au M.length cu) M) := ⟨h1, aft_set h.inb _ _, hu.far (aft_set (F := F) h.inb _ _).fr hd⟩
  have HO : Hid S.Ok := h.ok
  have hc1 := h.ok.cap1
  clear h h1 c2 c3 c4 c5 c6 c7 hu
  go_enter Try.func19, Try.ntmps19
  go_wp2_with fail
  refine (step46 _ _ _ _ c0 hc1 c8 hf hm).mono ?_
  rintro e w1 ⟨rfl, he⟩
  rw [← he] at HS
  clear he c0 c1 c8 hf hm
  have HD : Hid (DK w1 F (.pointer (some ⟨b, 0, none⟩)) S.step) := ⟨b, _, v0, v1, rfl, HS.out.1⟩
  go_wp2_with fail
  refine (roomD F _ S.step _ HD.out).mono ?_
  rw [show S.step.cap = S.cap from rfl, show S.step.log = S.log from rfl]
  rintro e w2 ⟨rfl, g2, hh⟩
  clear hh
  have HS2 : Hid (DKb w2 F b (.slice ao S.log.length cap) v0 v1 S.step ∧ Aft w F w2 F ∧ Seg w2 (.slice au M.length cu) M) := ⟨HS.out.1.grown g2, HS.out.2.1.trans (aft_grown g2), HS.out.2.2.grown g2⟩
  clear HS HD g2
  cases hfull : S.full M with
  | true =>
    have h1 : S.cap - S.log.length < M.length := by simpa [St.full] using hfull
    have hb : decide (((S.cap - S.log.length : Nat) : Int) < (M.length : Int)) = true := by simp; omega
    have e1 : S.write M = S.step := by unfold St.write; rw [hfull]; rfl
    have e2 : S.writeCode M = 7 := by unfold St.writeCode; rw [hfull]; rfl
    have E1 : Hid _ := e1
    have E2 : Hid _ := e2
    clear e1 e2
    go_wp2_with fail
    go_ret
    rw [E1.out, E2.out]
    exact ⟨rfl, F, ⟨b, _, v0, v1, rfl, HS2.out.1⟩, HS2.out.2.1⟩
  | false =>
    have h1 : ¬ S.cap - S.log.length < M.length := by simpa [St.full] using hfull
    have hb : decide (((S.cap - S.log.length : Nat) : Int) < (M.length : Int)) = false := by simp; omega
    have e1 : S.write M = { S.step with log := S.log ++ M } := by unfold St.write; rw [hfull]; rfl
    have e2 : S.writeCode M = 0 := by unfold St.writeCode; rw [hfull]; rfl
    have HOK : Hid (S.write M).Ok := St.write_ok HO.out
    rw [e1] at HOK
    have E1 : Hid _ := e1
    have E2 : Hid _ := e2
    clear e1 e2
    have k1 := HS2.out.1.cells.2.1
    go_wp2_with (at_builtin; refine app22 _ rfl _ _ rfl 0 _ S.log _ M rfl rfl HS2.out.1.log HS2.out.2.2 ?c0 ?c1 ?_)
    case c0 => omega
    case c1 => omega
    intro v3 w3 o3 g3 l3
    obtain ⟨a3, cp3, hv3⟩ := o3.seg.shape
    subst hv3
    have hb3 : Blk w3 b 54 (dC S.step (.slice ao S.log.length cap) v0 v1) := HS2.out.1.blk.grown g3 (HS2.out.1.log.other HS2.out.1.blk (by decide))
    have q1 := hb3.cell 1
    have f1 := hb3.free 1
    simp [dC] at q1
    have HF : Hid (DAft w F (w3.setCell ⟨b, 1, none⟩ (.slice a3 (S.log ++ M).length cp3)) (.pointer (some ⟨b, 0, none⟩)) { S.step with log := S.log ++ M }) := by
      have hk := HS2.out.1
      have g4 := grown_setCell w3 b 1 (.slice a3 (S.log ++ M).length cp3)
      have q : ∀ {u L}, Own w2 0 u L → (∀ k, (Value.slice ao S.log.length cap).ownBlock = some k → u.ownBlock ≠ some k) → Own w3 0 u L := fun {u L} ho ha => by
        refine World.ownsRow.kept ho g3 ?_
        cases hx : u.ownBlock with
        | none => exact .inl rfl
        | some k => exact .inr (fun e => ha k e.symm hx)
      have q' : ∀ {u L}, Own w3 0 u L → Own (w3.setCell ⟨b, 1, none⟩ (.slice a3 (S.log ++ M).length cp3)) 0 u L := fun {u L} ho => World.ownsRow.kept ho g4 (.inr (ho.other hb3 (by decide)))
      have hlt : ∀ k, (Value.slice a3 (S.log ++ M).length cp3).ownBlock = some k → F k ∨ w2.heap.size ≤ k := fun k hk2 => by
        rcases l3 k hk2 with h5 | h5
        · exact .inl (hk.inl k h5)
        · exact .inr h5
      have hap : ∀ {u : Value}, In F u → (∀ k, (Value.slice ao S.log.length cap).ownBlock = some k → u.ownBlock ≠ some k) → ∀ k, (Value.slice a3 (S.log ++ M).length cp3).ownBlock = some k → u.ownBlock ≠ some k := fun {u} hin ha k hk2 e => by
        rcases l3 k hk2 with h5 | h5
        · exact ha k h5 e
        · have := hk.lt k (hin k e); omega
      refine ⟨fun k => F k ∨ (Value.slice a3 (S.log ++ M).length cp3).ownBlock = some k, ⟨b, _, v0, v1, rfl, ⟨hb3.store 1 _, q' o3, q' (q hk.p0 hk.a0), q' (q hk.p1 hk.a1), hap hk.in0 hk.a0, hap hk.in1 hk.a1, .inl hk.inb, fun k h => .inr h, fun k h => .inl (hk.in0 k h), fun k h => .inl (hk.in1 k h), ?_, HOK.out⟩⟩, ?_⟩
      · intro k h
        have hs3 := g3.size
        have hs4 := g4.size
        rcases h with h | h
        · have := hk.lt k h; omega
        · have := (o3.lt k h).2; omega
      · refine HS2.out.2.1.trans ⟨Fr.trans (Fr.of g3 (fun k h => hk.inl k h)) (Fr.of (F := F) g4 (fun k h => by simp at h; subst h; exact hk.inb)) (fun k h => .inl h), fun k h => ?_⟩
        rcases h with h | h
        · exact .inl h
        · exact hlt k h
    clear o3 g3 l3 hb3
    rw [List.length_append] at HF
    go_wp2_with fail
    go_ret
    rw [E1.out, E2.out]
    exact ⟨rfl, HF.out⟩
end Go.Proofs.Ytegacmcekladfaa
