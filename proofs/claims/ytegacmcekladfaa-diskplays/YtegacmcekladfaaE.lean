/-
  The program's disk: places, snapshots, the log.
-/
import Derived.Test.YtegacmcekladfaaD
import Derived.Test.YtegacmcekladfaaJh
namespace Go.Proofs.Ytegacmcekladfaa
open Go.RowKit

set_option maxRecDepth 100000 in
set_option maxHeartbeats 400000 in
theorem at45_0 (b : Nat) (h : Bool) (u : Value) (L : List UInt8) (w : World) (h0 : w.cell? ⟨b, 3, none⟩ = some (.bool h)) (h1 : w.cell? ⟨b, 4, none⟩ = some u) (hs : Seg w u L) (hL : L.length ≤ 140737488355328) :
    Calls Try.prog 45 #[.pointer (some ⟨b, 0, none⟩), .int .i64 0] w fun e w' => ∃ v, e = .returned (.tuple #[v, .bool h]) ∧ Own w' w.heap.size v L ∧ w.grownBy w' none := by
  obtain ⟨ao, cap, hsv⟩ := hs.shape
  subst hsv
  have HS : Hid (Seg w (.slice ao L.length cap) L) := hs
  clear hs
  go_enter Try.func45, Try.ntmps45
  go_wp2_with fail
  have HG : Hid (w.grownBy (w.alloc (.cells #[.bool h, .slice ao L.length cap] 51)) none) := World.grownBy_alloc _ _ _
  have HC : Hid (∀ x : World, (w.alloc (.cells #[.bool h, .slice ao L.length cap] 51)).grownBy x none → x.cell? ⟨w.heap.size, 0, none⟩ = some (.bool h) ∧ x.cell? ⟨w.heap.size, 1, none⟩ = some (.slice ao L.length cap)) := by
    intro x hx
    have hb := Blk.grown (heap_alloc_new w (.cells #[.bool h, .slice ao L.length cap] 51)) hx (by simp)
    exact ⟨hb.cell 0, hb.cell 1⟩
  obtain ⟨w0, hw0⟩ : ∃ w0, w.alloc (.cells #[.bool h, .slice ao L.length cap] 51) = w0 := ⟨_, rfl⟩
  rw [hw0] at HC HG ⊢
  clear hw0
  refine wp_region_noPanic ?_
  refine wp_region_hold 1000 (fun x => w0.grownBy x none) (by kernel_rfl) ?_
  refine wpHold_take (i := 0) (v := _) (grown_drew _ _) rfl rfl (by kernel_rfl) (by kernel_rfl) (by kernel_rfl) (by kernel_rfl) (by kernel_rfl) (fun _ _ _ h => h) (by rfl) (fun wk hk => by obtain ⟨k0, k1⟩ := HC.out wk hk; go_simp; try rfl) ?_
  try simp only [Act.put, List.setIfInBounds_toArray, List.set_cons_zero, List.set_cons_succ]
  refine wpHold_take (i := 1) (v := _) (grown_drew _ _) rfl rfl (by kernel_rfl) (by kernel_rfl) (by kernel_rfl) (by kernel_rfl) (by kernel_rfl) (fun _ _ _ h => h) (by rfl) (fun wk hk => by obtain ⟨k0, k1⟩ := HC.out wk hk; go_simp; try rfl) ?_
  try simp only [Act.put, List.setIfInBounds_toArray, List.set_cons_zero, List.set_cons_succ]
  refine wpHold_take (i := 3) (v := _) (grown_drew _ _) rfl rfl (by kernel_rfl) (by kernel_rfl) (by kernel_rfl) (by kernel_rfl) (by kernel_rfl) (fun _ _ _ h => h) (by rfl) (fun wk hk => by obtain ⟨k0, k1⟩ := HC.out wk hk; go_simp; try rfl) ?_
  try simp only [Act.put, List.setIfInBounds_toArray, List.set_cons_zero, List.set_cons_succ]
  refine wpHold_take (i := 4) (v := _) (grown_drew _ _) rfl rfl (by kernel_rfl) (by kernel_rfl) (by kernel_rfl) (by kernel_rfl) (by kernel_rfl) (fun _ _ _ h => h) (by rfl) (fun wk hk => by obtain ⟨k0, k1⟩ := HC.out wk hk; go_simp; try rfl) ?_
  try simp only [Act.put, List.setIfInBounds_toArray, List.set_cons_zero, List.set_cons_succ]
  refine wpHold_one (i := 2) rfl (by kernel_rfl) (by rfl) (fun K hK => ?_)
  go_simp
  refine (clone25 _ L _ (Seg.grown HS.out (grown_trans HG.out (grown_drew _ _))) hL).mono ?_
  rintro e w1 ⟨r1, rfl, o1, g1⟩
  have G1 : Hid (w0.grownBy w1 none) := grown_trans (grown_drew _ _) g1
  have S1 : Hid (Own w1 w.heap.size r1 L ∧ w.grownBy w1 none) := ⟨o1.mono HG.out.size, grown_trans HG.out G1.out⟩
  clear o1 g1
  go_wp2_with fail
  refine hK.out _ _ (fun _ => G1.out) ?_
  clear hK K
  try simp only [Act.put, List.setIfInBounds_toArray, List.set_cons_zero, List.set_cons_succ]
  refine wpHold_take (i := 5) (v := _) (G1.out) rfl rfl (by kernel_rfl) (by kernel_rfl) (by kernel_rfl) (by kernel_rfl) (by kernel_rfl) (fun _ _ _ h => h) (by rfl) (fun wk hk => by obtain ⟨k0, k1⟩ := HC.out wk hk; go_simp; try rfl) ?_
  try simp only [Act.put, List.setIfInBounds_toArray, List.set_cons_zero, List.set_cons_succ]
  refine wpHold_take (i := 6) (v := _) (G1.out) rfl rfl (by kernel_rfl) (by kernel_rfl) (by kernel_rfl) (by kernel_rfl) (by kernel_rfl) (fun _ _ _ h => h) (by rfl) (fun wk hk => by obtain ⟨k0, k1⟩ := HC.out wk hk; go_simp; try rfl) ?_
  try simp only [Act.put, List.setIfInBounds_toArray, List.set_cons_zero, List.set_cons_succ]
  refine wpHold_done (by kernel_rfl) ?_
  refine (‹∀ (a : Act) (w : World), Code.wp Try.prog Code.ret _ a w → _› _ _ ?_)
  go_wp2_with fail
  go_ret2
  exact ⟨_, rfl, S1.out⟩

set_option maxRecDepth 100000 in
set_option maxHeartbeats 400000 in
theorem at45_1 (b : Nat) (h : Bool) (u : Value) (L : List UInt8) (w : World) (h0 : w.cell? ⟨b, 5, none⟩ = some (.bool h)) (h1 : w.cell? ⟨b, 6, none⟩ = some u) (hs : Seg w u L) (hL : L.length ≤ 140737488355328) :
    Calls Try.prog 45 #[.pointer (some ⟨b, 0, none⟩), .int .i64 1] w fun e w' => ∃ v, e = .returned (.tuple #[v, .bool h]) ∧ Own w' w.heap.size v L ∧ w.grownBy w' none := by
  obtain ⟨ao, cap, hsv⟩ := hs.shape
  subst hsv
  have HS : Hid (Seg w (.slice ao L.length cap) L) := hs
  clear hs
  go_enter Try.func45, Try.ntmps45
  go_wp2_with fail
  have HG : Hid (w.grownBy (w.alloc (.cells #[.bool h, .slice ao L.length cap] 51)) none) := World.grownBy_alloc _ _ _
  have HC : Hid (∀ x : World, (w.alloc (.cells #[.bool h, .slice ao L.length cap] 51)).grownBy x none → x.cell? ⟨w.heap.size, 0, none⟩ = some (.bool h) ∧ x.cell? ⟨w.heap.size, 1, none⟩ = some (.slice ao L.length cap)) := by
    intro x hx
    have hb := Blk.grown (heap_alloc_new w (.cells #[.bool h, .slice ao L.length cap] 51)) hx (by simp)
    exact ⟨hb.cell 0, hb.cell 1⟩
  obtain ⟨w0, hw0⟩ : ∃ w0, w.alloc (.cells #[.bool h, .slice ao L.length cap] 51) = w0 := ⟨_, rfl⟩
  rw [hw0] at HC HG ⊢
  clear hw0
  refine wp_region_noPanic ?_
  refine wp_region_hold 1000 (fun x => w0.grownBy x none) (by kernel_rfl) ?_
  refine wpHold_take (i := 0) (v := _) (grown_drew _ _) rfl rfl (by kernel_rfl) (by kernel_rfl) (by kernel_rfl) (by kernel_rfl) (by kernel_rfl) (fun _ _ _ h => h) (by rfl) (fun wk hk => by obtain ⟨k0, k1⟩ := HC.out wk hk; go_simp; try rfl) ?_
  try simp only [Act.put, List.setIfInBounds_toArray, List.set_cons_zero, List.set_cons_succ]
  refine wpHold_take (i := 1) (v := _) (grown_drew _ _) rfl rfl (by kernel_rfl) (by kernel_rfl) (by kernel_rfl) (by kernel_rfl) (by kernel_rfl) (fun _ _ _ h => h) (by rfl) (fun wk hk => by obtain ⟨k0, k1⟩ := HC.out wk hk; go_simp; try rfl) ?_
  try simp only [Act.put, List.setIfInBounds_toArray, List.set_cons_zero, List.set_cons_succ]
  refine wpHold_take (i := 3) (v := _) (grown_drew _ _) rfl rfl (by kernel_rfl) (by kernel_rfl) (by kernel_rfl) (by kernel_rfl) (by kernel_rfl) (fun _ _ _ h => h) (by rfl) (fun wk hk => by obtain ⟨k0, k1⟩ := HC.out wk hk; go_simp; try rfl) ?_
  try simp only [Act.put, List.setIfInBounds_toArray, List.set_cons_zero, List.set_cons_succ]
  refine wpHold_take (i := 4) (v := _) (grown_drew _ _) rfl rfl (by kernel_rfl) (by kernel_rfl) (by kernel_rfl) (by kernel_rfl) (by kernel_rfl) (fun _ _ _ h => h) (by rfl) (fun wk hk => by obtain ⟨k0, k1⟩ := HC.out wk hk; go_simp; try rfl) ?_
  try simp only [Act.put, List.setIfInBounds_toArray, List.set_cons_zero, List.set_cons_succ]
  refine wpHold_one (i := 2) rfl (by kernel_rfl) (by rfl) (fun K hK => ?_)
  go_simp
  refine (clone25 _ L _ (Seg.grown HS.out (grown_trans HG.out (grown_drew _ _))) hL).mono ?_
  rintro e w1 ⟨r1, rfl, o1, g1⟩
  have G1 : Hid (w0.grownBy w1 none) := grown_trans (grown_drew _ _) g1
  have S1 : Hid (Own w1 w.heap.size r1 L ∧ w.grownBy w1 none) := ⟨o1.mono HG.out.size, grown_trans HG.out G1.out⟩
  clear o1 g1
  go_wp2_with fail
  refine hK.out _ _ (fun _ => G1.out) ?_
  clear hK K
  try simp only [Act.put, List.setIfInBounds_toArray, List.set_cons_zero, List.set_cons_succ]
  refine wpHold_take (i := 5) (v := _) (G1.out) rfl rfl (by kernel_rfl) (by kernel_rfl) (by kernel_rfl) (by kernel_rfl) (by kernel_rfl) (fun _ _ _ h => h) (by rfl) (fun wk hk => by obtain ⟨k0, k1⟩ := HC.out wk hk; go_simp; try rfl) ?_
  try simp only [Act.put, List.setIfInBounds_toArray, List.set_cons_zero, List.set_cons_succ]
  refine wpHold_take (i := 6) (v := _) (G1.out) rfl rfl (by kernel_rfl) (by kernel_rfl) (by kernel_rfl) (by kernel_rfl) (by kernel_rfl) (fun _ _ _ h => h) (by rfl) (fun wk hk => by obtain ⟨k0, k1⟩ := HC.out wk hk; go_simp; try rfl) ?_
  try simp only [Act.put, List.setIfInBounds_toArray, List.set_cons_zero, List.set_cons_succ]
  refine wpHold_done (by kernel_rfl) ?_
  refine (‹∀ (a : Act) (w : World), Code.wp Try.prog Code.ret _ a w → _› _ _ ?_)
  go_wp2_with fail
  go_ret2
  exact ⟨_, rfl, S1.out⟩

set_option maxHeartbeats 400000 in
theorem two16_gone (v : Value) (w : World) (h : Gone w v) : Calls Try.prog 16 #[v] w fun e w' => e = .returned (.tuple #[.slice none 0 0, .bool false]) ∧ w' = w := by
  have H : Hid _ := h
  clear h
  go_enter Try.func16, Try.ntmps16
  go_wp2_with fail
  refine (there43_gone _ _ H.out).mono ?_
  rintro e w1 ⟨rfl, he⟩; subst he
  go_wp2_with fail
  go_ret2
  exact ⟨rfl, rfl⟩

set_option maxHeartbeats 400000 in
theorem two29_gone (v : Value) (w : World) (h : Gone w v) : Calls Try.prog 29 #[v] w fun e w' => e = .returned (.tuple #[.slice none 0 0, .bool false]) ∧ w' = w := by
  have H : Hid _ := h
  clear h
  go_enter Try.func29, Try.ntmps29
  go_wp2_with fail
  refine (there43_gone _ _ H.out).mono ?_
  rintro e w1 ⟨rfl, he⟩; subst he
  go_wp2_with fail
  go_ret2
  exact ⟨rfl, rfl⟩

set_option maxHeartbeats 400000 in
theorem log13_gone (v : Value) (w : World) (h : Gone w v) : Calls Try.prog 13 #[v] w fun e w' => e = .returned (.slice none 0 0) ∧ w' = w := by
  have H : Hid _ := h
  clear h
  go_enter Try.func13, Try.ntmps13
  go_wp2_with fail
  refine (there43_gone _ _ H.out).mono ?_
  rintro e w1 ⟨rfl, he⟩; subst he
  go_wp2_with fail
  go_ret
  exact ⟨rfl, rfl⟩

/-- How a disk stands. -/
structure St where
  cap : Nat
  log : List UInt8
  sure : Nat
  h0 : Bool
  b0 : List UInt8
  h1 : Bool
  b1 : List UInt8
  last : Nat
  steps : Nat

/-- What always holds. -/
structure St.Ok (S : St) : Prop where
  cap1 : 1 ≤ S.cap
  cap2 : S.cap ≤ 1048576
  log : S.log.length ≤ 140737488351232
  sure : S.sure ≤ S.log.length
  l0 : S.b0.length ≤ 140737488351232
  l1 : S.b1.length ≤ 140737488351232
  last : S.last ≤ 1
  first : S.last = 0 → S.h0 = true
  e0 : S.h0 = false → S.b0 = []
  e1 : S.h1 = false → S.b1 = []

def dC (S : St) (lv v0 v1 : Value) : Array Value := #[.int .i64 S.cap, lv, .int .i64 S.sure, .bool S.h0, v0, .bool S.h1, v1, .int .i64 S.last, .int .i64 S.steps]

/-- A row of the call's own, in F. -/
def In (F : Nat → Prop) (v : Value) : Prop := ∀ k, v.ownBlock = some k → F k

/-- The program's disk v lies in the blocks F, and stands as S. -/
structure DKb (w : World) (F : Nat → Prop) (b : Nat) (lv v0 v1 : Value) (S : St) : Prop where
  blk : Blk w b 54 (dC S lv v0 v1)
  log : Own w 0 lv S.log
  p0 : Own w 0 v0 S.b0
  p1 : Own w 0 v1 S.b1
  a0 : ∀ k, lv.ownBlock = some k → v0.ownBlock ≠ some k
  a1 : ∀ k, lv.ownBlock = some k → v1.ownBlock ≠ some k
  inb : F b
  inl : In F lv
  in0 : In F v0
  in1 : In F v1
  lt : ∀ k, F k → k < w.heap.size
  ok : S.Ok

def DK (w : World) (F : Nat → Prop) (v : Value) (S : St) : Prop := ∃ b lv v0 v1, v = .pointer (some ⟨b, 0, none⟩) ∧ DKb w F b lv v0 v1 S

theorem DKb.same {w w' : World} {F : Nat → Prop} {b : Nat} {lv v0 v1 : Value} {S : St} (h : DKb w F b lv v0 v1 S) (hz : w.heap.size ≤ w'.heap.size) (hs : ∀ k, F k → w'.heap[k]? = w.heap[k]?) : DKb w' F b lv v0 v1 S :=
  ⟨h.blk.same (hs b h.inb), h.log.same fun k hk => hs k (h.inl k hk), h.p0.same fun k hk => hs k (h.in0 k hk), h.p1.same fun k hk => hs k (h.in1 k hk), h.a0, h.a1, h.inb, h.inl, h.in0, h.in1, fun k hk => Nat.lt_of_lt_of_le (h.lt k hk) hz, h.ok⟩
theorem DKb.grown {w w' : World} {F : Nat → Prop} {b : Nat} {lv v0 v1 : Value} {S : St} (h : DKb w F b lv v0 v1 S) (hg : w.grownBy w' none) : DKb w' F b lv v0 v1 S := h.same hg.size (grown_same hg h.lt)
theorem DK.same {w w' : World} {F : Nat → Prop} {v : Value} {S : St} (h : DK w F v S) (hz : w.heap.size ≤ w'.heap.size) (hs : ∀ k, F k → w'.heap[k]? = w.heap[k]?) : DK w' F v S := by
  obtain ⟨b, lv, v0, v1, rfl, h⟩ := h
  exact ⟨b, lv, v0, v1, rfl, h.same hz hs⟩
theorem DK.lt {w : World} {F : Nat → Prop} {v : Value} {S : St} (h : DK w F v S) : ∀ k, F k → k < w.heap.size := by
  obtain ⟨b, lv, v0, v1, rfl, h⟩ := h
  exact h.lt
theorem DK.ok {w : World} {F : Nat → Prop} {v : Value} {S : St} (h : DK w F v S) : S.Ok := by
  obtain ⟨b, lv, v0, v1, rfl, h⟩ := h
  exact h.ok
theorem DK.grown {w w' : World} {F : Nat → Prop} {v : Value} {S : St} (h : DK w F v S) (hg : w.grownBy w' none) : DK w' F v S := h.same hg.size (grown_same hg h.lt)
theorem DK.far {w w' : World} {F G : Nat → Prop} {v : Value} {S : St} (h : DK w F v S) (hf : Fr w w' G) (hd : ∀ k, F k → ¬ G k) : DK w' F v S := h.same hf.size (hf.same h.lt hd)

theorem DKb.cells {w : World} {F : Nat → Prop} {b : Nat} {lv v0 v1 : Value} {S : St} (h : DKb w F b lv v0 v1 S) :
    w.cell? ⟨b, 0, none⟩ = some (.int .i64 S.cap) ∧ w.cell? ⟨b, 1, none⟩ = some lv ∧ w.cell? ⟨b, 2, none⟩ = some (.int .i64 S.sure) ∧ w.cell? ⟨b, 3, none⟩ = some (.bool S.h0) ∧ w.cell? ⟨b, 4, none⟩ = some v0 ∧
    w.cell? ⟨b, 5, none⟩ = some (.bool S.h1) ∧ w.cell? ⟨b, 6, none⟩ = some v1 ∧ w.cell? ⟨b, 7, none⟩ = some (.int .i64 S.last) ∧ w.cell? ⟨b, 8, none⟩ = some (.int .i64 S.steps) :=
  ⟨h.blk.cell 0, h.blk.cell 1, h.blk.cell 2, h.blk.cell 3, h.blk.cell 4, h.blk.cell 5, h.blk.cell 6, h.blk.cell 7, h.blk.cell 8⟩

/-- The snapshot that is the last one, and whether there is one. -/
def St.snap (S : St) : List UInt8 × Bool := if S.last = 0 then (S.b0, S.h0) else (S.b1, S.h1)
def St.spare (S : St) : List UInt8 × Bool := if S.last = 0 then (S.b1, S.h1) else (S.b0, S.h0)

set_option maxHeartbeats 400000 in
theorem snapshot16 (F : Nat → Prop) (v : Value) (S : St) (w : World) (h : DK w F v S) : Calls Try.prog 16 #[v] w fun e w' => ∃ u, e = .returned (.tuple #[u, .bool S.snap.2]) ∧ Own w' w.heap.size u S.snap.1 ∧ w.grownBy w' none := by
  obtain ⟨b, lv, v0, v1, rfl, h⟩ := h
  obtain ⟨c0, c1, c2, c3, c4, c5, c6, c7, c8⟩ := h.cells
  have H : Hid (DKb w F b lv v0 v1 S) := h
  have hl := h.ok.last
  clear h
  by_cases e : S.last = 0
  · rw [e] at c7
    have es : S.snap = (S.b0, S.h0) := by unfold St.snap; rw [if_pos e]
    rw [es]
    go_enter Try.func16, Try.ntmps16
    go_wp2_with fail
    refine (there43 _ _ _ c0 H.out.ok.cap1).mono ?_
    rintro e w1 ⟨rfl, he⟩; subst he
    go_wp2_with fail
    refine (at45_0 b S.h0 v0 S.b0 _ c3 c4 H.out.p0.seg (by have := H.out.ok.l0; omega)).mono ?_
    rintro e w2 ⟨u, rfl, o, g⟩
    have F2 : Hid _ := And.intro o g
    clear o g
    go_wp2_with fail
    go_ret2
    exact ⟨_, rfl, F2.out⟩
  · have e1 : S.last = 1 := by omega
    rw [e1] at c7
    have es : S.snap = (S.b1, S.h1) := by unfold St.snap; rw [if_neg e]
    rw [es]
    go_enter Try.func16, Try.ntmps16
    go_wp2_with fail
    refine (there43 _ _ _ c0 H.out.ok.cap1).mono ?_
    rintro e w1 ⟨rfl, he⟩; subst he
    go_wp2_with fail
    refine (at45_1 b S.h1 v1 S.b1 _ c5 c6 H.out.p1.seg (by have := H.out.ok.l1; omega)).mono ?_
    rintro e w2 ⟨u, rfl, o, g⟩
    have F2 : Hid _ := And.intro o g
    clear o g
    go_wp2_with fail
    go_ret2
    exact ⟨_, rfl, F2.out⟩

set_option maxHeartbeats 400000 in
theorem spare29 (F : Nat → Prop) (v : Value) (S : St) (w : World) (h : DK w F v S) : Calls Try.prog 29 #[v] w fun e w' => ∃ u, e = .returned (.tuple #[u, .bool S.spare.2]) ∧ Own w' w.heap.size u S.spare.1 ∧ w.grownBy w' none := by
  obtain ⟨b, lv, v0, v1, rfl, h⟩ := h
  obtain ⟨c0, c1, c2, c3, c4, c5, c6, c7, c8⟩ := h.cells
  have H : Hid (DKb w F b lv v0 v1 S) := h
  have hl := h.ok.last
  clear h
  by_cases e : S.last = 0
  · rw [e] at c7
    have es : S.spare = (S.b1, S.h1) := by unfold St.spare; rw [if_pos e]
    rw [es]
    go_enter Try.func29, Try.ntmps29
    go_wp2_with fail
    refine (there43 _ _ _ c0 H.out.ok.cap1).mono ?_
    rintro e w1 ⟨rfl, he⟩; subst he
    go_wp2_with fail
    refine (spare47 b 0 _ c7 (by omega)).mono ?_
    rintro e w1 ⟨rfl, he⟩; subst he
    go_wp2_with fail
    refine (at45_1 b S.h1 v1 S.b1 _ c5 c6 H.out.p1.seg (by have := H.out.ok.l1; omega)).mono ?_
    rintro e w2 ⟨u, rfl, o, g⟩
    have F2 : Hid _ := And.intro o g
    clear o g
    go_wp2_with fail
    go_ret2
    exact ⟨_, rfl, F2.out⟩
  · have e1 : S.last = 1 := by omega
    rw [e1] at c7
    have es : S.spare = (S.b0, S.h0) := by unfold St.spare; rw [if_neg e]
    rw [es]
    go_enter Try.func29, Try.ntmps29
    go_wp2_with fail
    refine (there43 _ _ _ c0 H.out.ok.cap1).mono ?_
    rintro e w1 ⟨rfl, he⟩; subst he
    go_wp2_with fail
    refine (spare47 b 1 _ c7 (by omega)).mono ?_
    rintro e w1 ⟨rfl, he⟩; subst he
    go_wp2_with fail
    refine (at45_0 b S.h0 v0 S.b0 _ c3 c4 H.out.p0.seg (by have := H.out.ok.l0; omega)).mono ?_
    rintro e w2 ⟨u, rfl, o, g⟩
    have F2 : Hid _ := And.intro o g
    clear o g
    go_wp2_with fail
    go_ret2
    exact ⟨_, rfl, F2.out⟩

set_option maxHeartbeats 400000 in
theorem log13 (F : Nat → Prop) (v : Value) (S : St) (w : World) (h : DK w F v S) : Calls Try.prog 13 #[v] w fun e w' => ∃ u, e = .returned u ∧ Own w' w.heap.size u S.log ∧ w.grownBy w' none := by
  obtain ⟨b, lv, v0, v1, rfl, h⟩ := h
  obtain ⟨c0, c1, c2, c3, c4, c5, c6, c7, c8⟩ := h.cells
  have H : Hid (DKb w F b lv v0 v1 S) := h
  clear h
  go_enter Try.func13, Try.ntmps13
  go_wp2_with fail
  refine (there43 _ _ _ c0 H.out.ok.cap1).mono ?_
  rintro e w1 ⟨rfl, he⟩; subst he
  go_wp2_with fail
  refine (clone25 _ S.log _ H.out.log.seg (by have := H.out.ok.log; omega)).mono ?_
  rintro e w2 ⟨u, rfl, o, g⟩
  have F2 : Hid _ := And.intro o g
  clear o g
  go_wp2_with fail
  go_ret
  exact ⟨_, rfl, F2.out⟩

theorem sureD (F : Nat → Prop) (v : Value) (S : St) (w : World) (h : DK w F v S) : Calls Try.prog 15 #[v] w fun e w' => e = .returned (.int .i64 S.sure) ∧ w' = w := by
  obtain ⟨b, lv, v0, v1, rfl, h⟩ := h
  obtain ⟨c0, c1, c2, c3, c4, c5, c6, c7, c8⟩ := h.cells
  exact sure15 b _ _ w c0 h.ok.cap1 c2
theorem stepsD (F : Nat → Prop) (v : Value) (S : St) (w : World) (h : DK w F v S) : Calls Try.prog 32 #[v] w fun e w' => e = .returned (.int .i64 S.steps) ∧ w' = w := by
  obtain ⟨b, lv, v0, v1, rfl, h⟩ := h
  obtain ⟨c0, c1, c2, c3, c4, c5, c6, c7, c8⟩ := h.cells
  exact steps32 b _ _ w c0 h.ok.cap1 c8
theorem roomD (F : Nat → Prop) (v : Value) (S : St) (w : World) (h : DK w F v S) : Calls Try.prog 31 #[v] w fun e w' => e = .returned (.int .i64 ((S.cap - S.log.length : Nat) : Int)) ∧ w.grownBy w' none ∧ w'.heap = w.heap := by
  obtain ⟨b, lv, v0, v1, rfl, h⟩ := h
  obtain ⟨c0, c1, c2, c3, c4, c5, c6, c7, c8⟩ := h.cells
  obtain ⟨ao, cap, hsv⟩ := h.log.seg.shape
  subst hsv
  exact room31 b _ _ cap ao w c0 h.ok.cap1 c1 h.ok.cap2 (by have := h.ok.log; omega)
end Go.Proofs.Ytegacmcekladfaa
