/-
  The face: what is given up within is an error.
-/
import Derived.Test.YtgjcpjckaopeeaaGreatDoorCdAll
namespace Go.Proofs.YtgjcpjckaopeeaaGreatDoor.Calls
open Go.RowKit Disk
open Names (Str)

theorem assert30 (c : Int) (w : World) : (Instr.typeAssert (.iface 33 (.int .i64 c)) 20 33 false).run Tryz.prog w = .ok (.int .i64 c) w := by kernel_rfl

/-- What is done within the face: it is told, or given up. -/
def Within (w : World) (R : Value → World → Prop) (T : Int → World → Prop) (e : Ending) (w' : World) : Prop := (∃ u, e = .returned u ∧ R u w' ∧ w.grownBy w' none) ∨ (∃ c, e = Pan c ∧ T c w' ∧ w.grownBy w' none)
/-- A later world, in which one block of an error alone has changed. -/
def Later (b : Nat) (w w' : World) : Prop := ∃ x, Blk w b 33 #[x] ∧ w.grownBy w' (some b)
def FacePost (z : Value) (w : World) (R : Value → World → Prop) (T : Int → World → Prop) (e : Ending) (w' : World) : Prop := ((∃ u w1, e = .returned (.tuple #[u, .int .i64 0]) ∧ R u w1 ∧ Later w.heap.size w1 w') ∨ (∃ c w1, e = .returned (.tuple #[z, .int .i64 c]) ∧ T c w1 ∧ Later w.heap.size w1 w')) ∧ w.grownBy w' none
theorem later_set {w : World} {b : Nat} {x v : Value} (h : Blk w b 33 #[x]) : Later b w (w.setCell ⟨b, 0, none⟩ v) := ⟨x, h, grown_setCell _ _ _ _⟩
theorem catch102_panicking (p : Addr) (x c : Int) (w : World) (hc : w.cell? p = some (.int .i64 x)) (hz : w.frozen? p = false) :
    CallsD Tryz.prog 140 #[.pointer (some p)] (.panicking [{ v := .iface 33 (.int .i64 c), recovered := false }]) w fun e u' w' =>
      e = .returned (.tuple #[]) ∧ u' = .panicking [{ v := .iface 33 (.int .i64 c), recovered := true }] ∧ w' = w.setCell p (.int .i64 c) := by
  refine callsD_of_wpS Tryz.func140 rfl fun c₀ cs hu => ?_
  apply wpS_seq
  apply wpS_region
  simp [wpOpsS, go_sem, recoverD, hu, Tryz.ntmps140, Exit.thenS]
  apply wpS_seq
  apply wpS_region
  simp [wpOpsS, go_sem, recoverD, Exit.thenS]
  refine wpS_cond (t := true) (by simp [Act.eval, Array.replicate]) ?_
  simp only [if_true]
  apply wpS_region
  simp [wpOpsS, go_sem, hc, hz, bodyPostS, results, Tryz.results140, assert30]

theorem catch102_idle (p : Addr) (w : World) :
    CallsD Tryz.prog 140 #[.pointer (some p)] .returning w fun e u' w' => e = .returned (.tuple #[]) ∧ u' = .returning ∧ w' = w := by
  refine callsD_of_wpS Tryz.func140 rfl fun c₀ cs hu => ?_
  apply wpS_seq
  apply wpS_region
  simp [wpOpsS, go_sem, recoverD, hu, Tryz.ntmps140, Exit.thenS]
  apply wpS_seq
  apply wpS_region
  simp [wpOpsS, go_sem, recoverD, hu, Exit.thenS]
  refine wpS_cond (t := false) (by simp [Act.eval, Array.replicate]) ?_
  simp only [Bool.false_eq_true, if_false]
  refine wpS_of_wp (wp_skip ?_)
  cases c₀
  simp_all [bodyPostS, results, Tryz.results140]

theorem catch91_panicking (p : Addr) (x c : Int) (w : World) (hc : w.cell? p = some (.int .i64 x)) (hz : w.frozen? p = false) :
    CallsD Tryz.prog 163 #[.pointer (some p)] (.panicking [{ v := .iface 33 (.int .i64 c), recovered := false }]) w fun e u' w' =>
      e = .returned (.tuple #[]) ∧ u' = .panicking [{ v := .iface 33 (.int .i64 c), recovered := true }] ∧ w' = w.setCell p (.int .i64 c) := by
  refine callsD_of_wpS Tryz.func163 rfl fun c₀ cs hu => ?_
  apply wpS_seq
  apply wpS_region
  simp [wpOpsS, go_sem, recoverD, hu, Tryz.ntmps163, Exit.thenS]
  apply wpS_seq
  apply wpS_region
  simp [wpOpsS, go_sem, recoverD, Exit.thenS]
  refine wpS_cond (t := true) (by simp [Act.eval, Array.replicate]) ?_
  simp only [if_true]
  apply wpS_region
  simp [wpOpsS, go_sem, hc, hz, bodyPostS, results, Tryz.results163, assert30]

theorem catch91_idle (p : Addr) (w : World) :
    CallsD Tryz.prog 163 #[.pointer (some p)] .returning w fun e u' w' => e = .returned (.tuple #[]) ∧ u' = .returning ∧ w' = w := by
  refine callsD_of_wpS Tryz.func163 rfl fun c₀ cs hu => ?_
  apply wpS_seq
  apply wpS_region
  simp [wpOpsS, go_sem, recoverD, hu, Tryz.ntmps163, Exit.thenS]
  apply wpS_seq
  apply wpS_region
  simp [wpOpsS, go_sem, recoverD, hu, Exit.thenS]
  refine wpS_cond (t := false) (by simp [Act.eval, Array.replicate]) ?_
  simp only [Bool.false_eq_true, if_false]
  refine wpS_of_wp (wp_skip ?_)
  cases c₀
  simp_all [bodyPostS, results, Tryz.results163]

set_option maxRecDepth 100000 in
set_option maxHeartbeats 2000000 in
theorem face57_74 (p0 : Value) (w : World) (R : Value → World → Prop) (T : Int → World → Prop)
    (h : Calls Tryz.prog 97 #[p0] (w.alloc (.cells #[.int .i64 0] 33)) (Within (w.alloc (.cells #[.int .i64 0] 33)) R T)) :
    Calls Tryz.prog 96 #[.func (.func 97) #[] #[p0]] w (FacePost (.slice none 0 0) w R T) := by
  have hmf : ∀ (fn : Fn) (first cap : Array Value) (w : World), (Instr.makeFunc fn first cap).run Tryz.prog w = .ok (.func fn first cap) w := fun _ _ _ _ => rfl
  go_enter_defers Tryz.func96, Tryz.ntmps96
  go_wp2_with (go_at_call 97; refine h.mono ?_)
  rintro e w1 (⟨u, rfl, hR, hg⟩ | ⟨c, rfl, hT, hg⟩)
  · have hb : Blk w1 w.heap.size 33 #[.int .i64 0] := Blk.grown (heap_alloc_new w _) hg (by simp)
    have hc := hb.cell 0
    have hz := hb.free 0
    have HG : Hid (w.grownBy w1 none) := grown_trans (World.grownBy_alloc _ _ none) hg
    clear hg
    go_wp2_with fail
    refine leaves_cons (f := 140) (args := #[.pointer (some ⟨w.heap.size, 0, none⟩)]) (by simp) (by simp [go_sem]) ?_
    refine (catch102_idle ⟨w.heap.size, 0, none⟩ _).mono ?_
    rintro e u' w'' ⟨rfl, rfl, rfl⟩
    have hb2 := (hb.store 0 (.int .i64 0)).cell 0
    simp [Leaves, settle, results, Tryz.results96, go_sem, hb2]
    exact ⟨.inl ⟨u, w1, rfl, hR, later_set hb⟩, grown_new HG.out (grown_setCell _ _ _ _) (by simp)⟩
  · have hb : Blk w1 w.heap.size 33 #[.int .i64 0] := Blk.grown (heap_alloc_new w _) hg (by simp)
    have hc := hb.cell 0
    have hz := hb.free 0
    have HG : Hid (w.grownBy w1 none) := grown_trans (World.grownBy_alloc _ _ none) hg
    clear hg
    unfold Pan
    go_wp2_with fail
    refine leaves_cons (f := 140) (args := #[.pointer (some ⟨w.heap.size, 0, none⟩)]) (by simp) (by simp [go_sem]) ?_
    refine (catch102_panicking ⟨w.heap.size, 0, none⟩ 0 c _ hc hz).mono ?_
    rintro e u' w'' ⟨rfl, rfl, rfl⟩
    have hb2 := (hb.store 0 (.int .i64 c)).cell 0
    simp [Leaves, settle, results, Tryz.results96, go_sem, hb2]
    exact ⟨.inr ⟨c, w1, rfl, hT, later_set hb⟩, grown_new HG.out (grown_setCell _ _ _ _) (by simp)⟩

def FacePostS (z : Value) (w : World) (R : Value → World → Prop) (T : Int → World → Prop) (e : Ending) (w' : World) : Prop := ((∃ u, e = .returned (.tuple #[u, .int .i64 0]) ∧ R u w') ∨ (∃ c w1, e = .returned (.tuple #[z, .int .i64 c]) ∧ T c w1)) ∧ w.grownBy w' none

set_option maxRecDepth 100000 in
set_option maxHeartbeats 4000000 in
theorem face51_52 (p0 : Value) (w : World) (R : Value → World → Prop) (T : Int → World → Prop) (hsh : ∀ u w1, R u w1 → ∃ ao n c, u = .agg #[.slice ao n c])
    (hsk : ∀ u w1 w2 b t c, R u w1 → Blk w1 b t c → (t = 33 ∨ t = 25) → w1.grownBy w2 (some b) → R u w2)
    (h : Calls Tryz.prog 127 #[p0] ((w.alloc (.cells #[.slice none 0 0] 25)).alloc (.cells #[.int .i64 0] 33)) (Within ((w.alloc (.cells #[.slice none 0 0] 25)).alloc (.cells #[.int .i64 0] 33)) R T)) :
    Calls Tryz.prog 126 #[.func (.func 127) #[] #[p0]] w (FacePostS (.agg #[.slice none 0 0]) w R T) := by
  have hmf : ∀ (fn : Fn) (first cap : Array Value) (w : World), (Instr.makeFunc fn first cap).run Tryz.prog w = .ok (.func fn first cap) w := fun _ _ _ _ => rfl
  go_enter_defers Tryz.func126, Tryz.ntmps126
  go_wp2_with (go_at_call 127; refine h.mono ?_)
  rintro e w1 (⟨u, rfl, hR, hg⟩ | ⟨c, rfl, hT, hg⟩)
  · have ha : Blk w1 w.heap.size 25 #[.slice none 0 0] := Blk.grown (Blk.grown (heap_alloc_new w _) (World.grownBy_alloc _ _ none) (by simp)) hg (by simp)
    have hb : Blk w1 (w.heap.size + 1) 33 #[.int .i64 0] := by
      have := Blk.grown (heap_alloc_new (w.alloc (.cells #[.slice none 0 0] 25)) (.cells #[.int .i64 0] 33)) hg (by simp)
      simpa using this
    have HG : Hid (w.grownBy w1 none) := grown_trans (grown_trans (World.grownBy_alloc _ _ none) (World.grownBy_alloc _ _ none)) hg
    clear hg
    have HR : Hid (R u w1) := hR
    obtain ⟨x0, x1, x2, rfl⟩ := hsh u w1 hR
    clear hR
    have c0 := ha.cell 0
    have z0 := ha.free 0
    have d1 := hb.cell 0
    have y1 := hb.free 0
    go_wp2_with fail
    refine leaves_cons (f := 163) (args := #[.pointer (some ⟨w.heap.size + 1, 0, none⟩)]) (by simp) (by simp [go_sem]) ?_
    refine (catch91_idle ⟨w.heap.size + 1, 0, none⟩ _).mono ?_
    rintro e u' w'' ⟨rfl, rfl, rfl⟩
    clear d1 y1 c0 z0
    have ha1 := ha.store 0 (.slice x0 x1 x2)
    have hga : w1.grownBy (w1.setCell ⟨w.heap.size, 0, none⟩ (.slice x0 x1 x2)) (some w.heap.size) := grown_setCell _ _ _ _
    have hb1 : Blk (w1.setCell ⟨w.heap.size, 0, none⟩ (.slice x0 x1 x2)) (w.heap.size + 1) 33 #[.int .i64 0] := hb.grown hga (by simp)
    have hb2 := (hb1.store 0 (.int .i64 0)).cell 0
    have ha9 := Blk.grown ha1 (grown_setCell _ (w.heap.size + 1) 0 (.int .i64 0)) (by simp)
    have hc0 := ha9.cell 0
    simp [Leaves, settle, results, Tryz.results126, go_sem, hb2, hc0]
    refine ⟨.inl ⟨_, rfl, hsk _ _ _ _ _ _ (hsk _ _ _ _ _ _ HR.out ha (.inr rfl) hga) hb1 (.inl rfl) (grown_setCell _ _ _ _)⟩, ?_⟩
    exact grown_new (grown_new HG.out hga (by simp)) (grown_setCell _ _ _ _) (by simp)
  · have ha : Blk w1 w.heap.size 25 #[.slice none 0 0] := Blk.grown (Blk.grown (heap_alloc_new w _) (World.grownBy_alloc _ _ none) (by simp)) hg (by simp)
    have hb : Blk w1 (w.heap.size + 1) 33 #[.int .i64 0] := by
      have := Blk.grown (heap_alloc_new (w.alloc (.cells #[.slice none 0 0] 25)) (.cells #[.int .i64 0] 33)) hg (by simp)
      simpa using this
    have HG : Hid (w.grownBy w1 none) := grown_trans (grown_trans (World.grownBy_alloc _ _ none) (World.grownBy_alloc _ _ none)) hg
    clear hg
    have hc := hb.cell 0
    have hz := hb.free 0
    unfold Pan
    go_wp2_with fail
    refine leaves_cons (f := 163) (args := #[.pointer (some ⟨w.heap.size + 1, 0, none⟩)]) (by simp) (by simp [go_sem]) ?_
    refine (catch91_panicking ⟨w.heap.size + 1, 0, none⟩ 0 c _ hc hz).mono ?_
    rintro e u' w'' ⟨rfl, rfl, rfl⟩
    have hb2 := (hb.store 0 (.int .i64 c)).cell 0
    have hp0 := (ha.grown (grown_setCell _ (w.heap.size + 1) 0 (.int .i64 c)) (by simp)).cell 0
    simp [Leaves, settle, results, Tryz.results126, go_sem, hb2, hp0]
    exact ⟨.inr ⟨c, w1, rfl, hT⟩, grown_new HG.out (grown_setCell _ _ _ _) (by simp)⟩

set_option maxRecDepth 100000 in
set_option maxHeartbeats 4000000 in
theorem face51_85 (p0 p1 : Value) (w : World) (R : Value → World → Prop) (T : Int → World → Prop) (hsh : ∀ u w1, R u w1 → ∃ ao n c, u = .agg #[.slice ao n c])
    (hsk : ∀ u w1 w2 b t c, R u w1 → Blk w1 b t c → (t = 33 ∨ t = 25) → w1.grownBy w2 (some b) → R u w2)
    (h : Calls Tryz.prog 155 #[p0, p1] ((w.alloc (.cells #[.slice none 0 0] 25)).alloc (.cells #[.int .i64 0] 33)) (Within ((w.alloc (.cells #[.slice none 0 0] 25)).alloc (.cells #[.int .i64 0] 33)) R T)) :
    Calls Tryz.prog 126 #[.func (.func 155) #[] #[p0, p1]] w (FacePostS (.agg #[.slice none 0 0]) w R T) := by
  have hmf : ∀ (fn : Fn) (first cap : Array Value) (w : World), (Instr.makeFunc fn first cap).run Tryz.prog w = .ok (.func fn first cap) w := fun _ _ _ _ => rfl
  go_enter_defers Tryz.func126, Tryz.ntmps126
  go_wp2_with (go_at_call 155; refine h.mono ?_)
  rintro e w1 (⟨u, rfl, hR, hg⟩ | ⟨c, rfl, hT, hg⟩)
  · have ha : Blk w1 w.heap.size 25 #[.slice none 0 0] := Blk.grown (Blk.grown (heap_alloc_new w _) (World.grownBy_alloc _ _ none) (by simp)) hg (by simp)
    have hb : Blk w1 (w.heap.size + 1) 33 #[.int .i64 0] := by
      have := Blk.grown (heap_alloc_new (w.alloc (.cells #[.slice none 0 0] 25)) (.cells #[.int .i64 0] 33)) hg (by simp)
      simpa using this
    have HG : Hid (w.grownBy w1 none) := grown_trans (grown_trans (World.grownBy_alloc _ _ none) (World.grownBy_alloc _ _ none)) hg
    clear hg
    have HR : Hid (R u w1) := hR
    obtain ⟨x0, x1, x2, rfl⟩ := hsh u w1 hR
    clear hR
    have c0 := ha.cell 0
    have z0 := ha.free 0
    have d1 := hb.cell 0
    have y1 := hb.free 0
    go_wp2_with fail
    refine leaves_cons (f := 163) (args := #[.pointer (some ⟨w.heap.size + 1, 0, none⟩)]) (by simp) (by simp [go_sem]) ?_
    refine (catch91_idle ⟨w.heap.size + 1, 0, none⟩ _).mono ?_
    rintro e u' w'' ⟨rfl, rfl, rfl⟩
    clear d1 y1 c0 z0
    have ha1 := ha.store 0 (.slice x0 x1 x2)
    have hga : w1.grownBy (w1.setCell ⟨w.heap.size, 0, none⟩ (.slice x0 x1 x2)) (some w.heap.size) := grown_setCell _ _ _ _
    have hb1 : Blk (w1.setCell ⟨w.heap.size, 0, none⟩ (.slice x0 x1 x2)) (w.heap.size + 1) 33 #[.int .i64 0] := hb.grown hga (by simp)
    have hb2 := (hb1.store 0 (.int .i64 0)).cell 0
    have ha9 := Blk.grown ha1 (grown_setCell _ (w.heap.size + 1) 0 (.int .i64 0)) (by simp)
    have hc0 := ha9.cell 0
    simp [Leaves, settle, results, Tryz.results126, go_sem, hb2, hc0]
    refine ⟨.inl ⟨_, rfl, hsk _ _ _ _ _ _ (hsk _ _ _ _ _ _ HR.out ha (.inr rfl) hga) hb1 (.inl rfl) (grown_setCell _ _ _ _)⟩, ?_⟩
    exact grown_new (grown_new HG.out hga (by simp)) (grown_setCell _ _ _ _) (by simp)
  · have ha : Blk w1 w.heap.size 25 #[.slice none 0 0] := Blk.grown (Blk.grown (heap_alloc_new w _) (World.grownBy_alloc _ _ none) (by simp)) hg (by simp)
    have hb : Blk w1 (w.heap.size + 1) 33 #[.int .i64 0] := by
      have := Blk.grown (heap_alloc_new (w.alloc (.cells #[.slice none 0 0] 25)) (.cells #[.int .i64 0] 33)) hg (by simp)
      simpa using this
    have HG : Hid (w.grownBy w1 none) := grown_trans (grown_trans (World.grownBy_alloc _ _ none) (World.grownBy_alloc _ _ none)) hg
    clear hg
    have hc := hb.cell 0
    have hz := hb.free 0
    unfold Pan
    go_wp2_with fail
    refine leaves_cons (f := 163) (args := #[.pointer (some ⟨w.heap.size + 1, 0, none⟩)]) (by simp) (by simp [go_sem]) ?_
    refine (catch91_panicking ⟨w.heap.size + 1, 0, none⟩ 0 c _ hc hz).mono ?_
    rintro e u' w'' ⟨rfl, rfl, rfl⟩
    have hb2 := (hb.store 0 (.int .i64 c)).cell 0
    have hp0 := (ha.grown (grown_setCell _ (w.heap.size + 1) 0 (.int .i64 c)) (by simp)).cell 0
    simp [Leaves, settle, results, Tryz.results126, go_sem, hb2, hp0]
    exact ⟨.inr ⟨c, w1, rfl, hT⟩, grown_new HG.out (grown_setCell _ _ _ _) (by simp)⟩

end Go.Proofs.YtgjcpjckaopeeaaGreatDoor.Calls
