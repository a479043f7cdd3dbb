/-
  The face: what is given up within is an error.
-/
import Derived.Test.YtfocmbnhkldnfaaGreatDoorDopAll
namespace Go.Proofs.YtfocmbnhkldnfaaGreatDoor
open Go.RowKit Disk
open Names (Str)

theorem assert30 (c : Int) (w : World) : (Instr.typeAssert (.iface 30 (.int .i64 c)) 20 30 false).run Tryz.prog w = .ok (.int .i64 c) w := by kernel_rfl

/-- What is done within the face: it is told, or given up. -/
def Within (w : World) (R : Value → World → Prop) (T : Int → World → Prop) (e : Ending) (w' : World) : Prop := (∃ u, e = .returned u ∧ R u w' ∧ w.grownBy w' none) ∨ (∃ c, e = Pan c ∧ T c w' ∧ w.grownBy w' none)
/-- A later world, in which one block of an error alone has changed. -/
def Later (b : Nat) (w w' : World) : Prop := ∃ x, Blk w b 30 #[x] ∧ w.grownBy w' (some b)
def FacePost (z : Value) (w : World) (R : Value → World → Prop) (T : Int → World → Prop) (e : Ending) (w' : World) : Prop := ((∃ u w1, e = .returned (.tuple #[u, .int .i64 0]) ∧ R u w1 ∧ Later w.heap.size w1 w') ∨ (∃ c w1, e = .returned (.tuple #[z, .int .i64 c]) ∧ T c w1 ∧ Later w.heap.size w1 w')) ∧ w.grownBy w' none
theorem later_set {w : World} {b : Nat} {x v : Value} (h : Blk w b 30 #[x]) : Later b w (w.setCell ⟨b, 0, none⟩ v) := ⟨x, h, grown_setCell _ _ _ _⟩
theorem catch102_panicking (p : Addr) (x c : Int) (w : World) (hc : w.cell? p = some (.int .i64 x)) (hz : w.frozen? p = false) :
    CallsD Tryz.prog 102 #[.pointer (some p)] (.panicking [{ v := .iface 30 (.int .i64 c), recovered := false }]) w fun e u' w' =>
      e = .returned (.tuple #[]) ∧ u' = .panicking [{ v := .iface 30 (.int .i64 c), recovered := true }] ∧ w' = w.setCell p (.int .i64 c) := by
  refine callsD_of_wpS Tryz.func102 rfl fun c₀ cs hu => ?_
  apply wpS_seq
  apply wpS_region
  simp [wpOpsS, go_sem, recoverD, hu, Tryz.ntmps102, Exit.thenS]
  apply wpS_seq
  apply wpS_region
  simp [wpOpsS, go_sem, recoverD, Exit.thenS]
  refine wpS_cond (t := true) (by simp [Act.eval, Array.replicate]) ?_
  simp only [if_true]
  apply wpS_region
  simp [wpOpsS, go_sem, hc, hz, bodyPostS, results, Tryz.results102, assert30]

theorem catch102_idle (p : Addr) (w : World) :
    CallsD Tryz.prog 102 #[.pointer (some p)] .returning w fun e u' w' => e = .returned (.tuple #[]) ∧ u' = .returning ∧ w' = w := by
  refine callsD_of_wpS Tryz.func102 rfl fun c₀ cs hu => ?_
  apply wpS_seq
  apply wpS_region
  simp [wpOpsS, go_sem, recoverD, hu, Tryz.ntmps102, Exit.thenS]
  apply wpS_seq
  apply wpS_region
  simp [wpOpsS, go_sem, recoverD, hu, Exit.thenS]
  refine wpS_cond (t := false) (by simp [Act.eval, Array.replicate]) ?_
  simp only [Bool.false_eq_true, if_false]
  refine wpS_of_wp (wp_skip ?_)
  cases c₀
  simp_all [bodyPostS, results, Tryz.results102]

theorem catch91_panicking (p : Addr) (x c : Int) (w : World) (hc : w.cell? p = some (.int .i64 x)) (hz : w.frozen? p = false) :
    CallsD Tryz.prog 91 #[.pointer (some p)] (.panicking [{ v := .iface 30 (.int .i64 c), recovered := false }]) w fun e u' w' =>
      e = .returned (.tuple #[]) ∧ u' = .panicking [{ v := .iface 30 (.int .i64 c), recovered := true }] ∧ w' = w.setCell p (.int .i64 c) := by
  refine callsD_of_wpS Tryz.func91 rfl fun c₀ cs hu => ?_
  apply wpS_seq
  apply wpS_region
  simp [wpOpsS, go_sem, recoverD, hu, Tryz.ntmps91, Exit.thenS]
  apply wpS_seq
  apply wpS_region
  simp [wpOpsS, go_sem, recoverD, Exit.thenS]
  refine wpS_cond (t := true) (by simp [Act.eval, Array.replicate]) ?_
  simp only [if_true]
  apply wpS_region
  simp [wpOpsS, go_sem, hc, hz, bodyPostS, results, Tryz.results91, assert30]

theorem catch91_idle (p : Addr) (w : World) :
    CallsD Tryz.prog 91 #[.pointer (some p)] .returning w fun e u' w' => e = .returned (.tuple #[]) ∧ u' = .returning ∧ w' = w := by
  refine callsD_of_wpS Tryz.func91 rfl fun c₀ cs hu => ?_
  apply wpS_seq
  apply wpS_region
  simp [wpOpsS, go_sem, recoverD, hu, Tryz.ntmps91, Exit.thenS]
  apply wpS_seq
  apply wpS_region
  simp [wpOpsS, go_sem, recoverD, hu, Exit.thenS]
  refine wpS_cond (t := false) (by simp [Act.eval, Array.replicate]) ?_
  simp only [Bool.false_eq_true, if_false]
  refine wpS_of_wp (wp_skip ?_)
  cases c₀
  simp_all [bodyPostS, results, Tryz.results91]

theorem catch151_panicking (p : Addr) (x c : Int) (w : World) (hc : w.cell? p = some (.int .i64 x)) (hz : w.frozen? p = false) :
    CallsD Tryz.prog 151 #[.pointer (some p)] (.panicking [{ v := .iface 30 (.int .i64 c), recovered := false }]) w fun e u' w' =>
      e = .returned (.tuple #[]) ∧ u' = .panicking [{ v := .iface 30 (.int .i64 c), recovered := true }] ∧ w' = w.setCell p (.int .i64 c) := by
  refine callsD_of_wpS Tryz.func151 rfl fun c₀ cs hu => ?_
  apply wpS_seq
  apply wpS_region
  simp [wpOpsS, go_sem, recoverD, hu, Tryz.ntmps151, Exit.thenS]
  apply wpS_seq
  apply wpS_region
  simp [wpOpsS, go_sem, recoverD, Exit.thenS]
  refine wpS_cond (t := true) (by simp [Act.eval, Array.replicate]) ?_
  simp only [if_true]
  apply wpS_region
  simp [wpOpsS, go_sem, hc, hz, bodyPostS, results, Tryz.results151, assert30]

theorem catch151_idle (p : Addr) (w : World) :
    CallsD Tryz.prog 151 #[.pointer (some p)] .returning w fun e u' w' => e = .returned (.tuple #[]) ∧ u' = .returning ∧ w' = w := by
  refine callsD_of_wpS Tryz.func151 rfl fun c₀ cs hu => ?_
  apply wpS_seq
  apply wpS_region
  simp [wpOpsS, go_sem, recoverD, hu, Tryz.ntmps151, Exit.thenS]
  apply wpS_seq
  apply wpS_region
  simp [wpOpsS, go_sem, recoverD, hu, Exit.thenS]
  refine wpS_cond (t := false) (by simp [Act.eval, Array.replicate]) ?_
  simp only [Bool.false_eq_true, if_false]
  refine wpS_of_wp (wp_skip ?_)
  cases c₀
  simp_all [bodyPostS, results, Tryz.results151]


set_option maxRecDepth 100000 in
set_option maxHeartbeats 2000000 in
theorem face57_74 (p0 : Value) (w : World) (R : Value → World → Prop) (T : Int → World → Prop)
    (h : Calls Tryz.prog 74 #[p0] (w.alloc (.cells #[.int .i64 0] 30)) (Within (w.alloc (.cells #[.int .i64 0] 30)) R T)) :
    Calls Tryz.prog 57 #[.func (.func 74) #[] #[p0]] w (FacePost (.slice none 0 0) w R T) := by
  have hmf : ∀ (fn : Fn) (first cap : Array Value) (w : World), (Instr.makeFunc fn first cap).run Tryz.prog w = .ok (.func fn first cap) w := fun _ _ _ _ => rfl
  go_enter_defers Tryz.func57, Tryz.ntmps57
  go_wp2_with (go_at_call 74; refine h.mono ?_)
  rintro e w1 (⟨u, rfl, hR, hg⟩ | ⟨c, rfl, hT, hg⟩)
  · have hb : Blk w1 w.heap.size 30 #[.int .i64 0] := Blk.grown (heap_alloc_new w _) hg (by simp)
    have hc := hb.cell 0
    have hz := hb.free 0
    have HG : Hid (w.grownBy w1 none) := grown_trans (World.grownBy_alloc _ _ none) hg
    clear hg
    go_wp2_with fail
    refine leaves_cons (f := 102) (args := #[.pointer (some ⟨w.heap.size, 0, none⟩)]) (by simp) (by simp [go_sem]) ?_
    refine (catch102_idle ⟨w.heap.size, 0, none⟩ _).mono ?_
    rintro e u' w'' ⟨rfl, rfl, rfl⟩
    have hb2 := (hb.store 0 (.int .i64 0)).cell 0
    simp [Leaves, settle, results, Tryz.results57, go_sem, hb2]
    exact ⟨.inl ⟨u, w1, rfl, hR, later_set hb⟩, grown_new HG.out (grown_setCell _ _ _ _) (by simp)⟩
  · have hb : Blk w1 w.heap.size 30 #[.int .i64 0] := Blk.grown (heap_alloc_new w _) hg (by simp)
    have hc := hb.cell 0
    have hz := hb.free 0
    have HG : Hid (w.grownBy w1 none) := grown_trans (World.grownBy_alloc _ _ none) hg
    clear hg
    unfold Pan
    go_wp2_with fail
    refine leaves_cons (f := 102) (args := #[.pointer (some ⟨w.heap.size, 0, none⟩)]) (by simp) (by simp [go_sem]) ?_
    refine (catch102_panicking ⟨w.heap.size, 0, none⟩ 0 c _ hc hz).mono ?_
    rintro e u' w'' ⟨rfl, rfl, rfl⟩
    have hb2 := (hb.store 0 (.int .i64 c)).cell 0
    simp [Leaves, settle, results, Tryz.results57, go_sem, hb2]
    exact ⟨.inr ⟨c, w1, rfl, hT, later_set hb⟩, grown_new HG.out (grown_setCell _ _ _ _) (by simp)⟩

set_option maxRecDepth 100000 in
set_option maxHeartbeats 2000000 in
theorem face57_58 (p0 : Value) (w : World) (R : Value → World → Prop) (T : Int → World → Prop)
    (h : Calls Tryz.prog 58 #[p0] (w.alloc (.cells #[.int .i64 0] 30)) (Within (w.alloc (.cells #[.int .i64 0] 30)) R T)) :
    Calls Tryz.prog 57 #[.func (.func 58) #[] #[p0]] w (FacePost (.slice none 0 0) w R T) := by
  have hmf : ∀ (fn : Fn) (first cap : Array Value) (w : World), (Instr.makeFunc fn first cap).run Tryz.prog w = .ok (.func fn first cap) w := fun _ _ _ _ => rfl
  go_enter_defers Tryz.func57, Tryz.ntmps57
  go_wp2_with (go_at_call 58; refine h.mono ?_)
  rintro e w1 (⟨u, rfl, hR, hg⟩ | ⟨c, rfl, hT, hg⟩)
  · have hb : Blk w1 w.heap.size 30 #[.int .i64 0] := Blk.grown (heap_alloc_new w _) hg (by simp)
    have hc := hb.cell 0
    have hz := hb.free 0
    have HG : Hid (w.grownBy w1 none) := grown_trans (World.grownBy_alloc _ _ none) hg
    clear hg
    go_wp2_with fail
    refine leaves_cons (f := 102) (args := #[.pointer (some ⟨w.heap.size, 0, none⟩)]) (by simp) (by simp [go_sem]) ?_
    refine (catch102_idle ⟨w.heap.size, 0, none⟩ _).mono ?_
    rintro e u' w'' ⟨rfl, rfl, rfl⟩
    have hb2 := (hb.store 0 (.int .i64 0)).cell 0
    simp [Leaves, settle, results, Tryz.results57, go_sem, hb2]
    exact ⟨.inl ⟨u, w1, rfl, hR, later_set hb⟩, grown_new HG.out (grown_setCell _ _ _ _) (by simp)⟩
  · have hb : Blk w1 w.heap.size 30 #[.int .i64 0] := Blk.grown (heap_alloc_new w _) hg (by simp)
    have hc := hb.cell 0
    have hz := hb.free 0
    have HG : Hid (w.grownBy w1 none) := grown_trans (World.grownBy_alloc _ _ none) hg
    clear hg
    unfold Pan
    go_wp2_with fail
    refine leaves_cons (f := 102) (args := #[.pointer (some ⟨w.heap.size, 0, none⟩)]) (by simp) (by simp [go_sem]) ?_
    refine (catch102_panicking ⟨w.heap.size, 0, none⟩ 0 c _ hc hz).mono ?_
    rintro e u' w'' ⟨rfl, rfl, rfl⟩
    have hb2 := (hb.store 0 (.int .i64 c)).cell 0
    simp [Leaves, settle, results, Tryz.results57, go_sem, hb2]
    exact ⟨.inr ⟨c, w1, rfl, hT, later_set hb⟩, grown_new HG.out (grown_setCell _ _ _ _) (by simp)⟩

def FacePostS (z : Value) (w : World) (R : Value → World → Prop) (T : Int → World → Prop) (e : Ending) (w' : World) : Prop := ((∃ u, e = .returned (.tuple #[u, .int .i64 0]) ∧ R u w') ∨ (∃ c w1, e = .returned (.tuple #[z, .int .i64 c]) ∧ T c w1)) ∧ w.grownBy w' none

set_option maxRecDepth 100000 in
set_option maxHeartbeats 4000000 in
theorem face51_52 (p0 : Value) (w : World) (R : Value → World → Prop) (T : Int → World → Prop) (hsh : ∀ u w1, R u w1 → ∃ ao n c, u = .agg #[.slice ao n c])
    (hsk : ∀ u w1 w2 b t c, R u w1 → Blk w1 b t c → (t = 30 ∨ t = 24) → w1.grownBy w2 (some b) → R u w2)
    (h : Calls Tryz.prog 52 #[p0] ((w.alloc (.cells #[.slice none 0 0] 24)).alloc (.cells #[.int .i64 0] 30)) (Within ((w.alloc (.cells #[.slice none 0 0] 24)).alloc (.cells #[.int .i64 0] 30)) R T)) :
    Calls Tryz.prog 51 #[.func (.func 52) #[] #[p0]] w (FacePostS (.agg #[.slice none 0 0]) w R T) := by
  have hmf : ∀ (fn : Fn) (first cap : Array Value) (w : World), (Instr.makeFunc fn first cap).run Tryz.prog w = .ok (.func fn first cap) w := fun _ _ _ _ => rfl
  go_enter_defers Tryz.func51, Tryz.ntmps51
  go_wp2_with (go_at_call 52; refine h.mono ?_)
  rintro e w1 (⟨u, rfl, hR, hg⟩ | ⟨c, rfl, hT, hg⟩)
  · have ha : Blk w1 w.heap.size 24 #[.slice none 0 0] := Blk.grown (Blk.grown (heap_alloc_new w _) (World.grownBy_alloc _ _ none) (by simp)) hg (by simp)
    have hb : Blk w1 (w.heap.size + 1) 30 #[.int .i64 0] := by
      have := Blk.grown (heap_alloc_new (w.alloc (.cells #[.slice none 0 0] 24)) (.cells #[.int .i64 0] 30)) hg (by simp)
      simpa using this
    have HG : Hid (w.grownBy w1 none) := grown_trans (grown_trans (World.grownBy_alloc _ _ none) (World.grownBy_alloc _ _ none)) hg
    clear hg
    have HR : Hid (R u w1) := hR
    obtain ⟨x0, x1, x2, rfl⟩ := hsh u w1 hR
    clear hR
    have c0 := ha.cell 0
    have z0 := ha.free 0
    have d1 := hb.cell 0
    have y1 := hb.free 0
    go_wp2_with fail
    refine leaves_cons (f := 91) (args := #[.pointer (some ⟨w.heap.size + 1, 0, none⟩)]) (by simp) (by simp [go_sem]) ?_
    refine (catch91_idle ⟨w.heap.size + 1, 0, none⟩ _).mono ?_
    rintro e u' w'' ⟨rfl, rfl, rfl⟩
    clear d1 y1 c0 z0
    have ha1 := ha.store 0 (.slice x0 x1 x2)
    have hga : w1.grownBy (w1.setCell ⟨w.heap.size, 0, none⟩ (.slice x0 x1 x2)) (some w.heap.size) := grown_setCell _ _ _ _
    have hb1 : Blk (w1.setCell ⟨w.heap.size, 0, none⟩ (.slice x0 x1 x2)) (w.heap.size + 1) 30 #[.int .i64 0] := hb.grown hga (by simp)
    have hb2 := (hb1.store 0 (.int .i64 0)).cell 0
    have ha9 := Blk.grown ha1 (grown_setCell _ (w.heap.size + 1) 0 (.int .i64 0)) (by simp)
    have hc0 := ha9.cell 0
    simp [Leaves, settle, results, Tryz.results51, go_sem, hb2, hc0]
    refine ⟨.inl ⟨_, rfl, hsk _ _ _ _ _ _ (hsk _ _ _ _ _ _ HR.out ha (.inr rfl) hga) hb1 (.inl rfl) (grown_setCell _ _ _ _)⟩, ?_⟩
    exact grown_new (grown_new HG.out hga (by simp)) (grown_setCell _ _ _ _) (by simp)
  · have ha : Blk w1 w.heap.size 24 #[.slice none 0 0] := Blk.grown (Blk.grown (heap_alloc_new w _) (World.grownBy_alloc _ _ none) (by simp)) hg (by simp)
    have hb : Blk w1 (w.heap.size + 1) 30 #[.int .i64 0] := by
      have := Blk.grown (heap_alloc_new (w.alloc (.cells #[.slice none 0 0] 24)) (.cells #[.int .i64 0] 30)) hg (by simp)
      simpa using this
    have HG : Hid (w.grownBy w1 none) := grown_trans (grown_trans (World.grownBy_alloc _ _ none) (World.grownBy_alloc _ _ none)) hg
    clear hg
    have hc := hb.cell 0
    have hz := hb.free 0
    unfold Pan
    go_wp2_with fail
    refine leaves_cons (f := 91) (args := #[.pointer (some ⟨w.heap.size + 1, 0, none⟩)]) (by simp) (by simp [go_sem]) ?_
    refine (catch91_panicking ⟨w.heap.size + 1, 0, none⟩ 0 c _ hc hz).mono ?_
    rintro e u' w'' ⟨rfl, rfl, rfl⟩
    have hb2 := (hb.store 0 (.int .i64 c)).cell 0
    have hp0 := (ha.grown (grown_setCell _ (w.heap.size + 1) 0 (.int .i64 c)) (by simp)).cell 0
    simp [Leaves, settle, results, Tryz.results51, go_sem, hb2, hp0]
    exact ⟨.inr ⟨c, w1, rfl, hT⟩, grown_new HG.out (grown_setCell _ _ _ _) (by simp)⟩

set_option maxRecDepth 100000 in
set_option maxHeartbeats 4000000 in
theorem face51_85 (p0 p1 : Value) (w : World) (R : Value → World → Prop) (T : Int → World → Prop) (hsh : ∀ u w1, R u w1 → ∃ ao n c, u = .agg #[.slice ao n c])
    (hsk : ∀ u w1 w2 b t c, R u w1 → Blk w1 b t c → (t = 30 ∨ t = 24) → w1.grownBy w2 (some b) → R u w2)
    (h : Calls Tryz.prog 85 #[p0, p1] ((w.alloc (.cells #[.slice none 0 0] 24)).alloc (.cells #[.int .i64 0] 30)) (Within ((w.alloc (.cells #[.slice none 0 0] 24)).alloc (.cells #[.int .i64 0] 30)) R T)) :
    Calls Tryz.prog 51 #[.func (.func 85) #[] #[p0, p1]] w (FacePostS (.agg #[.slice none 0 0]) w R T) := by
  have hmf : ∀ (fn : Fn) (first cap : Array Value) (w : World), (Instr.makeFunc fn first cap).run Tryz.prog w = .ok (.func fn first cap) w := fun _ _ _ _ => rfl
  go_enter_defers Tryz.func51, Tryz.ntmps51
  go_wp2_with (go_at_call 85; refine h.mono ?_)
  rintro e w1 (⟨u, rfl, hR, hg⟩ | ⟨c, rfl, hT, hg⟩)
  · have ha : Blk w1 w.heap.size 24 #[.slice none 0 0] := Blk.grown (Blk.grown (heap_alloc_new w _) (World.grownBy_alloc _ _ none) (by simp)) hg (by simp)
    have hb : Blk w1 (w.heap.size + 1) 30 #[.int .i64 0] := by
      have := Blk.grown (heap_alloc_new (w.alloc (.cells #[.slice none 0 0] 24)) (.cells #[.int .i64 0] 30)) hg (by simp)
      simpa using this
    have HG : Hid (w.grownBy w1 none) := grown_trans (grown_trans (World.grownBy_alloc _ _ none) (World.grownBy_alloc _ _ none)) hg
    clear hg
    have HR : Hid (R u w1) := hR
    obtain ⟨x0, x1, x2, rfl⟩ := hsh u w1 hR
    clear hR
    have c0 := ha.cell 0
    have z0 := ha.free 0
    have d1 := hb.cell 0
    have y1 := hb.free 0
    go_wp2_with fail
    refine leaves_cons (f := 91) (args := #[.pointer (some ⟨w.heap.size + 1, 0, none⟩)]) (by simp) (by simp [go_sem]) ?_
    refine (catch91_idle ⟨w.heap.size + 1, 0, none⟩ _).mono ?_
    rintro e u' w'' ⟨rfl, rfl, rfl⟩
    clear d1 y1 c0 z0
    have ha1 := ha.store 0 (.slice x0 x1 x2)
    have hga : w1.grownBy (w1.setCell ⟨w.heap.size, 0, none⟩ (.slice x0 x1 x2)) (some w.heap.size) := grown_setCell _ _ _ _
    have hb1 : Blk (w1.setCell ⟨w.heap.size, 0, none⟩ (.slice x0 x1 x2)) (w.heap.size + 1) 30 #[.int .i64 0] := hb.grown hga (by simp)
    have hb2 := (hb1.store 0 (.int .i64 0)).cell 0
    have ha9 := Blk.grown ha1 (grown_setCell _ (w.heap.size + 1) 0 (.int .i64 0)) (by simp)
    have hc0 := ha9.cell 0
    simp [Leaves, settle, results, Tryz.results51, go_sem, hb2, hc0]
    refine ⟨.inl ⟨_, rfl, hsk _ _ _ _ _ _ (hsk _ _ _ _ _ _ HR.out ha (.inr rfl) hga) hb1 (.inl rfl) (grown_setCell _ _ _ _)⟩, ?_⟩
    exact grown_new (grown_new HG.out hga (by simp)) (grown_setCell _ _ _ _) (by simp)
  · have ha : Blk w1 w.heap.size 24 #[.slice none 0 0] := Blk.grown (Blk.grown (heap_alloc_new w _) (World.grownBy_alloc _ _ none) (by simp)) hg (by simp)
    have hb : Blk w1 (w.heap.size + 1) 30 #[.int .i64 0] := by
      have := Blk.grown (heap_alloc_new (w.alloc (.cells #[.slice none 0 0] 24)) (.cells #[.int .i64 0] 30)) hg (by simp)
      simpa using this
    have HG : Hid (w.grownBy w1 none) := grown_trans (grown_trans (World.grownBy_alloc _ _ none) (World.grownBy_alloc _ _ none)) hg
    clear hg
    have hc := hb.cell 0
    have hz := hb.free 0
    unfold Pan
    go_wp2_with fail
    refine leaves_cons (f := 91) (args := #[.pointer (some ⟨w.heap.size + 1, 0, none⟩)]) (by simp) (by simp [go_sem]) ?_
    refine (catch91_panicking ⟨w.heap.size + 1, 0, none⟩ 0 c _ hc hz).mono ?_
    rintro e u' w'' ⟨rfl, rfl, rfl⟩
    have hb2 := (hb.store 0 (.int .i64 c)).cell 0
    have hp0 := (ha.grown (grown_setCell _ (w.heap.size + 1) 0 (.int .i64 c)) (by simp)).cell 0
    simp [Leaves, settle, results, Tryz.results51, go_sem, hb2, hp0]
    exact ⟨.inr ⟨c, w1, rfl, hT⟩, grown_new HG.out (grown_setCell _ _ _ _) (by simp)⟩

set_option maxRecDepth 100000 in
set_option maxHeartbeats 4000000 in
theorem face107_108 (p0 p1 : Value) (w : World) (R : Value → World → Prop) (T : Int → World → Prop) (hsh : ∀ u w1, R u w1 → ∃ a b ao n c, u = .agg #[.int .i64 a, .int .i64 b, .slice ao n c])
    (hsk : ∀ u w1 w2 b t c, R u w1 → Blk w1 b t c → (t = 30 ∨ t = 51) → w1.grownBy w2 (some b) → R u w2)
    (h : Calls Tryz.prog 108 #[p0, p1] ((w.alloc (.cells #[.int .i64 0, .int .i64 0, .slice none 0 0] 51)).alloc (.cells #[.int .i64 0] 30)) (Within ((w.alloc (.cells #[.int .i64 0, .int .i64 0, .slice none 0 0] 51)).alloc (.cells #[.int .i64 0] 30)) R T)) :
    Calls Tryz.prog 107 #[.func (.func 108) #[] #[p0, p1]] w (FacePostS (.agg #[.int .i64 0, .int .i64 0, .slice none 0 0]) w R T) := by
  have hmf : ∀ (fn : Fn) (first cap : Array Value) (w : World), (Instr.makeFunc fn first cap).run Tryz.prog w = .ok (.func fn first cap) w := fun _ _ _ _ => rfl
  go_enter_defers Tryz.func107, Tryz.ntmps107
  go_wp2_with (go_at_call 108; refine h.mono ?_)
  rintro e w1 (⟨u, rfl, hR, hg⟩ | ⟨c, rfl, hT, hg⟩)
  · have ha : Blk w1 w.heap.size 51 #[.int .i64 0, .int .i64 0, .slice none 0 0] := Blk.grown (Blk.grown (heap_alloc_new w _) (World.grownBy_alloc _ _ none) (by simp)) hg (by simp)
    have hb : Blk w1 (w.heap.size + 1) 30 #[.int .i64 0] := by
      have := Blk.grown (heap_alloc_new (w.alloc (.cells #[.int .i64 0, .int .i64 0, .slice none 0 0] 51)) (.cells #[.int .i64 0] 30)) hg (by simp)
      simpa using this
    have HG : Hid (w.grownBy w1 none) := grown_trans (grown_trans (World.grownBy_alloc _ _ none) (World.grownBy_alloc _ _ none)) hg
    clear hg
    have HR : Hid (R u w1) := hR
    obtain ⟨x0, x1, x2, x3, x4, rfl⟩ := hsh u w1 hR
    clear hR
    have c0 := ha.cell 0
    have z0 := ha.free 0
    have c1 := ha.cell 1
    have z1 := ha.free 1
    have c2 := ha.cell 2
    have z2 := ha.free 2
    have d1 := hb.cell 0
    have y1 := hb.free 0
    go_wp2_with fail
    refine leaves_cons (f := 151) (args := #[.pointer (some ⟨w.heap.size + 1, 0, none⟩)]) (by simp) (by simp [go_sem]) ?_
    refine (catch151_idle ⟨w.heap.size + 1, 0, none⟩ _).mono ?_
    rintro e u' w'' ⟨rfl, rfl, rfl⟩
    clear d1 y1 c0 z0 c1 z1 c2 z2
    have ha1 := ha.store 0 (.int .i64 x0)
    have ha2 := ha1.store 1 (.int .i64 x1)
    have ha3 := ha2.store 2 (.slice x2 x3 x4)
    have hga : w1.grownBy (((w1.setCell ⟨w.heap.size, 0, none⟩ (.int .i64 x0)).setCell ⟨w.heap.size, 1, none⟩ (.int .i64 x1)).setCell ⟨w.heap.size, 2, none⟩ (.slice x2 x3 x4)) (some w.heap.size) := grown_trans (grown_trans (grown_setCell _ _ _ _) (grown_setCell _ _ _ _)) (grown_setCell _ _ _ _)
    have hb1 : Blk (((w1.setCell ⟨w.heap.size, 0, none⟩ (.int .i64 x0)).setCell ⟨w.heap.size, 1, none⟩ (.int .i64 x1)).setCell ⟨w.heap.size, 2, none⟩ (.slice x2 x3 x4)) (w.heap.size + 1) 30 #[.int .i64 0] := hb.grown hga (by simp)
    have hb2 := (hb1.store 0 (.int .i64 0)).cell 0
    have ha9 := Blk.grown ha3 (grown_setCell _ (w.heap.size + 1) 0 (.int .i64 0)) (by simp)
    have hc0 := ha9.cell 0
    have hc1 := ha9.cell 1
    have hc2 := ha9.cell 2
    simp [Leaves, settle, results, Tryz.results107, go_sem, hb2, hc0, hc1, hc2]
    refine ⟨.inl ⟨_, rfl, hsk _ _ _ _ _ _ (hsk _ _ _ _ _ _ HR.out ha (.inr rfl) hga) hb1 (.inl rfl) (grown_setCell _ _ _ _)⟩, ?_⟩
    exact grown_new (grown_new HG.out hga (by simp)) (grown_setCell _ _ _ _) (by simp)
  · have ha : Blk w1 w.heap.size 51 #[.int .i64 0, .int .i64 0, .slice none 0 0] := Blk.grown (Blk.grown (heap_alloc_new w _) (World.grownBy_alloc _ _ none) (by simp)) hg (by simp)
    have hb : Blk w1 (w.heap.size + 1) 30 #[.int .i64 0] := by
      have := Blk.grown (heap_alloc_new (w.alloc (.cells #[.int .i64 0, .int .i64 0, .slice none 0 0] 51)) (.cells #[.int .i64 0] 30)) hg (by simp)
      simpa using this
    have HG : Hid (w.grownBy w1 none) := grown_trans (grown_trans (World.grownBy_alloc _ _ none) (World.grownBy_alloc _ _ none)) hg
    clear hg
    have hc := hb.cell 0
    have hz := hb.free 0
    unfold Pan
    go_wp2_with fail
    refine leaves_cons (f := 151) (args := #[.pointer (some ⟨w.heap.size + 1, 0, none⟩)]) (by simp) (by simp [go_sem]) ?_
    refine (catch151_panicking ⟨w.heap.size + 1, 0, none⟩ 0 c _ hc hz).mono ?_
    rintro e u' w'' ⟨rfl, rfl, rfl⟩
    have hb2 := (hb.store 0 (.int .i64 c)).cell 0
    have hp0 := (ha.grown (grown_setCell _ (w.heap.size + 1) 0 (.int .i64 c)) (by simp)).cell 0
    have hp1 := (ha.grown (grown_setCell _ (w.heap.size + 1) 0 (.int .i64 c)) (by simp)).cell 1
    have hp2 := (ha.grown (grown_setCell _ (w.heap.size + 1) 0 (.int .i64 c)) (by simp)).cell 2
    simp [Leaves, settle, results, Tryz.results107, go_sem, hb2, hp0, hp1, hp2]
    exact ⟨.inr ⟨c, w1, rfl, hT⟩, grown_new HG.out (grown_setCell _ _ _ _) (by simp)⟩
end Go.Proofs.YtfocmbnhkldnfaaGreatDoor
