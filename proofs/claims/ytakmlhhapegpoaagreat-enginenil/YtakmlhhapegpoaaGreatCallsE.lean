/-
  The face: what is given up within is an error.
-/
import Derived.Test.YtakmlhhapegpoaaGreatCdAll
namespace Go.Proofs.YtakmlhhapegpoaaGreat.Calls
open Go.RowKit Disk
open Names (Str)

theorem assert30 (c : Int) (w : World) : (Instr.typeAssert (.iface 42 (.int .i64 c)) 20 42 false).run Tryz.prog w = .ok (.int .i64 c) w := by kernel_rfl

/-- What is done within the face: it is told, or given up. -/
def Within (w : World) (R : Value → World → Prop) (T : Int → World → Prop) (e : Ending) (w' : World) : Prop := (∃ u, e = .returned u ∧ R u w' ∧ w.grownBy w' none) ∨ (∃ c, e = Pan c ∧ T c w' ∧ w.grownBy w' none)
/-- A later world, in which one block of an error alone has changed. -/
def Later (b : Nat) (w w' : World) : Prop := ∃ x, Blk w b 42 #[x] ∧ w.grownBy w' (some b)
def FacePost (z : Value) (w : World) (R : Value → World → Prop) (T : Int → World → Prop) (e : Ending) (w' : World) : Prop := ((∃ u w1, e = .returned (.tuple #[u, .int .i64 0]) ∧ R u w1 ∧ Later w.heap.size w1 w') ∨ (∃ c w1, e = .returned (.tuple #[z, .int .i64 c]) ∧ T c w1 ∧ Later w.heap.size w1 w')) ∧ w.grownBy w' none
theorem later_set {w : World} {b : Nat} {x v : Value} (h : Blk w b 42 #[x]) : Later b w (w.setCell ⟨b, 0, none⟩ v) := ⟨x, h, grown_setCell _ _ _ _⟩
theorem catch102_panicking (p : Addr) (x c : Int) (w : World) (hc : w.cell? p = some (.int .i64 x)) (hz : w.frozen? p = false) :
    CallsD Tryz.prog 138 #[.pointer (some p)] (.panicking [{ v := .iface 42 (.int .i64 c), recovered := false }]) w fun e u' w' =>
      e = .returned (.tuple #[]) ∧ u' = .panicking [{ v := .iface 42 (.int .i64 c), recovered := true }] ∧ w' = w.setCell p (.int .i64 c) := by
  refine callsD_of_wpS Tryz.func138 rfl fun c₀ cs hu => ?_
  apply wpS_seq
  apply wpS_region
  simp [wpOpsS, go_sem, recoverD, hu, Tryz.ntmps138, Exit.thenS]
  apply wpS_seq
  apply wpS_region
  simp [wpOpsS, go_sem, recoverD, Exit.thenS]
  refine wpS_cond (t := true) (by simp [Act.eval, Array.replicate]) ?_
  simp only [if_true]
  apply wpS_region
  simp [wpOpsS, go_sem, hc, hz, bodyPostS, results, Tryz.results138, assert30]

theorem catch102_idle (p : Addr) (w : World) :
    CallsD Tryz.prog 138 #[.pointer (some p)] .returning w fun e u' w' => e = .returned (.tuple #[]) ∧ u' = .returning ∧ w' = w := by
  refine callsD_of_wpS Tryz.func138 rfl fun c₀ cs hu => ?_
  apply wpS_seq
  apply wpS_region
  simp [wpOpsS, go_sem, recoverD, hu, Tryz.ntmps138, Exit.thenS]
  apply wpS_seq
  apply wpS_region
  simp [wpOpsS, go_sem, recoverD, hu, Exit.thenS]
  refine wpS_cond (t := false) (by simp [Act.eval, Array.replicate]) ?_
  simp only [Bool.false_eq_true, if_false]
  refine wpS_of_wp (wp_skip ?_)
  cases c₀
  simp_all [bodyPostS, results, Tryz.results138]

set_option maxRecDepth 100000 in
set_option maxHeartbeats 2000000 in
theorem face57_74 (p0 : Value) (w : World) (R : Value → World → Prop) (T : Int → World → Prop)
    (h : Calls Tryz.prog 111 #[p0] (w.alloc (.cells #[.int .i64 0] 42)) (Within (w.alloc (.cells #[.int .i64 0] 42)) R T)) :
    Calls Tryz.prog 110 #[.func (.func 111) #[] #[p0]] w (FacePost (.slice none 0 0) w R T) := by
  have hmf : ∀ (fn : Fn) (first cap : Array Value) (w : World), (Instr.makeFunc fn first cap).run Tryz.prog w = .ok (.func fn first cap) w := fun _ _ _ _ => rfl
  go_enter_defers Tryz.func110, Tryz.ntmps110
  go_wp2_with (go_at_call 111; refine h.mono ?_)
  rintro e w1 (⟨u, rfl, hR, hg⟩ | ⟨c, rfl, hT, hg⟩)
  · have hb : Blk w1 w.heap.size 42 #[.int .i64 0] := Blk.grown (heap_alloc_new w _) hg (by simp)
    have hc := hb.cell 0
    have hz := hb.free 0
    have HG : Hid (w.grownBy w1 none) := grown_trans (World.grownBy_alloc _ _ none) hg
    clear hg
    go_wp2_with fail
    refine leaves_cons (f := 138) (args := #[.pointer (some ⟨w.heap.size, 0, none⟩)]) (by simp) (by simp [go_sem]) ?_
    refine (catch102_idle ⟨w.heap.size, 0, none⟩ _).mono ?_
    rintro e u' w'' ⟨rfl, rfl, rfl⟩
    have hb2 := (hb.store 0 (.int .i64 0)).cell 0
    simp [Leaves, settle, results, Tryz.results110, go_sem, hb2]
    exact ⟨.inl ⟨u, w1, rfl, hR, later_set hb⟩, grown_new HG.out (grown_setCell _ _ _ _) (by simp)⟩
  · have hb : Blk w1 w.heap.size 42 #[.int .i64 0] := Blk.grown (heap_alloc_new w _) hg (by simp)
    have hc := hb.cell 0
    have hz := hb.free 0
    have HG : Hid (w.grownBy w1 none) := grown_trans (World.grownBy_alloc _ _ none) hg
    clear hg
    unfold Pan
    go_wp2_with fail
    refine leaves_cons (f := 138) (args := #[.pointer (some ⟨w.heap.size, 0, none⟩)]) (by simp) (by simp [go_sem]) ?_
    refine (catch102_panicking ⟨w.heap.size, 0, none⟩ 0 c _ hc hz).mono ?_
    rintro e u' w'' ⟨rfl, rfl, rfl⟩
    have hb2 := (hb.store 0 (.int .i64 c)).cell 0
    simp [Leaves, settle, results, Tryz.results110, go_sem, hb2]
    exact ⟨.inr ⟨c, w1, rfl, hT, later_set hb⟩, grown_new HG.out (grown_setCell _ _ _ _) (by simp)⟩

def FacePostS (z : Value) (w : World) (R : Value → World → Prop) (T : Int → World → Prop) (e : Ending) (w' : World) : Prop := ((∃ u, e = .returned (.tuple #[u, .int .i64 0]) ∧ R u w') ∨ (∃ c w1, e = .returned (.tuple #[z, .int .i64 c]) ∧ T c w1)) ∧ w.grownBy w' none

end Go.Proofs.YtakmlhhapegpoaaGreat.Calls
