/-
  meets; one op done to a draft: its answer, what the draft becomes, or that the call is given up.
-/
import Derived.Test.YtakmlhhapegpoaaGreatMl
namespace Go.Proofs.YtakmlhhapegpoaaGreat
open Go.RowKit Disk Table
open Names (Str cmpL keyB valueB tabB)
open _root_.Go.Proofs.YtakmlhhapegpoaaGreat.Calls (POp POut PRes opV OpSeg mayOp)

set_option maxRecDepth 100000 in
set_option maxHeartbeats 4000000 in
theorem meets119 (h : Bool) (x kv vv ol tv : Value) (G : Bs) (o : POp) (w : World) (hx : Seg w x G) (ho : OpSeg w kv vv ol tv o) : Calls Tryz.prog 119 #[.agg #[.bool h, x, .slice none 0 0], opV kv vv ol tv o] w fun e w' => e = .returned (.bool (decide (h = o.has) && decide (G = o.old))) ∧ w.grownBy w' none := by
  have HO : Hid (OpSeg w kv vv ol tv o ∧ Seg w x G) := ⟨ho, hx⟩
  obtain ⟨a1, n1, c1, a2, n2, c2, a3, n3, c3, a4, n4, c4, rfl, rfl, rfl, rfl⟩ := op_shape ho
  obtain ⟨a5, c5, ex⟩ := hx.shape
  obtain ⟨n5, hn5⟩ : ∃ n, G.length = n := ⟨_, rfl⟩
  rw [hn5] at ex
  subst ex
  obtain ⟨g, hg⟩ : ∃ g, o.has = g := ⟨_, rfl⟩
  unfold opV
  rw [hg]
  clear ho hx hn5 hg
  by_cases hh : h = g
  · subst hh
    obtain ⟨R, hR⟩ : ∃ R, decide (G = o.old) = R := ⟨_, rfl⟩
    have HE : Hid (∀ y, w.grownBy y none → Calls Tryz.prog 97 #[.slice a5 n5 c5, .slice a3 n3 c3] y fun e w' => e = .returned (.bool R) ∧ w' = y) := fun y hy => equal66b _ _ G o.old R y (HO.out.2.grown hy) (HO.out.1.old.grown hy) hR
    rw [hR]
    clear hR
    have G2 : Hid (w.grownBy ((w.alloc (.cells #[.bool h, .slice a5 n5 c5, .slice none 0 0] 72)).alloc (.cells #[.int .i64 o.kind, Str o.table, .slice a1 n1 c1, .slice a2 n2 c2, .bool h, .slice a3 n3 c3, .slice a4 n4 c4, .int .i64 o.most] 67)) none) := grown_trans (World.grownBy_alloc _ _ _) (World.grownBy_alloc _ _ _)
    have he : (h == h) = true := by simp
    go_enter Tryz.func119, Tryz.ntmps119
    go_wp2_with (go_at_call 97; refine (HE.out _ G2.out).mono ?_; rintro e w1 ⟨rfl, hw⟩; rw [hw]; clear hw)
    go_ret
    exact ⟨by simp, G2.out⟩
  · have he : (h == g) = false := by simpa using hh
    have hd : decide (h = g) = false := by simpa using hh
    rw [hd]
    clear hh
    go_enter Tryz.func119, Tryz.ntmps119
    go_wp2_with fail
    go_ret
    exact ⟨rfl, grown_trans (World.grownBy_alloc _ _ _) (World.grownBy_alloc _ _ _)⟩

/-- What an op comes to: its answer and the database behind it, or why the call is given up. -/
def putR (q : Int × Int) (D : DB) (o : POp) : Except Int (POut × DB) :=
  if aboveD q (putD D o.table o.key o.value) = 0 then .ok (⟨hasD D o.table o.key, [], []⟩, putD D o.table o.key o.value) else .error (aboveD q (putD D o.table o.key o.value))
def meetD (D : DB) (o : POp) : Bool := decide (hasD D o.table o.key = o.has) && decide (gotD D o.table o.key = o.old)
def opD (q : Int × Int) (D : DB) (o : POp) : Except Int (POut × DB) :=
  if o.kind = 1 then .ok (⟨hasD D o.table o.key, gotD D o.table o.key, []⟩, D)
  else if o.kind = 3 then .ok (⟨hasD D o.table o.key, [], []⟩, remD D o.table o.key)
  else if o.kind = 5 then .ok (⟨false, [], scanL (rowsOf D o.table) o.key o.to o.most⟩, D)
  else if o.kind = 4 ∧ meetD D o = false then .error 1
  else putR q D o
def OpE (X : Nat → Prop) (q : Int × Int) (D : DB) (o : POp) (m : Nat) (w : World) (e : Ending) (w' : World) : Prop :=
  w.grownBy w' (some m) ∧ ((∃ r D', opD q D o = .ok (r, D') ∧ ∃ x y, e = .returned (.agg #[.bool r.has, x, y]) ∧ Disk.Own w' w.heap.size x r.value ∧ TRws w' w.heap.size y r.rows ∧ EM X w' m D') ∨ (∃ c, opD q D o = .error c ∧ e = PanA c))
theorem cells_ptr (x : Bool) (a1 a2 : Option Addr) (n1 n2 c1 c2 : Nat) (j p : Nat) : (#[Value.bool x, .slice a1 n1 c1, .slice a2 n2 c2] : Array Value)[j]? ≠ some (ptr p) := by
  match j with
  | 0 => simp [ptr]
  | 1 => simp [ptr]
  | 2 => simp [ptr]
  | j + 3 => simp
theorem em_set3g {X : Nat → Prop} {w : World} {m b : Nat} {D : DB} {z : Bool} {a1 a2 : Option Addr} {n1 n2 c1 c2 : Nat} (h : EM X w m D) (hb : Blk w b 72 #[.bool false, .slice none 0 0, .slice none 0 0]) : EM X (((w.setCell ⟨b, 0, none⟩ (.bool z)).setCell ⟨b, 1, none⟩ (.slice a1 n1 c1)).setCell ⟨b, 2, none⟩ (.slice a2 n2 c2)) m D := by
  have h1 := em_setC (i := 0) (v := .bool z) h hb (cells_ptr _ _ _ _ _ _ _)
  have b1 := hb.store 0 (.bool z)
  have h2 := em_setC (i := 1) (v := .slice a1 n1 c1) h1 b1 (cells_ptr _ _ _ _ _ _ _)
  have b2 := b1.store 1 (.slice a1 n1 c1)
  exact em_setC (i := 2) (v := .slice a2 n2 c2) h2 b2 (cells_ptr _ _ _ _ _ _ _)
theorem may_table {o : POp} (h : mayOp o = true) : o.table.length ≤ 1000000 := by
  have h1 : tabB o.table = true := by unfold mayOp at h; simp at h; exact h.1.1.1.1.1.2
  unfold tabB at h1
  simp at h1
  omega
theorem may_value {o : POp} (h : mayOp o = true) : valueB o.value = true := by unfold mayOp at h; simp at h; exact h.1.1.1.1.2
theorem may_key {o : POp} (h : mayOp o = true) (hk : o.kind ≠ 5) : keyB o.key = true := by
  have h1 : Calls.bounds o = true := by unfold mayOp at h; simp at h; exact h.1.1.1.1.1.1
  unfold Calls.bounds at h1
  rw [if_neg hk] at h1
  exact h1
end Go.Proofs.YtakmlhhapegpoaaGreat
