/-
  Ops in memory: an op as a value, a list of ops as it came in; bytes.Equal, sameOp, the document's SameOp.
-/
import Derived.Test.YtfocmbnhkldnfaaGreatDoorP
import Derived.Test.YtfocmbnhkldnfaaGreatDoorDiskAll
import Derived.Test.YtfocmbnhkldnfaaGreatDoorNamesAll
import Derived.Recover
namespace Go.Proofs.YtfocmbnhkldnfaaGreatDoor
open Go.RowKit Disk
open Names (Str)

theorem cell_lt {w : World} {b off : Nat} {v : Value} (h : w.cell? ⟨b, off, none⟩ = some v) : b < w.heap.size := by
  refine Nat.lt_of_not_le fun hle => ?_
  unfold World.cell? at h
  simp only at h
  rw [Array.getElem?_eq_none hle] at h
  simp at h
theorem cell_ne {w : World} {b off : Nat} {v : Value} (h : w.cell? ⟨b, off, none⟩ = some v) : ¬ b = w.heap.size := Nat.ne_of_lt (cell_lt h)

/-- An op as a value, its four lists the values given. -/
def opV (k v ol t : Value) (o : POp) : Value := .agg #[.int .i64 o.kind, Str o.table, k, v, .bool o.has, ol, t, .int .i64 o.most]

structure OpIn (o : POp) : Prop where
  k0 : -9223372036854775808 ≤ o.kind
  k1 : o.kind ≤ 9223372036854775807
  m0 : -9223372036854775808 ≤ o.most
  m1 : o.most ≤ 9223372036854775807
  tl : o.table.length ≤ 9223372036854775807

structure OpSeg (w : World) (k v ol t : Value) (o : POp) : Prop where
  key : Seg w k o.key
  value : Seg w v o.value
  old : Seg w ol o.old
  to : Seg w t o.to
  fits : OpIn o

theorem OpSeg.grown {w w' : World} {k v ol t : Value} {o : POp} (h : OpSeg w k v ol t o) (hg : w.grownBy w' none) : OpSeg w' k v ol t o := ⟨h.key.grown hg, h.value.grown hg, h.old.grown hg, h.to.grown hg, h.fits⟩

theorem str_eq (L M : List UInt8) : ((⟨L.toArray⟩ : ByteArray) = ⟨M.toArray⟩) ↔ L = M := by
  constructor
  · intro h
    have := congrArg (fun b : ByteArray => b.data.toList) h
    simpa using this
  · rintro rfl; rfl

theorem beq_dec (A B : List UInt8) : (A == B) = decide (A = B) := by by_cases h : A = B <;> simp [h]

set_option maxHeartbeats 400000 in
theorem equal114 (a b : Value) (A B : List UInt8) (w : World) (ha : Seg w a A) (hb : Seg w b B) :
    Calls Tryz.prog 114 #[a, b] w fun e w' => e = .returned (.bool (decide (A = B))) ∧ w' = w := by
  have h1 := seg_str ha
  have h2 := seg_str hb
  go_enter Tryz.func114, Tryz.ntmps114
  go_wp2
  go_ret
  refine ⟨?_, rfl⟩
  show Ending.returned (Value.bool (A == B)) = _
  rw [beq_dec]

theorem POp.ext' {a b : POp} : a = b ↔ a.kind = b.kind ∧ a.table = b.table ∧ a.has = b.has ∧ a.most = b.most ∧ a.key = b.key ∧ a.value = b.value ∧ a.old = b.old ∧ a.to = b.to := by
  constructor
  · rintro rfl; simp
  · rintro ⟨h1, h2, h3, h4, h5, h6, h7, h8⟩
    cases a; cases b; simp_all

set_option maxRecDepth 100000 in
set_option maxHeartbeats 4000000 in
theorem same72 (k v ol t k' v' ol' t' : Value) (a b : POp) (w : World) (ha : OpSeg w k v ol t a) (hb : OpSeg w k' v' ol' t' b) :
    Calls Tryz.prog 72 #[opV k v ol t a, opV k' v' ol' t' b] w fun e w' => e = .returned (.bool (decide (a = b))) ∧ w.grownBy w' none := by
  unfold opV Str
  obtain ⟨h1, h2, h3, h4, _⟩ := ha
  obtain ⟨i1, i2, i3, i4, _⟩ := hb
  go_enter Tryz.func72, Tryz.ntmps72
  go_wp2_with (go_at_call 114; refine (equal114 _ _ _ _ _ (seg_alloc (seg_alloc (by assumption) _) _) (seg_alloc (seg_alloc (by assumption) _) _)).mono ?_; rintro e w1 ⟨rfl, rfl⟩)
  all_goals go_ret
  all_goals refine ⟨?_, grown_trans (World.grownBy_alloc _ _ none) (World.grownBy_alloc _ _ none)⟩
  all_goals (refine congrArg (fun x => Ending.returned (Value.bool x)) ?_; simp [POp.ext', *])
end Go.Proofs.YtfocmbnhkldnfaaGreatDoor
