/-
  The document's MayOp, May, Reads.
-/
import Derived.Test.YtfocmbnhkldnfaaGreatDoorG
import Derived.Test.YtfocmbnhkldnfaaGreatDoorDp
import Derived.Test.YtfocmbnhkldnfaaGreatDoorNamesAll
import Derived.Deep.DeepCutAuto
namespace Go.Proofs.YtfocmbnhkldnfaaGreatDoor
open Go.RowKit Disk
open Names (Str)

set_option maxRecDepth 100000 in
set_option maxHeartbeats 4000000 in
theorem bare118 (k v ol t : Value) (a : POp) (x y z : Bool) (w : World) (ha : OpSeg w k v ol t a) :
    Calls Tryz.prog 118 #[opV k v ol t a, .bool x, .bool y, .bool z] w fun e w' => e = .returned (.bool (bareB a x y z)) ∧ w.grownBy w' none := by
  unfold opV Str
  obtain ⟨_, _, _, _, _, _, _, _, rfl, rfl, rfl, rfl⟩ := ha.shapes
  clear ha
  go_enter Tryz.func118, Tryz.ntmps118
  go_wp2_with fail
  all_goals go_ret
  all_goals refine ⟨?_, World.grownBy_alloc _ _ none⟩
  all_goals (refine congrArg (fun x => Ending.returned (Value.bool x)) ?_; simp [bareB, *]; try rfl)

theorem bare118_of (x k v ol t : Value) (a : POp) (p q r : Bool) (w : World) (hx : x = opV k v ol t a) (ha : OpSeg w k v ol t a) : Calls Tryz.prog 118 #[x, .bool p, .bool q, .bool r] w fun e w' => e = .returned (.bool (bareB a p q r)) ∧ w.grownBy w' none := by subst hx; exact bare118 k v ol t a p q r w ha

set_option maxRecDepth 100000 in
set_option maxHeartbeats 8000000 in
theorem mayop73_1 (k v ol t : Value) (a : POp) (w : World) (ha : OpSeg w k v ol t a) (hT : Names.tabB a.table = true) (hK : a.kind = 1) :
    Calls Tryz.prog 73 #[opV k v ol t a] w fun e w' => e = .returned (.bool (dMay a)) ∧ w.grownBy w' none := by
  have HT : Hid (Names.tabB a.table = true) := hT
  have HK : Hid (a.kind = 1) := hK
  have HX : Hid (∀ x k v ol t : Value, ∀ p q r : Bool, ∀ w, x = .agg #[.int .i64 1, .string ⟨a.table.toArray⟩, k, v, .bool a.has, ol, t, .int .i64 a.most] → OpSeg w k v ol t a → Calls Tryz.prog 118 #[x, .bool p, .bool q, .bool r] w fun e w' => e = .returned (.bool (bareB a p q r)) ∧ w.grownBy w' none) := fun x k v ol t p q r w h1 h2 => bare118_of x k v ol t a p q r w (by rw [h1, opV, hK]; rfl) h2
  unfold opV Str
  rw [hK]
  have HS : Hid (OpSeg w k v ol t a) := ha
  obtain ⟨p1, p2, p3, p4, r1, r2, r3, r4, rfl, rfl, rfl, rfl⟩ := ha.shapes
  clear ha
  have HG : Hid (OpSeg (w.alloc (.cells #[.int .i64 1, .string ⟨a.table.toArray⟩, .slice p1 a.key.length r1, .slice p2 a.value.length r2, .bool a.has, .slice p3 a.old.length r3, .slice p4 a.to.length r4, .int .i64 a.most] 71)) (.slice p1 a.key.length r1) (.slice p2 a.value.length r2) (.slice p3 a.old.length r3) (.slice p4 a.to.length r4) a) := HS.out.grown (World.grownBy_alloc _ _ none)
  clear hT hK
  go_enter Tryz.func73, Tryz.ntmps73
  go_wp2_with (first | (go_at_call 117; refine (Names.table10 a.table _ HS.out.fits.tl).mono ?_; rintro e w1 ⟨rfl, rfl⟩; rw [HT.out]) | (go_at_call 65; refine (Names.key12 _ a.key _ HG.out.key).mono ?_; rintro e w1 ⟨rfl, rfl⟩) | (go_at_call 64; refine (Names.value14 _ a.value _ HG.out.value).mono ?_; rintro e w1 ⟨rfl, rfl⟩) | (go_at_call 64; refine (Names.value14 _ a.old _ HG.out.old).mono ?_; rintro e w1 ⟨rfl, rfl⟩) | (go_at_call 118; refine (HX.out _ _ _ _ _ _ _ _ _ rfl HG.out).mono ?_; rintro e w1 ⟨rfl, hg⟩))
  all_goals go_ret
  all_goals refine ⟨?_, by first | exact World.grownBy_alloc _ _ none | exact grown_trans (World.grownBy_alloc _ _ none) (by assumption)⟩
  all_goals (refine congrArg (fun x => Ending.returned (Value.bool x)) ?_; simp [dMay, HT.out, HK.out, *]; try rfl)
set_option maxRecDepth 100000 in
set_option maxHeartbeats 8000000 in
theorem mayop73_3 (k v ol t : Value) (a : POp) (w : World) (ha : OpSeg w k v ol t a) (hT : Names.tabB a.table = true) (hK : a.kind = 3) :
    Calls Tryz.prog 73 #[opV k v ol t a] w fun e w' => e = .returned (.bool (dMay a)) ∧ w.grownBy w' none := by
  have HT : Hid (Names.tabB a.table = true) := hT
  have HK : Hid (a.kind = 3) := hK
  have HX : Hid (∀ x k v ol t : Value, ∀ p q r : Bool, ∀ w, x = .agg #[.int .i64 3, .string ⟨a.table.toArray⟩, k, v, .bool a.has, ol, t, .int .i64 a.most] → OpSeg w k v ol t a → Calls Tryz.prog 118 #[x, .bool p, .bool q, .bool r] w fun e w' => e = .returned (.bool (bareB a p q r)) ∧ w.grownBy w' none) := fun x k v ol t p q r w h1 h2 => bare118_of x k v ol t a p q r w (by rw [h1, opV, hK]; rfl) h2
  unfold opV Str
  rw [hK]
  have HS : Hid (OpSeg w k v ol t a) := ha
  obtain ⟨p1, p2, p3, p4, r1, r2, r3, r4, rfl, rfl, rfl, rfl⟩ := ha.shapes
  clear ha
  have HG : Hid (OpSeg (w.alloc (.cells #[.int .i64 3, .string ⟨a.table.toArray⟩, .slice p1 a.key.length r1, .slice p2 a.value.length r2, .bool a.has, .slice p3 a.old.length r3, .slice p4 a.to.length r4, .int .i64 a.most] 71)) (.slice p1 a.key.length r1) (.slice p2 a.value.length r2) (.slice p3 a.old.length r3) (.slice p4 a.to.length r4) a) := HS.out.grown (World.grownBy_alloc _ _ none)
  clear hT hK
  go_enter Tryz.func73, Tryz.ntmps73
  go_wp2_with (first | (go_at_call 117; refine (Names.table10 a.table _ HS.out.fits.tl).mono ?_; rintro e w1 ⟨rfl, rfl⟩; rw [HT.out]) | (go_at_call 65; refine (Names.key12 _ a.key _ HG.out.key).mono ?_; rintro e w1 ⟨rfl, rfl⟩) | (go_at_call 64; refine (Names.value14 _ a.value _ HG.out.value).mono ?_; rintro e w1 ⟨rfl, rfl⟩) | (go_at_call 64; refine (Names.value14 _ a.old _ HG.out.old).mono ?_; rintro e w1 ⟨rfl, rfl⟩) | (go_at_call 118; refine (HX.out _ _ _ _ _ _ _ _ _ rfl HG.out).mono ?_; rintro e w1 ⟨rfl, hg⟩))
  all_goals go_ret
  all_goals refine ⟨?_, by first | exact World.grownBy_alloc _ _ none | exact grown_trans (World.grownBy_alloc _ _ none) (by assumption)⟩
  all_goals (refine congrArg (fun x => Ending.returned (Value.bool x)) ?_; simp [dMay, HT.out, HK.out, *]; try rfl)
set_option maxRecDepth 100000 in
set_option maxHeartbeats 8000000 in
theorem mayop73_2 (k v ol t : Value) (a : POp) (w : World) (ha : OpSeg w k v ol t a) (hT : Names.tabB a.table = true) (hK : a.kind = 2) :
    Calls Tryz.prog 73 #[opV k v ol t a] w fun e w' => e = .returned (.bool (dMay a)) ∧ w.grownBy w' none := by
  have HT : Hid (Names.tabB a.table = true) := hT
  have HK : Hid (a.kind = 2) := hK
  have HX : Hid (∀ x k v ol t : Value, ∀ p q r : Bool, ∀ w, x = .agg #[.int .i64 2, .string ⟨a.table.toArray⟩, k, v, .bool a.has, ol, t, .int .i64 a.most] → OpSeg w k v ol t a → Calls Tryz.prog 118 #[x, .bool p, .bool q, .bool r] w fun e w' => e = .returned (.bool (bareB a p q r)) ∧ w.grownBy w' none) := fun x k v ol t p q r w h1 h2 => bare118_of x k v ol t a p q r w (by rw [h1, opV, hK]; rfl) h2
  unfold opV Str
  rw [hK]
  have HS : Hid (OpSeg w k v ol t a) := ha
  obtain ⟨p1, p2, p3, p4, r1, r2, r3, r4, rfl, rfl, rfl, rfl⟩ := ha.shapes
  clear ha
  have HG : Hid (OpSeg (w.alloc (.cells #[.int .i64 2, .string ⟨a.table.toArray⟩, .slice p1 a.key.length r1, .slice p2 a.value.length r2, .bool a.has, .slice p3 a.old.length r3, .slice p4 a.to.length r4, .int .i64 a.most] 71)) (.slice p1 a.key.length r1) (.slice p2 a.value.length r2) (.slice p3 a.old.length r3) (.slice p4 a.to.length r4) a) := HS.out.grown (World.grownBy_alloc _ _ none)
  clear hT hK
  go_enter Tryz.func73, Tryz.ntmps73
  go_wp2_with (first | (go_at_call 117; refine (Names.table10 a.table _ HS.out.fits.tl).mono ?_; rintro e w1 ⟨rfl, rfl⟩; rw [HT.out]) | (go_at_call 65; refine (Names.key12 _ a.key _ HG.out.key).mono ?_; rintro e w1 ⟨rfl, rfl⟩) | (go_at_call 64; refine (Names.value14 _ a.value _ HG.out.value).mono ?_; rintro e w1 ⟨rfl, rfl⟩) | (go_at_call 64; refine (Names.value14 _ a.old _ HG.out.old).mono ?_; rintro e w1 ⟨rfl, rfl⟩) | (go_at_call 118; refine (HX.out _ _ _ _ _ _ _ _ _ rfl HG.out).mono ?_; rintro e w1 ⟨rfl, hg⟩))
  all_goals go_ret
  all_goals refine ⟨?_, by first | exact World.grownBy_alloc _ _ none | exact grown_trans (World.grownBy_alloc _ _ none) (by assumption)⟩
  all_goals (refine congrArg (fun x => Ending.returned (Value.bool x)) ?_; simp [dMay, HT.out, HK.out, *]; try rfl)
set_option maxRecDepth 100000 in
set_option maxHeartbeats 8000000 in
theorem mayop73_4a (k v ol t : Value) (a : POp) (w : World) (ha : OpSeg w k v ol t a) (hT : Names.tabB a.table = true) (hK : a.kind = 4) (hk : Names.keyB a.key = false) :
    Calls Tryz.prog 73 #[opV k v ol t a] w fun e w' => e = .returned (.bool (dMay a)) ∧ w.grownBy w' none := by
  have Hhk : Hid (Names.keyB a.key = false) := hk
  have HT : Hid (Names.tabB a.table = true) := hT
  have HK : Hid (a.kind = 4) := hK
  have HX : Hid (∀ x k v ol t : Value, ∀ p q r : Bool, ∀ w, x = .agg #[.int .i64 4, .string ⟨a.table.toArray⟩, k, v, .bool a.has, ol, t, .int .i64 a.most] → OpSeg w k v ol t a → Calls Tryz.prog 118 #[x, .bool p, .bool q, .bool r] w fun e w' => e = .returned (.bool (bareB a p q r)) ∧ w.grownBy w' none) := fun x k v ol t p q r w h1 h2 => bare118_of x k v ol t a p q r w (by rw [h1, opV, hK]; rfl) h2
  unfold opV Str
  rw [hK]
  have HS : Hid (OpSeg w k v ol t a) := ha
  obtain ⟨p1, p2, p3, p4, r1, r2, r3, r4, rfl, rfl, rfl, rfl⟩ := ha.shapes
  clear ha
  have HG : Hid (OpSeg (w.alloc (.cells #[.int .i64 4, .string ⟨a.table.toArray⟩, .slice p1 a.key.length r1, .slice p2 a.value.length r2, .bool a.has, .slice p3 a.old.length r3, .slice p4 a.to.length r4, .int .i64 a.most] 71)) (.slice p1 a.key.length r1) (.slice p2 a.value.length r2) (.slice p3 a.old.length r3) (.slice p4 a.to.length r4) a) := HS.out.grown (World.grownBy_alloc _ _ none)
  clear hT hK hk
  go_enter Tryz.func73, Tryz.ntmps73
  go_wp2_with (first | (go_at_call 117; refine (Names.table10 a.table _ HS.out.fits.tl).mono ?_; rintro e w1 ⟨rfl, rfl⟩; rw [HT.out]) | (go_at_call 65; refine (Names.key12 _ a.key _ HG.out.key).mono ?_; rintro e w1 ⟨rfl, rfl⟩; rw [Hhk.out]) | (go_at_call 64; refine (Names.value14 _ a.value _ HG.out.value).mono ?_; rintro e w1 ⟨rfl, rfl⟩) | (go_at_call 64; refine (Names.value14 _ a.old _ HG.out.old).mono ?_; rintro e w1 ⟨rfl, rfl⟩) | (go_at_call 118; refine (HX.out _ _ _ _ _ _ _ _ _ rfl HG.out).mono ?_; rintro e w1 ⟨rfl, hg⟩))
  all_goals go_ret
  all_goals refine ⟨?_, by first | exact World.grownBy_alloc _ _ none | exact grown_trans (World.grownBy_alloc _ _ none) (by assumption)⟩
  all_goals (refine congrArg (fun x => Ending.returned (Value.bool x)) ?_; simp [dMay, HT.out, HK.out, Hhk.out, *]; try rfl)
set_option maxRecDepth 100000 in
set_option maxHeartbeats 8000000 in
theorem mayop73_4b (k v ol t : Value) (a : POp) (w : World) (ha : OpSeg w k v ol t a) (hT : Names.tabB a.table = true) (hK : a.kind = 4) (hk : Names.keyB a.key = true) (hv : Names.valueB a.value = false) :
    Calls Tryz.prog 73 #[opV k v ol t a] w fun e w' => e = .returned (.bool (dMay a)) ∧ w.grownBy w' none := by
  have Hhk : Hid (Names.keyB a.key = true) := hk
  have Hhv : Hid (Names.valueB a.value = false) := hv
  have HT : Hid (Names.tabB a.table = true) := hT
  have HK : Hid (a.kind = 4) := hK
  have HX : Hid (∀ x k v ol t : Value, ∀ p q r : Bool, ∀ w, x = .agg #[.int .i64 4, .string ⟨a.table.toArray⟩, k, v, .bool a.has, ol, t, .int .i64 a.most] → OpSeg w k v ol t a → Calls Tryz.prog 118 #[x, .bool p, .bool q, .bool r] w fun e w' => e = .returned (.bool (bareB a p q r)) ∧ w.grownBy w' none) := fun x k v ol t p q r w h1 h2 => bare118_of x k v ol t a p q r w (by rw [h1, opV, hK]; rfl) h2
  unfold opV Str
  rw [hK]
  have HS : Hid (OpSeg w k v ol t a) := ha
  obtain ⟨p1, p2, p3, p4, r1, r2, r3, r4, rfl, rfl, rfl, rfl⟩ := ha.shapes
  clear ha
  have HG : Hid (OpSeg (w.alloc (.cells #[.int .i64 4, .string ⟨a.table.toArray⟩, .slice p1 a.key.length r1, .slice p2 a.value.length r2, .bool a.has, .slice p3 a.old.length r3, .slice p4 a.to.length r4, .int .i64 a.most] 71)) (.slice p1 a.key.length r1) (.slice p2 a.value.length r2) (.slice p3 a.old.length r3) (.slice p4 a.to.length r4) a) := HS.out.grown (World.grownBy_alloc _ _ none)
  clear hT hK hk hv
  go_enter Tryz.func73, Tryz.ntmps73
  go_wp2_with (first | (go_at_call 117; refine (Names.table10 a.table _ HS.out.fits.tl).mono ?_; rintro e w1 ⟨rfl, rfl⟩; rw [HT.out]) | (go_at_call 65; refine (Names.key12 _ a.key _ HG.out.key).mono ?_; rintro e w1 ⟨rfl, rfl⟩; rw [Hhk.out]) | (go_at_call 64; refine (Names.value14 _ a.value _ HG.out.value).mono ?_; rintro e w1 ⟨rfl, rfl⟩; rw [Hhv.out]) | (go_at_call 64; refine (Names.value14 _ a.old _ HG.out.old).mono ?_; rintro e w1 ⟨rfl, rfl⟩) | (go_at_call 118; refine (HX.out _ _ _ _ _ _ _ _ _ rfl HG.out).mono ?_; rintro e w1 ⟨rfl, hg⟩))
  all_goals go_ret
  all_goals refine ⟨?_, by first | exact World.grownBy_alloc _ _ none | exact grown_trans (World.grownBy_alloc _ _ none) (by assumption)⟩
  all_goals (refine congrArg (fun x => Ending.returned (Value.bool x)) ?_; simp [dMay, HT.out, HK.out, Hhk.out, Hhv.out, *]; try rfl)
set_option maxRecDepth 100000 in
set_option maxHeartbeats 8000000 in
theorem mayop73_4c (k v ol t : Value) (a : POp) (w : World) (ha : OpSeg w k v ol t a) (hT : Names.tabB a.table = true) (hK : a.kind = 4) (hk : Names.keyB a.key = true) (hv : Names.valueB a.value = true) (ho : Names.valueB a.old = false) :
    Calls Tryz.prog 73 #[opV k v ol t a] w fun e w' => e = .returned (.bool (dMay a)) ∧ w.grownBy w' none := by
  have Hhk : Hid (Names.keyB a.key = true) := hk
  have Hhv : Hid (Names.valueB a.value = true) := hv
  have Hho : Hid (Names.valueB a.old = false) := ho
  have HT : Hid (Names.tabB a.table = true) := hT
  have HK : Hid (a.kind = 4) := hK
  have HX : Hid (∀ x k v ol t : Value, ∀ p q r : Bool, ∀ w, x = .agg #[.int .i64 4, .string ⟨a.table.toArray⟩, k, v, .bool a.has, ol, t, .int .i64 a.most] → OpSeg w k v ol t a → Calls Tryz.prog 118 #[x, .bool p, .bool q, .bool r] w fun e w' => e = .returned (.bool (bareB a p q r)) ∧ w.grownBy w' none) := fun x k v ol t p q r w h1 h2 => bare118_of x k v ol t a p q r w (by rw [h1, opV, hK]; rfl) h2
  unfold opV Str
  rw [hK]
  have HS : Hid (OpSeg w k v ol t a) := ha
  obtain ⟨p1, p2, p3, p4, r1, r2, r3, r4, rfl, rfl, rfl, rfl⟩ := ha.shapes
  clear ha
  have HG : Hid (OpSeg (w.alloc (.cells #[.int .i64 4, .string ⟨a.table.toArray⟩, .slice p1 a.key.length r1, .slice p2 a.value.length r2, .bool a.has, .slice p3 a.old.length r3, .slice p4 a.to.length r4, .int .i64 a.most] 71)) (.slice p1 a.key.length r1) (.slice p2 a.value.length r2) (.slice p3 a.old.length r3) (.slice p4 a.to.length r4) a) := HS.out.grown (World.grownBy_alloc _ _ none)
  clear hT hK hk hv ho
  go_enter Tryz.func73, Tryz.ntmps73
  go_wp2_with (first | (go_at_call 117; refine (Names.table10 a.table _ HS.out.fits.tl).mono ?_; rintro e w1 ⟨rfl, rfl⟩; rw [HT.out]) | (go_at_call 65; refine (Names.key12 _ a.key _ HG.out.key).mono ?_; rintro e w1 ⟨rfl, rfl⟩; rw [Hhk.out]) | (go_at_call 64; refine (Names.value14 _ a.value _ HG.out.value).mono ?_; rintro e w1 ⟨rfl, rfl⟩; rw [Hhv.out]) | (go_at_call 64; refine (Names.value14 _ a.old _ HG.out.old).mono ?_; rintro e w1 ⟨rfl, rfl⟩; rw [Hho.out]) | (go_at_call 118; refine (HX.out _ _ _ _ _ _ _ _ _ rfl HG.out).mono ?_; rintro e w1 ⟨rfl, hg⟩))
  all_goals go_ret
  all_goals refine ⟨?_, by first | exact World.grownBy_alloc _ _ none | exact grown_trans (World.grownBy_alloc _ _ none) (by assumption)⟩
  all_goals (refine congrArg (fun x => Ending.returned (Value.bool x)) ?_; simp [dMay, HT.out, HK.out, Hhk.out, Hhv.out, Hho.out, *]; try rfl)
set_option maxRecDepth 100000 in
set_option maxHeartbeats 8000000 in
theorem mayop73_4d (k v ol t : Value) (T K V O TO : Bs) (M : Int) (w : World) (ha : OpSeg w k v ol t (⟨4, T, K, V, true, O, TO, M⟩ : POp)) (hT : Names.tabB T = true) (hk : Names.keyB K = true) (hv : Names.valueB V = true) (ho : Names.valueB O = true) :
    Calls Tryz.prog 73 #[opV k v ol t (⟨4, T, K, V, true, O, TO, M⟩ : POp)] w fun e w' => e = .returned (.bool (dMay (⟨4, T, K, V, true, O, TO, M⟩ : POp))) ∧ w.grownBy w' none := by
  have HS : Hid (OpSeg w k v ol t (⟨4, T, K, V, true, O, TO, M⟩ : POp)) := ha
  have HT : Hid (Names.tabB T = true ∧ Names.keyB K = true ∧ Names.valueB V = true ∧ Names.valueB O = true) := ⟨hT, hk, hv, ho⟩
  obtain ⟨p1, p2, p3, p4, r1, r2, r3, r4, e1, e2, e3, e4⟩ := ha.shapes
  simp only at e1 e2 e3 e4
  subst e1 e2 e3 e4
  clear ha hT hk hv ho
  show Calls Tryz.prog 73 #[.agg #[.int .i64 4, .string ⟨T.toArray⟩, .slice p1 K.length r1, .slice p2 V.length r2, .bool true, .slice p3 O.length r3, .slice p4 TO.length r4, .int .i64 M]] w _
  have HG : Hid (OpSeg (w.alloc (.cells #[.int .i64 4, .string ⟨T.toArray⟩, .slice p1 K.length r1, .slice p2 V.length r2, .bool true, .slice p3 O.length r3, .slice p4 TO.length r4, .int .i64 M] 71)) (.slice p1 K.length r1) (.slice p2 V.length r2) (.slice p3 O.length r3) (.slice p4 TO.length r4) (⟨4, T, K, V, true, O, TO, M⟩ : POp)) := HS.out.grown (World.grownBy_alloc _ _ none)
  go_enter Tryz.func73, Tryz.ntmps73
  go_wp2_with (first | (go_at_call 117; refine (Names.table10 T _ HS.out.fits.tl).mono ?_; rintro e w1 ⟨rfl, rfl⟩; rw [HT.out.1]) | (go_at_call 65; refine (Names.key12 _ K _ HG.out.key).mono ?_; rintro e w1 ⟨rfl, rfl⟩; rw [HT.out.2.1]) | (go_at_call 64; refine (Names.value14 (.slice p2 _ _) V _ HG.out.value).mono ?_; rintro e w1 ⟨rfl, rfl⟩; rw [HT.out.2.2.1]) | (go_at_call 64; refine (Names.value14 (.slice p3 _ _) O _ HG.out.old).mono ?_; rintro e w1 ⟨rfl, rfl⟩; rw [HT.out.2.2.2]) | (go_at_call 118; refine (bare118_of _ _ _ _ _ (⟨4, T, K, V, true, O, TO, M⟩ : POp) _ _ _ _ rfl HG.out).mono ?_; rintro e w1 ⟨rfl, hg⟩))
  go_ret
  refine ⟨?_, by first | exact World.grownBy_alloc _ _ none | exact grown_trans (World.grownBy_alloc _ _ none) (by assumption)⟩
  refine congrArg (fun x => Ending.returned (Value.bool x)) ?_
  simp [dMay, HT.out.1, HT.out.2.1, HT.out.2.2.1, HT.out.2.2.2, *]; try rfl
set_option maxRecDepth 100000 in
set_option maxHeartbeats 8000000 in
theorem mayop73_4e (k v ol t : Value) (T K V TO : Bs) (M : Int) (w : World) (ha : OpSeg w k v ol t (⟨4, T, K, V, false, [], TO, M⟩ : POp)) (hT : Names.tabB T = true) (hk : Names.keyB K = true) (hv : Names.valueB V = true) (ho : Names.valueB [] = true) :
    Calls Tryz.prog 73 #[opV k v ol t (⟨4, T, K, V, false, [], TO, M⟩ : POp)] w fun e w' => e = .returned (.bool (dMay (⟨4, T, K, V, false, [], TO, M⟩ : POp))) ∧ w.grownBy w' none := by
  have HS : Hid (OpSeg w k v ol t (⟨4, T, K, V, false, [], TO, M⟩ : POp)) := ha
  have HT : Hid (Names.tabB T = true ∧ Names.keyB K = true ∧ Names.valueB V = true ∧ Names.valueB [] = true) := ⟨hT, hk, hv, ho⟩
  obtain ⟨p1, p2, p3, p4, r1, r2, r3, r4, e1, e2, e3, e4⟩ := ha.shapes
  simp only [List.length_nil] at e1 e2 e3 e4
  subst e1 e2 e3 e4
  clear ha hT hk hv ho
  show Calls Tryz.prog 73 #[.agg #[.int .i64 4, .string ⟨T.toArray⟩, .slice p1 K.length r1, .slice p2 V.length r2, .bool false, .slice p3 0 r3, .slice p4 TO.length r4, .int .i64 M]] w _
  have HG : Hid (OpSeg (w.alloc (.cells #[.int .i64 4, .string ⟨T.toArray⟩, .slice p1 K.length r1, .slice p2 V.length r2, .bool false, .slice p3 0 r3, .slice p4 TO.length r4, .int .i64 M] 71)) (.slice p1 K.length r1) (.slice p2 V.length r2) (.slice p3 0 r3) (.slice p4 TO.length r4) (⟨4, T, K, V, false, [], TO, M⟩ : POp)) := HS.out.grown (World.grownBy_alloc _ _ none)
  go_enter Tryz.func73, Tryz.ntmps73
  go_wp2_with (first | (go_at_call 117; refine (Names.table10 T _ HS.out.fits.tl).mono ?_; rintro e w1 ⟨rfl, rfl⟩; rw [HT.out.1]) | (go_at_call 65; refine (Names.key12 _ K _ HG.out.key).mono ?_; rintro e w1 ⟨rfl, rfl⟩; rw [HT.out.2.1]) | (go_at_call 64; refine (Names.value14 (.slice p2 _ _) V _ HG.out.value).mono ?_; rintro e w1 ⟨rfl, rfl⟩; rw [HT.out.2.2.1]) | (go_at_call 64; refine (Names.value14 (.slice p3 _ _) [] _ HG.out.old).mono ?_; rintro e w1 ⟨rfl, rfl⟩; rw [HT.out.2.2.2]) | (go_at_call 118; refine (bare118_of _ _ _ _ _ (⟨4, T, K, V, false, [], TO, M⟩ : POp) _ _ _ _ rfl HG.out).mono ?_; rintro e w1 ⟨rfl, hg⟩))
  go_ret
  refine ⟨?_, by first | exact World.grownBy_alloc _ _ none | exact grown_trans (World.grownBy_alloc _ _ none) (by assumption)⟩
  refine congrArg (fun x => Ending.returned (Value.bool x)) ?_
  simp [dMay, HT.out.1, HT.out.2.1, HT.out.2.2.1, HT.out.2.2.2, *]; try rfl
set_option maxRecDepth 100000 in
set_option maxHeartbeats 8000000 in
theorem mayop73_4f (k v ol t : Value) (T K V O TO : Bs) (M : Int) (w : World) (ha : OpSeg w k v ol t (⟨4, T, K, V, false, O, TO, M⟩ : POp)) (hT : Names.tabB T = true) (hk : Names.keyB K = true) (hv : Names.valueB V = true) (ho : Names.valueB O = true) (hO : O ≠ []) :
    Calls Tryz.prog 73 #[opV k v ol t (⟨4, T, K, V, false, O, TO, M⟩ : POp)] w fun e w' => e = .returned (.bool (dMay (⟨4, T, K, V, false, O, TO, M⟩ : POp))) ∧ w.grownBy w' none := by
  have HS : Hid (OpSeg w k v ol t (⟨4, T, K, V, false, O, TO, M⟩ : POp)) := ha
  have HT : Hid (Names.tabB T = true ∧ Names.keyB K = true ∧ Names.valueB V = true ∧ Names.valueB O = true) := ⟨hT, hk, hv, ho⟩
  obtain ⟨p1, p2, p3, p4, r1, r2, r3, r4, e1, e2, e3, e4⟩ := ha.shapes
  simp only at e1 e2 e3 e4
  subst e1 e2 e3 e4
  clear ha hT hk hv ho
  show Calls Tryz.prog 73 #[.agg #[.int .i64 4, .string ⟨T.toArray⟩, .slice p1 K.length r1, .slice p2 V.length r2, .bool false, .slice p3 O.length r3, .slice p4 TO.length r4, .int .i64 M]] w _
  have HG : Hid (OpSeg (w.alloc (.cells #[.int .i64 4, .string ⟨T.toArray⟩, .slice p1 K.length r1, .slice p2 V.length r2, .bool false, .slice p3 O.length r3, .slice p4 TO.length r4, .int .i64 M] 71)) (.slice p1 K.length r1) (.slice p2 V.length r2) (.slice p3 O.length r3) (.slice p4 TO.length r4) (⟨4, T, K, V, false, O, TO, M⟩ : POp)) := HS.out.grown (World.grownBy_alloc _ _ none)
  have z0 : ((O.length : Int) = 0) = False := eq_false (by have := List.length_pos_iff.2 hO; omega)
  have z1 : ((O.length : Int) == 0) = false := by rw [beq_eq_false_iff_ne]; have := List.length_pos_iff.2 hO; omega
  go_enter Tryz.func73, Tryz.ntmps73
  go_wp2_with (first | (go_at_call 117; refine (Names.table10 T _ HS.out.fits.tl).mono ?_; rintro e w1 ⟨rfl, rfl⟩; rw [HT.out.1]) | (go_at_call 65; refine (Names.key12 _ K _ HG.out.key).mono ?_; rintro e w1 ⟨rfl, rfl⟩; rw [HT.out.2.1]) | (go_at_call 64; refine (Names.value14 (.slice p2 _ _) V _ HG.out.value).mono ?_; rintro e w1 ⟨rfl, rfl⟩; rw [HT.out.2.2.1]) | (go_at_call 64; refine (Names.value14 (.slice p3 _ _) O _ HG.out.old).mono ?_; rintro e w1 ⟨rfl, rfl⟩; rw [HT.out.2.2.2]) | (go_at_call 118; refine (bare118_of _ _ _ _ _ (⟨4, T, K, V, false, O, TO, M⟩ : POp) _ _ _ _ rfl HG.out).mono ?_; rintro e w1 ⟨rfl, hg⟩))
  go_ret
  refine ⟨?_, by first | exact World.grownBy_alloc _ _ none | exact grown_trans (World.grownBy_alloc _ _ none) (by assumption)⟩
  refine congrArg (fun x => Ending.returned (Value.bool x)) ?_
  simp [dMay, HT.out.1, HT.out.2.1, HT.out.2.2.1, HT.out.2.2.2, *]; try rfl
theorem mayop73_4 (k v ol t : Value) (a : POp) (w : World) (ha : OpSeg w k v ol t a) (hT : Names.tabB a.table = true) (hK : a.kind = 4) :
    Calls Tryz.prog 73 #[opV k v ol t a] w fun e w' => e = .returned (.bool (dMay a)) ∧ w.grownBy w' none := by
  cases hk : Names.keyB a.key
  · exact mayop73_4a k v ol t a w ha hT hK hk
  · cases hv : Names.valueB a.value
    · exact mayop73_4b k v ol t a w ha hT hK hk hv
    · cases ho : Names.valueB a.old
      · exact mayop73_4c k v ol t a w ha hT hK hk hv ho
      · obtain ⟨kk, T, K, V, has, O, TO, M⟩ := a
        simp only at hT hK hk hv ho
        subst hK
        cases has
        · by_cases hO : O = []
          · subst hO
            exact mayop73_4e k v ol t T K V TO M w ha hT hk hv ho
          · exact mayop73_4f k v ol t T K V O TO M w ha hT hk hv ho hO
        · exact mayop73_4d k v ol t T K V O TO M w ha hT hk hv ho
set_option maxRecDepth 100000 in
set_option maxHeartbeats 8000000 in
theorem mayop73_5 (k v ol t : Value) (a : POp) (w : World) (ha : OpSeg w k v ol t a) (hT : Names.tabB a.table = true) (hK : a.kind = 5) :
    Calls Tryz.prog 73 #[opV k v ol t a] w fun e w' => e = .returned (.bool (dMay a)) ∧ w.grownBy w' none := by
  have HT : Hid (Names.tabB a.table = true) := hT
  have HK : Hid (a.kind = 5) := hK
  have HX : Hid (∀ x k v ol t : Value, ∀ p q r : Bool, ∀ w, x = .agg #[.int .i64 5, .string ⟨a.table.toArray⟩, k, v, .bool a.has, ol, t, .int .i64 a.most] → OpSeg w k v ol t a → Calls Tryz.prog 118 #[x, .bool p, .bool q, .bool r] w fun e w' => e = .returned (.bool (bareB a p q r)) ∧ w.grownBy w' none) := fun x k v ol t p q r w h1 h2 => bare118_of x k v ol t a p q r w (by rw [h1, opV, hK]; rfl) h2
  unfold opV Str
  rw [hK]
  have HS : Hid (OpSeg w k v ol t a) := ha
  obtain ⟨p1, p2, p3, p4, r1, r2, r3, r4, rfl, rfl, rfl, rfl⟩ := ha.shapes
  clear ha
  have HG : Hid (OpSeg (w.alloc (.cells #[.int .i64 5, .string ⟨a.table.toArray⟩, .slice p1 a.key.length r1, .slice p2 a.value.length r2, .bool a.has, .slice p3 a.old.length r3, .slice p4 a.to.length r4, .int .i64 a.most] 71)) (.slice p1 a.key.length r1) (.slice p2 a.value.length r2) (.slice p3 a.old.length r3) (.slice p4 a.to.length r4) a) := HS.out.grown (World.grownBy_alloc _ _ none)
  clear hT hK
  go_enter Tryz.func73, Tryz.ntmps73
  go_wp2_with (first | (go_at_call 117; refine (Names.table10 a.table _ HS.out.fits.tl).mono ?_; rintro e w1 ⟨rfl, rfl⟩; rw [HT.out]) | (go_at_call 65; refine (Names.key12 _ a.key _ HG.out.key).mono ?_; rintro e w1 ⟨rfl, rfl⟩) | (go_at_call 64; refine (Names.value14 _ a.value _ HG.out.value).mono ?_; rintro e w1 ⟨rfl, rfl⟩) | (go_at_call 64; refine (Names.value14 _ a.old _ HG.out.old).mono ?_; rintro e w1 ⟨rfl, rfl⟩) | (go_at_call 118; refine (HX.out _ _ _ _ _ _ _ _ _ rfl HG.out).mono ?_; rintro e w1 ⟨rfl, hg⟩))
  all_goals go_ret
  all_goals refine ⟨?_, by first | exact World.grownBy_alloc _ _ none | exact grown_trans (World.grownBy_alloc _ _ none) (by assumption)⟩
  all_goals (refine congrArg (fun x => Ending.returned (Value.bool x)) ?_; simp [dMay, HT.out, HK.out, *]; try rfl)
  all_goals (try (intros; first | omega | (exfalso; omega)))
set_option maxRecDepth 100000 in
set_option maxHeartbeats 8000000 in
theorem mayop73_t (k v ol t : Value) (a : POp) (w : World) (ha : OpSeg w k v ol t a) (hT : Names.tabB a.table = false) :
    Calls Tryz.prog 73 #[opV k v ol t a] w fun e w' => e = .returned (.bool (dMay a)) ∧ w.grownBy w' none := by
  unfold opV Str
  have HS : Hid (OpSeg w k v ol t a) := ha
  have HT : Hid (Names.tabB a.table = false) := hT
  clear hT
  obtain ⟨p1, p2, p3, p4, r1, r2, r3, r4, rfl, rfl, rfl, rfl⟩ := ha.shapes
  clear ha
  go_enter Tryz.func73, Tryz.ntmps73
  go_wp2_with (go_at_call 117; refine (Names.table10 a.table _ HS.out.fits.tl).mono ?_; rintro e w1 ⟨rfl, rfl⟩; rw [HT.out])
  go_ret
  refine ⟨?_, World.grownBy_alloc _ _ none⟩
  refine congrArg (fun x => Ending.returned (Value.bool x)) ?_
  simp [dMay, HT.out]
set_option maxRecDepth 100000 in
set_option maxHeartbeats 8000000 in
theorem mayop73_n (k v ol t : Value) (a : POp) (w : World) (ha : OpSeg w k v ol t a) (hT : Names.tabB a.table = true) (hK : a.kind < 1 ∨ 5 < a.kind) :
    Calls Tryz.prog 73 #[opV k v ol t a] w fun e w' => e = .returned (.bool (dMay a)) ∧ w.grownBy w' none := by
  unfold opV Str
  have HS : Hid (OpSeg w k v ol t a) := ha
  have HT : Hid (Names.tabB a.table = true) := hT
  have k1 : (a.kind = 1) = False := eq_false (by omega)
  have k2 : (a.kind = 2) = False := eq_false (by omega)
  have k3 : (a.kind = 3) = False := eq_false (by omega)
  have k4 : (a.kind = 4) = False := eq_false (by omega)
  have k5 : (a.kind = 5) = False := eq_false (by omega)
  have j1 : (a.kind == 1) = false := by rw [beq_eq_false_iff_ne]; omega
  have j2 : (a.kind == 2) = false := by rw [beq_eq_false_iff_ne]; omega
  have j3 : (a.kind == 3) = false := by rw [beq_eq_false_iff_ne]; omega
  have j4 : (a.kind == 4) = false := by rw [beq_eq_false_iff_ne]; omega
  have j5 : (a.kind == 5) = false := by rw [beq_eq_false_iff_ne]; omega
  clear hT hK
  obtain ⟨p1, p2, p3, p4, r1, r2, r3, r4, rfl, rfl, rfl, rfl⟩ := ha.shapes
  clear ha
  go_enter Tryz.func73, Tryz.ntmps73
  go_wp2_with (go_at_call 117; refine (Names.table10 a.table _ HS.out.fits.tl).mono ?_; rintro e w1 ⟨rfl, rfl⟩; rw [HT.out])
  go_ret
  refine ⟨?_, World.grownBy_alloc _ _ none⟩
  refine congrArg (fun x => Ending.returned (Value.bool x)) ?_
  simp [dMay, HT.out, k1, k2, k3, k4, k5]

theorem mayop73 (k v ol t : Value) (a : POp) (w : World) (ha : OpSeg w k v ol t a) :
    Calls Tryz.prog 73 #[opV k v ol t a] w fun e w' => e = .returned (.bool (mayOp a)) ∧ w.grownBy w' none := by
  rw [← dMay_eq]
  cases hT : Names.tabB a.table
  · exact mayop73_t k v ol t a w ha hT
  · by_cases hn : a.kind < 1 ∨ 5 < a.kind
    · exact mayop73_n k v ol t a w ha hT hn
    · have : a.kind = 1 ∨ a.kind = 2 ∨ a.kind = 3 ∨ a.kind = 4 ∨ a.kind = 5 := by omega
      rcases this with h | h | h | h | h
      · exact mayop73_1 k v ol t a w ha hT h
      · exact mayop73_2 k v ol t a w ha hT h
      · exact mayop73_3 k v ol t a w ha hT h
      · exact mayop73_4 k v ol t a w ha hT h
      · exact mayop73_5 k v ol t a w ha hT h

theorem mayop73_of (x k v ol t : Value) (a : POp) (w : World) (hx : x = opV k v ol t a) (ha : OpSeg w k v ol t a) : Calls Tryz.prog 73 #[x] w fun e w' => e = .returned (.bool (mayOp a)) ∧ w.grownBy w' none := by subst hx; exact mayop73 k v ol t a w ha

set_option maxRecDepth 100000 in
set_option maxHeartbeats 4000000 in
theorem may37 (a : Value) (l : List POp) (w : World) (ha : Ops w a l) : Calls Tryz.prog 37 #[.agg #[a]] w fun e w' => e = .returned (.bool (mayCall l)) ∧ w.grownBy w' none := by
  obtain ⟨ao, n, ca, rfl, hna, la, HA⟩ := ops_open ha
  have HN : Hid (l.length = n) := hna
  clear ha hna
  by_cases hb : n < 1 ∨ 16 < n
  · have HM : Hid (mayCall l = false) := by
      unfold Hid mayCall
      rw [HN.out]
      rcases hb with h | h
      · rw [show decide (1 ≤ n) = false from decide_eq_false (by omega)]; rfl
      · rw [show decide (n ≤ 16) = false from decide_eq_false (by omega)]; simp
    rw [HM.out]
    rcases hb with h | h
    · have i1 : (n : Int) < 1 := by omega
      go_enter Tryz.func37, Tryz.ntmps37
      go_wp2_with fail
      go_ret
      exact ⟨rfl, World.grownBy_alloc _ _ none⟩
    · have i1 : ((n : Int) < 1) = False := eq_false (by omega)
      have i2 : (16 : Int) < (n : Int) := by omega
      go_enter Tryz.func37, Tryz.ntmps37
      go_wp2_with fail
      go_ret
      exact ⟨rfl, World.grownBy_alloc _ _ none⟩
  · have i1 : ((n : Int) < 1) = False := eq_false (by omega)
    have i2 : ((16 : Int) < (n : Int)) = False := eq_false (by omega)
    have n1 : 1 ≤ n := by omega
    have n2 : n ≤ 16 := by omega
    have HM : Hid (mayCall l = l.all mayOp) := by
      unfold Hid mayCall
      rw [HN.out, decide_eq_true n1, decide_eq_true n2]; rfl
    rw [HM.out]
    go_enter Tryz.func37, Tryz.ntmps37
    go_wp2_with fail
    go_loopw [3] (fun i wr => ∃ k : Nat, k ≤ n ∧ i = .int .i64 k ∧ Hid ((l.take k).all mayOp = true) ∧ Hid (Blk wr w.heap.size 24 #[.slice ao n ca] ∧ w.grownBy wr none)) (fun i _ => n - (intOf i).toNat)
    case atStart => exact ⟨0, by omega, rfl, by unfold Hid; simp, heap_alloc_new w _, World.grownBy_alloc _ _ none⟩
    case round =>
      obtain ⟨k, hk, rfl, HT, HR⟩ := hrel
      have c0 := HR.out.1.cell 0
      by_cases hlt : k < n
      · have i3 : (k : Int) < (n : Int) := by omega
        have i0 : (0 : Int) ≤ (k : Int) := by omega
        have hkl : k < l.length := by rw [HN.out]; omega
        obtain ⟨b1, o1, k1, x1, ol1, t1, rfl, h1, s1⟩ := ops_at (HA.out.grown HR.out.2) k hkl
        have HQ : Hid ((l.take (k + 1)).all mayOp = ((l.take k).all mayOp && mayOp l[k])) := all_take mayOp l k hkl
        have HF : Hid (mayOp l[k] = false → l.all mayOp = false) := all_false mayOp l k hkl
        obtain ⟨o, ho⟩ : ∃ o, l[k] = o := ⟨_, rfl⟩
        rw [ho] at h1 s1 HQ HF
        clear ho hkl
        obtain ⟨p1, p2, p3, p4, r1, r2, r3, r4, rfl, rfl, rfl, rfl⟩ := s1.shapes
        have HS : Hid (OpSeg wr (.slice p1 o.key.length r1) (.slice p2 o.value.length r2) (.slice p3 o.old.length r3) (.slice p4 o.to.length r4) o) := s1
        clear s1
        obtain ⟨a0, a1, a2, a3, a4, a5, a6, a7⟩ := h1
        unfold Str at a1
        go_wp2_with (go_at_call 73; refine (mayop73_of _ _ _ _ _ o _ rfl HS.out).mono ?_)
        rintro e w2 ⟨rfl, hg2⟩
        clear c0 a0 a1 a2 a3 a4 a5 a6 a7
        have HR2 : Hid (Blk w2 w.heap.size 24 #[.slice (some ⟨b1, o1, none⟩) n ca] ∧ w.grownBy w2 none) := ⟨HR.out.1.grown hg2 (by simp), grown_trans HR.out.2 hg2⟩
        clear hg2 HR
        cases hm : mayOp o
        · have HZ : Hid (l.all mayOp = false) := HF.out hm
          clear hm
          go_wp2_with fail
          go_ret
          exact ⟨by rw [HZ.out]; rfl, HR2.out.2⟩
        · have HZ : Hid ((l.take (k + 1)).all mayOp = true) := by unfold Hid; rw [HQ.out, HT.out, hm]; rfl
          clear hm
          go_wp2_with fail
          go_roundw
          case rel => exact ⟨k + 1, by omega, by go_num, HZ, HR2⟩
          case measure => simp [intOf]; omega
      · have i3 : ((k : Int) < (n : Int)) = False := eq_false (by omega)
        have HZ : Hid (l.all mayOp = true) := by
          have h := HT.out
          rw [List.take_of_length_le (by rw [HN.out]; omega)] at h
          exact h
        go_wp2_with fail
        go_ret
        exact ⟨by rw [HZ.out]; rfl, HR.out.2⟩
end Go.Proofs.YtfocmbnhkldnfaaGreatDoor
