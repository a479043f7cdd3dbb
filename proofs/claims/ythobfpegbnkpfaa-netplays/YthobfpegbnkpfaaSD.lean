/-
  What is dropped by numbers.
-/
import Derived.Test.YthobfpegbnkpfaaSC
import Derived.Test.YthobfpegbnkpfaaNc
namespace Go.Proofs.Ythobfpegbnkpfaa.S
open Go.RowKit Disk

/-- What the closure of drop knows: the numbers' box. -/
structure Nmb (w : World) (bx : Nat) (u : Value) (zs : List Int) : Prop where
  box : Blk w bx 64 #[u]
  rd : Rd w u (zs.map (Value.int .i64))
  asc : zs.Pairwise (· < ·)
  len : zs.length ≤ 65536
theorem Nmb.grown {w w' : World} {bx : Nat} {u : Value} {zs : List Int} (h : Nmb w bx u zs) (hg : w.grownBy w' none) : Nmb w' bx u zs := ⟨h.box.grown hg (by simp), h.rd.grown hg, h.asc, h.len⟩
theorem Nmb.but {w w' : World} {bx g t : Nat} {C : Array Value} {u : Value} {zs : List Int} (h : Nmb w bx u zs) (hg : w.grownBy w' (some g)) (hb : Blk w g t C) (h1 : t ≠ 64) (h2 : u.ownBlock ≠ some g) (hu : ∀ k, u.ownBlock = some k → k < w.heap.size) : Nmb w' bx u zs :=
  ⟨h.box.grown hg (fun e => by simp at e; subst e; exact h1 (blk_type hb h.box)), h.rd.kept fun k hk => hg.block k (hu k hk) (fun e => h2 (by rw [hk]; simp at e; rw [e])), h.asc, h.len⟩

set_option maxRecDepth 100000 in
set_option maxHeartbeats 1000000 in
theorem dropped (bx p : Nat) (u : Value) (zs : List Int) (k : Int) (x : Value) (w : World) (h : Nmb w bx u zs) (hp : Blk w p 61 #[.int .i64 k, x]) : Calls Try.prog 45 #[.pointer (some ⟨p, 0, none⟩), .pointer (some ⟨bx, 0, none⟩)] w fun e w' => e = .returned (.bool (decide (k ∈ zs))) ∧ w.grownBy w' none := by
  have HN : Hid (Nmb w bx u zs ∧ Blk w p 61 #[.int .i64 k, x]) := ⟨h, hp⟩
  clear h hp
  go_enter Try.func45, Try.ntmps45
  go_upto_region 1 with fail
  refine wp_region_hold 1000 (fun y => w.grownBy y none) (by kernel_rfl) ?_
  have HD : Hid (w.grownBy w.drew none) := grown_drew _ _
  generalize w.drew = wd at HD ⊢
  have J : Idx [0, 1, 2, 3, 4] := trivial
  iterate 5 (refine tk J (HD.out) rfl rfl (fun wk hk => by have k1 := (HN.out.1.box.grown hk (by simp)).cell 0; have k2 := (HN.out.2.grown hk (by simp)).cell 0; simp at k1 k2; go_simp; try rfl) ?_; replace J := J.tl; try simp only [Act.put, List.setIfInBounds_toArray, List.set_cons_zero, List.set_cons_succ])
  clear J
  refine wpHold_one (i := 5) rfl (by kernel_rfl) (by rfl) (fun K hK => ?_)
  go_wp2_with fail
  refine (search46 u zs k wd (HN.out.1.rd.grown HD.out) HN.out.1.asc HN.out.1.len).mono ?_
  rintro e w2 ⟨i, rfl, rfl⟩
  go_wp2_with fail
  refine hK.out _ _ (fun _ => HD.out) ?_
  clear hK K
  try simp only [Act.put, List.setIfInBounds_toArray, List.set_cons_zero, List.set_cons_succ]
  have J : Idx [6, 7, 8, 9, 10] := trivial
  iterate 5 (refine tk J (HD.out) rfl rfl (fun wk hk => by have k1 := (HN.out.1.box.grown hk (by simp)).cell 0; have k2 := (HN.out.2.grown hk (by simp)).cell 0; simp at k1 k2; go_simp; try rfl) ?_; replace J := J.tl; try simp only [Act.put, List.setIfInBounds_toArray, List.set_cons_zero, List.set_cons_succ])
  clear J
  refine wpHold_done (by kernel_rfl) ?_
  refine (‹∀ (a : Act) (w : World), Code.wp Try.prog _ _ a w → _› _ _ ?_)
  go_wp2_with fail
  go_ret
  exact ⟨rfl, HD.out⟩
end Go.Proofs.Ythobfpegbnkpfaa.S
