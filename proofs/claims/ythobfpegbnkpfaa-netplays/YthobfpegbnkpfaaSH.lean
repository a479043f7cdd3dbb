/-
  drop: what is on the way but for some numbers.
-/
import Derived.Test.YthobfpegbnkpfaaSE
import Derived.Test.YthobfpegbnkpfaaSG
namespace Go.Proofs.Ythobfpegbnkpfaa.S
open Go.RowKit Disk Table

set_option maxRecDepth 100000 in
set_option maxHeartbeats 1000000 in
theorem index_nil (bx : Nat) (w : World) : Calls Try.prog 51 #[.slice none 0 0, .func (.func 45) #[] #[.pointer (some ⟨bx, 0, none⟩)]] w fun e w' => e = .returned (.int .i64 (-1)) ∧ w' = w := by
  go_enter Try.func51, Try.ntmps51
  go_wp2_with fail
  go_loopw [8] (fun p wr => p = .int .i64 0 ∧ wr = w) (fun _ _ => 0)
  case atStart => exact ⟨rfl, rfl⟩
  case round =>
    obtain ⟨rfl, rfl⟩ := hrel
    go_wp2_with fail
    go_ret
    first | exact ⟨rfl, rfl⟩ | exact ⟨rfl, trivial⟩ | rfl
set_option maxRecDepth 100000 in
set_option maxHeartbeats 1000000 in
theorem delete_nil (bx : Nat) (w : World) : Calls Try.prog 44 #[.slice none 0 0, .func (.func 45) #[] #[.pointer (some ⟨bx, 0, none⟩)]] w fun e w' => e = .returned (.slice none 0 0) ∧ w' = w := by
  go_enter Try.func44, Try.ntmps44
  go_wp2_with fail
  refine (index_nil bx w).mono ?_
  rintro e w1 ⟨rfl, rfl⟩
  go_wp2_with fail
  go_ret
  exact ⟨rfl, rfl⟩
theorem delete_any (B : Nat) (v : Value) (q : List Pcl) (bx : Nat) (u : Value) (zs : List Int) (w : World) (h : Way w B v q) (hl : q.length ≤ 65536) (hz : Nmb w bx u zs) (hu : ∀ k, u.ownBlock = some k → k < w.heap.size ∧ v.ownBlock ≠ some k) : Calls Try.prog 44 #[v, .func (.func 45) #[] #[.pointer (some ⟨bx, 0, none⟩)]] w fun e w' => ∃ v', e = .returned v' ∧ Way w' B v' (q.filter (keepB zs)) ∧ Fr w w' (fun i => v.ownBlock = some i) ∧ ∀ k, v'.ownBlock = some k → v.ownBlock = some k := by
  rcases h.row.shape with ⟨rfl, e'⟩ | ⟨g, cap, C, rfl, _⟩
  · rw [List.map_eq_nil_iff] at e'
    subst e'
    refine (delete_nil bx w).mono ?_
    rintro e w' ⟨rfl, rfl⟩
    exact ⟨_, rfl, Way.nil _ _, Fr.of (grown_refl _ none) (by simp), fun _ h => h⟩
  · rw [List.length_map] at *
    refine (delete_func B g cap q.length q bx u zs w h rfl hl hz (fun k hk => ⟨(hu k hk).1, fun e => (hu k hk).2 (by rw [e]; rfl)⟩)).mono ?_
    rintro e w' ⟨m, rfl, hm, hw, hg⟩
    exact ⟨_, rfl, hw, Fr.of hg (by intro k hk; simp at hk; subst hk; rfl), fun k hk => hk⟩

set_option maxRecDepth 100000 in
set_option maxHeartbeats 2000000 in
theorem drop_yes (b B : Nat) (v : Value) (q : List Pcl) (s : Int) (u : Value) (zs : List Int) (w : World) (h : Net w b B v q s) (hu : Rd w u (zs.map (Value.int .i64))) (hp : zs.Pairwise (· < ·)) (hl : zs.length ≤ 65536) (hk : ∀ k, u.ownBlock = some k → k < w.heap.size ∧ v.ownBlock ≠ some k) : Calls Try.prog 35 #[.pointer (some ⟨b, 0, none⟩), u] w fun e w' => e = .returned (.int .i64 ((q.length : Int) - ((q.filter (keepB zs)).length : Nat))) ∧ NetTo w b B v w' (q.filter (keepB zs)) s := by
  obtain ⟨ao, cap, rfl⟩ := h.way.sl
  obtain ⟨uo, uc, rfl⟩ := hu.shape
  rw [List.length_map] at hu hk ⊢
  obtain ⟨n, hn⟩ : ∃ n, q.length = n := ⟨_, rfl⟩
  obtain ⟨zn, hzn⟩ : ∃ n, zs.length = n := ⟨_, rfl⟩
  rw [hn] at hk
  rw [hzn] at hu hk ⊢
  have HN : Hid (Net w b B (.slice ao n cap) q s ∧ Rd w (.slice uo zn uc) (zs.map (Value.int .i64)) ∧ zs.Pairwise (· < ·) ∧ zs.length ≤ 65536 ∧ (∀ k, (Value.slice uo zn uc).ownBlock = some k → k < w.heap.size ∧ (Value.slice ao n cap).ownBlock ≠ some k) ∧ q.length = n ∧ n ≤ 65536) := ⟨by rw [← hn]; exact h, hu, hp, hl, hk, hn, by have := h.len; omega⟩
  have HSS : Hid ((Value.slice ao q.length cap) = .slice ao n cap) := by rw [hn]; rfl
  rw [HSS.out]
  obtain ⟨m, hm⟩ : ∃ m, (q.filter (keepB zs)).length = m := ⟨_, rfl⟩
  have HM : Hid ((q.filter (keepB zs)).length = m ∧ m ≤ n) := ⟨hm, by rw [← hm, ← hn]; exact List.length_filter_le _ _⟩
  clear h hu hp hl hk hzn hm
  rw [hn, HM.out.1]
  clear hn
  go_enter Try.func35, Try.ntmps35
  go_upto_region 1 with fail
  obtain ⟨w1, hw1, H1⟩ := al1 w #[.slice uo zn uc] 64
  obtain ⟨bx, hbx⟩ : ∃ x, w.heap.size = x := ⟨_, rfl⟩
  rw [hw1]
  rw [hbx] at H1 ⊢
  have HB : Hid (Nmb w1 bx (.slice uo zn uc) zs ∧ Net w1 b B (.slice ao n cap) q s ∧ w.grownBy w1 none ∧ ∀ k, (Value.slice uo zn uc).ownBlock = some k → k < w1.heap.size ∧ (Value.slice ao n cap).ownBlock ≠ some k) := ⟨⟨H1.out.1, HN.out.2.1.grown H1.out.2.1, HN.out.2.2.1, HN.out.2.2.2.1⟩, HN.out.1.grown H1.out.2.1, H1.out.2.1, fun k hk => ⟨by have h1 := (HN.out.2.2.2.2.1 k hk).1; have h2 := H1.out.2.1.size; omega, (HN.out.2.2.2.2.1 k hk).2⟩⟩
  clear hw1 hbx H1
  have c1 := HB.out.2.1.blk.cell 1
  simp at c1
  go_wp2_with fail
  refine (delete_any B (.slice ao n cap) q bx (.slice uo zn uc) zs w1 HB.out.2.1.way (by have := HN.out; omega) HB.out.1 HB.out.2.2.2).mono ?_
  rintro e w2 ⟨v', rfl, hw2, hf2, hv2⟩
  obtain ⟨po, pc, rfl⟩ := hw2.sl
  rw [HM.out.1] at hw2 hv2 ⊢
  have H2 : Hid (Way w2 B (.slice po m pc) (q.filter (keepB zs)) ∧ Fr w1 w2 (fun i => (Value.slice ao n cap).ownBlock = some i) ∧ (∀ k, (Value.slice po m pc).ownBlock = some k → (Value.slice ao n cap).ownBlock = some k) ∧ Blk w2 b 58 #[.bool true, .slice ao n cap, .int .i64 s]) := by
    refine ⟨hw2, hf2, hv2, HB.out.2.1.blk.same (hf2.block b HB.out.2.1.blk.lt fun e => ?_)⟩
    obtain ⟨C, hC⟩ := HB.out.2.1.way.row.blk b e
    exact absurd (blk_type HB.out.2.1.blk hC) (by decide)
  clear hw2 hf2 hv2 c1
  have c1 := H2.out.2.2.2.cell 1
  have f1 := H2.out.2.2.2.free 1
  simp at c1
  have wsb : IntKind.i64.wrap ((n : Int) - (m : Int)) = (n : Int) - (m : Int) := by have := HN.out; have := HM.out; rw [IntKind.wrap_i64]; omega
  go_upto_region 3 with fail
  clear c1 f1
  obtain ⟨W, hW⟩ : ∃ W, w2.setCell ⟨b, 1, none⟩ (.slice po m pc) = W := ⟨_, rfl⟩
  have HW : Hid (Blk W b 58 #[.bool true, .slice po m pc, .int .i64 s] ∧ w2.grownBy W (some b)) := by
    rw [← hW]
    exact ⟨H2.out.2.2.2.store 1 _, grown_setCell _ _ _ _⟩
  rw [hW]
  clear hW
  have c1 := HW.out.1.cell 1
  simp at c1
  go_wp2_with fail
  go_ret
  refine ⟨rfl, _, ⟨HW.out.1, H2.out.1.same (fun k hk => ?_) (fun i c hc => ?_), ?_, HN.out.1.asc.sublist List.filter_sublist, fun a ha => HN.out.1.top a (List.mem_filter.1 ha).1, HN.out.1.low⟩, ?_, fun k hk => .inl (H2.out.2.2.1 k hk)⟩
  · obtain ⟨C, hC⟩ := H2.out.1.row.blk k hk
    refine HW.out.2.block k hC.lt fun e => ?_
    simp at e
    subst e
    exact absurd (blk_type hC H2.out.2.2.2) (by decide)
  · refine hc.grown HW.out.2 fun e => ?_
    simp at e
    subst e
    exact absurd (blk_type hc H2.out.2.2.2) (by decide)
  · have h1 := HM.out; have h2 := HN.out; omega
  · exact ((Fr.of (F := FN b (.slice ao n cap)) HB.out.2.2.1 (by simp)).trans H2.out.2.1 (fun i hi => .inl (.inr hi))).trans (Fr.of (F := fun i => i = b) HW.out.2 (by intro k hk; simpa using hk.symm)) (fun i hi => .inl (.inl hi))
end Go.Proofs.Ythobfpegbnkpfaa.S
