/-
  Texts are read: Parse.
-/
import Derived.Test.YtfocmbnhkldnfaaGreatDoorY
import Derived.Test.YtfocmbnhkldnfaaGreatDoorO
namespace Go.Proofs.YtfocmbnhkldnfaaGreatDoor
open Go.RowKit Disk
open Names (Str)

def wOpT (p : Bs) : Option POp := wOp (Lib.split p [32])
def wOps : List Bs → Option (List POp)
  | [] => some []
  | p :: r => (wOpT p).bind fun o => (wOps r).bind fun l => some (o :: l)
theorem wOps_snoc : ∀ (A : List Bs) (p : Bs) (xs : List POp), wOps A = some xs → wOps (A ++ [p]) = (wOpT p).bind fun o => some (xs ++ [o])
  | [], p, xs, h => by
    simp [wOps] at h
    subst h
    simp only [List.nil_append, wOps]
    cases wOpT p <;> rfl
  | a :: A, p, xs, h => by
    rw [wOps] at h
    cases ha : wOpT a with
    | none => rw [ha] at h; cases h
    | some o =>
      rw [ha] at h
      simp only [Option.bind_some] at h
      cases hr : wOps A with
      | none => rw [hr] at h; cases h
      | some l =>
        rw [hr] at h
        simp at h
        subst h
        rw [List.cons_append, wOps, ha]
        simp only [Option.bind_some]
        rw [wOps_snoc A p l hr]
        cases wOpT p <;> simp
theorem wOps_none : ∀ (A : List Bs) (p : Bs) (R : List Bs) (xs : List POp), wOps A = some xs → wOpT p = none → wOps (A ++ p :: R) = none
  | [], p, R, xs, h, hp => by simp [wOps, hp]
  | a :: A, p, R, xs, h, hp => by
    rw [wOps] at h
    cases ha : wOpT a with
    | none => rw [ha] at h; cases h
    | some o =>
      rw [ha] at h
      simp only [Option.bind_some] at h
      cases hr : wOps A with
      | none => rw [hr] at h; cases h
      | some l =>
        rw [List.cons_append, wOps, ha]
        simp only [Option.bind_some]
        rw [wOps_none A p R l hr hp]
        rfl
theorem wOps_len : ∀ (A : List Bs) (xs : List POp), wOps A = some xs → xs.length = A.length
  | [], xs, h => by simp [wOps] at h; subst h; rfl
  | a :: A, xs, h => by
    rw [wOps] at h
    cases ha : wOpT a with
    | none => rw [ha] at h; cases h
    | some o =>
      rw [ha] at h
      simp only [Option.bind_some] at h
      cases hr : wOps A with
      | none => rw [hr] at h; cases h
      | some l =>
        rw [hr] at h
        simp at h
        subst h
        simp [wOps_len A l hr]
/-- The call that a text says. -/
def pParse (s : Bs) : Option (List POp) := (wOps (Lib.split s [59, 32])).bind fun l => if chk l = 0 then some l else none

set_option maxRecDepth 100000 in
set_option maxHeartbeats 8000000 in
theorem parse52 (p : Nat) (s : Bs) (w : World) (hz : s.length ≤ 20000) (hE : EnvF w) (hp : w.cell? ⟨p, 0, none⟩ = some (.string ⟨s.toArray⟩)) :
    Calls Tryz.prog 52 #[.pointer (some ⟨p, 0, none⟩)] w (Within w (fun u w' => ∃ l x, pParse s = some l ∧ u = .agg #[x] ∧ OpsOwn w' w.heap.size x l) (fun c _ => pParse s = none ∧ c = 4)) := by
  have HE : Hid (EnvF w) := hE
  have h9 := hE.sz
  have kp : ∀ o1 o2, ((w.alloc o1).alloc o2).cell? ⟨p, 0, none⟩ = some (.string ⟨s.toArray⟩) := fun o1 o2 => grown_fun (grown_trans (World.grownBy_alloc _ _ none) (World.grownBy_alloc _ _ none)) hp
  clear hE hp
  obtain ⟨L, hL⟩ : ∃ L, L = Lib.split s [59, 32] := ⟨_, rfl⟩
  have HPL : Hid (pParse s = (wOps L).bind fun l => if chk l = 0 then some l else none) := by rw [hL]; rfl
  have HLL : Hid (∀ x ∈ L, x.length ≤ 20000) := by rw [hL]; exact fun x hx => Nat.le_trans (splitK_le _ _ _ x hx) hz
  go_enter Tryz.func52, Tryz.ntmps52
  go_wp2_with (go_at_call 53; refine (split53 s [59, 32] _ hz (by decide) (HE.out.grown (grown_trans (World.grownBy_alloc _ _ none) (World.grownBy_alloc _ _ none)))).mono ?_)
  rw [← hL]
  rintro e w1 ⟨n, hn, hn2, rfl, rfl⟩
  have HNL : Hid (n = L.length) := hn
  clear hn hL kp
  obtain ⟨W0, hW0⟩ : ∃ W, W = ((w.alloc (.cells #[.slice none 0 0] 24)).alloc (.cells #[.slice none 0 0] 24)).alloc (.cells (L.map Str).toArray 9) := ⟨_, rfl⟩
  have HG : Hid (Blk W0 w.heap.size 24 #[.slice none 0 0] ∧ Blk W0 (w.heap.size + 1) 24 #[.slice none 0 0] ∧ Blk W0 (w.heap.size + 1 + 1) 9 (L.map Str).toArray ∧ w.grownBy W0 none) := by
    rw [hW0]
    refine ⟨Blk.grown (Blk.grown (heap_alloc_new w _) (World.grownBy_alloc _ _ none) (by simp)) (World.grownBy_alloc _ _ none) (by simp), Blk.grown ?_ (World.grownBy_alloc _ _ none) (by simp), ?_, grown3 _ _ _ _⟩
    · have := heap_alloc_new (w.alloc (.cells #[.slice none 0 0] 24)) (.cells #[.slice none 0 0] 24)
      simpa [Blk] using this
    · have := heap_alloc_new ((w.alloc (.cells #[.slice none 0 0] 24)).alloc (.cells #[.slice none 0 0] 24)) (.cells (L.map Str).toArray 9)
      simpa [Blk] using this
  go_wp2_with fail
  rw [← hW0]
  clear hW0
  go_loopw [8] (fun i wr => ∃ (k : Nat) (xs : List POp) (v : Value), k ≤ n ∧ i = .int .i64 k ∧ Hid (wOps (L.take k) = some xs) ∧ OpsOwn wr w.heap.size v xs ∧ Blk wr w.heap.size 24 #[.slice none 0 0] ∧ Blk wr (w.heap.size + 1) 24 #[v] ∧ Blk wr (w.heap.size + 1 + 1) 9 (L.map Str).toArray ∧ w.grownBy wr none) (fun i _ => n - (intOf i).toNat)
  case atStart => exact ⟨0, [], _, by omega, rfl, rfl, ⟨lrow_nil _ _, by simp⟩, HG.out.1, HG.out.2.1, HG.out.2.2.1, HG.out.2.2.2⟩
  case round =>
    obtain ⟨k, xs, v, hk, rfl, hp, hown, hb0, hb1, hb2, hg⟩ := hrel
    have hxl : xs.length = k := by rw [wOps_len _ _ hp.out, List.length_take, ← HNL.out]; omega
    obtain ⟨xa, na, ya, rfl, hna⟩ := hown.slice
    clear hna
    by_cases hlt : k < n
    · have hkl : k < L.length := by rw [← HNL.out]; omega
      have c2 := hb2.cell k
      have c2' : wr.cell? ⟨w.heap.size + 1 + 1, k, none⟩ = some (.string ⟨L[k].toArray⟩) := by rw [c2]; simp [hkl, Str]
      have HT : Hid (L.take (k + 1) = L.take k ++ [L[k]]) := take_snoc L k hkl
      have HD : Hid (L = L.take k ++ L[k] :: L.drop (k + 1)) := by
        unfold Hid
        conv => lhs; rw [← List.take_append_drop k L, List.drop_eq_getElem_cons hkl]
      have HQ : Hid (L[k].length ≤ 20000) := HLL.out _ (List.getElem_mem hkl)
      obtain ⟨q, hq⟩ : ∃ q, q = L[k] := ⟨_, rfl⟩
      rw [← hq] at c2' HT HD HQ
      have HX : Hid (xs.length = k) := hxl
      have i1 : (0 : Int) ≤ (k : Int) := by omega
      have i2 : (k : Int) < (n : Int) := by omega
      have HO : Hid (OpsOwn wr w.heap.size (.slice xa na ya) xs ∧ Blk wr w.heap.size 24 #[.slice none 0 0] ∧ Blk wr (w.heap.size + 1) 24 #[.slice xa na ya] ∧ Blk wr (w.heap.size + 1 + 1) 9 (L.map Str).toArray ∧ w.grownBy wr none) := ⟨hown, hb0, hb1, hb2, hg⟩
      clear hq c2 hown hb0 hb1 hb2 hg hkl hxl
      go_wp2_with fail
      refine wp_region_hold 7 (fun x => x.cell? ⟨w.heap.size + 1, 0, none⟩ = some (.slice xa na ya)) (by kernel_rfl) ?_
      refine wpHold_take (i := 0) (v := _) (HO.out.2.2.1.cell 0) rfl rfl (by kernel_rfl) (by kernel_rfl) (by kernel_rfl) (by kernel_rfl) (by kernel_rfl) (fun _ _ _ h => h) (by rfl) (fun wk hk => by skip; go_simp; try rfl) ?_
      try simp only [Act.put, List.setIfInBounds_toArray, List.set_cons_zero, List.set_cons_succ]
      refine wpHold_take (i := 1) (v := _) (HO.out.2.2.1.cell 0) rfl rfl (by kernel_rfl) (by kernel_rfl) (by kernel_rfl) (by kernel_rfl) (by kernel_rfl) (fun _ _ _ h => h) (by rfl) (fun wk hk => by skip; go_simp; try rfl) ?_
      try simp only [Act.put, List.setIfInBounds_toArray, List.set_cons_zero, List.set_cons_succ]
      refine wpHold_take (i := 2) (v := _) (HO.out.2.2.1.cell 0) rfl rfl (by kernel_rfl) (by kernel_rfl) (by kernel_rfl) (by kernel_rfl) (by kernel_rfl) (fun _ _ _ h => h) (by rfl) (fun wk hk => by skip; go_simp; try rfl) ?_
      try simp only [Act.put, List.setIfInBounds_toArray, List.set_cons_zero, List.set_cons_succ]
      refine wpHold_one (i := 3) rfl (by kernel_rfl) (by rfl) (fun K hK => ?_)
      go_wp2_with (go_at_call 54; refine (opof54 q _ HQ.out ((HE.out.grown HO.out.2.2.2.2).grown (grown_drew _ _))).mono ?_)
      intro e w1 h
      rcases h.symm with ⟨hx, rfl, hg⟩ | ⟨o, kk, x, ol, t, hx, rfl, ho, hg⟩
      · have F : Hid (pParse s = none ∧ w.grownBy w1 none) := by
          refine ⟨?_, grown_trans HO.out.2.2.2.2 (grown_trans (grown_drew _ _) hg)⟩
          rw [HPL.out, HD.out, wOps_none (L.take k) q _ xs hp.out hx]
          rfl
        clear hx hg h hK
        unfold Pan
        go_wp2_with fail
        exact ⟨rfl, .inr ⟨4, rfl, ⟨F.out.1, rfl⟩, F.out.2⟩⟩
      clear h
      obtain ⟨xb, nb, yb, rfl⟩ := cut_slice ho.key
      obtain ⟨xc, nc, yc, rfl⟩ := cut_slice ho.value
      obtain ⟨xd, nd, yd, rfl⟩ := cut_slice ho.old
      obtain ⟨xe, ne, ye, rfl⟩ := cut_slice ho.tos
      have hg' : wr.grownBy w1 none := grown_trans (grown_drew _ _) hg
      have H1 : Hid (OpsOwn w1 w.heap.size (.slice xa na ya) xs ∧ Blk w1 w.heap.size 24 #[.slice none 0 0] ∧ Blk w1 (w.heap.size + 1) 24 #[.slice xa na ya] ∧ Blk w1 (w.heap.size + 1 + 1) 9 (L.map Str).toArray ∧ w.grownBy w1 none ∧ OpOwn w1 w.heap.size (.slice xb nb yb) (.slice xc nc yc) (.slice xd nd yd) (.slice xe ne ye) o) := ⟨HO.out.1.grown hg', HO.out.2.1.grown hg' (by simp), HO.out.2.2.1.grown hg' (by simp), HO.out.2.2.2.1.grown hg' (by simp), grown_trans HO.out.2.2.2.2 hg', ho.mono (by have := HO.out.2.2.2.2.size; simpa using this)⟩
      have HPX : Hid (wOps (L.take (k + 1)) = some (xs ++ [o])) := by
        have h1 : wOpT q = some o := hx
        rw [HT.out, wOps_snoc (L.take k) q xs hp.out, h1]
        rfl
      clear hx hg ho hg'
      unfold opV Str
      go_wp2_with fail
      refine hK.out _ _ (fun _ => H1.out.2.2.1.cell 0) ?_
      clear hK K
      try simp only [Act.put, List.setIfInBounds_toArray, List.set_cons_zero, List.set_cons_succ]
      refine wpHold_one (i := 4) rfl (by kernel_rfl) (by rfl) (fun K hK => ?_)
      go_wp2_with fail
      have H2 : Hid (OpsOwn (w1.alloc (.cells #[.int .i64 o.kind, .string ⟨o.table.toArray⟩, .slice xb nb yb, .slice xc nc yc, .bool o.has, .slice xd nd yd, .slice xe ne ye, .int .i64 o.most] 71)) w.heap.size (.slice xa na ya) xs ∧ Blk (w1.alloc (.cells #[.int .i64 o.kind, .string ⟨o.table.toArray⟩, .slice xb nb yb, .slice xc nc yc, .bool o.has, .slice xd nd yd, .slice xe ne ye, .int .i64 o.most] 71)) w.heap.size 24 #[.slice none 0 0] ∧ Blk (w1.alloc (.cells #[.int .i64 o.kind, .string ⟨o.table.toArray⟩, .slice xb nb yb, .slice xc nc yc, .bool o.has, .slice xd nd yd, .slice xe ne ye, .int .i64 o.most] 71)) (w.heap.size + 1) 24 #[.slice xa na ya] ∧ Blk (w1.alloc (.cells #[.int .i64 o.kind, .string ⟨o.table.toArray⟩, .slice xb nb yb, .slice xc nc yc, .bool o.has, .slice xd nd yd, .slice xe ne ye, .int .i64 o.most] 71)) (w.heap.size + 1 + 1) 9 (L.map Str).toArray ∧ w.grownBy (w1.alloc (.cells #[.int .i64 o.kind, .string ⟨o.table.toArray⟩, .slice xb nb yb, .slice xc nc yc, .bool o.has, .slice xd nd yd, .slice xe ne ye, .int .i64 o.most] 71)) none ∧ OpOwn (w1.alloc (.cells #[.int .i64 o.kind, .string ⟨o.table.toArray⟩, .slice xb nb yb, .slice xc nc yc, .bool o.has, .slice xd nd yd, .slice xe ne ye, .int .i64 o.most] 71)) w.heap.size (.slice xb nb yb) (.slice xc nc yc) (.slice xd nd yd) (.slice xe ne ye) o ∧ Blk (w1.alloc (.cells #[.int .i64 o.kind, .string ⟨o.table.toArray⟩, .slice xb nb yb, .slice xc nc yc, .bool o.has, .slice xd nd yd, .slice xe ne ye, .int .i64 o.most] 71)) w1.heap.size 71 #[.int .i64 o.kind, .string ⟨o.table.toArray⟩, .slice xb nb yb, .slice xc nc yc, .bool o.has, .slice xd nd yd, .slice xe ne ye, .int .i64 o.most]) := by
        have hg := World.grownBy_alloc w1 (.cells #[.int .i64 o.kind, .string ⟨o.table.toArray⟩, .slice xb nb yb, .slice xc nc yc, .bool o.has, .slice xd nd yd, .slice xe ne ye, .int .i64 o.most] 71) none
        exact ⟨H1.out.1.grown hg, H1.out.2.1.grown hg (by simp), H1.out.2.2.1.grown hg (by simp), H1.out.2.2.2.1.grown hg (by simp), grown_trans H1.out.2.2.2.2.1 hg, H1.out.2.2.2.2.2.grown hg, heap_alloc_new _ _⟩
      clear H1
      refine hK.out _ _ (fun _ => H2.out.2.2.1.cell 0) ?_
      clear hK K
      try simp only [Act.put, List.setIfInBounds_toArray, List.set_cons_zero, List.set_cons_succ]
      refine wpHold_one (i := 5) rfl (by kernel_rfl) (by rfl) (fun K hK => ?_)
      refine app71_wp _ (.tmp 13) (.tmp 16) rfl w.heap.size (.slice xa na ya) xs o _ _ _ _ _ rfl rfl H2.out.1 H2.out.2.2.2.2.2.2 H2.out.2.2.2.2.2.1 (by have := HX.out; omega) H2.out.2.2.2.2.1.size ?_
      intro g' cap' w3 o3 g3 l3
      have H3 : Hid (OpsOwn w3 w.heap.size (.slice (some ⟨g', 0, none⟩) (xs.length + 1) cap') (xs ++ [o]) ∧ Blk w3 w.heap.size 24 #[.slice none 0 0] ∧ Blk w3 (w.heap.size + 1) 24 #[.slice xa na ya] ∧ Blk w3 (w.heap.size + 1 + 1) 9 (L.map Str).toArray ∧ w.grownBy w3 none) := by
        obtain ⟨vs, hvs, _⟩ := H2.out.1.1
        have ne : ∀ {b t c}, Blk (w1.alloc (.cells #[.int .i64 o.kind, .string ⟨o.table.toArray⟩, .slice xb nb yb, .slice xc nc yc, .bool o.has, .slice xd nd yd, .slice xe ne ye, .int .i64 o.most] 71)) b t c → t ≠ 71 → Value.ownBlock (.slice xa na ya) ≠ some b := fun hb ht e => by
          obtain ⟨cur, hc⟩ := owns_blk hvs e
          exact ht (blk_type hb hc)
        exact ⟨o3, H2.out.2.1.grown g3 (ne H2.out.2.1 (by decide)), H2.out.2.2.1.grown g3 (ne H2.out.2.2.1 (by decide)), H2.out.2.2.2.1.grown g3 (ne H2.out.2.2.2.1 (by decide)), grown_new H2.out.2.2.2.2.1 g3 (fun y hy => (H2.out.1.1.lt y hy).1)⟩
      clear o3 g3 l3 H2
      rw [HX.out]
      refine hK.out _ _ (fun _ => H3.out.2.2.1.cell 0) ?_
      clear hK K
      try simp only [Act.put, List.setIfInBounds_toArray, List.set_cons_zero, List.set_cons_succ]
      refine wpHold_take (i := 6) (v := _) (H3.out.2.2.1.cell 0) rfl rfl (by kernel_rfl) (by kernel_rfl) (by kernel_rfl) (by kernel_rfl) (by kernel_rfl) (fun _ _ _ h => h) (by rfl) (fun wk hk => by skip; go_simp; try rfl) ?_
      try simp only [Act.put, List.setIfInBounds_toArray, List.set_cons_zero, List.set_cons_succ]
      refine wpHold_one (i := 7) rfl (by kernel_rfl) (by rfl) (fun K hK => ?_)
      have cc := H3.out.2.2.1.cell 0
      have zz := H3.out.2.2.1.free 0
      go_wp2_with fail
      refine hK.out _ _ (fun h => absurd rfl h) ?_
      clear hK K cc zz
      try simp only [Act.put, List.setIfInBounds_toArray, List.set_cons_zero, List.set_cons_succ]
      refine wpHold_done (by kernel_rfl) ?_
      refine (‹∀ (a : Act) (w : World), Code.wp Tryz.prog _ _ a w → _› _ _ ?_)
      have H4 : Hid (OpsOwn (w3.setCell ⟨w.heap.size + 1, 0, none⟩ (.slice (some ⟨g', 0, none⟩) (k + 1) cap')) w.heap.size (.slice (some ⟨g', 0, none⟩) (k + 1) cap') (xs ++ [o]) ∧ Blk (w3.setCell ⟨w.heap.size + 1, 0, none⟩ (.slice (some ⟨g', 0, none⟩) (k + 1) cap')) w.heap.size 24 #[.slice none 0 0] ∧ Blk (w3.setCell ⟨w.heap.size + 1, 0, none⟩ (.slice (some ⟨g', 0, none⟩) (k + 1) cap')) (w.heap.size + 1) 24 #[.slice (some ⟨g', 0, none⟩) (k + 1) cap'] ∧ Blk (w3.setCell ⟨w.heap.size + 1, 0, none⟩ (.slice (some ⟨g', 0, none⟩) (k + 1) cap')) (w.heap.size + 1 + 1) 9 (L.map Str).toArray ∧ w.grownBy (w3.setCell ⟨w.heap.size + 1, 0, none⟩ (.slice (some ⟨g', 0, none⟩) (k + 1) cap')) none) := by
        have hg := grown_setCell w3 (w.heap.size + 1) 0 (.slice (some ⟨g', 0, none⟩) (k + 1) cap')
        have h1 := H3.out.1
        rw [HX.out] at h1
        exact ⟨h1.set H3.out.2.2.1 (by decide) (by decide) hg, H3.out.2.1.grown hg (by simp), H3.out.2.2.1.store 0 _, H3.out.2.2.2.1.grown hg (by simp), grown_new H3.out.2.2.2.2 hg (fun y hy => by simp at hy; omega)⟩
      go_wp2_with fail
      go_roundw
      case rel => exact ⟨k + 1, xs ++ [o], _, by omega, by go_num, HPX.out, H4.out.1, H4.out.2.1, H4.out.2.2.1, H4.out.2.2.2.1, H4.out.2.2.2.2⟩
      case measure => simp [intOf]; omega
    · have e : k = n := by omega
      subst e
      have HX : Hid (pParse s = if chk xs = 0 then some xs else none) := by
        have h1 := hp.out
        rw [List.take_of_length_le (by rw [← HNL.out]; omega)] at h1
        rw [HPL.out, h1]
        rfl
      have HO : Hid (OpsOwn wr w.heap.size (.slice xa na ya) xs ∧ Blk wr w.heap.size 24 #[.slice none 0 0] ∧ Blk wr (w.heap.size + 1) 24 #[.slice xa na ya] ∧ w.grownBy wr none) := ⟨hown, hb0, hb1, hg⟩
      have c1 := hb1.cell 0
      clear hown hb0 hb1 hb2 hg hxl
      go_wp2_with (go_at_call 16; refine (check16 _ xs _ HO.out.1.ops).mono ?_)
      rintro e w1 ⟨rfl, hg⟩
      have H1 : Hid (OpsOwn w1 w.heap.size (.slice xa na ya) xs ∧ Blk w1 w.heap.size 24 #[.slice none 0 0] ∧ Blk w1 (w.heap.size + 1) 24 #[.slice xa na ya] ∧ w.grownBy w1 none) := ⟨HO.out.1.grown hg, HO.out.2.1.grown hg (by simp), HO.out.2.2.1.grown hg (by simp), grown_trans HO.out.2.2.2 hg⟩
      clear hg c1
      have c1 := H1.out.2.2.1.cell 0
      have c0 := H1.out.2.1.cell 0
      have z0 := H1.out.2.1.free 0
      by_cases h0 : chk xs = 0
      · have HC : Hid (pParse s = some xs) := by rw [HX.out, if_pos h0]; rfl
        rw [h0]
        go_wp2_with (go_at_call 55; refine (sure_yes _ _).mono ?_; rintro e w2 ⟨rfl, hw2⟩; rw [hw2]; clear hw2)
        have hb := H1.out.2.1.store 0 (.slice xa na ya)
        refine bodyPost_ret (v := _) (results_cell_row rfl _ _ w.heap.size 24 _ (0, 0) _ rfl hb Tryz.underlying24 rfl (by kernel_rfl)) rfl ?_
        exact .inl ⟨_, rfl, ⟨xs, _, HC.out, rfl, H1.out.1.set H1.out.2.1 (by decide) (by decide) (grown_setCell _ _ _ _)⟩, grown_new H1.out.2.2.2 (grown_setCell _ _ _ _) (fun y hy => by simp at hy; omega)⟩
      · have HC : Hid (pParse s = none) := by rw [HX.out, if_neg h0]; rfl
        have q0 : (chk xs == 0) = false := by simp [h0]
        go_wp2_with (go_at_call 55; refine (sure_no _ _).mono ?_; rintro e w2 ⟨rfl, hw2⟩; rw [hw2]; clear hw2; unfold Pan)
        exact ⟨rfl, .inr ⟨4, rfl, ⟨HC.out, rfl⟩, H1.out.2.2.2⟩⟩
end Go.Proofs.YtfocmbnhkldnfaaGreatDoor
