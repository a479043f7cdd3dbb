/-
  Size, At of a table; rows that are told.
-/
import Derived.Test.YtlehikdlkdbacaaY
namespace Go.Proofs.Ytlehikdlkdbacaa
open Go.RowKit Disk
open Names (cmpL keyB valueB)

/-- Rows that may be a table's: by rising keys, each one may be. -/
def Good (l : List PRow) : Prop := Rise l ∧ (∀ r ∈ l, okP r.1 r.2 = true) ∧ l.length ≤ 1000000
def sizeL (l : List PRow) : Nat := (l.map fun r => r.1.length + r.2.length).sum
theorem size_le {l : List PRow} (h : ∀ r ∈ l, okP r.1 r.2 = true) : sizeL l ≤ l.length * 320 := by
  induction l with
  | nil => simp [sizeL]
  | cons r l ih =>
    have h1 := okP_len (h r (by simp))
    have h2 := ih fun r hr => h r (by simp [hr])
    simp [sizeL] at h2 ⊢
    omega
theorem size_take {l : List PRow} {k : Nat} (hk : k < l.length) : sizeL (l.take (k + 1)) = sizeL (l.take k) + (l[k].1.length + l[k].2.length) := by
  unfold sizeL
  rw [List.take_add_one, List.getElem?_eq_getElem hk, List.map_append, List.sum_append]
  simp
theorem ok_take {l : List PRow} (h : ∀ r ∈ l, okP r.1 r.2 = true) (k : Nat) : ∀ r ∈ l.take k, okP r.1 r.2 = true := fun r hr => h r (List.mem_of_mem_take hr)

set_option maxRecDepth 100000 in
set_option maxHeartbeats 4000000 in
theorem size30 (tv : Value) (is : Bool) (l : List PRow) (hg : Good l) (w : World) (ht : Tl w tv is l) :
    Calls Try.prog 30 #[tv] w fun e w' => e = .returned (.int .i64 (sizeL l : Nat)) ∧ ∃ m, w' = w.drewN m := by
  have HT : Hid (Tl w tv is l) := ht
  have HG : Hid (Good l) := hg
  clear ht hg
  go_enter Try.func30, Try.ntmps30
  go_wp2_with fail
  refine (list35g tv is l w HT.out).mono ?_
  rintro e w1 ⟨f, n, rfl, hn, hr, hw⟩
  rw [hw]
  have HR : Hid (Rows w (.slice f n n) l ∧ n = l.length) := ⟨hr, hn⟩
  have hn6 : n ≤ 1000000 := by rw [hn]; exact HG.out.2.2
  clear hw hr hn
  go_wp2_with fail
  go_loopw [3, 9] (fun x i wr => ∃ (k q s : Nat), k ≤ n ∧ i = .int .i64 (k : Int) ∧ x = .int .i64 (s : Int) ∧ s = sizeL (l.take k) ∧ wr = w.drewN q) (fun _ i _ => n - (intOf i).toNat)
  case atStart => exact ⟨0, 0, 0, Nat.zero_le _, rfl, rfl, by simp [sizeL], rfl⟩
  case round =>
    obtain ⟨k, q, s, hk, rfl, rfl, hs, rfl⟩ := hrel
    have HS : Hid (s = sizeL (l.take k)) := hs
    rcases Nat.lt_or_ge k n with hlt | hge
    · have ka : k < l.length := by rw [← HR.out.2]; exact hlt
      obtain ⟨b1, o1, p1, x1, y1, rfl, c1, d1, s1, t1⟩ := rows_at (HR.out.1.grown (grown_drewN _ q none)) k ka
      obtain ⟨ax, nx, cx, rfl, hx, _, _⟩ := Names.seg_open s1
      obtain ⟨ay, ny, cy, rfl, hy, _, _⟩ := Names.seg_open t1
      have e0 := d1.cell 0
      have e1 := d1.cell 1
      simp at e0 e1
      have hb := okP_len (HG.out.2.1 _ (List.getElem_mem ka))
      have hb2 := size_le (ok_take HG.out.2.1 k)
      have hb3 := HG.out.2.2
      rw [List.length_take] at hb2
      rw [hx, hy] at hb
      rw [← hs] at hb2
      have i0 : (0 : Int) ≤ (k : Int) := by omega
      have i1 : (k : Int) < (n : Int) := by omega
      have HX : Hid (sizeL (l.take (k + 1)) = s + (nx + ny)) := by rw [Hid, size_take ka, ← hs, hx, hy]
      have j0 : s ≤ 320000000 := by
        have : min k l.length ≤ 1000000 := by omega
        omega
      have j1 : nx ≤ 64 := by omega
      have j2 : ny ≤ 256 := by omega
      clear d1 s1 t1 hx hy hb hb2 hb3 hs
      go_wp2_with fail
      go_quiet (fail)
      go_wp2_with fail
      go_roundw
      case rel => exact ⟨k + 1, _, s + (nx + ny), by omega, by go_num, by go_num, HX.out.symm, rfl⟩
      case measure => simp [intOf]; omega
    · have hkn : k = n := by omega
      subst hkn
      go_wp2_with fail
      go_ret
      have e : l.take k = l := List.take_of_length_le (by have := HR.out.2; omega)
      exact ⟨by rw [HS.out, e]; rfl, _, rfl⟩

/-- What At tells: nothing, or a row of the caller's own. -/
def atC (l : List PRow) (i : Int) : Int := if 0 ≤ i ∧ i < (l.length : Int) then 0 else 2
def atR (l : List PRow) (i : Int) : PRow := if 0 ≤ i ∧ i < (l.length : Int) then (l[i.toNat]?).getD ([], []) else ([], [])

set_option maxRecDepth 100000 in
set_option maxHeartbeats 4000000 in
theorem at26 (b : Nat) (i : Int) (l : List PRow) (hg : Good l) (w : World) (ht : Tb w b l) :
    Calls Try.prog 26 #[.pointer (some ⟨b, 0, none⟩), .int .i64 i] w fun e w' => ∃ x y, e = .returned (.tuple #[.agg #[x, y], .int .i64 (atC l i)]) ∧ Disk.Own w' w.heap.size x (atR l i).1 ∧ Disk.Own w' w.heap.size y (atR l i).2 ∧ w.grownBy w' none := by
  obtain ⟨ao, n, cap, HB, _⟩ := tb_open ht
  have HT : Hid (Tb w b l) := ht
  have HG : Hid (Good l) := hg
  clear ht hg
  by_cases hin : 0 ≤ i ∧ i < (n : Int)
  · obtain ⟨k, rfl⟩ : ∃ k : Nat, i = (k : Int) := ⟨i.toNat, by omega⟩
    have hlt : k < l.length := by rw [HB.out.2.2]; omega
    have HC : Hid (atC l (k : Int) = 0 ∧ atR l (k : Int) = l[k]) := by
      unfold Hid atC atR
      rw [if_pos ⟨by omega, by omega⟩, if_pos ⟨by omega, by omega⟩]
      simp [hlt]
    obtain ⟨g, off, p, kx, vx, rfl, hc, hb, hs1, hs2⟩ := rows_at HB.out.2.1 k hlt
    have hok := okP_len (HG.out.2.1 _ (List.getElem_mem hlt))
    have HM : Hid (∀ y : World, w.grownBy y none → y.cell? ⟨b, 1, none⟩ = some (.slice (some ⟨g, off, none⟩) n cap) ∧ y.cell? ⟨g, off + k, none⟩ = some (.pointer (some ⟨p, 0, none⟩)) ∧ y.cell? ⟨p, 0, none⟩ = some kx ∧ y.cell? ⟨p, 1, none⟩ = some vx) := fun y hy => ⟨(HB.out.1.grown hy (by simp)).cell 1, hy.cell hc (by simp), (hb.grown hy (by simp)).cell 0, (hb.grown hy (by simp)).cell 1⟩
    have HS : Hid (Seg w kx l[k].1 ∧ Seg w vx l[k].2 ∧ l[k].1.length ≤ 64 ∧ l[k].2.length ≤ 256) := ⟨hs1, hs2, hok.2⟩
    obtain ⟨h0, h1⟩ := hin
    have h2 : k < n := by omega
    have hm1 := (HM.out w (grown_refl _ _)).1
    clear hc hb hs1 hs2 hok
    go_enter Try.func26, Try.ntmps26
    go_wp2_with fail
    obtain ⟨w1, hw1, H1⟩ := al w #[.slice none 0 0, .slice none 0 0] 45
    rw [hw1]
    clear hw1
    refine (there34g _ true l w1 (HT.out.tl.grown H1.out.2.1)).mono ?_
    rintro e w2 ⟨rfl, hw⟩
    rw [hw]
    clear hw
    have hm2 := (HM.out w1 H1.out.2.1).1
    go_wp2_with fail
    refine wp_region_noPanic ?_
    refine wp_region_hold 1000 (fun y => w.grownBy y none) (by kernel_rfl) ?_
    have G0 : Hid (w1.grownBy w1.drew none) := grown_drew _ _
    generalize w1.drew = wd at G0 ⊢
    refine wpHold_take (i := 0) (v := _) ((grown_trans H1.out.2.1 G0.out)) rfl rfl (by kernel_rfl) (by kernel_rfl) (by kernel_rfl) (by kernel_rfl) (by kernel_rfl) (fun _ _ _ h => h) (by rfl) (fun wk hk => by obtain ⟨m0, m1, m2, m3⟩ := HM.out wk hk; go_simp; try rfl) ?_
    try simp only [Act.put, List.setIfInBounds_toArray, List.set_cons_zero, List.set_cons_succ]
    refine wpHold_take (i := 1) (v := _) ((grown_trans H1.out.2.1 G0.out)) rfl rfl (by kernel_rfl) (by kernel_rfl) (by kernel_rfl) (by kernel_rfl) (by kernel_rfl) (fun _ _ _ h => h) (by rfl) (fun wk hk => by obtain ⟨m0, m1, m2, m3⟩ := HM.out wk hk; go_simp; try rfl) ?_
    try simp only [Act.put, List.setIfInBounds_toArray, List.set_cons_zero, List.set_cons_succ]
    refine wpHold_take (i := 2) (v := _) ((grown_trans H1.out.2.1 G0.out)) rfl rfl (by kernel_rfl) (by kernel_rfl) (by kernel_rfl) (by kernel_rfl) (by kernel_rfl) (fun _ _ _ h => h) (by rfl) (fun wk hk => by obtain ⟨m0, m1, m2, m3⟩ := HM.out wk hk; go_simp; try rfl) ?_
    try simp only [Act.put, List.setIfInBounds_toArray, List.set_cons_zero, List.set_cons_succ]
    refine wpHold_take (i := 3) (v := _) ((grown_trans H1.out.2.1 G0.out)) rfl rfl (by kernel_rfl) (by kernel_rfl) (by kernel_rfl) (by kernel_rfl) (by kernel_rfl) (fun _ _ _ h => h) (by rfl) (fun wk hk => by obtain ⟨m0, m1, m2, m3⟩ := HM.out wk hk; go_simp; try rfl) ?_
    try simp only [Act.put, List.setIfInBounds_toArray, List.set_cons_zero, List.set_cons_succ]
    refine wpHold_take (i := 4) (v := _) ((grown_trans H1.out.2.1 G0.out)) rfl rfl (by kernel_rfl) (by kernel_rfl) (by kernel_rfl) (by kernel_rfl) (by kernel_rfl) (fun _ _ _ h => h) (by rfl) (fun wk hk => by obtain ⟨m0, m1, m2, m3⟩ := HM.out wk hk; go_simp; try rfl) ?_
    try simp only [Act.put, List.setIfInBounds_toArray, List.set_cons_zero, List.set_cons_succ]
    refine wpHold_take (i := 5) (v := _) ((grown_trans H1.out.2.1 G0.out)) rfl rfl (by kernel_rfl) (by kernel_rfl) (by kernel_rfl) (by kernel_rfl) (by kernel_rfl) (fun _ _ _ h => h) (by rfl) (fun wk hk => by obtain ⟨m0, m1, m2, m3⟩ := HM.out wk hk; go_simp; try rfl) ?_
    try simp only [Act.put, List.setIfInBounds_toArray, List.set_cons_zero, List.set_cons_succ]
    refine wpHold_take (i := 6) (v := _) ((grown_trans H1.out.2.1 G0.out)) rfl rfl (by kernel_rfl) (by kernel_rfl) (by kernel_rfl) (by kernel_rfl) (by kernel_rfl) (fun _ _ _ h => h) (by rfl) (fun wk hk => by obtain ⟨m0, m1, m2, m3⟩ := HM.out wk hk; go_simp; try rfl) ?_
    try simp only [Act.put, List.setIfInBounds_toArray, List.set_cons_zero, List.set_cons_succ]
    refine wpHold_take (i := 7) (v := _) ((grown_trans H1.out.2.1 G0.out)) rfl rfl (by kernel_rfl) (by kernel_rfl) (by kernel_rfl) (by kernel_rfl) (by kernel_rfl) (fun _ _ _ h => h) (by rfl) (fun wk hk => by obtain ⟨m0, m1, m2, m3⟩ := HM.out wk hk; go_simp; try rfl) ?_
    try simp only [Act.put, List.setIfInBounds_toArray, List.set_cons_zero, List.set_cons_succ]
    refine wpHold_take (i := 8) (v := _) ((grown_trans H1.out.2.1 G0.out)) rfl rfl (by kernel_rfl) (by kernel_rfl) (by kernel_rfl) (by kernel_rfl) (by kernel_rfl) (fun _ _ _ h => h) (by rfl) (fun wk hk => by obtain ⟨m0, m1, m2, m3⟩ := HM.out wk hk; go_simp; try rfl) ?_
    try simp only [Act.put, List.setIfInBounds_toArray, List.set_cons_zero, List.set_cons_succ]
    refine wpHold_take (i := 9) (v := _) ((grown_trans H1.out.2.1 G0.out)) rfl rfl (by kernel_rfl) (by kernel_rfl) (by kernel_rfl) (by kernel_rfl) (by kernel_rfl) (fun _ _ _ h => h) (by rfl) (fun wk hk => by obtain ⟨m0, m1, m2, m3⟩ := HM.out wk hk; go_simp; try rfl) ?_
    try simp only [Act.put, List.setIfInBounds_toArray, List.set_cons_zero, List.set_cons_succ]
    refine wpHold_take (i := 10) (v := _) ((grown_trans H1.out.2.1 G0.out)) rfl rfl (by kernel_rfl) (by kernel_rfl) (by kernel_rfl) (by kernel_rfl) (by kernel_rfl) (fun _ _ _ h => h) (by rfl) (fun wk hk => by obtain ⟨m0, m1, m2, m3⟩ := HM.out wk hk; go_simp; try rfl) ?_
    try simp only [Act.put, List.setIfInBounds_toArray, List.set_cons_zero, List.set_cons_succ]
    refine wpHold_take (i := 11) (v := _) ((grown_trans H1.out.2.1 G0.out)) rfl rfl (by kernel_rfl) (by kernel_rfl) (by kernel_rfl) (by kernel_rfl) (by kernel_rfl) (fun _ _ _ h => h) (by rfl) (fun wk hk => by obtain ⟨m0, m1, m2, m3⟩ := HM.out wk hk; go_simp; try rfl) ?_
    try simp only [Act.put, List.setIfInBounds_toArray, List.set_cons_zero, List.set_cons_succ]
    refine wpHold_take (i := 12) (v := _) ((grown_trans H1.out.2.1 G0.out)) rfl rfl (by kernel_rfl) (by kernel_rfl) (by kernel_rfl) (by kernel_rfl) (by kernel_rfl) (fun _ _ _ h => h) (by rfl) (fun wk hk => by obtain ⟨m0, m1, m2, m3⟩ := HM.out wk hk; go_simp; try rfl) ?_
    try simp only [Act.put, List.setIfInBounds_toArray, List.set_cons_zero, List.set_cons_succ]
    refine wpHold_take (i := 13) (v := _) ((grown_trans H1.out.2.1 G0.out)) rfl rfl (by kernel_rfl) (by kernel_rfl) (by kernel_rfl) (by kernel_rfl) (by kernel_rfl) (fun _ _ _ h => h) (by rfl) (fun wk hk => by obtain ⟨m0, m1, m2, m3⟩ := HM.out wk hk; go_simp; try rfl) ?_
    try simp only [Act.put, List.setIfInBounds_toArray, List.set_cons_zero, List.set_cons_succ]
    refine wpHold_take (i := 14) (v := _) ((grown_trans H1.out.2.1 G0.out)) rfl rfl (by kernel_rfl) (by kernel_rfl) (by kernel_rfl) (by kernel_rfl) (by kernel_rfl) (fun _ _ _ h => h) (by rfl) (fun wk hk => by obtain ⟨m0, m1, m2, m3⟩ := HM.out wk hk; go_simp; try rfl) ?_
    try simp only [Act.put, List.setIfInBounds_toArray, List.set_cons_zero, List.set_cons_succ]
    refine wpHold_take (i := 15) (v := _) ((grown_trans H1.out.2.1 G0.out)) rfl rfl (by kernel_rfl) (by kernel_rfl) (by kernel_rfl) (by kernel_rfl) (by kernel_rfl) (fun _ _ _ h => h) (by rfl) (fun wk hk => by obtain ⟨m0, m1, m2, m3⟩ := HM.out wk hk; go_simp; try rfl) ?_
    try simp only [Act.put, List.setIfInBounds_toArray, List.set_cons_zero, List.set_cons_succ]
    refine wpHold_take (i := 16) (v := _) ((grown_trans H1.out.2.1 G0.out)) rfl rfl (by kernel_rfl) (by kernel_rfl) (by kernel_rfl) (by kernel_rfl) (by kernel_rfl) (fun _ _ _ h => h) (by rfl) (fun wk hk => by obtain ⟨m0, m1, m2, m3⟩ := HM.out wk hk; go_simp; try rfl) ?_
    try simp only [Act.put, List.setIfInBounds_toArray, List.set_cons_zero, List.set_cons_succ]
    refine wpHold_take (i := 17) (v := _) ((grown_trans H1.out.2.1 G0.out)) rfl rfl (by kernel_rfl) (by kernel_rfl) (by kernel_rfl) (by kernel_rfl) (by kernel_rfl) (fun _ _ _ h => h) (by rfl) (fun wk hk => by obtain ⟨m0, m1, m2, m3⟩ := HM.out wk hk; go_simp; try rfl) ?_
    try simp only [Act.put, List.setIfInBounds_toArray, List.set_cons_zero, List.set_cons_succ]
    refine wpHold_take (i := 18) (v := _) ((grown_trans H1.out.2.1 G0.out)) rfl rfl (by kernel_rfl) (by kernel_rfl) (by kernel_rfl) (by kernel_rfl) (by kernel_rfl) (fun _ _ _ h => h) (by rfl) (fun wk hk => by obtain ⟨m0, m1, m2, m3⟩ := HM.out wk hk; go_simp; try rfl) ?_
    try simp only [Act.put, List.setIfInBounds_toArray, List.set_cons_zero, List.set_cons_succ]
    refine wpHold_take (i := 19) (v := _) ((grown_trans H1.out.2.1 G0.out)) rfl rfl (by kernel_rfl) (by kernel_rfl) (by kernel_rfl) (by kernel_rfl) (by kernel_rfl) (fun _ _ _ h => h) (by rfl) (fun wk hk => by obtain ⟨m0, m1, m2, m3⟩ := HM.out wk hk; go_simp; try rfl) ?_
    try simp only [Act.put, List.setIfInBounds_toArray, List.set_cons_zero, List.set_cons_succ]
    refine wpHold_one (i := 20) rfl (by kernel_rfl) (by rfl) (fun K hK => ?_)
    go_wp2_with (go_at_call 55; refine (ownRow55 kx vx l[k].1 l[k].2 wd (HS.out.1.grown (grown_trans H1.out.2.1 G0.out)) (HS.out.2.1.grown (grown_trans H1.out.2.1 G0.out)) (by have := HS.out.2.2.1; omega) (by have := HS.out.2.2.2; omega)).mono ?_)
    rintro e w2 ⟨p2, rfl, hp2, ⟨x2, y2, hb2, ox2, oy2, _⟩, g2⟩
    obtain ⟨ax, cx, ex⟩ := ox2.seg.shape
    obtain ⟨ay, cy, ey⟩ := oy2.seg.shape
    obtain ⟨nx, hnx⟩ : ∃ nx, l[k].1.length = nx := ⟨_, rfl⟩
    obtain ⟨ny, hny⟩ : ∃ ny, l[k].2.length = ny := ⟨_, rfl⟩
    rw [hnx] at ex
    rw [hny] at ey
    subst ex ey
    have G2 : Hid (w1.grownBy w2 none ∧ Blk w2 p2 45 #[.slice ax nx cx, .slice ay ny cy] ∧ Disk.Own w2 wd.heap.size (.slice ax nx cx) l[k].1 ∧ Disk.Own w2 wd.heap.size (.slice ay ny cy) l[k].2 ∧ wd.heap.size ≤ p2) := ⟨grown_trans G0.out g2, hb2, ox2, oy2, hp2⟩
    clear g2 hb2 ox2 oy2 hp2 hnx hny
    go_wp2_with fail
    refine hK.out _ _ (fun _ => grown_trans H1.out.2.1 G2.out.1) ?_
    clear hK K
    try simp only [Act.put, List.setIfInBounds_toArray, List.set_cons_zero, List.set_cons_succ]
    refine wpHold_take (i := 21) (v := _) ((grown_trans H1.out.2.1 G2.out.1)) rfl rfl (by kernel_rfl) (by kernel_rfl) (by kernel_rfl) (by kernel_rfl) (by kernel_rfl) (fun _ _ _ h => h) (by rfl) (fun wk hk => by obtain ⟨m0, m1, m2, m3⟩ := HM.out wk hk; go_simp; try rfl) ?_
    try simp only [Act.put, List.setIfInBounds_toArray, List.set_cons_zero, List.set_cons_succ]
    refine wpHold_one (i := 22) rfl (by kernel_rfl) (by rfl) (fun K hK => ?_)
    have q0 := G2.out.2.1.cell 0
    have q1 := G2.out.2.1.cell 1
    simp at q0 q1
    go_wp2_with fail
    refine hK.out _ _ (fun _ => grown_trans H1.out.2.1 G2.out.1) ?_
    clear hK K
    try simp only [Act.put, List.setIfInBounds_toArray, List.set_cons_zero, List.set_cons_succ]
    refine wpHold_one (i := 23) rfl (by kernel_rfl) (by rfl) (fun K hK => ?_)
    have f0 := (H1.out.1.grown G2.out.1 (by simp)).free 0
    have f1 := (H1.out.1.grown G2.out.1 (by simp)).free 1
    have q0 := (H1.out.1.grown G2.out.1 (by simp)).cell 0
    have q1 := (H1.out.1.grown G2.out.1 (by simp)).cell 1
    simp at q0 q1
    go_wp2_with fail
    obtain ⟨w3, hw3⟩ : ∃ w3, (w2.setCell ⟨w.heap.size, 0, none⟩ (.slice ax nx cx)).setCell ⟨w.heap.size, 1, none⟩ (.slice ay ny cy) = w3 := ⟨_, rfl⟩
    have G3 : Hid (Blk w3 w.heap.size 45 #[.slice ax nx cx, .slice ay ny cy] ∧ Disk.Own w3 w.heap.size (.slice ax nx cx) l[k].1 ∧ Disk.Own w3 w.heap.size (.slice ay ny cy) l[k].2 ∧ w.grownBy w3 none) := by
      have z1 := H1.out.2.2
      have z2 := G0.out.size
      have hbk := H1.out.1.grown G2.out.1 (by simp)
      have hg23 : w2.grownBy w3 (some w.heap.size) := by rw [← hw3]; exact grown_trans (grown_setCell _ _ _ _) (grown_setCell _ _ _ _)
      refine ⟨by rw [← hw3]; exact (hbk.store 0 _).store 1 _, ?_, ?_, ?_⟩
      · exact (G2.out.2.2.1.same fun q hq => hg23.block q ((G2.out.2.2.1.lt q hq).2) (by have := (G2.out.2.2.1.lt q hq).1; simp; omega)).mono (by omega)
      · exact (G2.out.2.2.2.1.same fun q hq => hg23.block q ((G2.out.2.2.2.1.lt q hq).2) (by have := (G2.out.2.2.2.1.lt q hq).1; simp; omega)).mono (by omega)
      · exact grown_new (grown_trans H1.out.2.1 G2.out.1) hg23 (fun x hx => by simp at hx; omega)
    rw [hw3]
    clear hw3
    refine hK.out _ _ (fun _ => G3.out.2.2.2) ?_
    clear hK K
    try simp only [Act.put, List.setIfInBounds_toArray, List.set_cons_zero, List.set_cons_succ]
    refine wpHold_take (i := 24) (v := _) (G3.out.2.2.2) rfl rfl (by kernel_rfl) (by kernel_rfl) (by kernel_rfl) (by kernel_rfl) (by kernel_rfl) (fun _ _ _ h => h) (by rfl) (fun wk hk => by obtain ⟨m0, m1, m2, m3⟩ := HM.out wk hk; go_simp; try rfl) ?_
    try simp only [Act.put, List.setIfInBounds_toArray, List.set_cons_zero, List.set_cons_succ]
    refine wpHold_done (by kernel_rfl) ?_
    refine (‹∀ (a : Act) (w : World), Code.wp Try.prog _ _ a w → _› _ _ ?_)
    go_wp2_with fail
    have q0 := G3.out.1.cell 0
    have q1 := G3.out.1.cell 1
    simp at q0 q1
    exact bodyPost_ret (v := .tuple #[.agg #[.slice ax nx cx, .slice ay ny cy], .int .i64 0]) (by simp [results, Try.results26, go_sem, q0, q1]) rfl ⟨_, _, by rw [HC.out.1], by rw [HC.out.2]; exact G3.out.2.1, by rw [HC.out.2]; exact G3.out.2.2.1, G3.out.2.2.2⟩
  · have HC : Hid (atC l i = 2 ∧ atR l i = ([], [])) := by
      unfold Hid atC atR
      rw [HB.out.2.2, if_neg hin, if_neg hin]
      exact ⟨rfl, rfl⟩
    have hb1 := fun (y : World) (hy : w.grownBy y none) => (HB.out.1.grown hy (by simp)).cell 1
    simp at hb1
    have HM : Hid (∀ (y : World), w.grownBy y none → y.cell? ⟨b, 1, none⟩ = some (.slice ao n cap)) := hb1
    clear hb1
    go_enter Try.func26, Try.ntmps26
    go_wp2_with fail
    obtain ⟨w1, hw1, H1⟩ := al w #[.slice none 0 0, .slice none 0 0] 45
    rw [hw1]
    clear hw1
    refine (there34g _ true l w1 (HT.out.tl.grown H1.out.2.1)).mono ?_
    rintro e w2 ⟨rfl, hw⟩
    rw [hw]
    clear hw
    have hm2 := HM.out w1 H1.out.2.1
    have f0 := H1.out.1.free 0
    have f1 := H1.out.1.free 1
    have q0 := H1.out.1.cell 0
    have q1 := H1.out.1.cell 1
    simp at q0 q1
    have hend : ∀ w3, (w1.setCell ⟨w.heap.size, 0, none⟩ (.slice none 0 0)).setCell ⟨w.heap.size, 1, none⟩ (.slice none 0 0) = w3 → Hid (Blk w3 w.heap.size 45 #[.slice none 0 0, .slice none 0 0] ∧ w.grownBy w3 none) := by
      rintro w3 rfl
      exact ⟨(H1.out.1.store 0 _).store 1 _, grown_new H1.out.2.1 (grown_trans (grown_setCell _ _ _ _) (grown_setCell _ _ _ _)) (fun x hx => by simp at hx; omega)⟩
    have HE : Hid (∀ w3, (w1.setCell ⟨w.heap.size, 0, none⟩ (.slice none 0 0)).setCell ⟨w.heap.size, 1, none⟩ (.slice none 0 0) = w3 → Hid (Blk w3 w.heap.size 45 #[.slice none 0 0, .slice none 0 0] ∧ w.grownBy w3 none)) := hend
    clear hend
    by_cases h0 : i < 0
    · go_wp2_with fail
      obtain ⟨w3, hw3⟩ : ∃ w3, (w1.setCell ⟨w.heap.size, 0, none⟩ (.slice none 0 0)).setCell ⟨w.heap.size, 1, none⟩ (.slice none 0 0) = w3 := ⟨_, rfl⟩
      have H3 := HE.out w3 hw3
      rw [hw3]
      have q0 := H3.out.1.cell 0
      have q1 := H3.out.1.cell 1
      simp at q0 q1
      exact bodyPost_ret (v := .tuple #[.agg #[.slice none 0 0, .slice none 0 0], .int .i64 2]) (by simp [results, Try.results26, go_sem, q0, q1]) rfl ⟨_, _, by rw [HC.out.1], by rw [HC.out.2]; exact Own.nil _ _, by rw [HC.out.2]; exact Own.nil _ _, H3.out.2⟩
    · have h1 : (n : Int) ≤ i := by omega
      go_wp2_with fail
      obtain ⟨w3, hw3⟩ : ∃ w3, (w1.setCell ⟨w.heap.size, 0, none⟩ (.slice none 0 0)).setCell ⟨w.heap.size, 1, none⟩ (.slice none 0 0) = w3 := ⟨_, rfl⟩
      have H3 := HE.out w3 hw3
      rw [hw3]
      have q0 := H3.out.1.cell 0
      have q1 := H3.out.1.cell 1
      simp at q0 q1
      exact bodyPost_ret (v := .tuple #[.agg #[.slice none 0 0, .slice none 0 0], .int .i64 2]) (by simp [results, Try.results26, go_sem, q0, q1]) rfl ⟨_, _, by rw [HC.out.1], by rw [HC.out.2]; exact Own.nil _ _, by rw [HC.out.2]; exact Own.nil _ _, H3.out.2⟩
end Go.Proofs.Ytlehikdlkdbacaa
