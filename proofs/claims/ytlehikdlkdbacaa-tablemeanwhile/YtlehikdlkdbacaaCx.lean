/-
  New, and a set of blocks in which no row's bytes lie.
-/
import Derived.Test.YtlehikdlkdbacaaC
import Derived.Test.YtlehikdlkdbacaaUx
namespace Go.Proofs.Ytlehikdlkdbacaa
open Go.RowKit Disk
open Names (cmpL keyB valueB)

def NewPostz (X : Nat → Prop) (l : List PRow) (w : World) (e : Ending) (w' : World) : Prop :=
  (Good l ∧ ∃ b, e = .returned (.tuple #[.pointer (some ⟨b, 0, none⟩), .int .i64 0]) ∧ w.heap.size ≤ b ∧ Tbz X w' b l ∧ w.grownBy w' none) ∨ (¬ Good l ∧ e = .returned (.tuple #[.pointer none, .int .i64 2]) ∧ w.grownBy w' none)

set_option maxRecDepth 100000 in
set_option maxHeartbeats 4000000 in
theorem new22z {X : Nat → Prop} (v : Value) (l : List PRow) (hz : l.length ≤ 1000000) (w : World) (hX : ∀ g, X g → g < w.heap.size) (hv : Rws w v l) :
    Calls Try.prog 22 #[v] w fun e w' => NewPostz X l w e w' := by
  obtain ⟨ao, n, cap, rfl, hn, h1, h2, HV⟩ := rws_open hv
  have HN : Hid (l.length = n ∧ l.length ≤ 1000000) := ⟨hn, hz⟩
  have hn6 : n ≤ 1000000 := by omega
  have HZ : Hid (∀ g, X g → g < w.heap.size) := hX
  clear hv hn hz hX
  go_enter Try.func22, Try.ntmps22
  go_wp2_with fail
  obtain ⟨w1, hw1, H1⟩ := al w #[.bool true, .slice none 0 0] 68
  rw [hw1]
  clear hw1
  obtain ⟨tb, htb⟩ : ∃ b, w.heap.size = b := ⟨_, rfl⟩
  rw [htb] at H1 ⊢
  have HTB : Hid (w.heap.size = tb) := htb
  clear htb
  go_wp2_with fail
  go_loopw [12] (fun i wr => ∃ (k : Nat) (tv : Value) (ps : List Nat), k ≤ n ∧ i = .int .i64 (k : Int) ∧ Good (l.take k) ∧ Blk wr tb 68 #[.bool true, tv] ∧ wr.ownsRow (tb + 1) 74 1 tv k (PTR ps) ∧ Atz X wr ps (l.take k) ∧ w.grownBy wr none) (fun i _ => n - (intOf i).toNat)
  case atStart =>
    exact ⟨0, .slice none 0 0, [], Nat.zero_le _, rfl, ⟨fun i j hi => absurd hi (by simp), by simp, by simp⟩, H1.out.1, World.ownsRow_nil _ _ _ _, ⟨by simp, fun j h => absurd h (by simp)⟩, H1.out.2.1⟩
  case round =>
    obtain ⟨k, tv, ps, hk, rfl, hgood, hblk, hown, hats, hgr⟩ := hrel
    have HR : Hid (Good (l.take k) ∧ Blk wr tb 68 #[.bool true, tv] ∧ wr.ownsRow (tb + 1) 74 1 tv k (PTR ps) ∧ Atz X wr ps (l.take k) ∧ w.grownBy wr none) := ⟨hgood, hblk, hown, hats, hgr⟩
    clear hgood hblk hown hats hgr
    rcases Nat.lt_or_ge k n with hlt | hge
    · have ka : k < l.length := by rw [HN.out.1]; exact hlt
      obtain ⟨bb, off, x, y, rfl, c0, c1, sx, sy⟩ := rws_at HV.out k ka
      obtain ⟨ax, nx, cx, rfl, _, _, HX⟩ := Names.seg_open sx
      obtain ⟨ay, ny, cy, rfl, _, _, HY⟩ := Names.seg_open sy
      have d0 : wr.cell? ⟨bb, off + k * 2, none⟩ = some (.slice ax nx cx) := HR.out.2.2.2.2.cell c0 (by simp)
      have d1 : wr.cell? ⟨bb, off + k * 2 + 1, none⟩ = some (.slice ay ny cy) := HR.out.2.2.2.2.cell c1 (by simp)
      have i0 : (0 : Int) ≤ (k : Int) := by omega
      have i1 : (k : Int) < (n : Int) := by omega
      obtain ⟨r, hr⟩ : ∃ r, l[k] = r := ⟨_, rfl⟩
      rw [hr] at HX HY
      obtain ⟨R, hR⟩ : ∃ R, risesB l k r = R := ⟨_, rfl⟩
      have HG : Hid ((Good (l.take (k + 1)) ↔ R = true ∧ okP r.1 r.2 = true) ∧ risesB l k r = R ∧ l.take (k + 1) = l.take k ++ [r]) := by
        have := good_snoc ka HR.out.1 HN.out.2
        rw [hr, hR] at this
        exact ⟨this, hR, by rw [List.take_add_one, List.getElem?_eq_getElem ka, hr]; rfl⟩
      clear sx sy c0 c1 hr hR
      go_upto_region 5 with fail
      obtain ⟨w2, hw2, H2⟩ := al wr #[.slice ax nx cx, .slice ay ny cy] 45
      rw [hw2]
      clear hw2
      go_cut [7] (fun x wc => x = .bool R ∧ ∃ m, wc = w2.drewN m)
      case first =>
        rcases Nat.eq_zero_or_pos k with hk0 | hk0
        · subst hk0
          have HRR : Hid (R = true) := by rw [Hid, ← HG.out.2.1]; rfl
          go_quiet (fail)
          go_wp2_with fail
          go_meet
          case rel => exact ⟨by rw [HRR.out], _, rfl⟩
        · obtain ⟨j, hj⟩ : ∃ j, k = j + 1 := ⟨k - 1, by omega⟩
          have ja : j < l.length := by omega
          obtain ⟨b3, o3, x3, y3, e3, c3, _, s3, _⟩ := rws_at HV.out j ja
          simp at e3
          obtain ⟨rfl, rfl⟩ := e3
          have g2 : w.grownBy w2 none := grown_trans HR.out.2.2.2.2 H2.out.2.1
          have m0 : w2.cell? ⟨bb, off + j * 2, none⟩ = some x3 := g2.cell c3 (by simp)
          have m1 := H2.out.1.cell 0
          simp at m1
          have q3 : Seg w2 x3 l[j].1 := s3.grown g2
          have q4 : Seg w2 (.slice ax nx cx) r.1 := HX.out.grown g2
          obtain ⟨A, hA⟩ : ∃ A, l[j].1 = A := ⟨_, rfl⟩
          rw [hA] at q3
          have HRR : Hid (R = decide (cmpL A r.1 < 0)) := by
            rw [Hid, ← HG.out.2.1]
            unfold risesB
            rw [if_neg (by omega), show k - 1 = j by omega, List.getElem?_eq_getElem ja]
            simp only [hA]
          have hj1 : (k : Int) - 1 = (j : Int) := by omega
          have hj2 : ¬ (k : Int) = 0 := by omega
          have hj5 : ¬ k = 0 := by omega
          have hj3 : (0 : Int) ≤ (j : Int) := by omega
          have hj4 : (j : Int) < (n : Int) := by omega
          clear c3 s3 g2 hA hj hk0
          have hj6 : ((k : Int) == 0) = false := by simp [hj5]
          have hj7 : IntKind.i64.wrap (j : Int) = (j : Int) := by rw [IntKind.wrap_i64]; omega
          have HM : Hid (∀ y : World, (∃ m, y = w2.drewN m) → y.cell? ⟨bb, off + j * 2, none⟩ = some x3 ∧ y.cell? ⟨wr.heap.size, 0, none⟩ = some (.slice ax nx cx)) := by
            rintro y ⟨m, rfl⟩
            exact ⟨m0, m1⟩
          have HS : Hid (Seg w2 x3 A ∧ Seg w2 (.slice ax nx cx) r.1) := ⟨q3, q4⟩
          clear q3 q4 m0 m1
          refine wp_region_noPanic ?_
          refine wp_region_hold 1000 (fun y => ∃ m, y = w2.drewN m) (by kernel_rfl) ?_
          have G0 : Hid (∃ m, w2.drew = w2.drewN m) := ⟨1, rfl⟩
          generalize w2.drew = wd at G0 ⊢
          refine wpHold_take (i := 0) (v := _) (G0.out) rfl rfl (by kernel_rfl) (by kernel_rfl) (by kernel_rfl) (by kernel_rfl) (by kernel_rfl) (fun _ _ _ h => h) (by rfl) (fun wk hk => by obtain ⟨z0, z1⟩ := HM.out wk hk; go_simp; try rfl) ?_
          try simp only [Act.put, List.setIfInBounds_toArray, List.set_cons_zero, List.set_cons_succ]
          refine wpHold_one (i := 1) rfl (by kernel_rfl) (by rfl) (fun K hK => ?_)
          go_wp2_with fail
          refine hK.out _ _ (fun _ => G0.out) ?_
          clear hK K
          try simp only [Act.put, List.setIfInBounds_toArray, List.set_cons_zero, List.set_cons_succ]
          refine wpHold_take (i := 2) (v := _) (G0.out) rfl rfl (by kernel_rfl) (by kernel_rfl) (by kernel_rfl) (by kernel_rfl) (by kernel_rfl) (fun _ _ _ h => h) (by rfl) (fun wk hk => by obtain ⟨z0, z1⟩ := HM.out wk hk; go_simp; try rfl) ?_
          try simp only [Act.put, List.setIfInBounds_toArray, List.set_cons_zero, List.set_cons_succ]
          refine wpHold_take (i := 3) (v := _) (G0.out) rfl rfl (by kernel_rfl) (by kernel_rfl) (by kernel_rfl) (by kernel_rfl) (by kernel_rfl) (fun _ _ _ h => h) (by rfl) (fun wk hk => by obtain ⟨z0, z1⟩ := HM.out wk hk; go_simp; try rfl) ?_
          try simp only [Act.put, List.setIfInBounds_toArray, List.set_cons_zero, List.set_cons_succ]
          refine wpHold_take (i := 4) (v := _) (G0.out) rfl rfl (by kernel_rfl) (by kernel_rfl) (by kernel_rfl) (by kernel_rfl) (by kernel_rfl) (fun _ _ _ h => h) (by rfl) (fun wk hk => by obtain ⟨z0, z1⟩ := HM.out wk hk; go_simp; try rfl) ?_
          try simp only [Act.put, List.setIfInBounds_toArray, List.set_cons_zero, List.set_cons_succ]
          refine wpHold_take (i := 5) (v := _) (G0.out) rfl rfl (by kernel_rfl) (by kernel_rfl) (by kernel_rfl) (by kernel_rfl) (by kernel_rfl) (fun _ _ _ h => h) (by rfl) (fun wk hk => by obtain ⟨z0, z1⟩ := HM.out wk hk; go_simp; try rfl) ?_
          try simp only [Act.put, List.setIfInBounds_toArray, List.set_cons_zero, List.set_cons_succ]
          refine wpHold_take (i := 6) (v := _) (G0.out) rfl rfl (by kernel_rfl) (by kernel_rfl) (by kernel_rfl) (by kernel_rfl) (by kernel_rfl) (fun _ _ _ h => h) (by rfl) (fun wk hk => by obtain ⟨z0, z1⟩ := HM.out wk hk; go_simp; try rfl) ?_
          try simp only [Act.put, List.setIfInBounds_toArray, List.set_cons_zero, List.set_cons_succ]
          refine wpHold_take (i := 7) (v := _) (G0.out) rfl rfl (by kernel_rfl) (by kernel_rfl) (by kernel_rfl) (by kernel_rfl) (by kernel_rfl) (fun _ _ _ h => h) (by rfl) (fun wk hk => by obtain ⟨z0, z1⟩ := HM.out wk hk; go_simp; try rfl) ?_
          try simp only [Act.put, List.setIfInBounds_toArray, List.set_cons_zero, List.set_cons_succ]
          refine wpHold_take (i := 8) (v := _) (G0.out) rfl rfl (by kernel_rfl) (by kernel_rfl) (by kernel_rfl) (by kernel_rfl) (by kernel_rfl) (fun _ _ _ h => h) (by rfl) (fun wk hk => by obtain ⟨z0, z1⟩ := HM.out wk hk; go_simp; try rfl) ?_
          try simp only [Act.put, List.setIfInBounds_toArray, List.set_cons_zero, List.set_cons_succ]
          refine wpHold_take (i := 9) (v := _) (G0.out) rfl rfl (by kernel_rfl) (by kernel_rfl) (by kernel_rfl) (by kernel_rfl) (by kernel_rfl) (fun _ _ _ h => h) (by rfl) (fun wk hk => by obtain ⟨z0, z1⟩ := HM.out wk hk; go_simp; try rfl) ?_
          try simp only [Act.put, List.setIfInBounds_toArray, List.set_cons_zero, List.set_cons_succ]
          refine wpHold_take (i := 10) (v := _) (G0.out) rfl rfl (by kernel_rfl) (by kernel_rfl) (by kernel_rfl) (by kernel_rfl) (by kernel_rfl) (fun _ _ _ h => h) (by rfl) (fun wk hk => by obtain ⟨z0, z1⟩ := HM.out wk hk; go_simp; try rfl) ?_
          try simp only [Act.put, List.setIfInBounds_toArray, List.set_cons_zero, List.set_cons_succ]
          refine wpHold_one (i := 11) rfl (by kernel_rfl) (by rfl) (fun K hK => ?_)
          go_wp2_with (go_at_call 61; refine (Names.cmp26 x3 _ A r.1 wd (by obtain ⟨m, e⟩ := G0.out; rw [e]; exact Names.seg_drewN HS.out.1 m) (by obtain ⟨m, e⟩ := G0.out; rw [e]; exact Names.seg_drewN HS.out.2 m)).mono ?_)
          rintro e w3 ⟨rfl, m, hw3⟩
          have G3 : Hid (∃ m, w3 = w2.drewN m) := by
            obtain ⟨m1, e1⟩ := G0.out
            exact ⟨m1 + m, by rw [hw3, e1, World.drewN_drewN]⟩
          clear hw3
          go_wp2_with fail
          refine hK.out _ _ (fun _ => G3.out) ?_
          clear hK K
          try simp only [Act.put, List.setIfInBounds_toArray, List.set_cons_zero, List.set_cons_succ]
          refine wpHold_take (i := 12) (v := _) (G3.out) rfl rfl (by kernel_rfl) (by kernel_rfl) (by kernel_rfl) (by kernel_rfl) (by kernel_rfl) (fun _ _ _ h => h) (by rfl) (fun wk hk => by obtain ⟨z0, z1⟩ := HM.out wk hk; go_simp; try rfl) ?_
          try simp only [Act.put, List.setIfInBounds_toArray, List.set_cons_zero, List.set_cons_succ]
          refine wpHold_take (i := 13) (v := _) (G3.out) rfl rfl (by kernel_rfl) (by kernel_rfl) (by kernel_rfl) (by kernel_rfl) (by kernel_rfl) (fun _ _ _ h => h) (by rfl) (fun wk hk => by obtain ⟨z0, z1⟩ := HM.out wk hk; go_simp; try rfl) ?_
          try simp only [Act.put, List.setIfInBounds_toArray, List.set_cons_zero, List.set_cons_succ]
          refine wpHold_take (i := 14) (v := _) (G3.out) rfl rfl (by kernel_rfl) (by kernel_rfl) (by kernel_rfl) (by kernel_rfl) (by kernel_rfl) (fun _ _ _ h => h) (by rfl) (fun wk hk => by obtain ⟨z0, z1⟩ := HM.out wk hk; go_simp; try rfl) ?_
          try simp only [Act.put, List.setIfInBounds_toArray, List.set_cons_zero, List.set_cons_succ]
          refine wpHold_done (by kernel_rfl) ?_
          refine (‹∀ (a : Act) (w : World), Met _ a w → _› _ _ ?_)
          go_meet
          case rel => exact ⟨by rw [HRR.out], G3.out⟩
      case rest =>
        obtain ⟨rfl, m, hwc⟩ := hcut
        have HW : Hid (wr.grownBy wc none ∧ Blk wc wr.heap.size 45 #[.slice ax nx cx, .slice ay ny cy] ∧ Seg wc (.slice ax nx cx) r.1 ∧ Seg wc (.slice ay ny cy) r.2) := by
          have g1 : wr.grownBy wc none := by rw [hwc]; exact grown_trans H2.out.2.1 (grown_drewN _ _ _)
          have g2 := grown_trans HR.out.2.2.2.2 g1
          refine ⟨g1, ?_, HX.out.grown g2, HY.out.grown g2⟩
          rw [hwc]
          exact H2.out.1.grown (grown_drewN _ _ none) (by simp)
        clear hwc
        have m0 := HW.out.2.1.cell 0
        have m1 := HW.out.2.1.cell 1
        simp at m0 m1
        refine (‹∀ (a : Act) (w : World), Code.wp Try.prog _ _ a w → _› _ _ ?_)
        cases R with
        | false =>
          go_wp2_with fail
          go_ret2
          refine .inr ⟨fun hgd => ?_, rfl, grown_trans HR.out.2.2.2.2 HW.out.1⟩
          have := HG.out.1.1 (good_take hgd _)
          simp at this
        | true =>
          have HGD : Hid (okP r.1 r.2 = true → Good (l.take (k + 1))) := fun h => HG.out.1.2 ⟨rfl, h⟩
          obtain ⟨O, hO⟩ : ∃ O, okP r.1 r.2 = O := ⟨_, rfl⟩
          have HO : Hid (okP r.1 r.2 = O) := hO
          have hO2 : (keyB r.1 && valueB r.2) = O := hO
          clear hO
          go_wp2_with fail
          refine (mayBe53 _ _ r.1 r.2 wc HW.out.2.2.1 HW.out.2.2.2).mono ?_
          rintro e w3 ⟨rfl, hw3⟩
          rw [hw3, hO2]
          clear hw3 hO2
          cases O with
          | false =>
            go_wp2_with fail
            go_ret2
            refine .inr ⟨fun hgd => ?_, rfl, grown_trans HR.out.2.2.2.2 HW.out.1⟩
            have := HG.out.1.1 (good_take hgd _)
            rw [HO.out] at this
            simp at this
          | true =>
            have hok := okP_len HO.out
            have HGG : Hid (Good (l.take (k + 1))) := HGD.out HO.out
            have hbw := HR.out.2.1.grown HW.out.1 (by simp)
            obtain ⟨at_, ct, et, _, _⟩ := (vec_of_owns HR.out.2.2.1).shape
            subst et
            obtain ⟨H, hH⟩ : ∃ H : World → Prop, H = fun y => w.grownBy y none ∧ Blk y tb 68 #[.bool true, .slice at_ k ct] ∧ Blk y wr.heap.size 45 #[.slice ax nx cx, .slice ay ny cy] := ⟨_, rfl⟩
            have HH : Hid (H = fun y => w.grownBy y none ∧ Blk y tb 68 #[.bool true, .slice at_ k ct] ∧ Blk y wr.heap.size 45 #[.slice ax nx cx, .slice ay ny cy]) := hH
            have HG1 : Hid (∀ y y', H y → y.grownBy y' none → H y') := by
              rw [hH]
              intro y y' h hg
              exact ⟨grown_trans h.1 hg, h.2.1.grown hg (by simp), h.2.2.grown hg (by simp)⟩
            have HM : Hid (∀ y : World, H y → y.cell? ⟨tb, 1, none⟩ = some (.slice at_ k ct) ∧ y.frozen? ⟨tb, 1, none⟩ = false ∧ y.cell? ⟨wr.heap.size, 0, none⟩ = some (.slice ax nx cx) ∧ y.cell? ⟨wr.heap.size, 1, none⟩ = some (.slice ay ny cy)) := by
              rw [hH]
              exact fun y hy => ⟨hy.2.1.cell 1, hy.2.1.free 1, hy.2.2.cell 0, hy.2.2.cell 1⟩
            have HC0 : Hid (H wc) := by
              rw [hH]
              exact ⟨grown_trans HR.out.2.2.2.2 HW.out.1, hbw, HW.out.2.1⟩
            clear hbw hH
            go_wp2_with fail
            refine wp_region_noPanic ?_
            refine wp_region_hold 14 H (by kernel_rfl) ?_
            have G0 : Hid (wc.grownBy wc.drew none) := grown_drew _ _
            generalize wc.drew = wd at G0 ⊢
            refine wpHold_take (i := 0) (v := _) ((HG1.out _ _ HC0.out G0.out)) rfl rfl (by kernel_rfl) (by kernel_rfl) (by kernel_rfl) (by kernel_rfl) (by kernel_rfl) (fun _ _ _ h => h) (by rfl) (fun wk hk => by obtain ⟨z0, z1, z2, z3⟩ := HM.out wk hk; go_simp; try rfl) ?_
            try simp only [Act.put, List.setIfInBounds_toArray, List.set_cons_zero, List.set_cons_succ]
            refine wpHold_take (i := 1) (v := _) ((HG1.out _ _ HC0.out G0.out)) rfl rfl (by kernel_rfl) (by kernel_rfl) (by kernel_rfl) (by kernel_rfl) (by kernel_rfl) (fun _ _ _ h => h) (by rfl) (fun wk hk => by obtain ⟨z0, z1, z2, z3⟩ := HM.out wk hk; go_simp; try rfl) ?_
            try simp only [Act.put, List.setIfInBounds_toArray, List.set_cons_zero, List.set_cons_succ]
            refine wpHold_take (i := 2) (v := _) ((HG1.out _ _ HC0.out G0.out)) rfl rfl (by kernel_rfl) (by kernel_rfl) (by kernel_rfl) (by kernel_rfl) (by kernel_rfl) (fun _ _ _ h => h) (by rfl) (fun wk hk => by obtain ⟨z0, z1, z2, z3⟩ := HM.out wk hk; go_simp; try rfl) ?_
            try simp only [Act.put, List.setIfInBounds_toArray, List.set_cons_zero, List.set_cons_succ]
            refine wpHold_take (i := 3) (v := _) ((HG1.out _ _ HC0.out G0.out)) rfl rfl (by kernel_rfl) (by kernel_rfl) (by kernel_rfl) (by kernel_rfl) (by kernel_rfl) (fun _ _ _ h => h) (by rfl) (fun wk hk => by obtain ⟨z0, z1, z2, z3⟩ := HM.out wk hk; go_simp; try rfl) ?_
            try simp only [Act.put, List.setIfInBounds_toArray, List.set_cons_zero, List.set_cons_succ]
            refine wpHold_take (i := 4) (v := _) ((HG1.out _ _ HC0.out G0.out)) rfl rfl (by kernel_rfl) (by kernel_rfl) (by kernel_rfl) (by kernel_rfl) (by kernel_rfl) (fun _ _ _ h => h) (by rfl) (fun wk hk => by obtain ⟨z0, z1, z2, z3⟩ := HM.out wk hk; go_simp; try rfl) ?_
            try simp only [Act.put, List.setIfInBounds_toArray, List.set_cons_zero, List.set_cons_succ]
            refine wpHold_take (i := 5) (v := _) ((HG1.out _ _ HC0.out G0.out)) rfl rfl (by kernel_rfl) (by kernel_rfl) (by kernel_rfl) (by kernel_rfl) (by kernel_rfl) (fun _ _ _ h => h) (by rfl) (fun wk hk => by obtain ⟨z0, z1, z2, z3⟩ := HM.out wk hk; go_simp; try rfl) ?_
            try simp only [Act.put, List.setIfInBounds_toArray, List.set_cons_zero, List.set_cons_succ]
            refine wpHold_take (i := 6) (v := _) ((HG1.out _ _ HC0.out G0.out)) rfl rfl (by kernel_rfl) (by kernel_rfl) (by kernel_rfl) (by kernel_rfl) (by kernel_rfl) (fun _ _ _ h => h) (by rfl) (fun wk hk => by obtain ⟨z0, z1, z2, z3⟩ := HM.out wk hk; go_simp; try rfl) ?_
            try simp only [Act.put, List.setIfInBounds_toArray, List.set_cons_zero, List.set_cons_succ]
            refine wpHold_take (i := 7) (v := _) ((HG1.out _ _ HC0.out G0.out)) rfl rfl (by kernel_rfl) (by kernel_rfl) (by kernel_rfl) (by kernel_rfl) (by kernel_rfl) (fun _ _ _ h => h) (by rfl) (fun wk hk => by obtain ⟨z0, z1, z2, z3⟩ := HM.out wk hk; go_simp; try rfl) ?_
            try simp only [Act.put, List.setIfInBounds_toArray, List.set_cons_zero, List.set_cons_succ]
            refine wpHold_take (i := 8) (v := _) ((HG1.out _ _ HC0.out G0.out)) rfl rfl (by kernel_rfl) (by kernel_rfl) (by kernel_rfl) (by kernel_rfl) (by kernel_rfl) (fun _ _ _ h => h) (by rfl) (fun wk hk => by obtain ⟨z0, z1, z2, z3⟩ := HM.out wk hk; go_simp; try rfl) ?_
            try simp only [Act.put, List.setIfInBounds_toArray, List.set_cons_zero, List.set_cons_succ]
            refine wpHold_one (i := 9) rfl (by kernel_rfl) (by rfl) (fun K hK => ?_)
            go_wp2_with (go_at_call 55; refine (ownRow55 _ _ r.1 r.2 wd (HW.out.2.2.1.grown G0.out) (HW.out.2.2.2.grown G0.out) (by omega) (by omega)).mono ?_)
            rintro e w3 ⟨p3, rfl, hp3, ⟨x3, y3, hb3, ox3, oy3, _⟩, g3⟩
            have G3 : Hid (wc.grownBy w3 none ∧ RowAz X w3 p3 r) := ⟨grown_trans G0.out g3, x3, y3, hb3, ownz_new HZ.out (grown_trans HR.out.2.2.2.2 (grown_trans HW.out.1 G0.out)).size ox3, ownz_new HZ.out (grown_trans HR.out.2.2.2.2 (grown_trans HW.out.1 G0.out)).size oy3, fun hx => by have := HZ.out _ hx; have := (grown_trans HR.out.2.2.2.2 (grown_trans HW.out.1 G0.out)).size; omega⟩
            clear g3 hb3 ox3 oy3 hp3
            go_wp2_with fail
            refine hK.out _ _ (fun _ => HG1.out _ _ HC0.out G3.out.1) ?_
            clear hK K
            try simp only [Act.put, List.setIfInBounds_toArray, List.set_cons_zero, List.set_cons_succ]
            refine wpHold_one (i := 10) rfl (by kernel_rfl) (by rfl) (fun K hK => ?_)
            go_wp2_with fail
            obtain ⟨w4, hw4, H4⟩ := al w3 #[.pointer (some ⟨p3, 0, none⟩)] 74
            rw [hw4]
            clear hw4
            have G4 : Hid (wc.grownBy w4 none) := grown_trans G3.out.1 H4.out.2.1
            refine hK.out _ _ (fun _ => HG1.out _ _ HC0.out G4.out) ?_
            clear hK K
            try simp only [Act.put, List.setIfInBounds_toArray, List.set_cons_zero, List.set_cons_succ]
            refine wpHold_one (i := 11) rfl (by kernel_rfl) (by rfl) (fun K hK => ?_)
            have gw4 := grown_trans HW.out.1 G4.out
            have hsz : tb + 1 ≤ w4.heap.size := by have := gw4.size; have := HR.out.2.1.lt; omega
            refine appP_wp w4 _ _ rfl (tb + 1) (.slice at_ k ct) k ps _ p3 rfl rfl (World.ownsRow.kept HR.out.2.2.1 gw4 (by cases (Value.slice at_ k ct).ownBlock <;> simp)) (vec_one w3 _ 74 w4 H4.out.1) (by omega) hsz ?_
            intro a5 c5 w5 hown5 hr5 hg5
            have HV5 : Hid (w5.ownsRow (tb + 1) 74 1 (.slice a5 (k + 1) c5) (k + 1) (PTR (ps ++ [p3])) ∧ Atz X w5 (ps ++ [p3]) (l.take (k + 1)) ∧ Blk w5 tb 68 #[.bool true, .slice at_ k ct] ∧ w.grownBy w5 none ∧ H w5) := by
              have h4 := HG1.out _ _ HC0.out G4.out
              have ha4 : Atz X w4 (ps ++ [p3]) (l.take (k + 1)) := by
                rw [HG.out.2.2]
                refine (HR.out.2.2.2.1.grown gw4).append ⟨rfl, fun j h1 h2 => ?_⟩
                simp at h1
                subst h1
                exact G3.out.2.grown H4.out.2.1
              have hb4 := HR.out.2.1.grown gw4 (by simp)
              have htb := HTB.out
              rcases hg5 with hg | ⟨g, c, hg, hgb, hge⟩
              · exact ⟨hown5, ha4.grown hg, hb4.grown hg (by simp), grown_trans (grown_trans HR.out.2.2.2.2 gw4) hg, HG1.out _ _ h4 hg⟩
              · have k1 := hb4.grown hg (by simp; omega)
                have k2 := grown_new (grown_trans HR.out.2.2.2.2 gw4) hg (fun x hx => by simp at hx; omega)
                refine ⟨hown5, ha4.off hg hgb (by decide) (by decide), k1, k2, ?_⟩
                rw [HH.out] at h4 ⊢
                refine ⟨k2, k1, h4.2.2.grown hg (fun e => ?_)⟩
                simp at e
                subst e
                have h5 := h4.2.2
                unfold Blk at h5 hgb
                rw [h5] at hgb
                simp at hgb
            clear hown5 hr5 hg5 gw4 hsz
            refine hK.out _ _ (fun _ => HV5.out.2.2.2.2) ?_
            clear hK K
            try simp only [Act.put, List.setIfInBounds_toArray, List.set_cons_zero, List.set_cons_succ]
            refine wpHold_take (i := 12) (v := _) (HV5.out.2.2.2.2) rfl rfl (by kernel_rfl) (by kernel_rfl) (by kernel_rfl) (by kernel_rfl) (by kernel_rfl) (fun _ _ _ h => h) (by rfl) (fun wk hk => by obtain ⟨z0, z1, z2, z3⟩ := HM.out wk hk; go_simp; try rfl) ?_
            try simp only [Act.put, List.setIfInBounds_toArray, List.set_cons_zero, List.set_cons_succ]
            refine wpHold_take (i := 13) (v := _) (HV5.out.2.2.2.2) rfl rfl (by kernel_rfl) (by kernel_rfl) (by kernel_rfl) (by kernel_rfl) (by kernel_rfl) (fun _ _ _ h => h) (by rfl) (fun wk hk => by obtain ⟨z0, z1, z2, z3⟩ := HM.out wk hk; go_simp; try rfl) ?_
            try simp only [Act.put, List.setIfInBounds_toArray, List.set_cons_zero, List.set_cons_succ]
            refine wpHold_one (i := 14) rfl (by kernel_rfl) (by rfl) (fun K hK => ?_)
            have f5 := HV5.out.2.2.1.free 1
            have q5 := HV5.out.2.2.1.cell 1
            simp at q5
            go_wp2_with fail
            obtain ⟨w6, hw6⟩ : ∃ w6, w5.setCell ⟨tb, 1, none⟩ (.slice a5 (k + 1) c5) = w6 := ⟨_, rfl⟩
            have H6 : Hid (Blk w6 tb 68 #[.bool true, .slice a5 (k + 1) c5] ∧ w6.ownsRow (tb + 1) 74 1 (.slice a5 (k + 1) c5) (k + 1) (PTR (ps ++ [p3])) ∧ Atz X w6 (ps ++ [p3]) (l.take (k + 1)) ∧ w.grownBy w6 none) := by
              have g56 : w5.grownBy w6 (some tb) := by rw [← hw6]; exact grown_setCell _ _ _ _
              have hb5 := HV5.out.2.2.1
              refine ⟨by rw [← hw6]; exact hb5.store 1 _, ?_, HV5.out.2.1.off g56 hb5 (by decide) (by decide), grown_new HV5.out.2.2.2.1 g56 (fun x hx => by simp at hx; have := HTB.out; omega)⟩
              refine owns_same HV5.out.1 fun q hq => g56.block q (World.ownsRow.lt HV5.out.1 q hq).2 (fun e => ?_)
              have := (World.ownsRow.lt HV5.out.1 q hq).1
              simp at e
              omega
            rw [hw6]
            clear hw6
            refine hK.out _ _ (fun h => absurd rfl h) ?_
            clear hK K
            try simp only [Act.put, List.setIfInBounds_toArray, List.set_cons_zero, List.set_cons_succ]
            refine wpHold_done (by kernel_rfl) ?_
            refine (‹∀ (a : Act) (w : World), Code.wp Try.prog _ _ a w → _› _ _ ?_)
            go_wp2_with fail
            go_roundw
            case rel => exact ⟨k + 1, _, _, by omega, by go_num, HGG.out, H6.out.1, H6.out.2.1, H6.out.2.2.1, H6.out.2.2.2⟩
            case measure => simp [intOf]; omega
    · have hkn : k = n := by omega
      subst hkn
      go_wp2_with fail
      go_ret2
      have e : l.take k = l := List.take_of_length_le (by have := HN.out.1; omega)
      have hh := HR.out
      rw [e] at hh
      refine .inl ⟨hh.1, tb, rfl, by have := HTB.out; omega, ⟨tv, hh.2.1, ps, hh.2.2.2.1, ?_⟩, hh.2.2.2.2⟩
      rw [HN.out.1]
      exact vec_of_owns hh.2.2.1
end Go.Proofs.Ytlehikdlkdbacaa
