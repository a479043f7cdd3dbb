/-
  CallsResults' walk.
-/
import Derived.Test.YtfocmbnhkldnfaaGreatDoorRu
import Derived.Test.YtfocmbnhkldnfaaGreatDoorAk
import Derived.Test.YtfocmbnhkldnfaaGreatDoorKn
namespace Go.Proofs.YtfocmbnhkldnfaaGreatDoor
open Go.RowKit Disk
open Names (Str)

theorem min9r (ts : Array TypeId) (t : TypeId) (m : Nat) (w : World) : (Builtin.min_ ts t #[.int .i64 (m : Int), .int .i64 9999]).run Tryz.prog w = .ok (.int .i64 ((min m 9999 : Nat) : Int)) w := by
  by_cases h : m ≤ 9999
  · rw [Nat.min_eq_left h]
    simp [Builtin.min_, Builtin.min2]
    try omega
  · rw [Nat.min_eq_right (by omega)]
    simp [Builtin.min_, Builtin.min2]
    try omega
attribute [local go_sem ↓] min9r
def KnP (w : World) (e : Ending) (w' : World) : Prop := e = .returned (.bool true) ∧ w.grownBy w' none
theorem known10' (w : World) (hE : EnvF w) : Calls Tryz.prog 10 #[] w (KnP w) := known10 w hE
theorem alike30_refl (a b : Value) (A : PRes) (w : World) (ha : Outs w a A.outs) (hb : Outs w b A.outs) : Calls Tryz.prog 30 #[resV a A, resV b A] w fun e w' => e = .returned (.bool true) ∧ w.grownBy w' none := by simpa using alike30 a b A A w ha hb
theorem alike33_two (a b : Value) (A : PRes) (w : World) (ha : Outs w a A.outs) (hb : Outs w b A.outs) : Calls Tryz.prog 33 #[resV a A, resV b A] w fun e w' => e = .returned (.bool true) ∧ w.grownBy w' none := by simpa using alike33 a b A A w ha hb

set_option maxRecDepth 100000 in
set_option maxHeartbeats 16000000 in
theorem results5 (v b : Value) (r : PRes) (L : Bs) (w : World) (hv : Outs w v r.outs) (hb : Seg w b L) (hE : EnvF w) : Calls Tryz.prog 5 #[.agg #[.int .i64 r.abort, .int .i64 r.place, v], b] w fun e w' => e = .returned (.bool true) ∧ w.grownBy w' none := by
  obtain ⟨ao, n, cap, rfl, hn, hn2, HV⟩ := outs_open hv
  obtain ⟨bo, lb, cb, rfl, hlb, hlb2, HB⟩ := Names.seg_open hb
  have HN : Hid (r.outs.length = n ∧ L.length = lb) := ⟨hn, hlb⟩
  have HE : Hid (EnvF w) := hE
  clear hv hb hn hlb hE
  go_enter Tryz.func5, Tryz.ntmps5
  go_upto_region 1 with fail
  have S0 : Hid (Blk (w.alloc (.cells #[.int .i64 r.abort, .int .i64 r.place, .slice ao n cap] 51)) w.heap.size 51 #[.int .i64 r.abort, .int .i64 r.place, .slice ao n cap] ∧ w.grownBy (w.alloc (.cells #[.int .i64 r.abort, .int .i64 r.place, .slice ao n cap] 51)) none) := ⟨heap_alloc_new w _, World.grownBy_alloc _ _ none⟩
  generalize (w.alloc (.cells #[.int .i64 r.abort, .int .i64 r.place, .slice ao n cap] 51)) = W0 at S0 ⊢
  have HC : Hid (∀ y : World, W0.grownBy y none → y.cell? ⟨w.heap.size, 0, none⟩ = some (.int .i64 r.abort) ∧ y.cell? ⟨w.heap.size, 1, none⟩ = some (.int .i64 r.place) ∧ y.cell? ⟨w.heap.size, 2, none⟩ = some (.slice ao n cap)) := fun y hy => ⟨(S0.out.1.grown hy (by simp)).cell 0, (S0.out.1.grown hy (by simp)).cell 1, (S0.out.1.grown hy (by simp)).cell 2⟩
  go_wp2_with fail
  go_loopw [5, 6] (fun s i wr => ∃ k m : Nat, k ≤ n ∧ k ≤ 20 ∧ s = .int .i64 m ∧ i = .int .i64 k ∧ m ≤ k * 1500000 ∧ Hid (W0.grownBy wr none)) (fun _ i _ => 20 - (intOf i).toNat)
  case atStart => exact ⟨0, 0, by omega, by omega, rfl, rfl, by omega, grown_refl _ _⟩
  case round =>
    obtain ⟨k, m, hk, hk2, rfl, rfl, hm, HR⟩ := hrel
    obtain ⟨gb, hgb⟩ : ∃ x, decide (k < n ∧ k < 20) = x := ⟨_, rfl⟩
    have HGB : Hid (decide (k < n ∧ k < 20) = gb) := hgb
    clear hgb
    have c2 := (HC.out _ HR.out).2.2
    go_upto_region 3 with fail
    go_cut [24] (fun x wc => x = .bool gb ∧ wc = wr)
    case first =>
      by_cases h1 : (k : Int) < (n : Int)
      · by_cases h2 : (k : Int) < 20
        · go_wp2_with fail
          go_meet
          case rel => exact ⟨by rw [← HGB.out]; simp; omega, rfl⟩
        · go_wp2_with fail
          go_meet
          case rel => exact ⟨by rw [← HGB.out]; simp; omega, rfl⟩
      · go_wp2_with fail
        go_meet
        case rel => exact ⟨by rw [← HGB.out]; simp; omega, rfl⟩
    case rest =>
      obtain ⟨rfl, hwc⟩ := hcut
      rw [hwc]
      clear hwc c2
      refine (‹∀ (a : Act) (w : World), Code.wp Tryz.prog _ _ a w → _› _ _ ?_)
      cases gb with
      | true =>
        have hgo : k < n ∧ k < 20 := by simpa using HGB.out
        clear HGB
        have hkl : k < r.outs.length := by rw [HN.out.1]; exact hgo.1
        obtain ⟨b1, o1, x1, y1, rfl, h1, s1⟩ := outs_at (HV.out.grown S0.out.2) k hkl
        obtain ⟨o, ho⟩ : ∃ o, o = r.outs[k] := ⟨_, rfl⟩
        rw [← ho] at h1 s1
        clear ho hkl
        obtain ⟨ax, nx, cx, rfl, _, hnx, _⟩ := Names.seg_open s1.value
        obtain ⟨ay, ny, cy, rfl, hny, hny2, _⟩ := rws_open s1.rows
        have HO : Hid (Rws W0 (.slice ay ny cy) o.rows ∧ o.rows.length = ny) := ⟨s1.rows, hny⟩
        have HM : Hid (∀ y : World, W0.grownBy y none → y.cell? ⟨w.heap.size, 2, none⟩ = some (.slice (some ⟨b1, o1, none⟩) n cap) ∧ y.cell? ⟨b1, o1 + k * 3 + 1, none⟩ = some (.slice ax nx cx) ∧ y.cell? ⟨b1, o1 + k * 3 + 2, none⟩ = some (.slice ay ny cy)) := fun y hy => ⟨(HC.out y hy).2.2, (h1.grown hy).c1, (h1.grown hy).c2⟩
        clear s1 h1 hny
        have i0 : (0 : Int) ≤ (k : Int) := by omega
        have i1 : (k : Int) < (n : Int) := by omega
        have q1 : min nx 9999 ≤ 9999 := Nat.min_le_right _ _
        have q2 : min ny 9999 ≤ 9999 := Nat.min_le_right _ _
        have hm2 : m ≤ 30000000 := by omega
        go_upto_region 5 with fail
        refine wp_region_noPanic ?_
        refine wp_region_hold 1000 (fun y => W0.grownBy y none) (by kernel_rfl) ?_
        have G0 : Hid (W0.grownBy wr.drew none) := grown_trans HR.out (grown_drew _ _)
        generalize wr.drew = wd at G0 ⊢
        refine wt (i := 0) (G0.out) rfl rfl (fun wk hk => by obtain ⟨z0, z1, z2⟩ := HM.out wk hk; go_simp; try rfl) ?_
        try simp only [pN]
        refine wt (i := 1) (G0.out) rfl rfl (fun wk hk => by obtain ⟨z0, z1, z2⟩ := HM.out wk hk; go_simp; try rfl) ?_
        try simp only [pN]
        refine wt (i := 2) (G0.out) rfl rfl (fun wk hk => by obtain ⟨z0, z1, z2⟩ := HM.out wk hk; go_simp; try rfl) ?_
        try simp only [pN]
        refine wt (i := 3) (G0.out) rfl rfl (fun wk hk => by obtain ⟨z0, z1, z2⟩ := HM.out wk hk; go_simp; try rfl) ?_
        try simp only [pN]
        refine wt (i := 4) (G0.out) rfl rfl (fun wk hk => by obtain ⟨z0, z1, z2⟩ := HM.out wk hk; go_simp; try rfl) ?_
        try simp only [pN]
        refine wt (i := 5) (G0.out) rfl rfl (fun wk hk => by obtain ⟨z0, z1, z2⟩ := HM.out wk hk; go_simp; try rfl) ?_
        try simp only [pN]
        refine wt (i := 6) (G0.out) rfl rfl (fun wk hk => by obtain ⟨z0, z1, z2⟩ := HM.out wk hk; go_simp; try rfl) ?_
        try simp only [pN]
        refine wt (i := 7) (G0.out) rfl rfl (fun wk hk => by obtain ⟨z0, z1, z2⟩ := HM.out wk hk; go_simp; try rfl) ?_
        try simp only [pN]
        refine wt (i := 8) (G0.out) rfl rfl (fun wk hk => by obtain ⟨z0, z1, z2⟩ := HM.out wk hk; go_simp; try rfl) ?_
        try simp only [pN]
        refine wt (i := 10) (G0.out) rfl rfl (fun wk hk => by obtain ⟨z0, z1, z2⟩ := HM.out wk hk; go_simp; try rfl) ?_
        try simp only [pN]
        refine wt (i := 11) (G0.out) rfl rfl (fun wk hk => by obtain ⟨z0, z1, z2⟩ := HM.out wk hk; go_simp; try rfl) ?_
        try simp only [pN]
        refine wt (i := 12) (G0.out) rfl rfl (fun wk hk => by obtain ⟨z0, z1, z2⟩ := HM.out wk hk; go_simp; try rfl) ?_
        try simp only [pN]
        refine wt (i := 13) (G0.out) rfl rfl (fun wk hk => by obtain ⟨z0, z1, z2⟩ := HM.out wk hk; go_simp; try rfl) ?_
        try simp only [pN]
        refine wt (i := 14) (G0.out) rfl rfl (fun wk hk => by obtain ⟨z0, z1, z2⟩ := HM.out wk hk; go_simp; try rfl) ?_
        try simp only [pN]
        refine wt (i := 15) (G0.out) rfl rfl (fun wk hk => by obtain ⟨z0, z1, z2⟩ := HM.out wk hk; go_simp; try rfl) ?_
        try simp only [pN]
        refine wt (i := 16) (G0.out) rfl rfl (fun wk hk => by obtain ⟨z0, z1, z2⟩ := HM.out wk hk; go_simp; try rfl) ?_
        try simp only [pN]
        refine wt (i := 17) (G0.out) rfl rfl (fun wk hk => by obtain ⟨z0, z1, z2⟩ := HM.out wk hk; go_simp; try rfl) ?_
        try simp only [pN]
        refine wpHold_one (i := 9) rfl (by kernel_rfl) (by rfl) (fun K hK => ?_)
        go_wp2_with fail
        refine hK.out _ _ (fun _ => G0.out) ?_
        clear hK K
        try simp only [pN]
        refine wpHold_one (i := 18) rfl (by kernel_rfl) (by rfl) (fun K hK => ?_)
        go_wp2_with fail
        refine hK.out _ _ (fun _ => G0.out) ?_
        clear hK K
        try simp only [pN]
        refine wt (i := 19) (G0.out) rfl rfl (fun wk hk => by obtain ⟨z0, z1, z2⟩ := HM.out wk hk; go_simp; try rfl) ?_
        try simp only [pN]
        refine wpHold_done (by kernel_rfl) ?_
        refine (‹∀ (a : Act) (w : World), Code.wp Tryz.prog _ _ a w → _› _ _ ?_)
        go_wp2_with fail
        obtain ⟨Wk, hWk⟩ : ∃ W : World, W = wd := ⟨_, rfl⟩
        go_loopw [5, 7] (fun s i wr => ∃ j m2 : Nat, j ≤ ny ∧ j ≤ 70 ∧ s = .int .i64 m2 ∧ i = .int .i64 j ∧ m2 ≤ k * 1500000 + 19998 + j * 19998 ∧ Hid (W0.grownBy wr none)) (fun _ i _ => 70 - (intOf i).toNat)
        case atStart => exact ⟨0, m + min nx 9999 + min ny 9999, by omega, by omega, by go_num, rfl, by omega, G0.out⟩
        case round =>
          obtain ⟨j, m2, hj, hj2, rfl, rfl, hmm, HJ⟩ := hrel
          clear HR
          have HR : Hid (W0.grownBy wr none) := HJ.out
          obtain ⟨gc, hgc⟩ : ∃ x, decide (j < ny ∧ j < 70) = x := ⟨_, rfl⟩
          have HGC : Hid (decide (j < ny ∧ j < 70) = gc) := hgc
          clear hgc
          obtain ⟨z0, z1, z2⟩ := HM.out _ HR.out
          go_upto_region 7 with fail
          go_cut [58] (fun x wc => x = .bool gc ∧ wc = wr)
          case first =>
            by_cases h1 : (j : Int) < (ny : Int)
            · by_cases h2 : (j : Int) < 70
              · go_wp2_with fail
                go_meet
                case rel => exact ⟨by rw [← HGC.out]; simp; omega, rfl⟩
              · go_wp2_with fail
                go_meet
                case rel => exact ⟨by rw [← HGC.out]; simp; omega, rfl⟩
            · go_wp2_with fail
              go_meet
              case rel => exact ⟨by rw [← HGC.out]; simp; omega, rfl⟩
          case rest =>
            obtain ⟨rfl, hwc⟩ := hcut
            rw [hwc]
            clear hwc z0 z1 z2
            refine (‹∀ (a : Act) (w : World), Code.wp Tryz.prog _ _ a w → _› _ _ ?_)
            cases gc with
            | true =>
              have hgo : j < ny ∧ j < 70 := by simpa using HGC.out
              clear HGC
              have hjl : j < o.rows.length := by rw [HO.out.2]; exact hgo.1
              obtain ⟨b2, o2, x2, y2, rfl, h2⟩ := rws_at HO.out.1 j hjl
              obtain ⟨f1, n1, e1, rfl, _, _, _⟩ := Names.seg_open h2.s0
              obtain ⟨f2, n2, e2, rfl, _, _, _⟩ := Names.seg_open h2.s1
              have HM2 : Hid (∀ y : World, W0.grownBy y none → (y.cell? ⟨w.heap.size, 2, none⟩ = some (.slice (some ⟨b1, o1, none⟩) n cap) ∧ y.cell? ⟨b1, o1 + k * 3 + 2, none⟩ = some (.slice (some ⟨b2, o2, none⟩) ny cy)) ∧ y.cell? ⟨b2, o2 + j * 2, none⟩ = some (.slice f1 n1 e1) ∧ y.cell? ⟨b2, o2 + j * 2 + 1, none⟩ = some (.slice f2 n2 e2)) := fun y hy => ⟨⟨(HM.out y hy).1, (HM.out y hy).2.2⟩, (h2.grown hy).c0, (h2.grown hy).c1⟩
              clear h2
              have j0 : (0 : Int) ≤ (j : Int) := by omega
              have j1 : (j : Int) < (ny : Int) := by omega
              have q3 : min n1 9999 ≤ 9999 := Nat.min_le_right _ _
              have q4 : min n2 9999 ≤ 9999 := Nat.min_le_right _ _
              have hm3 : m2 ≤ 40000000 := by omega
              go_upto_region 9 with fail
              refine wp_region_noPanic ?_
              refine wp_region_hold 1000 (fun y => W0.grownBy y none) (by kernel_rfl) ?_
              have G0 : Hid (W0.grownBy wr.drew none) := grown_trans HR.out (grown_drew _ _)
              generalize wr.drew = wd at G0 ⊢
              refine wt (i := 0) (G0.out) rfl rfl (fun wk hk => by obtain ⟨⟨z0, z1⟩, z2, z3⟩ := HM2.out wk hk; go_simp; try rfl) ?_
              try simp only [pN]
              refine wt (i := 1) (G0.out) rfl rfl (fun wk hk => by obtain ⟨⟨z0, z1⟩, z2, z3⟩ := HM2.out wk hk; go_simp; try rfl) ?_
              try simp only [pN]
              refine wt (i := 2) (G0.out) rfl rfl (fun wk hk => by obtain ⟨⟨z0, z1⟩, z2, z3⟩ := HM2.out wk hk; go_simp; try rfl) ?_
              try simp only [pN]
              refine wt (i := 3) (G0.out) rfl rfl (fun wk hk => by obtain ⟨⟨z0, z1⟩, z2, z3⟩ := HM2.out wk hk; go_simp; try rfl) ?_
              try simp only [pN]
              refine wt (i := 4) (G0.out) rfl rfl (fun wk hk => by obtain ⟨⟨z0, z1⟩, z2, z3⟩ := HM2.out wk hk; go_simp; try rfl) ?_
              try simp only [pN]
              refine wt (i := 5) (G0.out) rfl rfl (fun wk hk => by obtain ⟨⟨z0, z1⟩, z2, z3⟩ := HM2.out wk hk; go_simp; try rfl) ?_
              try simp only [pN]
              refine wt (i := 6) (G0.out) rfl rfl (fun wk hk => by obtain ⟨⟨z0, z1⟩, z2, z3⟩ := HM2.out wk hk; go_simp; try rfl) ?_
              try simp only [pN]
              refine wt (i := 7) (G0.out) rfl rfl (fun wk hk => by obtain ⟨⟨z0, z1⟩, z2, z3⟩ := HM2.out wk hk; go_simp; try rfl) ?_
              try simp only [pN]
              refine wt (i := 8) (G0.out) rfl rfl (fun wk hk => by obtain ⟨⟨z0, z1⟩, z2, z3⟩ := HM2.out wk hk; go_simp; try rfl) ?_
              try simp only [pN]
              refine wt (i := 9) (G0.out) rfl rfl (fun wk hk => by obtain ⟨⟨z0, z1⟩, z2, z3⟩ := HM2.out wk hk; go_simp; try rfl) ?_
              try simp only [pN]
              refine wt (i := 10) (G0.out) rfl rfl (fun wk hk => by obtain ⟨⟨z0, z1⟩, z2, z3⟩ := HM2.out wk hk; go_simp; try rfl) ?_
              try simp only [pN]
              refine wt (i := 11) (G0.out) rfl rfl (fun wk hk => by obtain ⟨⟨z0, z1⟩, z2, z3⟩ := HM2.out wk hk; go_simp; try rfl) ?_
              try simp only [pN]
              refine wt (i := 12) (G0.out) rfl rfl (fun wk hk => by obtain ⟨⟨z0, z1⟩, z2, z3⟩ := HM2.out wk hk; go_simp; try rfl) ?_
              try simp only [pN]
              refine wt (i := 14) (G0.out) rfl rfl (fun wk hk => by obtain ⟨⟨z0, z1⟩, z2, z3⟩ := HM2.out wk hk; go_simp; try rfl) ?_
              try simp only [pN]
              refine wt (i := 15) (G0.out) rfl rfl (fun wk hk => by obtain ⟨⟨z0, z1⟩, z2, z3⟩ := HM2.out wk hk; go_simp; try rfl) ?_
              try simp only [pN]
              refine wt (i := 16) (G0.out) rfl rfl (fun wk hk => by obtain ⟨⟨z0, z1⟩, z2, z3⟩ := HM2.out wk hk; go_simp; try rfl) ?_
              try simp only [pN]
              refine wt (i := 17) (G0.out) rfl rfl (fun wk hk => by obtain ⟨⟨z0, z1⟩, z2, z3⟩ := HM2.out wk hk; go_simp; try rfl) ?_
              try simp only [pN]
              refine wt (i := 18) (G0.out) rfl rfl (fun wk hk => by obtain ⟨⟨z0, z1⟩, z2, z3⟩ := HM2.out wk hk; go_simp; try rfl) ?_
              try simp only [pN]
              refine wt (i := 19) (G0.out) rfl rfl (fun wk hk => by obtain ⟨⟨z0, z1⟩, z2, z3⟩ := HM2.out wk hk; go_simp; try rfl) ?_
              try simp only [pN]
              refine wt (i := 20) (G0.out) rfl rfl (fun wk hk => by obtain ⟨⟨z0, z1⟩, z2, z3⟩ := HM2.out wk hk; go_simp; try rfl) ?_
              try simp only [pN]
              refine wt (i := 21) (G0.out) rfl rfl (fun wk hk => by obtain ⟨⟨z0, z1⟩, z2, z3⟩ := HM2.out wk hk; go_simp; try rfl) ?_
              try simp only [pN]
              refine wt (i := 22) (G0.out) rfl rfl (fun wk hk => by obtain ⟨⟨z0, z1⟩, z2, z3⟩ := HM2.out wk hk; go_simp; try rfl) ?_
              try simp only [pN]
              refine wt (i := 23) (G0.out) rfl rfl (fun wk hk => by obtain ⟨⟨z0, z1⟩, z2, z3⟩ := HM2.out wk hk; go_simp; try rfl) ?_
              try simp only [pN]
              refine wt (i := 24) (G0.out) rfl rfl (fun wk hk => by obtain ⟨⟨z0, z1⟩, z2, z3⟩ := HM2.out wk hk; go_simp; try rfl) ?_
              try simp only [pN]
              refine wt (i := 25) (G0.out) rfl rfl (fun wk hk => by obtain ⟨⟨z0, z1⟩, z2, z3⟩ := HM2.out wk hk; go_simp; try rfl) ?_
              try simp only [pN]
              refine wpHold_one (i := 13) rfl (by kernel_rfl) (by rfl) (fun K hK => ?_)
              go_wp2_with fail
              refine hK.out _ _ (fun _ => G0.out) ?_
              clear hK K
              try simp only [pN]
              refine wpHold_one (i := 26) rfl (by kernel_rfl) (by rfl) (fun K hK => ?_)
              go_wp2_with fail
              refine hK.out _ _ (fun _ => G0.out) ?_
              clear hK K
              try simp only [pN]
              refine wt (i := 27) (G0.out) rfl rfl (fun wk hk => by obtain ⟨⟨z0, z1⟩, z2, z3⟩ := HM2.out wk hk; go_simp; try rfl) ?_
              try simp only [pN]
              refine wpHold_done (by kernel_rfl) ?_
              refine (‹∀ (a : Act) (w : World), Code.wp Tryz.prog _ _ a w → _› _ _ ?_)
              go_wp2_with fail
              go_roundw
              case rel => exact ⟨j + 1, m2 + min n1 9999 + min n2 9999, by omega, by omega, by go_num, by go_num, by omega, G0⟩
              case measure => simp [intOf]; omega
            | false =>
              have hgo : ¬ (j < ny ∧ j < 70) := by simpa using HGC.out
              clear HGC
              go_wp2_with fail
              go_roundw
              case rel => exact ⟨k + 1, m2, by omega, by omega, by go_num, by go_num, by omega, HR⟩
              case measure => simp [intOf]; omega
      | false =>
        clear HGB
        have hm2 : m ≤ 30000000 := by omega
        by_cases hl9 : (9000 : Int) < (lb : Int)
        · go_wp2_with (go_at_call 10; refine (known10' _ (HE.out.grown (grown_trans S0.out.2 HR.out))).mono ?_)
          rintro e wz ⟨rfl, gz⟩
          have GZ : Hid (w.grownBy wz none) := grown_trans (grown_trans S0.out.2 HR.out) gz
          clear gz
          go_wp2_with fail
          go_ret
          exact ⟨rfl, GZ.out⟩
        · have j1 : ((9000 : Int) < (lb : Int)) = False := eq_false hl9
          have j2 : (9000 < lb) = False := eq_false (by omega)
          by_cases hs9 : (9000 : Int) < (m : Int)
          · go_wp2_with (go_at_call 10; refine (known10' _ (HE.out.grown (grown_trans S0.out.2 HR.out))).mono ?_)
            rintro e wz ⟨rfl, gz⟩
            have GZ : Hid (w.grownBy wz none) := grown_trans (grown_trans S0.out.2 HR.out) gz
            clear gz
            go_wp2_with fail
            go_ret
            exact ⟨rfl, GZ.out⟩
          · have j3 : ((9000 : Int) < (m : Int)) = False := eq_false hs9
            have j4 : (9000 < m) = False := eq_false (by omega)
            have HLB : Hid (L.length ≤ 9000) := by rw [HN.out.2]; unfold Hid; omega
            obtain ⟨c0, c1, c2⟩ := HC.out _ HR.out
            go_wp2_with (go_at_call 27; refine (result27 _ r _ (HV.out.grown (grown_trans S0.out.2 HR.out))).mono ?_)
            intro e w1 hres
            have HRES : Hid _ := hres
            clear hres
            obtain ⟨ua, ne, hua⟩ : ∃ (u : Value) (ne : Int), e = .returned (.tuple #[u, .int .i64 ne]) ∧ ((mayRes r = true ∧ ne = 0 ∧ Own w1 wr.heap.size u (resForm r)) ∨ (mayRes r = false ∧ ne = 2 ∧ u = .slice none 0 0)) ∧ wr.grownBy w1 none := by
              rcases HRES.out with ⟨h1, u, h2, h3, h4⟩ | ⟨h1, h2, h3⟩
              · exact ⟨u, 0, h2, .inl ⟨h1, rfl, h3⟩, h4⟩
              · exact ⟨_, 2, h2, .inr ⟨h1, rfl, rfl⟩, h3⟩
            obtain ⟨rfl, hcase, hg1⟩ := hua
            have G1 : Hid (W0.grownBy w1 none ∧ wr.grownBy w1 none) := ⟨grown_trans HR.out hg1, hg1⟩
            have HCA : Hid ((mayRes r = true ∧ ne = 0 ∧ Own w1 wr.heap.size ua (resForm r)) ∨ (mayRes r = false ∧ ne = 2 ∧ ua = .slice none 0 0)) := hcase
            obtain ⟨fa, la, qa, rfl⟩ : ∃ x n y, ua = .slice x n y := by
              rcases hcase with ⟨_, _, h⟩ | ⟨_, _, rfl⟩
              · exact slice_of h
              · exact ⟨_, _, _, rfl⟩
            clear hcase hg1 HRES c0 c1 c2
            go_wp2_with (go_at_call 28; refine (read28 _ L _ (by have := HLB.out; omega) (HB.out.grown (grown_trans S0.out.2 G1.out.1))).mono ?_)
            rintro e w2 ⟨u2, rfl, ho2, hg2⟩
            obtain ⟨f2, l2, q2, rfl, hn2'⟩ := ho2.slice
            clear hn2'
            obtain ⟨rd, hrd⟩ : ∃ x, readR L = x := ⟨_, rfl⟩
            rw [hrd] at ho2 ⊢
            obtain ⟨xr, xe⟩ := rd
            simp only at ho2 ⊢
            have HRD : Hid (readR L = (xr, xe)) := hrd
            clear hrd
            obtain ⟨A1, hA1, Y1⟩ : ∃ A, w2.alloc (.cells #[.int .i64 xr.abort, .int .i64 xr.place, .slice f2 l2 q2] 51) = A ∧ Hid (Blk A w2.heap.size 51 #[.int .i64 xr.abort, .int .i64 xr.place, .slice f2 l2 q2] ∧ w2.grownBy A none) := ⟨_, rfl, heap_alloc_new _ _, World.grownBy_alloc _ _ none⟩
            have G2 : Hid (W0.grownBy A1 none ∧ w1.grownBy A1 none ∧ Outs A1 (.slice f2 l2 q2) xr.outs) := ⟨grown_trans G1.out.1 (grown_trans hg2 Y1.out.2), grown_trans hg2 Y1.out.2, ho2.outs.grown Y1.out.2⟩
            clear ho2 hg2
            go_wp2_with (go_at_call 29; refine (read29 _ L _ (HB.out.grown (grown_trans S0.out.2 G2.out.1)) (by have := HLB.out; omega)).mono ?_)
            rintro e w3 ⟨u3, rfl, ho3, hg3⟩
            obtain ⟨f3, l3, q3, rfl, hn3'⟩ := ho3.slice
            clear hn3'
            rw [HRD.out] at ho3 ⊢
            simp only at ho3 ⊢
            obtain ⟨A2, hA2, Y2⟩ : ∃ A, w3.alloc (.cells #[.int .i64 xr.abort, .int .i64 xr.place, .slice f3 l3 q3] 51) = A ∧ Hid (Blk A w3.heap.size 51 #[.int .i64 xr.abort, .int .i64 xr.place, .slice f3 l3 q3] ∧ w3.grownBy A none) := ⟨_, rfl, heap_alloc_new _ _, World.grownBy_alloc _ _ none⟩
            have gA : A1.grownBy A2 none := grown_trans hg3 Y2.out.2
            have G3 : Hid (W0.grownBy A2 none ∧ w1.grownBy A2 none ∧ Outs A2 (.slice f2 l2 q2) xr.outs ∧ Outs A2 (.slice f3 l3 q3) xr.outs ∧ Blk A2 w2.heap.size 51 #[.int .i64 xr.abort, .int .i64 xr.place, .slice f2 l2 q2]) := ⟨grown_trans G2.out.1 gA, grown_trans G2.out.2.1 gA, G2.out.2.2.grown gA, ho3.outs.grown Y2.out.2, Y1.out.1.grown gA (by simp)⟩
            have d0 := G3.out.2.2.2.2.cell 0
            have d1 := G3.out.2.2.2.2.cell 1
            have d2 := G3.out.2.2.2.2.cell 2
            have e0 := Y2.out.1.cell 0
            have e1 := Y2.out.1.cell 1
            have e2 := Y2.out.1.cell 2
            clear ho3 hg3 gA
            go_wp2_with (go_at_call 30; refine (alike30_refl _ _ xr _ G3.out.2.2.1 G3.out.2.2.2.1).mono ?_)
            rintro e w4 ⟨rfl, hg4⟩
            have G4 : Hid (W0.grownBy w4 none ∧ w1.grownBy w4 none) := ⟨grown_trans G3.out.1 hg4, grown_trans G3.out.2.1 hg4⟩
            clear hg4 d0 d1 d2 e0 e1 e2 hA1 hA2 Y1 Y2 G2 G3
            obtain ⟨c0, c1, c2⟩ := HC.out _ G4.out.1
            go_wp2_with (first | (go_at_call 15; refine (num15 _ _).mono ?_; rintro e wx ⟨rfl, hx⟩; rw [hx]; clear hx) | (go_at_call 31; refine (may31 _ r _ (HV.out.grown (grown_trans S0.out.2 G4.out.1))).mono ?_))
            rintro e w5 ⟨rfl, hg5⟩
            have G5 : Hid (W0.grownBy w5 none ∧ w1.grownBy w5 none) := ⟨grown_trans G4.out.1 hg5, grown_trans G4.out.2 hg5⟩
            clear hg5 c0 c1 c2 G4
            rcases HCA.out with ⟨hm, rfl, ho⟩ | ⟨hm, rfl, hu⟩
            · rw [hm]
              have HA : Hid (mayRes r = true ∧ Own w5 wr.heap.size (.slice fa la qa) (resForm r)) := ⟨hm, ho.grown G5.out.2⟩
              clear hm ho HCA
              obtain ⟨c0, c1, c2⟩ := HC.out _ G5.out.1
              go_upto_region 19 with fail
              clear c0 c1 c2
              have HCX : Hid (∀ y : World, w5.grownBy y none → (y.cell? ⟨w.heap.size, 0, none⟩ = some (.int .i64 r.abort) ∧ y.cell? ⟨w.heap.size, 1, none⟩ = some (.int .i64 r.place) ∧ y.cell? ⟨w.heap.size, 2, none⟩ = some (.slice ao n cap)) ∧ (convert 29 9 (.slice fa la qa)).run Tryz.prog y = .ok (.string ⟨(resForm r).toArray⟩) y) := fun y hy => ⟨HC.out y (grown_trans G5.out.1 hy), seg_str (HA.out.2.seg.grown hy)⟩
              refine wp_region_noPanic ?_
              refine wp_region_hold 1000 (fun y => w5.grownBy y none) (by kernel_rfl) ?_
              have G0 : Hid (w5.grownBy w5.drew none) := grown_drew _ _
              generalize w5.drew = wd at G0 ⊢
              refine wt (i := 0) (G0.out) rfl rfl (fun wk hk => by obtain ⟨⟨z0, z1, z2⟩, z3⟩ := HCX.out wk hk; go_simp; try rfl) ?_
              try simp only [pN]
              refine wt (i := 1) (G0.out) rfl rfl (fun wk hk => by obtain ⟨⟨z0, z1, z2⟩, z3⟩ := HCX.out wk hk; go_simp; try rfl) ?_
              try simp only [pN]
              refine wt (i := 2) (G0.out) rfl rfl (fun wk hk => by obtain ⟨⟨z0, z1, z2⟩, z3⟩ := HCX.out wk hk; go_simp; try rfl) ?_
              try simp only [pN]
              refine wpHold_one (i := 3) rfl (by kernel_rfl) (by rfl) (fun K hK => ?_)
              go_wp2_with (go_at_call 32; refine (form32 _ r _ HA.out.1 (HV.out.grown (grown_trans S0.out.2 (grown_trans G5.out.1 G0.out)))).mono ?_)
              rintro e w6 ⟨u6, rfl, ho6, hg6⟩
              obtain ⟨f6, q6, e6⟩ := ho6.seg.shape
              obtain ⟨l6, hl6⟩ : ∃ l, (resForm r).length = l := ⟨_, rfl⟩
              rw [hl6] at e6
              subst e6
              have G6 : Hid (w5.grownBy w6 none ∧ Seg w6 (.slice f6 l6 q6) (resForm r)) := ⟨grown_trans G0.out hg6, ho6.seg⟩
              clear hg6 ho6 hl6
              go_wp2_with fail
              refine hK.out _ _ (fun _ => G6.out.1) ?_
              clear hK K
              have m5 : (convert 29 9 (.slice f6 l6 q6)).run Tryz.prog w6 = .ok (.string ⟨(resForm r).toArray⟩) w6 := seg_str G6.out.2
              try simp only [pN]
              refine wpHold_one (i := 4) rfl (by kernel_rfl) (by rfl) (fun K hK => ?_)
              go_wp2_with fail
              refine hK.out _ _ (fun _ => G6.out.1) ?_
              clear hK K
              clear m5
              try simp only [pN]
              refine wpHold_one (i := 5) rfl (by kernel_rfl) (by rfl) (fun K hK => ?_)
              go_wp2_with fail
              refine hK.out _ _ (fun _ => G6.out.1) ?_
              clear hK K
              try simp only [pN]
              refine wt (i := 6) (G6.out.1) rfl rfl (fun wk hk => by obtain ⟨⟨z0, z1, z2⟩, z3⟩ := HCX.out wk hk; go_simp; try rfl) ?_
              try simp only [pN]
              refine wt (i := 7) (G6.out.1) rfl rfl (fun wk hk => by obtain ⟨⟨z0, z1, z2⟩, z3⟩ := HCX.out wk hk; go_simp; try rfl) ?_
              try simp only [pN]
              refine wpHold_one (i := 8) rfl (by kernel_rfl) (by rfl) (fun K hK => ?_)
              go_wp2_with fail
              refine (num15 _ _).mono ?_
              rintro e w7 ⟨rfl, hw7⟩
              rw [hw7]
              clear hw7
              refine hK.out _ _ (fun _ => G6.out.1) ?_
              clear hK K
              try simp only [pN]
              refine wpHold_one (i := 9) rfl (by kernel_rfl) (by rfl) (fun K hK => ?_)
              go_wp2_with fail
              refine hK.out _ _ (fun _ => G6.out.1) ?_
              clear hK K
              try simp only [pN]
              refine wt (i := 10) (G6.out.1) rfl rfl (fun wk hk => by obtain ⟨⟨z0, z1, z2⟩, z3⟩ := HCX.out wk hk; go_simp; try rfl) ?_
              try simp only [pN]
              refine wpHold_done (by kernel_rfl) ?_
              refine (‹∀ (a : Act) (w : World), Code.wp Tryz.prog _ _ a w → _› _ _ ?_)
              have HLR : Hid ((resForm r).length ≤ 140737488355328) := by
                have hm := HA.out.1
                unfold resForm
                by_cases h0 : r.abort = 0
                · rw [if_pos h0]
                  have hn := res_none hm h0
                  have h1 := listOut_len hn.2.2.2 hn.2.2.1
                  have h2 := Wire.numForm_len10 0 (by decide)
                  unfold Hid
                  rw [List.length_append]; omega
                · rw [if_neg h0]
                  have hw := res_why hm h0
                  have h1 := Wire.numForm_len10 r.abort.toNat (by omega)
                  have h2 := Wire.numForm_len10 r.place.toNat (by omega)
                  unfold Hid
                  rw [List.length_append]; omega
              go_wp2_with (go_at_call 28; refine (read28 _ (resForm r) _ HLR.out (HA.out.2.seg.grown G6.out.1)).mono ?_)
              rintro e w8 ⟨u8, rfl, ho8, hg8⟩
              rw [readR_form HA.out.1] at ho8 ⊢
              simp only at ho8 ⊢
              obtain ⟨f8, l8, q8, rfl, hn8⟩ := ho8.slice
              clear hn8
              obtain ⟨A8, hA8, Y8⟩ : ∃ A, w8.alloc (.cells #[.int .i64 r.abort, .int .i64 r.place, .slice f8 l8 q8] 51) = A ∧ Hid (Blk A w8.heap.size 51 #[.int .i64 r.abort, .int .i64 r.place, .slice f8 l8 q8] ∧ w8.grownBy A none) := ⟨_, rfl, heap_alloc_new _ _, World.grownBy_alloc _ _ none⟩
              have G8 : Hid (W0.grownBy A8 none ∧ Outs A8 (.slice f8 l8 q8) r.outs) := ⟨grown_trans G5.out.1 (grown_trans G6.out.1 (grown_trans hg8 Y8.out.2)), ho8.outs.grown Y8.out.2⟩
              clear hg8 ho8
              have d0 := Y8.out.1.cell 0
              have d1 := Y8.out.1.cell 1
              have d2 := Y8.out.1.cell 2
              obtain ⟨c0, c1, c2⟩ := HC.out _ G8.out.1
              go_wp2_with (go_at_call 30; refine (alike30_refl _ _ r _ G8.out.2 (HV.out.grown (grown_trans S0.out.2 G8.out.1))).mono ?_)
              rintro e w9 ⟨rfl, hg9⟩
              have G9 : Hid (W0.grownBy w9 none ∧ Outs w9 (.slice f8 l8 q8) r.outs ∧ Blk w9 w8.heap.size 51 #[.int .i64 r.abort, .int .i64 r.place, .slice f8 l8 q8]) := ⟨grown_trans G8.out.1 hg9, G8.out.2.grown hg9, Y8.out.1.grown hg9 (by simp)⟩
              clear hg9 d0 d1 d2 c0 c1 c2 hA8 G8 Y8
              have d0 := G9.out.2.2.cell 0
              have d1 := G9.out.2.2.cell 1
              have d2 := G9.out.2.2.cell 2
              obtain ⟨c0, c1, c2⟩ := HC.out _ G9.out.1
              go_wp2_with (first | (go_at_call 15; refine (num15 _ _).mono ?_; rintro e wx ⟨rfl, hx⟩; rw [hx]; clear hx) | (go_at_call 33; refine (alike33_two _ _ r _ G9.out.2.1 (HV.out.grown (grown_trans S0.out.2 G9.out.1))).mono ?_))
              rintro e w10 ⟨rfl, hg10⟩
              have G10 : Hid (W0.grownBy w10 none) := grown_trans G9.out.1 hg10
              clear hg10 d0 d1 d2 c0 c1 c2
              go_wp2_with (go_at_call 10; refine (known10' _ (HE.out.grown (grown_trans S0.out.2 G10.out))).mono ?_)
              rintro e wz ⟨rfl, gz⟩
              have GZ : Hid (w.grownBy wz none) := grown_trans (grown_trans S0.out.2 G10.out) gz
              clear gz
              go_wp2_with fail
              go_ret
              exact ⟨rfl, GZ.out⟩
            · rw [hm]
              simp at hu
              obtain ⟨rfl, rfl, rfl⟩ := hu
              clear hm HCA
              go_wp2_with (first | (go_at_call 15; refine (num15 _ _).mono ?_; rintro e wx ⟨rfl, hx⟩; rw [hx]; clear hx) | (go_at_call 10; refine (known10' _ (HE.out.grown (grown_trans S0.out.2 G5.out.1))).mono ?_))
              rintro e wz ⟨rfl, gz⟩
              have GZ : Hid (w.grownBy wz none) := grown_trans (grown_trans S0.out.2 G5.out.1) gz
              clear gz
              go_wp2_with fail
              go_ret
              exact ⟨rfl, GZ.out⟩
end Go.Proofs.YtfocmbnhkldnfaaGreatDoor
