/-
  The law's own going over: whether a going over tells these frames.
-/
import Derived.Test.YtdfdlkpljgpckaaRs
import Derived.RangeFuncBound
import Derived.WalkKit
import Derived.OwnWalkIn
import Derived.TacticsInMore
import Derived.LoopNIn
import Derived.LoopIn
namespace Go.Proofs.Ytdfdlkpljgpckaa
open Go.RowKit Disk
attribute [local go_sem] Oper.semAt_some

theorem FRow.fseg {w : World} {B : Nat} {v : Value} {vs : List Value} {l : Frs} (h : FRow w B v vs l) (hl : l.length ≤ 4398046511104) : FSeg w v l := by
  obtain ⟨ao, cap, e⟩ := h.shape
  refine ⟨ao, cap, e, hl, fun j hj => ?_⟩
  have hj' : j < vs.length := by rw [h.len]; exact hj
  obtain ⟨g, c, e2, h1, h2, _⟩ := h.cell j hj hj'
  rw [e] at e2
  simp at e2
  exact ⟨g, 0, vs[j], e2.1, by rw [Nat.zero_add]; exact h1, by rw [Nat.zero_add]; exact h2, (h.each j hj' hj).seg⟩

theorem load4 {w : World} {g : Nat} {b : Bool} (hg : Blk w g 4 #[.bool b]) : (loadVar 4 ⟨g, 0, none⟩).run Try.prog w = .ok (.bool b) w := by
  have c := hg.cell 0
  simp at c
  have a4 := Try.isAgg4
  go_simp
theorem told1 {fn : Func} {p : Tmp} {ty : TypeId} (h : fn.results = #[.cell p ty]) {tmps : Array Value} {w : World} {g : Nat} {C : Value} (hl : (loadVar ty ⟨g, 0, none⟩).run Try.prog w = .ok C w) (hp : tmps.getD p undef = .pointer (some ⟨g, 0, none⟩)) :
    (results fn tmps).run Try.prog w = .ok C w := by
  simp only [Array.getD_eq_getD_getElem?] at hp
  simp only [results, h]
  simp [hp, asAddr, hl]

/-- A row of bytes that is being written over. -/
def Ovr (w wr : World) (ao : Option Addr) (n : Nat) : Prop := w.grownBy wr (ao.map (·.block)) ∧ ∀ g, ao = some ⟨g, 0, none⟩ → ∃ cur, Blk wr g 5 cur ∧ n ≤ cur.size ∧ ∀ j, j < n → ∃ x : Int, cur[j]? = some (.int .u8 x)
theorem Ovr.step {w wr : World} {g n : Nat} (h : Ovr w wr (some ⟨g, 0, none⟩) n) (k : Nat) (x : Int) : Ovr w (wr.setCell ⟨g, k, none⟩ (.int .u8 x)) (some ⟨g, 0, none⟩) n := by
  refine ⟨grown_trans h.1 (grown_setCell _ _ _ _), fun g' e => ?_⟩
  simp at e
  subst e
  obtain ⟨cur, hb, hn, hc⟩ := h.2 g rfl
  refine ⟨_, hb.store k _, by simpa using hn, fun j hj => ?_⟩
  by_cases hjk : k = j
  · subst hjk
    exact ⟨x, by simp [show k < cur.size by omega]⟩
  · obtain ⟨y, hy⟩ := hc j hj
    exact ⟨y, by rw [Array.getElem?_setIfInBounds_ne hjk]; exact hy⟩
theorem Ovr.facts {w wr : World} {g n : Nat} (h : Ovr w wr (some ⟨g, 0, none⟩) n) (k : Nat) (hk : k < n) : (∃ x : Int, wr.cell? ⟨g, k, none⟩ = some (.int .u8 x)) ∧ wr.frozen? ⟨g, k, none⟩ = false := by
  obtain ⟨cur, hb, hn, hc⟩ := h.2 g rfl
  obtain ⟨x, hx⟩ := hc k hk
  exact ⟨⟨x, by rw [hb.cell]; exact hx⟩, hb.free k⟩
theorem own_ovr {w : World} {B : Nat} {ao : Option Addr} {n cap : Nat} {L : List UInt8} (h : Disk.Own w B (.slice ao n cap) L) (hn : L.length = n) : Ovr w w ao n := by
  refine ⟨grown_refl _ _, fun g e => ?_⟩
  subst e
  rcases h.2 with ⟨e, h0⟩ | ⟨g', c, cur, e, hb, hg, h1, h2, h3, h4⟩
  · simp at e
  · simp at e
    obtain ⟨rfl, rfl, rfl⟩ := e
    refine ⟨cur, hg, by omega, fun j hj => ?_⟩
    have := congrArg (fun X => X[j]?) h4
    simp only [List.getElem?_take, Nat.mul_one] at this
    rw [if_pos (by omega)] at this
    refine ⟨(L[j]'(by omega)).toNat, ?_⟩
    rw [← Array.getElem?_toList, this]
    simp [BV, hj]
theorem own_ao {w : World} {B : Nat} {ao : Option Addr} {n cap : Nat} {L : List UInt8} (h : Disk.Own w B (.slice ao n cap) L) (hn : L.length = n) (h0 : 0 < n) : ∃ g, ao = some ⟨g, 0, none⟩ := by
  rcases h.2 with ⟨e, h1⟩ | ⟨g, c, cur, e, _⟩
  · omega
  · simp at e
    exact ⟨g, e.1⟩
theorem ovr_blk {ao : Option Addr} {n cap : Nat} : (Value.slice ao n cap).ownBlock = ao.map (·.block) := by cases ao <;> rfl

/-- Between two rounds of over. -/
structure OvI (w : World) (fs : Frs) (vw : Value) (leave : Int) (k : Nat) (W : World) : Prop where
  gr : w.grownBy W none
  bw : Blk W w.heap.size 23 #[vw]
  bl : Blk W (w.heap.size + 1) 3 #[.int .i64 leave]
  br : Blk W (w.heap.size + 2) 4 #[.bool false]
  bi : Blk W (w.heap.size + 3) 3 #[.int .i64 (k : Int)]
  ba : Blk W (w.heap.size + 4) 3 #[.int .i64 ((flat (fs.take k)).length : Nat)]

theorem OvI.grown {w : World} {fs : Frs} {vw : Value} {leave : Int} {k : Nat} {W W' : World} (h : OvI w fs vw leave k W) (hg : W.grownBy W' none) : OvI w fs vw leave k W' :=
  ⟨grown_trans h.gr hg, h.bw.grown hg (by simp), h.bl.grown hg (by simp), h.br.grown hg (by simp), h.bi.grown hg (by simp), h.ba.grown hg (by simp)⟩
theorem OvI.far {w : World} {fs : Frs} {vw : Value} {leave : Int} {k : Nat} {W W' : World} {r : Nat} (h : OvI w fs vw leave k W) (hg : W.grownBy W' (some r)) (hr : w.heap.size + 5 ≤ r) : OvI w fs vw leave k W' :=
  ⟨grown_new h.gr hg (by intro x hx; simp at hx; omega), h.bw.grown hg (by simp <;> omega), h.bl.grown hg (by simp <;> omega), h.br.grown hg (by simp <;> omega), h.bi.grown hg (by simp <;> omega), h.ba.grown hg (by simp <;> omega)⟩

theorem blk_alloc {w : World} {b t : Nat} {c : Array Value} (h : Blk w b t c) (o : Obj) : Blk (w.alloc o) b t c := h.grown (World.grownBy_alloc _ _ none) (by simp)
theorem blk_new (w : World) (c : Array Value) (t n : Nat) (h : w.heap.size = n) : Blk (w.alloc (.cells c t)) n t c := by subst h; exact heap_alloc_new _ _

theorem ovi_new (w : World) (fs : Frs) (vw : Value) (leave : Int) : OvI w fs vw leave 0 (((((w.alloc (.cells #[vw] 23)).alloc (.cells #[.int .i64 leave] 3)).alloc (.cells #[.bool false] 4)).alloc (.cells #[.int .i64 0] 3)).alloc (.cells #[.int .i64 0] 3)) := by
  refine ⟨grown_trans (grown_trans (grown_trans (grown_trans (World.grownBy_alloc _ _ _) (World.grownBy_alloc _ _ _)) (World.grownBy_alloc _ _ _)) (World.grownBy_alloc _ _ _)) (World.grownBy_alloc _ _ _), ?_, ?_, ?_, ?_, ?_⟩
  · exact blk_alloc (blk_alloc (blk_alloc (blk_alloc (blk_new _ _ _ _ rfl) _) _) _) _
  · exact blk_alloc (blk_alloc (blk_alloc (blk_new _ _ _ _ (by simp)) _) _) _
  · exact blk_alloc (blk_alloc (blk_new _ _ _ _ (by simp)) _) _
  · exact blk_alloc (blk_new _ _ _ _ (by simp)) _
  · exact blk_new _ _ _ _ (by simp)

set_option maxRecDepth 100000 in
set_option maxHeartbeats 4000000 in
theorem over18 (Bx : Nat) (u : Value) (L : List UInt8) (fs : Frs) (R : List UInt8) (vw : Value) (leave : Int) (w : World) (hb : Blk w Bx 22 #[u]) (hs : Seg w u L) (hL : L.length ≤ 39582418599936) (hsc : Sc L fs R) (hw : FSeg w vw fs) :
    Calls Try.prog 18 #[.func (.func 32) #[] #[.pointer (some ⟨Bx, 0, none⟩)], vw, .int .i64 leave] w fun e w' => e = .returned (.bool true) ∧ w.grownBy w' none := by
  have HB : Hid (Blk w Bx 22 #[u]) := hb
  have HS : Hid (Seg w u L) := hs
  have HSC : Hid _ := hsc
  have HFW : Hid (FSeg w vw fs) := hw
  have hcount := hsc.count
  obtain ⟨aw, cw, hvw⟩ := hw.shape
  subst hvw
  clear hb hs hsc hw
  refine calls_marks Try.func18 rfl ?_
  simp only [Try.ntmps18, List.size_toArray, List.length_cons, List.length_nil, Nat.reduceAdd, Nat.reduceSub, Array.replicate_succ, Array.replicate_zero, List.push_toArray, List.append_toArray, List.nil_append, List.cons_append]
  go_wp2_with fail
  have HW : Hid (OvI w fs (.slice aw fs.length cw) leave 0 (((((w.alloc (.cells #[.slice aw fs.length cw] 23)).alloc (.cells #[.int .i64 leave] 3)).alloc (.cells #[.bool false] 4)).alloc (.cells #[.int .i64 0] 3)).alloc (.cells #[.int .i64 0] 3)) ∧ (((((w.alloc (.cells #[.slice aw fs.length cw] 23)).alloc (.cells #[.int .i64 leave] 3)).alloc (.cells #[.bool false] 4)).alloc (.cells #[.int .i64 0] 3)).alloc (.cells #[.int .i64 0] 3)).heap.size = w.heap.size + 5) := ⟨ovi_new w fs _ leave, by simp⟩
  generalize ((((w.alloc (.cells #[.slice aw fs.length cw] 23)).alloc (.cells #[.int .i64 leave] 3)).alloc (.cells #[.bool false] 4)).alloc (.cells #[.int .i64 0] 3)).alloc (.cells #[.int .i64 0] 3) = w3 at HW ⊢
  simp only [Nat.add_assoc, Nat.reduceAdd]
  refine wp_range (gf := 32) (lb := #[.pointer (some ⟨Bx, 0, none⟩)]) rfl (enters_of Try.func32 (by kernel_rfl) rfl)
    (frames32 (fun i => i < w.heap.size) Bx u L fs R w3 (HB.out.grown HW.out.1.gr (by simp)) (HS.out.grown HW.out.1.gr) HSC.out (by omega) HB.out.lt (fun hne b off n' c e => seg_blk HS.out hne e)) ?hPb ?hps (OvI w fs (.slice aw fs.length cw) leave) (fun W => w.grownBy W none ∧ Blk W (w.heap.size + 2) 4 #[.bool true]) ?hIg ?hIp ?hXg ?hXp ?h0 ?hround ?hX1 ?hdone ?hstop
  case hPb =>
    intro i hi
    rw [HW.out.2]
    have : i < w.heap.size := hi
    omega
  case hps =>
    rintro k W0 W1 xs ⟨_, u, rfl, _⟩
    rfl
  case hIg => exact fun k W W' h g => h.grown g
  case hIp =>
    intro k W o h
    rw [HW.out.2]
    exact h.far (put_grown _ _ _) (by omega)
  case hXg => exact fun W W' h g => ⟨grown_trans h.1 g, h.2.grown g (by simp)⟩
  case hXp =>
    intro W o h
    rw [HW.out.2]
    have g := put_grown W (w.heap.size + 5 + 1) o
    exact ⟨grown_new h.1 g (by intro x hx; simp at hx; omega), h.2.grown g (by simp <;> omega)⟩
  case h0 => exact HW.out.1
  case hX1 =>
    rintro k W0 W1 xs ⟨_, u, _, _, _, h⟩
    exact h
  case hstop =>
    intro W hI hD
    rw [HW.out.2] at hD ⊢
    have HI : Hid _ := hI
    have HD : Hid _ := hD
    clear hI hD
    go_wp2_with fail
    refine ⟨by simp, .inl ⟨_, _, rfl, run_takeDeferred HD.out, ?_⟩⟩
    have g := put_grown W (w.heap.size + 5) (.deferred none)
    exact ⟨.bool true, told1 rfl (load4 (HI.out.2.grown g (by simp <;> omega))) rfl, rfl, grown_new HI.out.1 g (by intro x hx; simp at hx; omega)⟩
  case hround =>
    rintro l k W0 W1 xs hk hI hlt hg hlt2 ⟨_, ub, rfl, ou, hub, _⟩
    rw [HW.out.2] at hlt ⊢
    simp only [List.zip_toArray, List.zip_cons_cons, List.zip_nil_right, List.foldl_toArray', List.size_toArray, List.foldl_cons, List.foldl_nil, List.setIfInBounds_toArray, List.set_cons_zero, List.set_cons_succ]
    obtain ⟨au, cu, hu⟩ := ou.seg.shape
    subst hu
    obtain ⟨m, hm⟩ : ∃ m, fs[k].2.length = m := ⟨_, rfl⟩
    have HM : Hid _ := hm
    have HO : Hid (Disk.Own W1 W0.heap.size (.slice au m cu) fs[k].2) := by rw [← hm]; exact ou
    have HUB : Hid (∀ b, (Value.slice au m cu).ownBlock = some b → b + 1 < W1.heap.size) := by rw [← hm]; exact hub
    obtain ⟨kd, hkd⟩ : ∃ kd, fs[k].1 = kd := ⟨_, rfl⟩
    have HKD : Hid _ := hkd
    obtain ⟨pl, hpl⟩ : ∃ pl, (flat (fs.take k)).length = pl := ⟨_, rfl⟩
    have HPL : Hid _ := hpl
    rw [hm, hkd, hpl]
    have HI : Hid (OvI w fs (.slice aw fs.length cw) leave k W0) := hI
    have HG : Hid (W0.grownBy W1 none ∧ W0.heap.size < W1.heap.size ∧ w.heap.size + 5 + 1 < W0.heap.size) := ⟨hg, hlt2, hlt⟩
    have hml : m ≤ 2147483647 := by
      have := HSC.out.may fs[k] (List.getElem_mem hk)
      omega
    have hpn : pl + (9 + m) ≤ 39582418599936 := by
      have := (HSC.out.at k hk).2.2.2
      rw [hpl, hm] at this
      omega
    clear hpl hkd hm ou hub hI hg hlt hlt2
    refine wpIn_seq ?_
    refine region_round (by rintro ⟨_, _, h⟩; exact h) rfl ?_
    go_wp2_with fail
    refine region_round (by rintro ⟨_, _, h⟩; exact h) rfl ?_
    go_wp2_with fail
    refine ⟨World.grownBy_alloc _ _ _, fun o => ?_⟩
    obtain ⟨W2, hW2⟩ : ∃ W2, (W1.alloc (.cells #[.int .i64 kd, .slice au m cu] 25)).putObj (w.heap.size + 5 + 1) o = W2 := ⟨_, rfl⟩
    have HW2 : Hid (Blk W2 W1.heap.size 25 #[.int .i64 kd, .slice au m cu] ∧ W2.heap.size = W1.heap.size + 1 ∧ W1.grownBy W2 (some (w.heap.size + 5 + 1))) := by
      have g1 := World.grownBy_alloc W1 (.cells #[.int .i64 kd, .slice au m cu] 25) (some (w.heap.size + 5 + 1))
      have g2 := put_grown (W1.alloc (.cells #[.int .i64 kd, .slice au m cu] 25)) (w.heap.size + 5 + 1) o
      rw [hW2] at g2
      refine ⟨Blk.grown (heap_alloc_new _ _) g2 (by have := HG.out; simp <;> omega), by rw [← hW2]; simp, grown_trans g1 g2⟩
    rw [hW2]
    clear hW2
    have HI2 : Hid (OvI w fs (.slice aw fs.length cw) leave k W2 ∧ Disk.Own W2 W0.heap.size (.slice au m cu) fs[k].2) := by
      obtain ⟨g1, g2, g3⟩ := HG.out
      have g4 := HW2.out.2.2
      refine ⟨(HI.out.grown g1).far g4 (by omega), HO.out.same fun i hi => g4.block i (HO.out.lt i hi).2 (fun e => ?_)⟩
      have := (HO.out.lt i hi).1
      simp at e
      omega
    obtain ⟨aw', cw', hvw, _, hwc⟩ := HFW.out
    simp at hvw
    obtain ⟨rfl, rfl⟩ := hvw
    obtain ⟨bw, ofw, uw, rfl, wc0, wc1, wsg⟩ := hwc k hk
    obtain ⟨xw, yw, huw⟩ := wsg.shape
    subst huw
    rw [HKD.out] at wc0
    rw [HM.out] at wc1 wsg
    have HSW : Hid (Seg w (.slice xw m yw) fs[k].2) := wsg
    have HQ : Hid (∀ x : World, W2.grownBy x none → x.cell? ⟨w.heap.size, 0, none⟩ = some (.slice (some ⟨bw, ofw, none⟩) fs.length cw) ∧ x.cell? ⟨w.heap.size + 3, 0, none⟩ = some (.int .i64 (k : Int)) ∧ x.cell? ⟨w.heap.size + 4, 0, none⟩ = some (.int .i64 (pl : Int)) ∧ x.cell? ⟨W1.heap.size, 0, none⟩ = some (.int .i64 kd) ∧ x.cell? ⟨W1.heap.size, 1, none⟩ = some (.slice au m cu) ∧ x.cell? ⟨bw, ofw + k * 2, none⟩ = some (.int .i64 kd) ∧ x.cell? ⟨bw, ofw + k * 2 + 1, none⟩ = some (.slice xw m yw)) := by
      intro x hx
      have h1 := HI2.out.1.grown hx
      have ha := h1.ba
      rw [HPL.out] at ha
      have hb := HW2.out.1.grown hx (by simp)
      exact ⟨h1.bw.cell 0, h1.bi.cell 0, ha.cell 0, hb.cell 0, hb.cell 1, h1.gr.cell wc0 (by simp), h1.gr.cell wc1 (by simp)⟩
    clear wc0 wc1 wsg hwc
    have i1 : (0 : Int) ≤ (k : Int) := by omega
    have i2 : (k : Int) < (fs.length : Int) := by omega
    have i3 : ¬ (fs.length : Int) ≤ (k : Int) := by omega
    have i4 : ¬ fs.length ≤ k := by omega
    refine wpIn_block (wpIn_seq (wpIn_seq ?_))
    refine region_round_hold 1000 (fun x => W2.grownBy x none) (by rintro ⟨_, _, h⟩; exact h) rfl (by kernel_rfl) ?_
    refine wpHold_take (i := 0) (v := _) (grown_drew _ _) rfl rfl (by kernel_rfl) (by kernel_rfl) (by kernel_rfl) (by kernel_rfl) (by kernel_rfl) (fun _ _ _ h => h) (by rfl) (fun wk hk => by obtain ⟨k0, k1, k2, k3, k4, k5, k6⟩ := HQ.out wk hk; go_simp; try rfl) ?_
    try simp only [Act.put, List.setIfInBounds_toArray, List.set_cons_zero, List.set_cons_succ]
    refine wpHold_take (i := 1) (v := _) (grown_drew _ _) rfl rfl (by kernel_rfl) (by kernel_rfl) (by kernel_rfl) (by kernel_rfl) (by kernel_rfl) (fun _ _ _ h => h) (by rfl) (fun wk hk => by obtain ⟨k0, k1, k2, k3, k4, k5, k6⟩ := HQ.out wk hk; go_simp; try rfl) ?_
    try simp only [Act.put, List.setIfInBounds_toArray, List.set_cons_zero, List.set_cons_succ]
    refine wpHold_take (i := 2) (v := _) (grown_drew _ _) rfl rfl (by kernel_rfl) (by kernel_rfl) (by kernel_rfl) (by kernel_rfl) (by kernel_rfl) (fun _ _ _ h => h) (by rfl) (fun wk hk => by obtain ⟨k0, k1, k2, k3, k4, k5, k6⟩ := HQ.out wk hk; go_simp; try rfl) ?_
    try simp only [Act.put, List.setIfInBounds_toArray, List.set_cons_zero, List.set_cons_succ]
    refine wpHold_take (i := 3) (v := _) (grown_drew _ _) rfl rfl (by kernel_rfl) (by kernel_rfl) (by kernel_rfl) (by kernel_rfl) (by kernel_rfl) (fun _ _ _ h => h) (by rfl) (fun wk hk => by obtain ⟨k0, k1, k2, k3, k4, k5, k6⟩ := HQ.out wk hk; go_simp; try rfl) ?_
    try simp only [Act.put, List.setIfInBounds_toArray, List.set_cons_zero, List.set_cons_succ]
    refine wpHold_take (i := 4) (v := _) (grown_drew _ _) rfl rfl (by kernel_rfl) (by kernel_rfl) (by kernel_rfl) (by kernel_rfl) (by kernel_rfl) (fun _ _ _ h => h) (by rfl) (fun wk hk => by obtain ⟨k0, k1, k2, k3, k4, k5, k6⟩ := HQ.out wk hk; go_simp; try rfl) ?_
    try simp only [Act.put, List.setIfInBounds_toArray, List.set_cons_zero, List.set_cons_succ]
    refine wpHold_take (i := 5) (v := _) (grown_drew _ _) rfl rfl (by kernel_rfl) (by kernel_rfl) (by kernel_rfl) (by kernel_rfl) (by kernel_rfl) (fun _ _ _ h => h) (by rfl) (fun wk hk => by obtain ⟨k0, k1, k2, k3, k4, k5, k6⟩ := HQ.out wk hk; go_simp; try rfl) ?_
    try simp only [Act.put, List.setIfInBounds_toArray, List.set_cons_zero, List.set_cons_succ]
    refine wpHold_take (i := 6) (v := _) (grown_drew _ _) rfl rfl (by kernel_rfl) (by kernel_rfl) (by kernel_rfl) (by kernel_rfl) (by kernel_rfl) (fun _ _ _ h => h) (by rfl) (fun wk hk => by obtain ⟨k0, k1, k2, k3, k4, k5, k6⟩ := HQ.out wk hk; go_simp; try rfl) ?_
    try simp only [Act.put, List.setIfInBounds_toArray, List.set_cons_zero, List.set_cons_succ]
    refine wpHold_take (i := 7) (v := _) (grown_drew _ _) rfl rfl (by kernel_rfl) (by kernel_rfl) (by kernel_rfl) (by kernel_rfl) (by kernel_rfl) (fun _ _ _ h => h) (by rfl) (fun wk hk => by obtain ⟨k0, k1, k2, k3, k4, k5, k6⟩ := HQ.out wk hk; go_simp; try rfl) ?_
    try simp only [Act.put, List.setIfInBounds_toArray, List.set_cons_zero, List.set_cons_succ]
    refine wpHold_take (i := 8) (v := _) (grown_drew _ _) rfl rfl (by kernel_rfl) (by kernel_rfl) (by kernel_rfl) (by kernel_rfl) (by kernel_rfl) (fun _ _ _ h => h) (by rfl) (fun wk hk => by obtain ⟨k0, k1, k2, k3, k4, k5, k6⟩ := HQ.out wk hk; go_simp; try rfl) ?_
    try simp only [Act.put, List.setIfInBounds_toArray, List.set_cons_zero, List.set_cons_succ]
    refine wpHold_take (i := 9) (v := _) (grown_drew _ _) rfl rfl (by kernel_rfl) (by kernel_rfl) (by kernel_rfl) (by kernel_rfl) (by kernel_rfl) (fun _ _ _ h => h) (by rfl) (fun wk hk => by obtain ⟨k0, k1, k2, k3, k4, k5, k6⟩ := HQ.out wk hk; go_simp; try rfl) ?_
    try simp only [Act.put, List.setIfInBounds_toArray, List.set_cons_zero, List.set_cons_succ]
    refine wpHold_take (i := 10) (v := _) (grown_drew _ _) rfl rfl (by kernel_rfl) (by kernel_rfl) (by kernel_rfl) (by kernel_rfl) (by kernel_rfl) (fun _ _ _ h => h) (by rfl) (fun wk hk => by obtain ⟨k0, k1, k2, k3, k4, k5, k6⟩ := HQ.out wk hk; go_simp; try rfl) ?_
    try simp only [Act.put, List.setIfInBounds_toArray, List.set_cons_zero, List.set_cons_succ]
    refine wpHold_take (i := 11) (v := _) (grown_drew _ _) rfl rfl (by kernel_rfl) (by kernel_rfl) (by kernel_rfl) (by kernel_rfl) (by kernel_rfl) (fun _ _ _ h => h) (by rfl) (fun wk hk => by obtain ⟨k0, k1, k2, k3, k4, k5, k6⟩ := HQ.out wk hk; go_simp; try rfl) ?_
    try simp only [Act.put, List.setIfInBounds_toArray, List.set_cons_zero, List.set_cons_succ]
    refine wpHold_take (i := 12) (v := _) (grown_drew _ _) rfl rfl (by kernel_rfl) (by kernel_rfl) (by kernel_rfl) (by kernel_rfl) (by kernel_rfl) (fun _ _ _ h => h) (by rfl) (fun wk hk => by obtain ⟨k0, k1, k2, k3, k4, k5, k6⟩ := HQ.out wk hk; go_simp; try rfl) ?_
    try simp only [Act.put, List.setIfInBounds_toArray, List.set_cons_zero, List.set_cons_succ]
    refine wpHold_take (i := 13) (v := _) (grown_drew _ _) rfl rfl (by kernel_rfl) (by kernel_rfl) (by kernel_rfl) (by kernel_rfl) (by kernel_rfl) (fun _ _ _ h => h) (by rfl) (fun wk hk => by obtain ⟨k0, k1, k2, k3, k4, k5, k6⟩ := HQ.out wk hk; go_simp; try rfl) ?_
    try simp only [Act.put, List.setIfInBounds_toArray, List.set_cons_zero, List.set_cons_succ]
    refine wpHold_take (i := 14) (v := _) (grown_drew _ _) rfl rfl (by kernel_rfl) (by kernel_rfl) (by kernel_rfl) (by kernel_rfl) (by kernel_rfl) (fun _ _ _ h => h) (by rfl) (fun wk hk => by obtain ⟨k0, k1, k2, k3, k4, k5, k6⟩ := HQ.out wk hk; go_simp; try rfl) ?_
    try simp only [Act.put, List.setIfInBounds_toArray, List.set_cons_zero, List.set_cons_succ]
    refine wpHold_one (i := 15) rfl (by kernel_rfl) (by rfl) (fun K hK => ?_)
    go_simp
    refine (same16 kd kd (.slice au m cu) (.slice xw m yw) fs[k].2 fs[k].2 _ (HI2.out.2.seg.grown (grown_drew _ _)) ((HSW.out.grown HI2.out.1.gr).grown (grown_drew _ _))).mono ?_
    rintro e w6 ⟨rfl, g6⟩
    have G6 : Hid (W2.grownBy w6 none) := grown_trans (grown_drew _ _) g6
    clear g6
    have dt : decide (kd = kd ∧ fs[k].2 = fs[k].2) = true := by simp
    rw [dt]
    clear dt
    go_wp2_with fail
    refine hK.out _ _ (fun _ => G6.out) ?_
    clear hK K
    try simp only [Act.put, List.setIfInBounds_toArray, List.set_cons_zero, List.set_cons_succ]
    refine wpHold_take (i := 16) (v := _) (G6.out) rfl rfl (by kernel_rfl) (by kernel_rfl) (by kernel_rfl) (by kernel_rfl) (by kernel_rfl) (fun _ _ _ h => h) (by rfl) (fun wk hk => by obtain ⟨k0, k1, k2, k3, k4, k5, k6⟩ := HQ.out wk hk; go_simp; try rfl) ?_
    try simp only [Act.put, List.setIfInBounds_toArray, List.set_cons_zero, List.set_cons_succ]
    refine wpHold_take (i := 17) (v := _) (G6.out) rfl rfl (by kernel_rfl) (by kernel_rfl) (by kernel_rfl) (by kernel_rfl) (by kernel_rfl) (fun _ _ _ h => h) (by rfl) (fun wk hk => by obtain ⟨k0, k1, k2, k3, k4, k5, k6⟩ := HQ.out wk hk; go_simp; try rfl) ?_
    try simp only [Act.put, List.setIfInBounds_toArray, List.set_cons_zero, List.set_cons_succ]
    refine wpHold_done (by kernel_rfl) ?_
    refine wpIn_cond_false rfl (wpIn_skip ?_)
    refine wpIn_seq (region_round (by rintro ⟨_, _, h⟩; exact h) rfl ?_)
    have H6 : Hid (OvI w fs (.slice (some ⟨bw, ofw, none⟩) fs.length cw) leave k w6 ∧ Disk.Own w6 W0.heap.size (.slice au m cu) fs[k].2 ∧ Blk w6 W1.heap.size 25 #[.int .i64 kd, .slice au m cu]) := ⟨HI2.out.1.grown G6.out, HI2.out.2.grown G6.out, HW2.out.1.grown G6.out (by simp)⟩
    have ha6 : Blk w6 (w.heap.size + 4) 3 #[.int .i64 (pl : Int)] := by
      have := H6.out.1.ba
      rw [HPL.out] at this
      exact this
    have HA6 : Hid (Blk w6 (w.heap.size + 4) 3 #[.int .i64 (pl : Int)]) := ha6
    have b4 := ha6.cell 0
    have f4 := ha6.free 0
    have c1 := H6.out.2.2.cell 1
    simp at b4 c1
    clear ha6
    go_wp2_with fail
    have H7 : Hid (Blk (w6.setCell ⟨w.heap.size + 4, 0, none⟩ (.int .i64 ((pl : Int) + 9 + (m : Int)))) (w.heap.size + 4) 3 #[.int .i64 ((pl : Int) + 9 + (m : Int))] ∧ w6.grownBy (w6.setCell ⟨w.heap.size + 4, 0, none⟩ (.int .i64 ((pl : Int) + 9 + (m : Int)))) (some (w.heap.size + 4))) := ⟨HA6.out.store 0 _, grown_setCell _ _ _ _⟩
    generalize w6.setCell ⟨w.heap.size + 4, 0, none⟩ (.int .i64 ((pl : Int) + 9 + (m : Int))) = w7 at H7 ⊢
    clear b4 f4 c1
    have H8 : Hid (w.grownBy w7 none ∧ Blk w7 (w.heap.size + 1) 3 #[.int .i64 leave] ∧ Blk w7 (w.heap.size + 2) 4 #[.bool false] ∧ Blk w7 (w.heap.size + 3) 3 #[.int .i64 (k : Int)] ∧ Blk w7 W1.heap.size 25 #[.int .i64 kd, .slice au m cu] ∧ Disk.Own w7 W0.heap.size (.slice au m cu) fs[k].2 ∧ Blk w7 w.heap.size 23 #[.slice (some ⟨bw, ofw, none⟩) fs.length cw]) := by
      obtain ⟨h1, h2, h3⟩ := H6.out
      have g7 := H7.out.2
      have hgo := HG.out
      refine ⟨grown_new h1.gr g7 (by intro x hx; simp at hx; omega), h1.bl.grown g7 (by simp <;> omega), h1.br.grown g7 (by simp <;> omega), h1.bi.grown g7 (by simp <;> omega), h3.grown g7 (by simp <;> omega), h2.same fun i hi => g7.block i (h2.lt i hi).2 (fun e => ?_), h1.bw.grown g7 (by simp <;> omega)⟩
      have := (h2.lt i hi).1
      simp at e
      omega
    have HNE : Hid (∀ b, au.map (·.block) = some b → W0.heap.size ≤ b ∧ b + 1 < W1.heap.size) := fun b hb => by
      rw [← ovr_blk (n := m) (cap := cu)] at hb
      exact ⟨(HO.out.lt b hb).1, HUB.out b hb⟩
    refine wpIn_seq (wpIn_seq (region_round (by rintro ⟨_, _, h⟩; exact h) rfl ?_))
    go_wp2_with fail
    refine wpIn_block ?_
    gi_loopw [11] (fun i wr => ∃ q : Nat, q ≤ m ∧ i = .int .i64 q ∧ Ovr w7 wr au m) (fun i _ => m - (intOf i).toNat)
    case atStart => exact ⟨0, Nat.zero_le _, rfl, own_ovr H8.out.2.2.2.2.2.1 HM.out⟩
    case round =>
      obtain ⟨q, hq, rfl, hov⟩ := hrel
      have hbx : Blk wr W1.heap.size 25 #[.int .i64 kd, .slice au m cu] := H8.out.2.2.2.2.1.grown hov.1 (fun e => by have := HNE.out _ e; omega)
      have c1 := hbx.cell 1
      simp at c1
      have HOV : Hid (Ovr w7 wr au m) := hov
      clear hov hbx
      have q0 : (0 : Int) ≤ (q : Int) := by omega
      by_cases hq2 : q < m
      · have q1 : (q : Int) < (m : Int) := by omega
        obtain ⟨g, hg⟩ := own_ao H8.out.2.2.2.2.2.1 HM.out (by omega)
        subst hg
        obtain ⟨⟨y, hy⟩, fy⟩ := HOV.out.facts q hq2
        gi_wp2
        go_roundw
        case rel => exact ⟨q + 1, by omega, by go_num, HOV.out.step q 85⟩
        case measure => simp [intOf]; omega
      · obtain rfl : q = m := by omega
        have hg9 : w7.grownBy wr (au.map (·.block)) := HOV.out.1
        have H9 : Hid (w.grownBy wr none ∧ Blk wr (w.heap.size + 1) 3 #[.int .i64 leave] ∧ Blk wr (w.heap.size + 2) 4 #[.bool false] ∧ Blk wr (w.heap.size + 3) 3 #[.int .i64 (k : Int)] ∧ Blk wr w.heap.size 23 #[.slice (some ⟨bw, ofw, none⟩) fs.length cw] ∧ Blk wr (w.heap.size + 4) 3 #[.int .i64 ((pl : Int) + 9 + (q : Int))]) := by
          obtain ⟨h1, h2, h3, h4, h5, h6, h7⟩ := H8.out
          have hgo := HG.out
          refine ⟨grown_new h1 hg9 (fun x hx => ?_), h2.grown hg9 (fun e => ?_), h3.grown hg9 (fun e => ?_), h4.grown hg9 (fun e => ?_), h7.grown hg9 (fun e => ?_), H7.out.1.grown hg9 (fun e => ?_)⟩
          · have := HNE.out x hx; omega
          · have := HNE.out _ e; omega
          · have := HNE.out _ e; omega
          · have := HNE.out _ e; omega
          · have := HNE.out _ e; omega
          · have := HNE.out _ e; omega
        have HFR : Hid (Fr W2 wr (fun i => i = w.heap.size + 4 ∨ au.map (·.block) = some i)) := Fr.trans (Fr.trans (F := fun i => i = w.heap.size + 4 ∨ au.map (·.block) = some i) (Fr.of G6.out (by simp)) (Fr.of (F := fun i => i = w.heap.size + 4) H7.out.2 (fun i hi => by simp at hi; exact hi.symm)) (fun i hi => .inl (.inl hi))) (Fr.of (F := fun i => au.map (·.block) = some i) hg9 (fun i hi => hi)) (fun i hi => .inl (.inr hi))
        clear hg9
        have b3 := H9.out.2.2.2.1.cell 0
        have f3 := H9.out.2.2.2.1.free 0
        have b1 := H9.out.2.1.cell 0
        have b2 := H9.out.2.2.1.cell 0
        have f2 := H9.out.2.2.1.free 0
        simp at b3 b1 b2
        by_cases hlv : (k : Int) + 1 = leave
        · gi_wp2
          have hgo := HG.out
          have hsz := HW2.out.2.1
          have hfr : Fr W2 ((wr.setCell ⟨w.heap.size + 3, 0, none⟩ (.int .i64 leave)).setCell ⟨w.heap.size + 2, 0, none⟩ (.bool true)) (fun i => i = w.heap.size + 4 ∨ au.map (·.block) = some i ∨ i = w.heap.size + 3 ∨ i = w.heap.size + 2) := Fr.trans (Fr.trans (HFR.out.mono fun i hi => by rcases hi with hi | hi; exact .inl hi; exact .inr (.inl hi)) (Fr.of (F := fun i => i = w.heap.size + 3) (grown_setCell _ _ _ _) (fun i hi => by simp at hi; exact hi.symm)) (fun i hi => .inl (.inr (.inr (.inl hi))))) (Fr.of (F := fun i => i = w.heap.size + 2) (grown_setCell _ _ _ _) (fun i hi => by simp at hi; exact hi.symm)) (fun i hi => .inl (.inr (.inr (.inr hi))))
          have hno : ∀ i, (i = w.heap.size + 5 ∨ i = w.heap.size + 5 + 1) → ¬ (i = w.heap.size + 4 ∨ au.map (·.block) = some i ∨ i = w.heap.size + 3 ∨ i = w.heap.size + 2) := fun i hi e => by
            rcases e with e | e | e | e
            · omega
            · have := HNE.out i e; omega
            · omega
            · omega
          exact ⟨⟨hfr.block _ (by omega) (hno _ (.inl rfl)), hfr.block _ (by omega) (hno _ (.inr rfl))⟩, grown_new (grown_new H9.out.1 (grown_setCell _ _ _ _) (by intro x hx; simp at hx; omega)) (grown_setCell _ _ _ _) (by intro x hx; simp at hx; omega), Blk.store (H9.out.2.2.1.grown (grown_setCell _ _ _ _) (by simp <;> omega)) 0 (.bool true)⟩
        · gi_wp2
          have hgo := HG.out
          have hsz := HW2.out.2.1
          have hfr : Fr W2 (wr.setCell ⟨w.heap.size + 3, 0, none⟩ (.int .i64 ((k : Int) + 1))) (fun i => i = w.heap.size + 4 ∨ au.map (·.block) = some i ∨ i = w.heap.size + 3) := Fr.trans (HFR.out.mono fun i hi => by rcases hi with hi | hi; exact .inl hi; exact .inr (.inl hi)) (Fr.of (F := fun i => i = w.heap.size + 3) (grown_setCell _ _ _ _) (fun i hi => by simp at hi; exact hi.symm)) (fun i hi => .inl (.inr (.inr hi)))
          have hno : ∀ i, (i = w.heap.size + 5 ∨ i = w.heap.size + 5 + 1 ∨ i < w.heap.size ∨ i + 1 = W1.heap.size) → ¬ (i = w.heap.size + 4 ∨ au.map (·.block) = some i ∨ i = w.heap.size + 3) := fun i hi e => by
            rcases e with e | e | e
            · omega
            · have := HNE.out i e; omega
            · omega
          have g3 := grown_setCell wr (w.heap.size + 3) 0 (.int .i64 ((k : Int) + 1))
          refine ⟨⟨hfr.block _ (by omega) (hno _ (.inl rfl)), hfr.block _ (by omega) (hno _ (.inr (.inl rfl)))⟩, fun i hi hil => ?_, ?_⟩
          · rw [hfr.block i (by omega) (hno i (by rcases hi with hi | hi; exact .inr (.inr (.inl hi)); exact .inr (.inr (.inr hi))))]
            refine HW2.out.2.2.block i hil (fun e => ?_)
            simp at e
            rcases hi with hi | hi <;> omega
          · refine ⟨grown_new H9.out.1 g3 (by intro x hx; simp at hx; omega), H9.out.2.2.2.2.1.grown g3 (by simp <;> omega), H9.out.2.1.grown g3 (by simp <;> omega), H9.out.2.2.1.grown g3 (by simp <;> omega), ?_, ?_⟩
            · have := H9.out.2.2.2.1.store 0 (.int .i64 ((k : Int) + 1))
              exact this
            · have hb := H9.out.2.2.2.2.2.grown g3 (by simp <;> omega)
              rw [flat_take_len fs k hk, HPL.out, HM.out, show ((pl + (9 + q) : Nat) : Int) = (pl : Int) + 9 + (q : Int) from by omega]
              exact hb
  case hdone =>
    intro W hI hD
    rw [HW.out.2] at hD ⊢
    refine (‹∀ (a : Act) (w : World), Code.wp Try.prog _ _ a w → _› _ _ ?_)
    have HI : Hid (OvI w fs (.slice aw fs.length cw) leave fs.length W) := hI
    have HD : Hid _ := hD
    have b1 := hI.bi.cell 0
    have b2 := hI.bw.cell 0
    have b3 := hI.br.cell 0
    have f3 := hI.br.free 0
    simp at b1 b2 b3
    clear hI hD
    have hle : ((fs.length : Nat) : Int) = (fs.length : Int) := rfl
    go_wp2_with fail
    have hD2 : (W.setCell ⟨w.heap.size + 2, 0, none⟩ (.bool true)).heap[w.heap.size + 5]? = some (.deferred (some [])) := by
      rw [heap_setCell_other _ _ _ _ (by simp <;> omega)]
      exact HD.out
    refine ⟨by simp, .inl ⟨_, _, rfl, run_takeDeferred hD2, ?_⟩⟩
    have g := put_grown (W.setCell ⟨w.heap.size + 2, 0, none⟩ (.bool true)) (w.heap.size + 5) (.deferred none)
    exact ⟨.bool true, told1 rfl (load4 (Blk.grown (HI.out.br.store 0 (.bool true)) g (by simp <;> omega))) rfl, rfl, grown_new (grown_new HI.out.gr (grown_setCell _ _ _ _) (by intro x hx; simp at hx; omega)) g (by intro x hx; simp at hx; omega)⟩
end Go.Proofs.Ytdfdlkpljgpckaa
