/-
  Lists of outs are read.
-/
import Derived.Test.YtfocmbnhkldnfaaGreatDoorRp
namespace Go.Proofs.YtfocmbnhkldnfaaGreatDoor
open Go.RowKit Disk
open Names (Str)
open Wire (RdB RdG)

theorem ne_Out (c : Value) (w : World) : (binOp .eql 191 (.func (.func 157) #[] #[c]) .nilFunc).run Tryz.prog w = .ok (.bool false) w := by kernel_rfl
theorem pMany_leOut {most n : Nat} {L M : Bs} (h : pNum most L = some (n, M)) : pList pOut most L = pMany pOut n M := by unfold pList; rw [h]; rfl
theorem pList_noOut {most : Nat} {L : Bs} (h : pNum most L = none) : pList pOut most L = none := by unfold pList; rw [h]; rfl
theorem pOut_le (L : Bs) (x : POut) (M : Bs) (h : pOut L = some (x, M)) : M.length ≤ L.length := by rw [(pOut_inv h).2]; simp

set_option maxRecDepth 100000 in
set_option maxHeartbeats 2000000 in
theorem one157 (b f : Nat) (L : Bs) (w : World) (hz : L.length ≤ 140737488355328) (hr : RR w b L) (hf : Blk w f 150 #[.func (.func 111) #[] #[]]) :
    Calls Tryz.prog 157 #[.pointer (some ⟨b, 0, none⟩), .pointer (some ⟨f, 0, none⟩)] w (RdPost b w (pOut L) (fun o v w' => ∃ u, v = .tuple #[u, .int .i64 0] ∧ OutTold w o u w')) := by
  have HR : Hid (RR w b L) := hr
  have hb : b < w.heap.size := by obtain ⟨s, hs⟩ := hr.blk; exact hs.lt
  have kf := fun o => grown_fun (World.grownBy_alloc w o none) (hf.cell 0)
  clear hr
  go_enter Tryz.func157, Tryz.ntmps157
  go_wp2_with (go_at_call 111; refine (out111 b L _ hz (HR.out.grown (World.grownBy_alloc _ _ none))).mono ?_)
  intro e w1 h
  rcases h.symm with ⟨hx, rfl, hg⟩ | ⟨o, M, v, hx, rfl, ho, hR, hg⟩
  · have F : Hid (pOut L = none ∧ w.grownBy w1 (some b)) := ⟨hx, grown_trans (World.grownBy_alloc _ _ _) hg⟩
    clear hx hg h
    unfold Pan
    go_wp2_with fail
    exact ⟨rfl, .inr ⟨F.out.1, rfl, F.out.2⟩⟩
  clear h
  have hres : Blk w1 w.heap.size 54 #[.bool false, .slice none 0 0, .slice none 0 0] := Blk.grown (heap_alloc_new w _) hg (fun e => by simp at e; omega)
  have HW : Hid (w.grownBy w1 (some b) ∧ RR w1 b M ∧ pOut L = some (o, M)) := ⟨grown_trans (World.grownBy_alloc _ _ _) hg, hR, hx⟩
  obtain ⟨k, x, rfl, ho⟩ := ho
  obtain ⟨xa, na, ya, rfl⟩ := slice_of ho.value
  obtain ⟨xb, nb, yb, rfl, hq_⟩ := ho.rows.slice
  clear hq_
  have r0 := hres.cell 0
  have z0 := hres.free 0
  have r1 := hres.cell 1
  have z1 := hres.free 1
  have r2 := hres.cell 2
  have z2 := hres.free 2
  have HB : Hid _ := And.intro (((hres.store 0 (.bool o.has)).store 1 (.slice xa na ya)).store 2 (.slice xb nb yb)) (grown_trans (grown_trans (grown_setCell w1 w.heap.size 0 (.bool o.has)) (grown_setCell _ w.heap.size 1 (.slice xa na ya))) (grown_setCell _ w.heap.size 2 (.slice xb nb yb)))
  have HO : Hid (OutOwn w1 w.heap.size (.slice xa na ya) (.slice xb nb yb) o ∧ Blk w1 w.heap.size 54 #[.bool false, .slice none 0 0, .slice none 0 0]) := ⟨ho.mono (by simp), hres⟩
  clear ho hres hx hg hR
  go_wp2_with fail
  refine bodyPost_ret (v := _) (results_row_tmp rfl _ _ w.heap.size _ rfl (run_loadVar_row _ w.heap.size 54 54 _ (0, 0) _ HB.out.1 Tryz.underlying54 rfl (by kernel_rfl))) rfl ?_
  exact .inl ⟨o, M, _, HW.out.2.2, rfl, ⟨_, rfl, _, _, rfl, HO.out.1.set HO.out.2 (by decide) (by decide) HB.out.2⟩, HW.out.2.1.set HO.out.2 HB.out.2 (by decide) (by decide), grown_new HW.out.1 HB.out.2 (fun y hy => by simp at hy; omega)⟩

theorem Tryz.info54 : (Tryz.prog.info? 54).map (fun i => (i.zero, i.size, i.bytes)) = some (some (.agg #[.bool false, .slice none 0 0, .slice none 0 0]), 3, 56) := by kernel_rfl

/-- A thing appended to a row of such. -/
theorem app54_wp {o : Oper} {a : Act} {K : Act → World → Prop} {Q : Exit → Act → World → Prop} (w : World) (s x : Operand)
    (ho : o.op = .call { callee := .builtin .append, args := #[s, x], argTypes := #[49, 49] })
    (B : Nat) (v : Value) (l : List POut) (p : POut) (g : Nat) (k vl : Value) (hs : a.eval s = v) (hx : a.eval x = .slice (some ⟨g, 0, none⟩) 1 1)
    (hrow : OutsOwn w B v l) (hc : Blk w g 54 #[.bool p.has, k, vl]) (hp : OutOwn w B k vl p) (hb : l.length ≤ 100000000) (hB : B ≤ w.heap.size)
    (h : ∀ g' cap' w', OutsOwn w' B (.slice (some ⟨g', 0, none⟩) (l.length + 1) cap') (l ++ [p]) → w.grownBy w' v.ownBlock → (v.ownBlock = some g' ∨ g' = w.heap.size) → K (a.put o.dst (.slice (some ⟨g', 0, none⟩) (l.length + 1) cap')) w') : o.wp Tryz.prog a w K Q := by
  obtain ⟨i0, hi, hz0, hz1, hz2⟩ := info_parts Tryz.info54
  obtain ⟨⟨vs, h1, h2, h3, h4⟩, hl⟩ := hrow
  have q0 := hc.cell 0
  have q1 := hc.cell 1
  have q2 := hc.cell 2
  obtain ⟨xa, na, ya, rfl⟩ := slice_of hp.value
  obtain ⟨xb, nb, yb, rfl, hq_⟩ := hp.rows.slice
  clear hq_
  refine wp_append_lies w s x 49 ho B 54 i0 _ 3 56 Tryz.underlying49 hi hz0 hz1 hz2 rfl (by decide) v l.length vs.flatten hs h1 ⟨g, 0, none⟩ 1 1 [.bool p.has, .slice xa na ya, .slice xb nb yb] hx rfl ?_ ?_ (by decide) (by unfold maxLen; omega) (by omega) hB w.heap.size rfl ?_
  · intro j y hj
    rw [add_addr]
    match j, hj with
    | 0, hj => simp at hj; subst hj; exact q0
    | 1, hj => simp at hj; subst hj; exact q1
    | 2, hj => simp at hj; subst hj; exact q2
    | j + 3, hj => simp at hj
  · intro y hy
    simp at hy
    rcases hy with rfl | rfl | rfl <;> rfl
  · intro g' cap' w' r2 r3 r4 _
    exact h g' cap' w' ⟨LRow.snoc (outR_stab B) (by decide) h1 h2 h3 h4 rfl ⟨_, _, rfl, hp⟩ r3 r2, by simp; omega⟩ r3 r4

theorem app54 {ops : Array Oper} {rest : List Oper} {o : Oper} {a : Act} {Q : Exit → Act → World → Prop} (w : World) (hw : Region.wanted o (yielded ops a.tmps) = true) (s x : Operand)
    (ho : o.op = .call { callee := .builtin .append, args := #[s, x], argTypes := #[49, 49] })
    (B : Nat) (v : Value) (l : List POut) (p : POut) (g : Nat) (k vl : Value) (hs : a.eval s = v) (hx : a.eval x = .slice (some ⟨g, 0, none⟩) 1 1)
    (hrow : OutsOwn w B v l) (hc : Blk w g 54 #[.bool p.has, k, vl]) (hp : OutOwn w B k vl p) (hb : l.length ≤ 100000000) (hB : B ≤ w.heap.size)
    (h : ∀ g' cap' w', OutsOwn w' B (.slice (some ⟨g', 0, none⟩) (l.length + 1) cap') (l ++ [p]) → w.grownBy w' v.ownBlock → (v.ownBlock = some g' ∨ g' = w.heap.size) → wpList Tryz.prog ops Q rest (a.put o.dst (.slice (some ⟨g', 0, none⟩) (l.length + 1) cap')) w') : wpList Tryz.prog ops Q (o :: rest) a w :=
  BigFrame.wpList_want hw fun _ hK => app54_wp w s x ho B v l p g k vl hs hx hrow hc hp hb hB fun g' cap' w' h1 h2 h3 => hK _ _ (h g' cap' w' h1 h2 h3)

set_option maxRecDepth 100000 in
set_option maxHeartbeats 4000000 in
theorem things194 (b f n : Nat) (L : Bs) (w : World) (hn : n ≤ 100) (hz : L.length ≤ 140737488355328) (hr : RR w b L) (hf : Blk w f 150 #[.func (.func 111) #[] #[]]) :
    Calls Tryz.prog 194 #[.pointer (some ⟨b, 0, none⟩), .int .u64 n, .func (.func 157) #[] #[.pointer (some ⟨f, 0, none⟩)]] w (RdPost b w (pMany pOut n L) (fun l v w' => ∃ u, v = .tuple #[u, .int .i64 0] ∧ OutsOwn w' w.heap.size u l)) := by
  have HR : Hid (RR w b L ∧ Blk w f 150 #[.func (.func 111) #[] #[]]) := ⟨hr, hf⟩
  have hblt : b < w.heap.size := by obtain ⟨s, hs⟩ := hr.blk; exact hs.lt
  have hfb : f ≠ b := hr.ne hf (by decide)
  clear hr hf
  go_enter Tryz.func194, Tryz.ntmps194
  go_wp2_with fail
  go_loopw [8, 12] (fun v i wr => ∃ (k : Nat) (xs : List POut) (M : Bs), k ≤ n ∧ i = .int .u64 k ∧ Hid (pMany pOut k L = some (xs, M)) ∧ OutsOwn wr w.heap.size v xs ∧ RR wr b M ∧ w.grownBy wr (some b)) (fun _ i _ => n - (intOf i).toNat)
  case atStart => exact ⟨0, [], L, by omega, rfl, rfl, ⟨lrow_nil _ _, by simp⟩, HR.out.1, grown_refl _ _⟩
  case round =>
    obtain ⟨k, xs, M, hk, rfl, hp, hown, hrr, hg⟩ := hrel
    obtain ⟨hlen, hxs⟩ := pMany_len pOut_le k L xs M hp.out
    have hf1 : Blk wr f 150 #[.func (.func 111) #[] #[]] := HR.out.2.grown hg (fun e => hfb (by simpa using e.symm))
    by_cases hlt : k < n
    · have i2 : (k : Int) < (n : Int) := by omega
      have HO : Hid (OutsOwn wr w.heap.size u8 xs ∧ RR wr b M ∧ w.grownBy wr (some b) ∧ Blk wr f 150 #[.func (.func 111) #[] #[]]) := ⟨hown, hrr, hg, hf1⟩
      have hzM : M.length ≤ 140737488355328 := by omega
      clear hown hrr hg hf1
      go_wp2_with (go_at_call 157; refine (one157 b f M _ hzM HO.out.2.1 HO.out.2.2.2).mono ?_)
      intro e w1 h
      rcases h.symm with ⟨hx, rfl, hg1⟩ | ⟨o, M1, v, hx, rfl, ⟨u, rfl, k1, x1, rfl, ho⟩, hR, hg1⟩
      · have F : Hid (pMany pOut n L = none ∧ w.grownBy w1 (some b)) := ⟨pMany_none k n L xs M hp.out hx hlt, grown_trans HO.out.2.2.1 hg1⟩
        clear hx hg1 h
        unfold Pan
        go_wp2_with fail
        exact ⟨rfl, .inr ⟨F.out.1, rfl, F.out.2⟩⟩
      clear h
      obtain ⟨s, hs⟩ := HO.out.2.1.blk
      have hown1 := HO.out.1.set hs (by decide) (by decide) (by decide) hg1
      have HP : Hid (pMany pOut (k + 1) L = some (xs ++ [o], M1)) := by rw [pMany_snoc k L xs M hp.out, hx]; rfl
      obtain ⟨xa, na, ya, rfl⟩ := slice_of ho.value
      obtain ⟨xb, nb, yb, rfl, hq_⟩ := ho.rows.slice
      clear hq_
      have HQ : Hid (OutsOwn w1 w.heap.size u8 xs ∧ OutOwn w1 w.heap.size (.slice xa na ya) (.slice xb nb yb) o ∧ RR w1 b M1 ∧ w.grownBy w1 (some b) ∧ w.heap.size ≤ w1.heap.size) := ⟨hown1, ho.mono HO.out.2.2.1.size, hR, grown_trans HO.out.2.2.1 hg1, Nat.le_trans HO.out.2.2.1.size hg1.size⟩
      clear hx hg1 ho hR hown1 hs
      have HX : Hid (OutsOwn ((w1.alloc (.cells #[.bool o.has, .slice xa na ya, .slice xb nb yb] 54)).alloc (.cells #[.bool o.has, .slice xa na ya, .slice xb nb yb] 54)) w.heap.size u8 xs) := HQ.out.1.grown (grown_trans (World.grownBy_alloc _ _ none) (World.grownBy_alloc _ _ none))
      have HY : Hid (OutOwn ((w1.alloc (.cells #[.bool o.has, .slice xa na ya, .slice xb nb yb] 54)).alloc (.cells #[.bool o.has, .slice xa na ya, .slice xb nb yb] 54)) w.heap.size (.slice xa na ya) (.slice xb nb yb) o) := HQ.out.2.1.grown (grown_trans (World.grownBy_alloc _ _ none) (World.grownBy_alloc _ _ none))
      have HZ : Hid (Blk ((w1.alloc (.cells #[.bool o.has, .slice xa na ya, .slice xb nb yb] 54)).alloc (.cells #[.bool o.has, .slice xa na ya, .slice xb nb yb] 54)) (w1.heap.size + 1) 54 #[.bool o.has, .slice xa na ya, .slice xb nb yb]) := by
        have := heap_alloc_new (w1.alloc (.cells #[.bool o.has, .slice xa na ya, .slice xb nb yb] 54)) (.cells #[.bool o.has, .slice xa na ya, .slice xb nb yb] 54)
        simpa [Blk, Hid] using this
      have HU : Hid (w.heap.size ≤ ((w1.alloc (.cells #[.bool o.has, .slice xa na ya, .slice xb nb yb] 54)).alloc (.cells #[.bool o.has, .slice xa na ya, .slice xb nb yb] 54)).heap.size) := by have := HQ.out.2.2.2.2; unfold Hid; simp; omega
      go_wp2_with (at_builtin; refine app54 _ rfl (.tmp 23) (.tmp 25) rfl w.heap.size u8 xs o _ _ _ rfl rfl HX.out HZ.out HY.out (by omega) HU.out ?_; intro g' cap' w3 o3 g3 l3)
      have S4 : Hid (OutsOwn w3 w.heap.size (.slice (some ⟨g', 0, none⟩) (xs.length + 1) cap') (xs ++ [o]) ∧ RR w3 b M1 ∧ w.grownBy w3 (some b)) := by
        have q1 : RR ((w1.alloc (.cells #[.bool o.has, .slice xa na ya, .slice xb nb yb] 54)).alloc (.cells #[.bool o.has, .slice xa na ya, .slice xb nb yb] 54)) b M1 := HQ.out.2.2.1.grown (grown_trans (World.grownBy_alloc _ _ none) (World.grownBy_alloc _ _ none))
        have q2 := grown_trans HQ.out.2.2.2.1 (grown_weak (grown_trans (World.grownBy_alloc w1 (.cells #[.bool o.has, .slice xa na ya, .slice xb nb yb] 54) none) (World.grownBy_alloc _ (.cells #[.bool o.has, .slice xa na ya, .slice xb nb yb] 54) none)) (some b))
        refine ⟨o3, ?_, grown_new q2 g3 (fun y hy => (HX.out.1.lt y hy).1)⟩
        cases hv : Value.ownBlock u8 with
        | none => rw [hv] at g3; exact q1.grown g3
        | some y =>
          rw [hv] at g3
          obtain ⟨vs, hvs, _⟩ := HX.out.1
          obtain ⟨cur, hcur⟩ := owns_blk hvs hv
          exact q1.set hcur g3 (by decide) (by decide)
      clear o3 g3 l3 HX HY HQ
      go_wp2_with fail
      go_roundw
      case rel => exact ⟨k + 1, xs ++ [o], M1, by omega, by go_num, HP.out, by have := S4.out.1; rw [hxs] at this; exact this, S4.out.2.1, S4.out.2.2⟩
      case measure => simp [intOf]; omega
    · have e : k = n := by omega
      subst e
      have HO : Hid (OutsOwn wr w.heap.size u8 xs ∧ RR wr b M ∧ w.grownBy wr (some b)) := ⟨hown, hrr, hg⟩
      clear hown hrr hg
      go_wp2_with fail
      go_ret2
      exact .inl ⟨xs, M, _, hp.out, rfl, ⟨_, rfl, HO.out.1⟩, HO.out.2.1, HO.out.2.2⟩

/-- What a list's reading is told as. -/
abbrev OutsTold (w : World) (l : List POut) (v : Value) (w' : World) : Prop := ∃ u, v = .tuple #[u, .int .i64 0] ∧ OutsOwn w' w.heap.size u l
/-- A list's reading within: it is told, or an error is, or it is given up. -/
def TkOutPost (b : Nat) (w : World) (r : Option (List POut × Bs)) (e : Ending) (w' : World) : Prop :=
  RdPost b w r (OutsTold w) e w' ∨ (r = none ∧ (∃ u er, e = .returned (.tuple #[u, .int .i64 er]) ∧ (er != 0) = true) ∧ (∃ s2, Blk w' b 167 #[.bool true, s2]) ∧ w.grownBy w' (some b))

set_option maxRecDepth 100000 in
set_option maxHeartbeats 2000000 in
theorem take193 (b m f g : Nat) (L : Bs) (most : Nat) (w : World) (hm : most ≤ 100) (hz : L.length ≤ 140737488355328) (hr : RR w b L) (hmc : w.cell? ⟨m, 0, none⟩ = some (.int .i64 most)) (hgc : Blk w g 191 #[.func (.func 157) #[] #[.pointer (some ⟨f, 0, none⟩)]]) (hf : Blk w f 150 #[.func (.func 111) #[] #[]]) :
    Calls Tryz.prog 193 #[.pointer (some ⟨b, 0, none⟩), .pointer (some ⟨m, 0, none⟩), .pointer (some ⟨g, 0, none⟩)] w (TkOutPost b w (pList pOut most L)) := by
  have HR : Hid (RR w b L ∧ Blk w f 150 #[.func (.func 111) #[] #[]] ∧ Blk w g 191 #[.func (.func 157) #[] #[.pointer (some ⟨f, 0, none⟩)]]) := ⟨hr, hf, hgc⟩
  have hfb : f ≠ b := hr.ne hf (by decide)
  have hgb : g ≠ b := hr.ne hgc (by decide)
  clear hr hf hgc
  go_enter Tryz.func193, Tryz.ntmps193
  go_wp2_with (go_at_call 169; refine (count169 b L most _ (by omega) HR.out.1).mono ?_)
  rintro e w1 (⟨n, M, hx, rfl, hn, hR, hg⟩ | ⟨er, hx, her, rfl, hs2, hg⟩)
  · have HF : Hid (Blk w1 f 150 #[.func (.func 111) #[] #[]]) := HR.out.2.1.grown hg (fun e => hfb (by simpa using e.symm))
    have hgc := (HR.out.2.2.grown hg (fun e => hgb (by simpa using e.symm))).cell 0
    have HN : Hid (pNum most L = some (n, M) ∧ RR w1 b M ∧ w.grownBy w1 (some b)) := ⟨hx, hR, hg⟩
    have hzM := pOp_len hx
    clear hx hR hg
    go_wp2_with (go_at_call 194; refine (things194 b f n M _ (by omega) (by omega) HN.out.2.1 HF.out).mono ?_)
    intro e w2 h
    rcases h.symm with ⟨hx, rfl, hg2⟩ | ⟨l, M2, v, hx, rfl, ⟨u, rfl, ho⟩, hR2, hg2⟩
    · have F : Hid (pList pOut most L = none ∧ w.grownBy w2 (some b)) := ⟨by rw [pMany_leOut HN.out.1, hx], grown_trans HN.out.2.2 hg2⟩
      clear hx hg2 h
      unfold Pan
      go_wp2_with fail
      exact ⟨rfl, .inl (.inr ⟨F.out.1, rfl, F.out.2⟩)⟩
    clear h
    have F : Hid (pList pOut most L = some (l, M2) ∧ OutsOwn w2 w.heap.size u l ∧ RR w2 b M2 ∧ w.grownBy w2 (some b)) := ⟨by rw [pMany_leOut HN.out.1, hx], ho.mono HN.out.2.2.size, hR2, grown_trans HN.out.2.2 hg2⟩
    clear hx ho hR2 hg2
    go_wp2_with fail
    go_ret2
    exact .inl (.inl ⟨l, M2, _, F.out.1, rfl, ⟨_, rfl, F.out.2.1⟩, F.out.2.2.1, F.out.2.2.2⟩)
  · have F : Hid (pList pOut most L = none ∧ (er != 0) = true ∧ (∃ s2, Blk w1 b 167 #[.bool true, s2]) ∧ w.grownBy w1 (some b)) := ⟨pList_noOut hx, her, hs2, hg⟩
    clear hx hs2 hg
    go_wp2_with fail
    go_ret2
    exact .inr ⟨F.out.1, ⟨_, _, rfl, F.out.2.1⟩, F.out.2.2.1, F.out.2.2.2⟩

set_option maxRecDepth 100000 in
set_option maxHeartbeats 2000000 in
theorem whole192 (b m f g : Nat) (L : Bs) (most : Nat) (w : World) (hm : most ≤ 100) (hz : L.length ≤ 140737488355328) (hr : RR w b L) (hmc : w.cell? ⟨m, 0, none⟩ = some (.int .i64 most)) (hgc : Blk w g 191 #[.func (.func 157) #[] #[.pointer (some ⟨f, 0, none⟩)]]) (hf : Blk w f 150 #[.func (.func 111) #[] #[]]) :
    Calls Tryz.prog 192 #[.pointer (some ⟨b, 0, none⟩), .func (.func 193) #[] #[.pointer (some ⟨m, 0, none⟩), .pointer (some ⟨g, 0, none⟩)]] w fun e w' => RdPost b w (pList pOut most L) (OutsTold w) e w' ∨ (pList pOut most L = none ∧ (∃ u er, e = .returned (.tuple #[u, .int .i64 er]) ∧ (er != 0) = true) ∧ w.grownBy w' (some b)) := by
  have HR : Hid (RR w b L ∧ Blk w f 150 #[.func (.func 111) #[] #[]] ∧ Blk w g 191 #[.func (.func 157) #[] #[.pointer (some ⟨f, 0, none⟩)]] ∧ w.cell? ⟨m, 0, none⟩ = some (.int .i64 most)) := ⟨hr, hf, hgc, hmc⟩
  obtain ⟨s, hs, hseg, hk⟩ := hr
  obtain ⟨x0, y0, e0⟩ := hseg.shape
  obtain ⟨n0, hn0⟩ : ∃ n, n = L.length := ⟨_, rfl⟩
  rw [← hn0] at e0
  subst e0
  have c0 := hs.cell0
  have c1 := hs.cell1
  have hbl : b < w.heap.size := hs.lt
  have HS : Hid (RdB w b true (.slice x0 n0 y0)) := hs
  clear hgc hf hmc hseg hk hn0
  go_enter Tryz.func192, Tryz.ntmps192
  go_wp2_with (first | (go_at_call 130; refine (Wire.there_some b true _ _ HS.out).mono ?_; rintro e w1 ⟨rfl, hw1⟩; rw [hw1]; clear hw1) | (go_at_call 193; refine (take193 b m f g L most _ hm hz (HR.out.1.grown (World.grownBy_alloc _ _ none)) (grown_fun (World.grownBy_alloc _ _ none) HR.out.2.2.2) (HR.out.2.2.1.grown (World.grownBy_alloc _ _ none) (by simp)) (HR.out.2.1.grown (World.grownBy_alloc _ _ none) (by simp))).mono ?_))
  rintro e w1 (h | ⟨hx, ⟨u, er, rfl, her⟩, ⟨s2, hs2⟩, hg⟩)
  · rcases h.symm with ⟨hx, rfl, hg⟩ | ⟨l, M, v, hx, rfl, ⟨u, rfl, ho⟩, hR, hg⟩
    · have F : Hid (pList pOut most L = none ∧ w.grownBy w1 (some b)) := ⟨hx, grown_trans (World.grownBy_alloc _ _ _) hg⟩
      clear hx hg h
      unfold Pan
      go_wp2_with fail
      exact ⟨rfl, .inl (.inr ⟨F.out.1, rfl, F.out.2⟩)⟩
    · have F : Hid (pList pOut most L = some (l, M) ∧ OutsOwn w1 w.heap.size u l ∧ RR w1 b M ∧ w.grownBy w1 (some b)) := ⟨hx, ho.mono (by simp), hR, grown_trans (World.grownBy_alloc _ _ _) hg⟩
      clear hx ho hR hg h
      go_wp2_with fail
      go_ret2
      exact .inl (.inl ⟨l, M, _, F.out.1, rfl, ⟨_, rfl, F.out.2.1⟩, F.out.2.2.1, F.out.2.2.2⟩)
  · have F : Hid (pList pOut most L = none ∧ (er != 0) = true ∧ w.grownBy w1 (some b)) := ⟨hx, her, grown_trans (World.grownBy_alloc _ _ _) hg⟩
    have hw : Blk w1 w.heap.size 167 #[.bool true, .slice x0 n0 y0] := Blk.grown (heap_alloc_new w _) hg (fun e => by simp at e; omega)
    have d0 := hw.cell 0
    have d1 := hw.cell 1
    have b0 := hs2.cell 0
    have b1 := hs2.cell 1
    have z0 := hs2.free 0
    have z1 := hs2.free 1
    clear hx hg hw hs2
    go_wp2_with fail
    go_ret2
    exact .inr ⟨F.out.1, ⟨_, _, rfl, F.out.2.1⟩, grown_trans F.out.2.2 (grown_trans (grown_setCell _ _ _ _) (grown_setCell _ _ _ _))⟩

set_option maxRecDepth 100000 in
set_option maxHeartbeats 2000000 in
theorem take156 (b f : Nat) (L : Bs) (most : Nat) (w : World) (hm : most ≤ 100) (hz : L.length ≤ 140737488355328) (hr : RR w b L) (hf : Blk w f 150 #[.func (.func 111) #[] #[]]) :
    Calls Tryz.prog 156 #[.pointer (some ⟨b, 0, none⟩), .int .i64 most, .func (.func 157) #[] #[.pointer (some ⟨f, 0, none⟩)]] w fun e w' => RdPost b w (pList pOut most L) (OutsTold w) e w' ∨ (pList pOut most L = none ∧ (∃ u er, e = .returned (.tuple #[u, .int .i64 er]) ∧ (er != 0) = true) ∧ w.grownBy w' (some b)) := by
  have HR : Hid (RR w b L ∧ Blk w f 150 #[.func (.func 111) #[] #[]]) := ⟨hr, hf⟩
  have q1 := ne_Out
  have hmf : ∀ (fn : Fn) (first cap : Array Value) (w : World), (Instr.makeFunc fn first cap).run Tryz.prog w = .ok (.func fn first cap) w := fun _ _ _ _ => rfl
  clear hr hf
  have HB : Hid (Blk ((w.alloc (.cells #[.int .i64 most] 3)).alloc (.cells #[.func (.func 157) #[] #[.pointer (some ⟨f, 0, none⟩)]] 191)) (w.heap.size + 1) 191 #[.func (.func 157) #[] #[.pointer (some ⟨f, 0, none⟩)]]) := by
    have := heap_alloc_new (w.alloc (.cells #[.int .i64 most] 3)) (.cells #[.func (.func 157) #[] #[.pointer (some ⟨f, 0, none⟩)]] 191)
    simpa [Blk, Hid] using this
  go_enter Tryz.func156, Tryz.ntmps156
  go_wp2_with (go_at_call 192; refine (whole192 b w.heap.size f (w.heap.size + 1) L most _ hm hz (HR.out.1.grown (grown_trans (World.grownBy_alloc _ _ none) (World.grownBy_alloc _ _ none))) (by simp [go_sem]) HB.out (HR.out.2.grown (grown_trans (World.grownBy_alloc _ _ none) (World.grownBy_alloc _ _ none)) (by simp))).mono ?_)
  rintro e w1 (h | ⟨hx, ⟨u, er, rfl, her⟩, hg⟩)
  · rcases h.symm with ⟨hx, rfl, hg⟩ | ⟨l, M, v, hx, rfl, ⟨u, rfl, ho⟩, hR, hg⟩
    · have F : Hid (pList pOut most L = none ∧ w.grownBy w1 (some b)) := ⟨hx, grown_trans (grown_trans (World.grownBy_alloc _ _ _) (World.grownBy_alloc _ _ _)) hg⟩
      clear hx hg h
      unfold Pan
      go_wp2_with fail
      exact ⟨rfl, .inl (.inr ⟨F.out.1, rfl, F.out.2⟩)⟩
    · have F : Hid (pList pOut most L = some (l, M) ∧ OutsOwn w1 w.heap.size u l ∧ RR w1 b M ∧ w.grownBy w1 (some b)) := ⟨hx, ho.mono (by simp; omega), hR, grown_trans (grown_trans (World.grownBy_alloc _ _ _) (World.grownBy_alloc _ _ _)) hg⟩
      clear hx ho hR hg h
      go_wp2_with fail
      go_ret2
      exact .inl (.inl ⟨l, M, _, F.out.1, rfl, ⟨_, rfl, F.out.2.1⟩, F.out.2.2.1, F.out.2.2.2⟩)
  · have F : Hid (pList pOut most L = none ∧ (er != 0) = true ∧ w.grownBy w1 (some b)) := ⟨hx, her, grown_trans (grown_trans (World.grownBy_alloc _ _ _) (World.grownBy_alloc _ _ _)) hg⟩
    clear hx hg
    go_wp2_with fail
    go_ret2
    exact .inr ⟨F.out.1, ⟨_, _, rfl, F.out.2.1⟩, F.out.2.2⟩

set_option maxRecDepth 100000 in
set_option maxHeartbeats 2000000 in
theorem list155 (b m f : Nat) (L : Bs) (most : Nat) (w : World) (hm : most ≤ 100) (hz : L.length ≤ 140737488355328) (hr : RR w b L) (hmc : w.cell? ⟨m, 0, none⟩ = some (.int .i64 most)) (hf : Blk w f 150 #[.func (.func 111) #[] #[]]) :
    Calls Tryz.prog 155 #[.pointer (some ⟨b, 0, none⟩), .pointer (some ⟨m, 0, none⟩), .pointer (some ⟨f, 0, none⟩)] w fun e w' => RdPost b w (pList pOut most L) (OutsTold w) e w' ∨ (pList pOut most L = none ∧ (∃ u er, e = .returned (.tuple #[u, .int .i64 er]) ∧ (er != 0) = true) ∧ w.grownBy w' (some b)) := by
  have HR : Hid (RR w b L ∧ Blk w f 150 #[.func (.func 111) #[] #[]]) := ⟨hr, hf⟩
  have hmf : ∀ (fn : Fn) (first cap : Array Value) (w : World), (Instr.makeFunc fn first cap).run Tryz.prog w = .ok (.func fn first cap) w := fun _ _ _ _ => rfl
  clear hr hf
  go_enter Tryz.func155, Tryz.ntmps155
  go_wp2_with (go_at_call 156; refine (take156 b f L most _ hm hz HR.out.1 HR.out.2).mono ?_)
  rintro e w1 (h | ⟨hx, ⟨u, er, rfl, her⟩, hg⟩)
  · rcases h.symm with ⟨hx, rfl, hg⟩ | ⟨l, M, v, hx, rfl, ⟨u, rfl, ho⟩, hR, hg⟩
    · have F : Hid (pList pOut most L = none ∧ w.grownBy w1 (some b)) := ⟨hx, hg⟩
      clear hx hg h
      unfold Pan
      go_wp2_with fail
      exact ⟨rfl, .inl (.inr ⟨F.out.1, rfl, F.out.2⟩)⟩
    · have F : Hid (pList pOut most L = some (l, M) ∧ OutsOwn w1 w.heap.size u l ∧ RR w1 b M ∧ w.grownBy w1 (some b)) := ⟨hx, ho, hR, hg⟩
      clear hx ho hR hg h
      go_wp2_with fail
      go_ret2
      exact .inl (.inl ⟨l, M, _, F.out.1, rfl, ⟨_, rfl, F.out.2.1⟩, F.out.2.2.1, F.out.2.2.2⟩)
  · have F : Hid (pList pOut most L = none ∧ (er != 0) = true ∧ w.grownBy w1 (some b)) := ⟨hx, her, hg⟩
    clear hx hg
    go_wp2_with fail
    go_ret2
    exact .inr ⟨F.out.1, ⟨_, _, rfl, F.out.2.1⟩, F.out.2.2⟩

set_option maxRecDepth 100000 in
set_option maxHeartbeats 2000000 in
theorem next154 (b m f : Nat) (L : Bs) (most : Nat) (w : World) (hm : most ≤ 100) (hz : L.length ≤ 140737488355328) (hr : RR w b L) (hmc : w.cell? ⟨m, 0, none⟩ = some (.int .i64 most)) (hf : Blk w f 150 #[.func (.func 111) #[] #[]]) :
    Calls Tryz.prog 154 #[rdV b, .func (.func 155) #[] #[.pointer (some ⟨m, 0, none⟩), .pointer (some ⟨f, 0, none⟩)]] w (RdPost b w (pList pOut most L) (fun l v w' => OutsOwn w' w.heap.size v l)) := by
  have HR : Hid (RR w b L ∧ Blk w f 150 #[.func (.func 111) #[] #[]] ∧ w.cell? ⟨m, 0, none⟩ = some (.int .i64 most)) := ⟨hr, hf, hmc⟩
  clear hr hf hmc
  have e0 : rdV b = .agg #[.pointer (some ⟨b, 0, none⟩)] := rfl
  rw [e0]
  go_enter Tryz.func154, Tryz.ntmps154
  go_wp2_with (go_at_call 155; refine (list155 b m f L most _ hm hz (HR.out.1.grown (World.grownBy_alloc _ _ none)) (grown_fun (World.grownBy_alloc _ _ none) HR.out.2.2) (HR.out.2.1.grown (World.grownBy_alloc _ _ none) (by simp))).mono ?_)
  rintro e w1 (h | ⟨hx, ⟨u, er, rfl, her⟩, hg⟩)
  · rcases h.symm with ⟨hx, rfl, hg⟩ | ⟨l, M, v, hx, rfl, ⟨u, rfl, ho⟩, hR, hg⟩
    · have F : Hid (pList pOut most L = none ∧ w.grownBy w1 (some b)) := ⟨hx, grown_trans (World.grownBy_alloc _ _ _) hg⟩
      clear hx hg h
      unfold Pan
      go_wp2_with fail
      exact ⟨rfl, .inr ⟨F.out.1, rfl, F.out.2⟩⟩
    · have F : Hid (pList pOut most L = some (l, M) ∧ OutsOwn w1 w.heap.size u l ∧ RR w1 b M ∧ w.grownBy w1 (some b)) := ⟨hx, ho.mono (by simp), hR, grown_trans (World.grownBy_alloc _ _ _) hg⟩
      clear hx ho hR hg h
      go_wp2_with (go_at_call 55; refine (sure_yes _ _).mono ?_; rintro e w2 ⟨rfl, hw2⟩; rw [hw2]; clear hw2)
      go_ret
      exact .inl ⟨l, M, _, F.out.1, rfl, F.out.2.1, F.out.2.2.1, F.out.2.2.2⟩
  · have F : Hid (pList pOut most L = none ∧ w.grownBy w1 (some b)) := ⟨hx, grown_trans (World.grownBy_alloc _ _ _) hg⟩
    have q : (er == 0) = false := by simpa using her
    clear hx hg her
    go_wp2_with (go_at_call 55; refine (sure_no _ _).mono ?_; rintro e w2 ⟨rfl, hw2⟩; rw [hw2]; clear hw2; unfold Pan)
    exact ⟨rfl, .inr ⟨F.out.1, rfl, F.out.2⟩⟩

set_option maxRecDepth 100000 in
set_option maxHeartbeats 2000000 in
theorem list110 (b : Nat) (L : Bs) (most : Nat) (w : World) (hm : most ≤ 100) (hz : L.length ≤ 140737488355328) (hr : RR w b L) :
    Calls Tryz.prog 110 #[rdV b, .int .i64 most, .func (.func 111) #[] #[]] w (RdPost b w (pList pOut most L) (fun l v w' => OutsOwn w' w.heap.size v l)) := by
  have HR : Hid (RR w b L) := hr
  have hmf : ∀ (fn : Fn) (first cap : Array Value) (w : World), (Instr.makeFunc fn first cap).run Tryz.prog w = .ok (.func fn first cap) w := fun _ _ _ _ => rfl
  clear hr
  have e0 : rdV b = .agg #[.pointer (some ⟨b, 0, none⟩)] := rfl
  rw [e0]
  have HB : Hid (Blk (((w.alloc (.cells #[.pointer (some ⟨b, 0, none⟩)] 86)).alloc (.cells #[.int .i64 most] 3)).alloc (.cells #[.func (.func 111) #[] #[]] 150)) (w.heap.size + 1 + 1) 150 #[.func (.func 111) #[] #[]]) := by
    have := heap_alloc_new ((w.alloc (.cells #[.pointer (some ⟨b, 0, none⟩)] 86)).alloc (.cells #[.int .i64 most] 3)) (.cells #[.func (.func 111) #[] #[]] 150)
    simpa [Blk, Hid] using this
  go_enter Tryz.func110, Tryz.ntmps110
  go_wp2_with (go_at_call 154; refine (next154 b (w.heap.size + 1) (w.heap.size + 1 + 1) L most _ hm hz (HR.out.grown (grown3 _ _ _ _)) (by simp [go_sem]) HB.out).mono ?_)
  intro e w1 h
  rcases h.symm with ⟨hx, rfl, hg⟩ | ⟨l, M, v, hx, rfl, ho, hR, hg⟩
  · have F : Hid (pList pOut most L = none ∧ w.grownBy w1 (some b)) := ⟨hx, grown_trans (grown_weak (grown3 _ _ _ _) _) hg⟩
    clear hx hg h
    unfold Pan
    go_wp2_with fail
    exact ⟨rfl, .inr ⟨F.out.1, rfl, F.out.2⟩⟩
  · have F : Hid (pList pOut most L = some (l, M) ∧ OutsOwn w1 w.heap.size v l ∧ RR w1 b M ∧ w.grownBy w1 (some b)) := ⟨hx, ho.mono (by simp; omega), hR, grown_trans (grown_weak (grown3 _ _ _ _) _) hg⟩
    clear hx ho hR hg h
    go_wp2_with fail
    go_ret
    exact .inl ⟨l, M, _, F.out.1, rfl, F.out.2.1, F.out.2.2.1, F.out.2.2.2⟩
end Go.Proofs.YtfocmbnhkldnfaaGreatDoor
