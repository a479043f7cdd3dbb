/-
  Lists of ops are read: one by one.
-/
import Derived.Test.YtfocmbnhkldnfaaGreatDoorK
namespace Go.Proofs.YtfocmbnhkldnfaaGreatDoor
open Go.RowKit Disk
open Names (Str)
open Wire (RdB RdG)

theorem results_row_tmp {fn : Func} {p u : Tmp} {ty : TypeId} (h : fn.results = #[.cell p ty, .tmp u]) (tmps : Array Value) (w : World) (g : Nat) (cs : Array Value)
    (hp : tmps.getD p undef = .pointer (some ⟨g, 0, none⟩)) (hl : (loadVar ty ⟨g, 0, none⟩).run Tryz.prog w = .ok (.agg cs) w) :
    (results fn tmps).run Tryz.prog w = .ok (.tuple #[.agg cs, tmps.getD u undef]) w := by
  rw [results_cell_tmp h, hp]
  simp [asAddr, Result.andThen, hl]

theorem ne171 (c : Value) (w : World) : (binOp .eql 171 (.func (.func 134) #[] #[c]) .nilFunc).run Tryz.prog w = .ok (.bool false) w := by kernel_rfl

set_option maxRecDepth 100000 in
set_option maxHeartbeats 2000000 in
theorem one134 (b f : Nat) (L : Bs) (w : World) (hz : L.length ≤ 140737488355328) (hr : RR w b L) (hf : Blk w f 129 #[.func (.func 89) #[] #[]]) :
    Calls Tryz.prog 134 #[.pointer (some ⟨b, 0, none⟩), .pointer (some ⟨f, 0, none⟩)] w (RdPost b w (pOp L) (fun o v w' => ∃ u, v = .tuple #[u, .int .i64 0] ∧ OpTold w o u w')) := by
  have HR : Hid (RR w b L) := hr
  have hb : b < w.heap.size := by obtain ⟨s, hs⟩ := hr.blk; exact hs.lt
  have kf := fun o => grown_fun (World.grownBy_alloc w o none) (hf.cell 0)
  clear hr
  go_enter Tryz.func134, Tryz.ntmps134
  go_wp2_with (go_at_call 89; refine (op89 b L _ hz (HR.out.grown (World.grownBy_alloc _ _ none))).mono ?_)
  intro e w1 h
  rcases h.symm with ⟨hx, rfl, hg⟩ | ⟨o, M, v, hx, rfl, ho, hR, hg⟩
  · have F : Hid (pOp L = none ∧ w.grownBy w1 (some b)) := ⟨hx, grown_trans (World.grownBy_alloc _ _ _) hg⟩
    clear hx hg h
    unfold Pan
    go_wp2_with fail
    exact ⟨rfl, .inr ⟨F.out.1, rfl, F.out.2⟩⟩
  clear h
  have hres : Blk w1 w.heap.size 71 #[.int .i64 0, .string ⟨#[]⟩, .slice none 0 0, .slice none 0 0, .bool false, .slice none 0 0, .slice none 0 0, .int .i64 0] := Blk.grown (heap_alloc_new w _) hg (fun e => by simp at e; omega)
  have HW : Hid (w.grownBy w1 (some b) ∧ RR w1 b M ∧ pOp L = some (o, M)) := ⟨grown_trans (World.grownBy_alloc _ _ _) hg, hR, hx⟩
  obtain ⟨k, x, ol, t, rfl, ho⟩ := ho
  obtain ⟨x1, n1, y1, rfl⟩ := cut_slice ho.key
  obtain ⟨x2, n2, y2, rfl⟩ := cut_slice ho.value
  obtain ⟨x3, n3, y3, rfl⟩ := cut_slice ho.old
  obtain ⟨x4, n4, y4, rfl⟩ := cut_slice ho.tos
  obtain ⟨r0, r1, r2, r3, r4, r5, r6, r7⟩ := cells8 hres
  obtain ⟨z0, z1, z2, z3, z4, z5, z6, z7⟩ := frees8 hres
  have hb1 := (((((((hres.store 0 (.int .i64 o.kind)).store 1 (.string ⟨o.table.toArray⟩)).store 2 (.slice x1 n1 y1)).store 3 (.slice x2 n2 y2)).store 4 (.bool o.has)).store 5 (.slice x3 n3 y3)).store 6 (.slice x4 n4 y4)).store 7 (.int .i64 o.most)
  have hg1 := grown8 w1 w.heap.size (.int .i64 o.kind) (.string ⟨o.table.toArray⟩) (.slice x1 n1 y1) (.slice x2 n2 y2) (.bool o.has) (.slice x3 n3 y3) (.slice x4 n4 y4) (.int .i64 o.most)
  have HO : Hid (OpOwn w1 w.heap.size (.slice x1 n1 y1) (.slice x2 n2 y2) (.slice x3 n3 y3) (.slice x4 n4 y4) o ∧ Blk w1 w.heap.size 71 #[.int .i64 0, .string ⟨#[]⟩, .slice none 0 0, .slice none 0 0, .bool false, .slice none 0 0, .slice none 0 0, .int .i64 0]) := ⟨ho.mono (by simp), hres⟩
  have HB : Hid _ := And.intro hb1 hg1
  clear ho hres hx hg hR hb1 hg1
  unfold opV Str
  go_wp2_with fail
  refine bodyPost_ret (v := _) (results_row_tmp rfl _ _ w.heap.size _ rfl (run_loadVar_row _ w.heap.size 71 71 _ (0, 0) _ HB.out.1 Tryz.underlying71 rfl (by kernel_rfl))) rfl ?_
  exact .inl ⟨o, M, _, HW.out.2.2, rfl, ⟨_, rfl, _, _, _, _, rfl, HO.out.1.set HO.out.2 (by decide) HB.out.2⟩, HW.out.2.1.set HO.out.2 HB.out.2 (by decide) (by decide), grown_new HW.out.1 HB.out.2 (fun y hy => by simp at hy; omega)⟩

theorem Tryz.info71 : (Tryz.prog.info? 71).map (fun i => (i.zero, i.size, i.bytes)) = some (some (.agg #[.int .i64 0, .string ⟨#[]⟩, .slice none 0 0, .slice none 0 0, .bool false, .slice none 0 0, .slice none 0 0, .int .i64 0]), 8, 136) := by kernel_rfl
theorem add_addr (g j : Nat) : (⟨g, 0, none⟩ : Addr).add j = ⟨g, j, none⟩ := by unfold Addr.add; split <;> simp_all

/-- An op appended to a row of ops. -/
theorem app71_wp {o : Oper} {a : Act} {K : Act → World → Prop} {Q : Exit → Act → World → Prop} (w : World) (s x : Operand)
    (ho : o.op = .call { callee := .builtin .append, args := #[s, x], argTypes := #[22, 22] })
    (B : Nat) (v : Value) (l : List POp) (p : POp) (g : Nat) (k vl ol t : Value) (hs : a.eval s = v) (hx : a.eval x = .slice (some ⟨g, 0, none⟩) 1 1)
    (hrow : OpsOwn w B v l) (hc : Blk w g 71 #[.int .i64 p.kind, .string ⟨p.table.toArray⟩, k, vl, .bool p.has, ol, t, .int .i64 p.most]) (hp : OpOwn w B k vl ol t p) (hb : l.length ≤ 1034834473199) (hB : B ≤ w.heap.size)
    (h : ∀ g' cap' w', OpsOwn w' B (.slice (some ⟨g', 0, none⟩) (l.length + 1) cap') (l ++ [p]) → w.grownBy w' v.ownBlock → (v.ownBlock = some g' ∨ g' = w.heap.size) → K (a.put o.dst (.slice (some ⟨g', 0, none⟩) (l.length + 1) cap')) w') : o.wp Tryz.prog a w K Q := by
  obtain ⟨i0, hi, hz0, hz1, hz2⟩ := info_parts Tryz.info71
  obtain ⟨⟨vs, h1, h2, h3, h4⟩, hl⟩ := hrow
  obtain ⟨q0, q1, q2, q3, q4, q5, q6, q7⟩ := cells8 hc
  obtain ⟨x1, n1, y1, rfl⟩ := cut_slice hp.key
  obtain ⟨x2, n2, y2, rfl⟩ := cut_slice hp.value
  obtain ⟨x3, n3, y3, rfl⟩ := cut_slice hp.old
  obtain ⟨x4, n4, y4, rfl⟩ := cut_slice hp.tos
  refine wp_append_lies w s x 22 ho B 71 i0 _ 8 136 Tryz.underlying22 hi hz0 hz1 hz2 rfl (by decide) v l.length vs.flatten hs h1 ⟨g, 0, none⟩ 1 1 [.int .i64 p.kind, .string ⟨p.table.toArray⟩, .slice x1 n1 y1, .slice x2 n2 y2, .bool p.has, .slice x3 n3 y3, .slice x4 n4 y4, .int .i64 p.most] hx rfl ?_ ?_ (by decide) (by unfold maxLen; omega) (by omega) hB w.heap.size rfl ?_
  · intro j y hj
    rw [add_addr]
    match j, hj with
    | 0, hj => simp at hj; subst hj; exact q0
    | 1, hj => simp at hj; subst hj; exact q1
    | 2, hj => simp at hj; subst hj; exact q2
    | 3, hj => simp at hj; subst hj; exact q3
    | 4, hj => simp at hj; subst hj; exact q4
    | 5, hj => simp at hj; subst hj; exact q5
    | 6, hj => simp at hj; subst hj; exact q6
    | 7, hj => simp at hj; subst hj; exact q7
    | j + 8, hj => simp at hj
  · intro y hy
    simp at hy
    rcases hy with rfl | rfl | rfl | rfl | rfl | rfl | rfl | rfl <;> rfl
  · intro g' cap' w' r2 r3 r4 _
    exact h g' cap' w' ⟨LRow.snoc (opR_stab B) (by decide) h1 h2 h3 h4 rfl ⟨_, _, _, _, rfl, hp⟩ r3 r2, by simp; omega⟩ r3 r4

theorem app71 {ops : Array Oper} {rest : List Oper} {o : Oper} {a : Act} {Q : Exit → Act → World → Prop} (w : World) (hw : Region.wanted o (yielded ops a.tmps) = true) (s x : Operand)
    (ho : o.op = .call { callee := .builtin .append, args := #[s, x], argTypes := #[22, 22] })
    (B : Nat) (v : Value) (l : List POp) (p : POp) (g : Nat) (k vl ol t : Value) (hs : a.eval s = v) (hx : a.eval x = .slice (some ⟨g, 0, none⟩) 1 1)
    (hrow : OpsOwn w B v l) (hc : Blk w g 71 #[.int .i64 p.kind, .string ⟨p.table.toArray⟩, k, vl, .bool p.has, ol, t, .int .i64 p.most]) (hp : OpOwn w B k vl ol t p) (hb : l.length ≤ 1034834473199) (hB : B ≤ w.heap.size)
    (h : ∀ g' cap' w', OpsOwn w' B (.slice (some ⟨g', 0, none⟩) (l.length + 1) cap') (l ++ [p]) → w.grownBy w' v.ownBlock → (v.ownBlock = some g' ∨ g' = w.heap.size) → wpList Tryz.prog ops Q rest (a.put o.dst (.slice (some ⟨g', 0, none⟩) (l.length + 1) cap')) w') : wpList Tryz.prog ops Q (o :: rest) a w :=
  BigFrame.wpList_want hw fun _ hK => app71_wp w s x ho B v l p g k vl ol t hs hx hrow hc hp hb hB fun g' cap' w' h1 h2 h3 => hK _ _ (h g' cap' w' h1 h2 h3)

theorem pMany_snoc {α : Type} {p : Bs → Option (α × Bs)} : ∀ (k : Nat) (L : Bs) (xs : List α) (M : Bs), pMany p k L = some (xs, M) → pMany p (k + 1) L = (p M).bind fun x => some (xs ++ [x.1], x.2)
  | 0, L, xs, M, h => by
    simp [pMany] at h
    obtain ⟨rfl, rfl⟩ := h
    simp only [pMany]
    cases p L <;> rfl
  | k + 1, L, xs, M, h => by
    rw [pMany] at h
    cases hp : p L with
    | none => rw [hp] at h; cases h
    | some y =>
      rw [hp] at h
      simp only [Option.bind_some] at h
      cases hq : pMany p k y.2 with
      | none => rw [hq] at h; cases h
      | some z =>
        rw [hq] at h
        simp at h
        obtain ⟨rfl, rfl⟩ := h
        rw [pMany, hp]
        simp only [Option.bind_some]
        rw [pMany_snoc k y.2 z.1 z.2 hq]
        cases p z.2 <;> simp
theorem pMany_none {α : Type} {p : Bs → Option (α × Bs)} : ∀ (k n : Nat) (L : Bs) (xs : List α) (M : Bs), pMany p k L = some (xs, M) → p M = none → k < n → pMany p n L = none
  | 0, n, L, xs, M, h, hn, hk => by
    simp [pMany] at h
    obtain ⟨rfl, rfl⟩ := h
    cases n with
    | zero => omega
    | succ n => rw [pMany, hn]; rfl
  | k + 1, n, L, xs, M, h, hn, hk => by
    rw [pMany] at h
    cases hp : p L with
    | none => rw [hp] at h; cases h
    | some y =>
      rw [hp] at h
      simp only [Option.bind_some] at h
      cases hq : pMany p k y.2 with
      | none => rw [hq] at h; cases h
      | some z =>
        rw [hq] at h
        simp at h
        obtain ⟨rfl, rfl⟩ := h
        cases n with
        | zero => omega
        | succ n =>
          rw [pMany, hp]
          simp only [Option.bind_some]
          rw [pMany_none k n y.2 z.1 z.2 hq hn (by omega)]
          rfl
theorem pMany_len {α : Type} {p : Bs → Option (α × Bs)} (hp : ∀ L x M, p L = some (x, M) → M.length ≤ L.length) : ∀ (k : Nat) (L : Bs) (xs : List α) (M : Bs), pMany p k L = some (xs, M) → M.length ≤ L.length ∧ xs.length = k
  | 0, L, xs, M, h => by simp [pMany] at h; obtain ⟨rfl, rfl⟩ := h; simp
  | k + 1, L, xs, M, h => by
    rw [pMany] at h
    cases hp' : p L with
    | none => rw [hp'] at h; cases h
    | some y =>
      rw [hp'] at h
      simp only [Option.bind_some] at h
      cases hq : pMany p k y.2 with
      | none => rw [hq] at h; cases h
      | some z =>
        rw [hq] at h
        simp at h
        obtain ⟨rfl, rfl⟩ := h
        have h1 := hp L y.1 y.2 hp'
        have h2 := pMany_len hp k y.2 z.1 z.2 hq
        simp; omega
theorem pOp_le (L : Bs) (x : POp) (M : Bs) (h : pOp L = some (x, M)) : M.length ≤ L.length := by rw [(pOp_inv h).2]; simp
end Go.Proofs.YtfocmbnhkldnfaaGreatDoor
