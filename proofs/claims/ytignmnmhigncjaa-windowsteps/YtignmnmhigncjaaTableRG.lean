/-
  A range over a function, where each round is told what memory holds of what it is handed, and rounds within rounds: the walk of a round by the rules of plain code; the law for who ranges. Own theorems.
-/
import Derived.Test.YtignmnmhigncjaaDiskW
import Derived.Test.YtignmnmhigncjaaDiskJh
import Derived.RangeFuncNested
import Derived.RangeFuncCalls
import Derived.RangeFuncLeaves
import Derived.OrdersIn
import Derived.Scope
namespace Go.Proofs.Ytignmnmhigncjaa.Table
open Go.RowKit Disk

section
variable {P : Program} {o : Oper} {a : Act} {w : World} {next : Act → World → Prop} {Q : Exit → Act → World → Prop}

theorem rows_wide {n : Nat} {row : String} {args : Array Value} {R : Value → World → Prop} (h : Go.Rows P row args w R) : RowsIn Fence.wide n P row args w R :=
  fun c cs _ => let ⟨v, w', r, s⟩ := h c cs; ⟨v, w', r, stepsIn_wide.2 s⟩
theorem upon_round (l n : Nat) {r : Result Next} (h : o.upon P a next Q r) : o.uponIn (Fence.wide.inRound l) n P a next Q r := by
  cases r with
  | ok x w' =>
    cases x with
    | enter f args => exact ⟨fun e => by simp [Fence.wide] at e, callsIn_wide.2 h⟩
    | row row args => exact ⟨fun e => by simp [Fence.wide] at e, rows_wide h⟩
    | value v => exact h
    | skip => exact h
    | defer d => exact h
    | _ => exact h.elim
  | halt x w' =>
    cases x with
    | panic v => exact h
    | _ => exact h.elim
/-- An operation that is no defer statement, in a round. -/
theorem oper_round (l n : Nat) (hd : ∀ c, o.op ≠ .defer c) (h : o.wp P a w next Q) : o.wpIn (Fence.wide.inRound l) n P a w next Q :=
  ⟨fun _ _ => trivial, by rw [Fence.inRound_round, Oper.semAt_some l _ _ hd]; exact upon_round l n h⟩
theorem oper_wide (n : Nat) (h : o.wp P a w next Q) : o.wpIn Fence.wide n P a w next Q := by
  refine ⟨fun _ _ => trivial, ?_⟩
  rw [Fence.wide_round, Oper.semAt_none]
  unfold Oper.wp at h
  generalize (execOp a.eval o).run P w = r at *
  cases r with
  | ok x w' =>
    cases x with
    | enter f args => exact ⟨fun e => by simp [Fence.wide] at e, callsIn_wide.2 h⟩
    | row row args => exact ⟨fun e => by simp [Fence.wide] at e, rows_wide h⟩
    | value v => exact h
    | skip => exact h
    | defer d => exact h
    | _ => exact h.elim
  | halt x w' =>
    cases x with
    | panic v => exact h
    | _ => exact h.elim

/-- A call of yield, outside of rounds. -/
theorem yield_wide {l : Nat} {f : Operand} {xs ys : Operand} {x y : Value} {ts : Array TypeId} {R : Ending → World → Prop} (hy : YieldAt Fence.wide 0 P l #[x, y] w R) (ho : o.op = .call { callee := .value f, args := #[xs, ys], argTypes := ts }) (hf : a.eval f = .func (.yield l) #[] #[]) (hx : a.eval xs = x) (hys : a.eval ys = y)
    (h : ∀ e w', R e w' → ∃ v, e = .returned v ∧ next (a.put o.dst v) w') : o.wpIn Fence.wide 0 P a w next Q := by
  obtain ⟨fn, tmps, assign, body, hr, hR⟩ := hy
  refine ⟨fun _ _ => trivial, ?_⟩
  rw [Fence.wide_round, Oper.semAt_none]
  have e : (execOp a.eval o).run P w = .ok (.round l fn tmps assign body) w := by
    simp only [execOp, ho, resolve, invoke, Sem.run_bind, List.map_toArray, List.map_cons, List.map_nil, hf, hx, hys]
    exact hr
  rw [e, Oper.uponIn_round]
  refine ⟨fun e => by simp [Fence.wide] at e, hR.mono ?_⟩
  intro e w' he
  obtain ⟨v, rfl, hn⟩ := h e w' he
  exact hn
/-- A call of an outer yield, in a round. -/
theorem yield_round {l' l : Nat} {f : Operand} {xs ys : Operand} {x y : Value} {ts : Array TypeId} {R : Ending → World → Prop} (hy : YieldAt Fence.wide 0 P l #[x, y] w R) (ho : o.op = .call { callee := .value f, args := #[xs, ys], argTypes := ts }) (hf : a.eval f = .func (.yield l) #[] #[]) (hx : a.eval xs = x) (hys : a.eval ys = y)
    (h : ∀ e w', R e w' → ∃ v, e = .returned v ∧ next (a.put o.dst v) w') : o.wpIn (Fence.wide.inRound l') 0 P a w next Q := by
  obtain ⟨fn, tmps, assign, body, hr, hR⟩ := hy
  refine ⟨fun _ _ => trivial, ?_⟩
  rw [Fence.inRound_round, Oper.semAt_some l' _ _ (by rw [ho]; simp)]
  have e : (execOp a.eval o).run P w = .ok (.round l fn tmps assign body) w := by
    simp only [execOp, ho, resolve, invoke, Sem.run_bind, List.map_toArray, List.map_cons, List.map_nil, hf, hx, hys]
    exact hr
  rw [e, Oper.uponIn_round]
  refine ⟨fun e => by simp [Fence.wide] at e, RoundIn.mono (F := Fence.wide.inRound l') hR ?_⟩
  intro e w' he
  obtain ⟨v, rfl, hn⟩ := h e w' he
  exact hn

def noDefer (ops : List Oper) : Bool := ops.all fun o => match o.op with
  | .defer _ => false
  | _ => true
theorem noDefer_spec {ops : List Oper} (h : noDefer ops = true) {o : Oper} (ho : o ∈ ops) : ∀ c, o.op ≠ .defer c := by
  intro c e
  have := (List.all_eq_true.1 h) o ho
  rw [e] at this
  exact absurd this (by simp)
theorem list_round (l n : Nat) {ops : Array Oper} (hQ : ¬ LetsOut Q) : ∀ (rest : List Oper) (a : Act) (w : World), (∀ o ∈ rest, ∀ c, o.op ≠ .defer c) → wpList P ops Q rest a w → wpListIn (Fence.wide.inRound l) n P ops Q rest a w
  | [], a, w, _, h => h
  | o :: rest, a, w, hd, h => by
    unfold wpList at h
    unfold wpListIn
    have ih := list_round l n hQ (ops := ops) rest
    split
    · rename_i hw
      rw [if_pos hw] at h
      rcases h with h | h
      · refine oper_round l n (hd o (by simp)) ?_
        have e : ∀ x y, wpList P ops Q rest x y → wpListIn (Fence.wide.inRound l) n P ops Q rest x y := fun x y hx => ih x y (fun o ho => hd o (by simp [ho])) hx
        exact Oper.wp_mono e h
      · exact absurd h.2 hQ
    · rename_i hw
      rw [if_neg hw] at h
      exact ⟨fun _ _ => trivial, ih _ _ (fun o ho => hd o (by simp [ho])) h⟩
theorem op_round (l n : Nat) {ops : Array Oper} (hQ : ¬ LetsOut Q) {i : Nat} {K K' : Act → World → Prop} (hd : ∀ o ∈ ops.toList, ∀ c, o.op ≠ .defer c) (hK : ∀ a w, K a w → K' a w) (h : wpOp P ops Q i K a w) : wpOpIn (Fence.wide.inRound l) n P ops Q i K' a w := by
  unfold wpOp at h
  unfold wpOpIn
  cases ho : ops[i]? with
  | none => rw [ho] at h; exact hK _ _ h
  | some o =>
    rw [ho] at h
    have hm : o ∈ ops.toList := by
      have := Array.mem_of_getElem? ho
      simpa using this
    by_cases hw : Region.wanted o (yielded ops a.tmps) = true
    · simp only [hw, if_true] at h ⊢
      rcases h with h | h
      · exact oper_round l n (hd o hm) (Oper.wp_mono hK h)
      · exact absurd h.2 hQ
    · simp only [hw] at h ⊢
      exact ⟨fun _ _ => trivial, hK _ _ h⟩
theorem any_round (l n : Nat) {md : Region.Mode} {ops : Array Oper} (hQ : ¬ LetsOut Q) (hd : ∀ o ∈ ops.toList, ∀ c, o.op ≠ .defer c) : ∀ (fuel : Nat) (listed : Array Bool) (a : Act) (w : World), wpAny P md ops Q fuel listed a w → wpAnyIn (Fence.wide.inRound l) n P md ops Q fuel listed a w
  | 0, _listed, _a, _w, h => h
  | fuel + 1, _listed, _a, _w, h => ⟨h.1, fun i hi => op_round l n hQ hd (fun a w => any_round l n hQ hd fuel _ a w) (h.2 i hi)⟩
/-- A region in a round, by the rules of plain code. -/
theorem region_round {l n id : Nat} {ops : List Oper} (hQ : ¬ LetsOut Q) (hd : noDefer ops = true) (h : wpList P ops.toArray Q ops a w) : (Code.region id ops.toArray false).wpIn (Fence.wide.inRound l) n P Q a w :=
  wpIn_region_lit (list_round l n hQ ops a w (fun _ ho => noDefer_spec hd ho) h)
/-- One that draws its order. -/
theorem region_round_hold (z : Nat) (H : World → Prop) {l n id : Nat} {ops : Array Oper} (hQ : ¬ LetsOut Q) (hd : noDefer ops.toList = true) (hm : P.follows .mixedOrders = true) (h : wpHold P z H .any ops Q ops.size (Array.replicate ops.size false) a w.drew) : (Code.region id ops true).wpIn (Fence.wide.inRound l) n P Q a w :=
  wpIn_region_any hm (any_round l n hQ (fun _ ho => noDefer_spec hd ho) _ _ _ _ (wpAny_of_hold _ _ _ _ h))
end

section
variable {P : Program} {ops : Array Oper} {Q : Exit → Act → World → Prop} {md : Region.Mode} {H : World → Prop} {z : Nat} {Y : (Act → World → Prop) → Act → World → Prop}

/-- Whatever order is picked from here on; number z, which waits for all that keeps the fact H, is carried out as Y says. -/
def wpHoldY (P : Program) (z : Nat) (H : World → Prop) (md : Region.Mode) (ops : Array Oper) (Q : Exit → Act → World → Prop) (Y : (Act → World → Prop) → Act → World → Prop) : Nat → Array Bool → Act → World → Prop
  | 0, listed, a, w => Region.ready md ops listed = [] ∧ Q .normal a w
  | n + 1, listed, a, w => (Region.ready md ops listed = [] → Q .normal a w) ∧
      ∀ i ∈ Region.ready md ops listed, (i = z → Y (fun a' w' => wpHoldY P z H md ops Q Y n (listed.setIfInBounds i true) a' w') a w) ∧
        (i ≠ z → wpOp P ops Q i (fun a' w' => (listed.getD z false = false → H w') ∧ wpHoldY P z H md ops Q Y n (listed.setIfInBounds i true) a' w') a w)

theorem wpAnyIn_of_holdY (l : Nat) (hQ : ¬ LetsOut Q) (hd : ∀ o ∈ ops.toList, ∀ c, o.op ≠ .defer c)
    (hY : ∀ (K K' : Act → World → Prop) a w, (∀ a w, K a w → K' a w) → Y K a w → wpOpIn (Fence.wide.inRound l) 0 P ops Q z K' a w) :
    ∀ (n : Nat) (listed : Array Bool) (a : Act) (w : World), wpHoldY P z H md ops Q Y n listed a w → wpAnyIn (Fence.wide.inRound l) 0 P md ops Q n listed a w
  | 0, _, _, _, h => h
  | n + 1, listed, a, w, h => ⟨h.1, fun i hi => by
      by_cases hz : i = z
      · have h1 := (h.2 i hi).1 hz
        rw [hz] at h1 ⊢
        exact hY _ _ a w (fun a' w' h' => wpAnyIn_of_holdY l hQ hd hY n _ a' w' h') h1
      · exact op_round l 0 hQ hd (fun a' w' h' => wpAnyIn_of_holdY l hQ hd hY n _ a' w' h'.2) ((h.2 i hi).2 hz)⟩

theorem wpHoldY_first {i : Nat} {oi : Oper} {v : Value} (hi : ops[i]? = some oi) (hsel : ∀ (j : Nat) (o : Oper) cs b, ops[j]? = some o → o.op ≠ .select cs b)
    (hz : waitsH md ops z i = true) (hiz : i ≠ z)
    (hQ : ∀ c a w, Q (.panic c) (a.put oi.dst v) w → Q (.panic c) a w) :
    ∀ (n : Nat) (listed : Array Bool) (a : Act) (w : World), Shutdown md ops listed → listed.getD z false = false → H w →
      (∀ j oj, ops[j]? = some oj → j ≠ i → listed.getD j true = false → (∀ e ∈ oj.after, Region.binds md e = true → e.on ≠ i) → oi.apart ops oj = true) →
      i ∈ Region.ready md ops listed → YieldsIf P ops H oi v a →
      wpHoldY P z H md ops Q Y n (listed.setIfInBounds i true) (a.put oi.dst v) w → wpHoldY P z H md ops Q Y (n + 1) listed a w := by
  intro n
  induction n with
  | zero =>
    intro listed a w _ _ hH _ hr hy W
    refine ⟨fun h => (by rw [h] at hr; cases hr), fun j hj => ?_⟩
    by_cases hji : j = i
    · subst hji; exact ⟨fun e => absurd e hiz, fun _ => hy.wpOp hi hH ⟨fun _ => hH, W⟩⟩
    · have h0 := ready_mono hj hji
      rw [W.1] at h0
      cases h0
  | succ n ih =>
    intro listed a w hsd hzl hH hfree hr hy W
    refine ⟨fun h => (by rw [h] at hr; cases hr), fun j hj => ?_⟩
    by_cases hji : j = i
    · subst hji; exact ⟨fun e => absurd e hiz, fun _ => hy.wpOp hi hH ⟨fun _ => hH, W⟩⟩
    · have hjz : j ≠ z := waitsH_not hsd hz hr hj
      refine ⟨fun e => absurd e hjz, fun _ => ?_⟩
      have h1 := (W.2 j (ready_mono hj hji)).2 hjz
      obtain ⟨hjun, oj, hoj, hall⟩ := mem_ready.1 hj
      have hnot : ∀ e ∈ oj.after, Region.binds md e = true → e.on ≠ i := fun e he hb heq => by
        have h2 := hall e he hb
        have h0 := (mem_ready.1 hr).1
        rw [heq] at h2
        rcases Nat.lt_or_ge i listed.size with h' | h'
        · simp [h'] at h0 h2; rw [h0] at h2; cases h2
        · simp [Array.getElem?_eq_none h'] at h2
      have h2 := wpOp_putIf hoj (hfree j oj hoj hji hjun hnot) (fun cs b => hsel i oi cs b hi) (fun cs b => hsel j oj cs b hoj) hQ hy h1
      have hfree' : ∀ k ok, ops[k]? = some ok → k ≠ i → (listed.setIfInBounds j true).getD k true = false →
          (∀ e ∈ ok.after, Region.binds md e = true → e.on ≠ i) → oi.apart ops ok = true := fun k ok hk hki hun hno => by
        refine hfree k ok hk hki ?_ hno
        by_cases hjk : j = k
        · subst hjk; exact hjun
        · rw [getD_set_ne true hjk] at hun; exact hun
      have hzl' : (listed.setIfInBounds j true).getD z false = false := by rw [getD_set_ne false hjz]; exact hzl
      have hzi : (listed.setIfInBounds i true).getD z false = false := by rw [getD_set_ne false hiz]; exact hzl
      refine wpOp_mono (fun a' w' h3 => ⟨fun _ => h3.2.1 hzi, ih (listed.setIfInBounds j true) a' w' (hsd.set hj) hzl' (h3.2.1 hzi) hfree' (ready_mono hr (Ne.symm hji)) h3.1 ?_⟩) h2
      rw [Array.setIfInBounds_comm _ _ hji]
      exact h3.2.2

/-- Number i is taken first. -/
theorem wpHoldY_take {i : Nat} {oi : Oper} {l : List Oper} {d : Option Tmp} {v : Value} {n : Nat} {listed : Array Bool} {a : Act} {w : World} (hH : H w) (hi : ops.toList.drop i = oi :: l) (hd : oi.dst = d) (hiz : i ≠ z) (hzl : listed.getD z false = false)
    (hs : Region.noSelect ops = true) (hz : waitsH md ops z i = true) (hsd : shutB md ops listed = true) (hf : Region.free md ops listed i = true) (hr : (Region.ready md ops listed).contains i = true)
    (hQ : ∀ c a w, Q (.panic c) (a.put d v) w → Q (.panic c) a w) (hw : Region.wanted oi (yielded ops a.tmps) = true) (hy : ∀ x : World, H x → (execOp a.eval oi).run P x = .ok (.value v) x)
    (h : wpHoldY P z H md ops Q Y n (listed.setIfInBounds i true) (a.put d v) w) : wpHoldY P z H md ops Q Y (n + 1) listed a w := by
  subst hd
  exact wpHoldY_first (get_of_dropH hi) (Region.noSelect_spec hs) hz hiz hQ n listed a w (shutB_spec hsd) hzl hH (Region.free_spec (get_of_dropH hi) hf) (by simpa using hr) (.inl ⟨hw, hy⟩) h
/-- One alone may come up. -/
theorem wpHoldY_one {i : Nat} {oi : Oper} {l : List Oper} {n : Nat} {listed : Array Bool} {a : Act} {w : World} (hi : ops.toList.drop i = oi :: l) (hiz : i ≠ z) (hr : Region.ready md ops listed = [i]) (hw : Region.wanted oi (yielded ops a.tmps) = true)
    (h : ∀ K : Act → World → Prop, Shut (∀ a' w', (listed.getD z false = false → H w') → wpHoldY P z H md ops Q Y n (listed.setIfInBounds i true) a' w' → K a' w') → Oper.wp P oi a w K Q) : wpHoldY P z H md ops Q Y (n + 1) listed a w := by
  refine ⟨fun h0 => (by rw [hr] at h0; cases h0), fun j hj => ?_⟩
  rw [hr] at hj
  have e : j = i := by simpa using hj
  subst e
  refine ⟨fun e => absurd e hiz, fun _ => wpOp_step (get_of_dropH hi) fun K hK => ?_⟩
  rw [if_pos hw]
  exact h K fun a' w' h1 h2 => hK a' w' ⟨h1, h2⟩
/-- Two may come up: either first. -/
theorem wpHoldY_two {i j : Nat} {oi oj : Oper} {l l' : List Oper} {n : Nat} {listed : Array Bool} {a : Act} {w : World} (hi : ops.toList.drop i = oi :: l) (hj : ops.toList.drop j = oj :: l') (hiz : i ≠ z) (hjz : j ≠ z) (hr : Region.ready md ops listed = [i, j]) (hwi : Region.wanted oi (yielded ops a.tmps) = true) (hwj : Region.wanted oj (yielded ops a.tmps) = true)
    (h : ∀ K : Act → World → Prop, Shut (∀ a' w', (listed.getD z false = false → H w') → wpHoldY P z H md ops Q Y n (listed.setIfInBounds i true) a' w' → K a' w') → Oper.wp P oi a w K Q)
    (h' : ∀ K : Act → World → Prop, Shut (∀ a' w', (listed.getD z false = false → H w') → wpHoldY P z H md ops Q Y n (listed.setIfInBounds j true) a' w' → K a' w') → Oper.wp P oj a w K Q) : wpHoldY P z H md ops Q Y (n + 1) listed a w := by
  refine ⟨fun h0 => (by rw [hr] at h0; cases h0), fun x hx => ?_⟩
  rw [hr] at hx
  simp only [List.mem_cons, List.not_mem_nil, or_false] at hx
  rcases hx with rfl | rfl
  · refine ⟨fun e => absurd e hiz, fun _ => wpOp_step (get_of_dropH hi) fun K hK => ?_⟩
    rw [if_pos hwi]
    exact h K fun a' w' h1 h2 => hK a' w' ⟨h1, h2⟩
  · refine ⟨fun e => absurd e hjz, fun _ => wpOp_step (get_of_dropH hj) fun K hK => ?_⟩
    rw [if_pos hwj]
    exact h' K fun a' w' h1 h2 => hK a' w' ⟨h1, h2⟩
/-- Number z alone comes up. -/
theorem wpHoldY_z {n : Nat} {listed : Array Bool} {a : Act} {w : World} (hr : Region.ready md ops listed = [z]) (h : Y (fun a' w' => wpHoldY P z H md ops Q Y n (listed.setIfInBounds z true) a' w') a w) : wpHoldY P z H md ops Q Y (n + 1) listed a w := by
  refine ⟨fun h0 => (by rw [hr] at h0; cases h0), fun j hj => ?_⟩
  rw [hr] at hj
  have e : j = z := by simpa using hj
  subst e
  exact ⟨fun _ => h, fun e => absurd rfl e⟩
theorem wpHoldY_done {n : Nat} {listed : Array Bool} {a : Act} {w : World} (hr : Region.ready md ops listed = []) (h : Q .normal a w) : wpHoldY P z H md ops Q Y n listed a w := by
  cases n with
  | zero => exact ⟨hr, h⟩
  | succ n => exact ⟨fun _ => h, by rw [hr]; simp⟩
/-- A region that draws its order, in a round, with a call of an outer yield. -/
theorem region_round_holdY (z : Nat) (H : World → Prop) (Y : (Act → World → Prop) → Act → World → Prop) {l id : Nat} {a : Act} {w : World} (hQ : ¬ LetsOut Q) (hd : noDefer ops.toList = true) (hm : P.follows .mixedOrders = true)
    (hY : ∀ (K K' : Act → World → Prop) a w, (∀ a w, K a w → K' a w) → Y K a w → wpOpIn (Fence.wide.inRound l) 0 P ops Q z K' a w)
    (h : wpHoldY P z H .any ops Q Y ops.size (Array.replicate ops.size false) a w.drew) : (Code.region id ops true).wpIn (Fence.wide.inRound l) 0 P Q a w :=
  wpIn_region_any hm (wpAnyIn_of_holdY l hQ (fun _ ho => noDefer_spec hd ho) hY _ _ _ _ h)
end

/-- The loops' records and what lies behind n0 and is no cells may turn; all else stays. -/
structure Tn (n0 : Nat) (W W' : World) : Prop where
  os : W'.os = W.os
  tape : W'.tape = W.tape
  output : W'.output = W.output
  size : W.heap.size ≤ W'.heap.size
  block : ∀ i, i < W.heap.size → (i < n0 ∨ ∃ c t z, W.heap[i]? = some (.cells c t z)) → W'.heap[i]? = W.heap[i]?
theorem Tn.refl (n0 : Nat) (W : World) : Tn n0 W W := ⟨rfl, rfl, rfl, Nat.le_refl _, fun _ _ _ => rfl⟩
theorem Tn.of_grown {n0 : Nat} {W W' : World} (h : W.grownBy W' none) : Tn n0 W W' := ⟨h.os, h.tape, h.output, h.size, fun i hi _ => h.block i hi (by simp)⟩
theorem Tn.trans {n0 : Nat} {A B C : World} (h : Tn n0 A B) (k : Tn n0 B C) : Tn n0 A C :=
  ⟨k.os.trans h.os, k.tape.trans h.tape, k.output.trans h.output, Nat.le_trans h.size k.size, fun i hi hc => by
    have h1 := h.block i hi hc
    refine (k.block i (Nat.lt_of_lt_of_le hi h.size) ?_).trans h1
    rcases hc with hc | ⟨c, t, z, hc⟩
    · exact .inl hc
    · exact .inr ⟨c, t, z, h1.trans hc⟩⟩
theorem Tn.mono {n0 n1 : Nat} {A B : World} (h : Tn n1 A B) (hn : n0 ≤ n1) : Tn n0 A B := ⟨h.os, h.tape, h.output, h.size, fun i hi hc => h.block i hi (by rcases hc with hc | hc; exact .inl (by omega); exact .inr hc)⟩
theorem Tn.put {n0 : Nat} {W : World} {b : Nat} {r : Loop} (o : Obj) (hb : W.heap[b]? = some (.loop r)) (hn : n0 ≤ b) : Tn n0 W (W.putObj b o) :=
  ⟨rfl, rfl, rfl, by simp [World.putObj], fun i _ hc => by
    have hne : i ≠ b := fun e => by
      subst e
      rcases hc with hc | ⟨c, t, z, hc⟩
      · omega
      · rw [hb] at hc; cases hc
    exact World.putObj_heap_other hne⟩
theorem Tn.putD {n0 : Nat} {W : World} {b : Nat} {d : Option (List Deferred)} (o : Obj) (hb : W.heap[b]? = some (.deferred d)) (hn : n0 ≤ b) : Tn n0 W (W.putObj b o) :=
  ⟨rfl, rfl, rfl, by simp [World.putObj], fun i _ hc => by
    have hne : i ≠ b := fun e => by
      subst e
      rcases hc with hc | ⟨c, t, z, hc⟩
      · omega
      · rw [hb] at hc; cases hc
    exact World.putObj_heap_other hne⟩
theorem Tn.blk {n0 : Nat} {W W' : World} (h : Tn n0 W W') {b t : Nat} {c : Array Value} (hb : Blk W b t c) : Blk W' b t c := (h.block b hb.lt (.inr ⟨_, _, _, hb⟩)).trans hb
theorem Tn.cell {n0 : Nat} {W W' : World} (h : Tn n0 W W') {b j : Nat} {v : Value} (hc : W.cell? ⟨b, j, none⟩ = some v) : W'.cell? ⟨b, j, none⟩ = some v := by
  unfold World.cell? at hc ⊢
  cases hb : W.heap[b]? with
  | none => simp [hb] at hc
  | some o =>
    cases o with
    | cells c t z =>
      have := h.block b (Array.getElem?_eq_some_iff.1 hb).1 (.inr ⟨_, _, _, hb⟩)
      simp only [this]
      exact hc
    | _ => simp [hb] at hc
theorem Tn.seg {n0 : Nat} {W W' : World} (h : Tn n0 W W') {v : Value} {L : List UInt8} (hs : Seg W v L) : Seg W' v L := hs.of_cells fun _ _ _ hx => h.cell hx
theorem Tn.own {n0 : Nat} {W W' : World} (h : Tn n0 W W') {B : Nat} {v : Value} {L : List UInt8} (hs : Disk.Own W B v L) : Disk.Own W' B v L := hs.same fun k hk => by
  rcases hs.2 with ⟨e, _⟩ | ⟨g, cap, cur, e, _, hg, _⟩
  · rw [e] at hk; simp [Value.ownBlock] at hk
  · rw [e] at hk
    simp [Value.ownBlock] at hk
    subst hk
    exact h.block g (Array.getElem?_eq_some_iff.1 hg).1 (.inr ⟨_, _, _, hg⟩)

/-- Blocks that were handed over. -/
def Handed (xs : Array Value) (i : Nat) : Prop := ∃ v ∈ xs, v.ownBlock = some i
/-- What a round that goes on keeps: n1: where the function was made; n0: where it was called; Fw: what the round may write of what lay there. -/
def KeptX (n1 n0 : Nat) (Fw : Nat → Prop) (xs : Array Value) (W1 W' : World) : Prop := W1.heap.size ≤ W'.heap.size ∧ ∀ i, i < W1.heap.size → (i < n1 ∨ n0 ≤ i) → ¬ Fw i → ¬ Handed xs i → W'.heap[i]? = W1.heap[i]?

/-- A function that goes over N things: at each round X tells what is handed over, in which memory. -/
def Gives (P : Program) (gf : Nat) (lb : Array Value) (N : Nat) (X : Nat → World → World → Array Value → Prop) (Fw : Nat → Prop) (w : World) : Prop :=
  ∀ (l : Nat) (J : Nat → World → Prop) (Jx : World → Prop) (W : World), w.grownBy W none →
    (∀ k A B, J k A → Tn W.heap.size A B → J k B) → (∀ A B, Jx A → Tn W.heap.size A B → Jx B) →
    (∀ k W0 W1 xs, k < N → J k W0 → W.heap.size ≤ W0.heap.size → Tn W.heap.size W0 W1 → X k W0 W1 xs → YieldAt Fence.wide 0 P l xs W1 fun e W' => (e = .returned (.bool true) ∧ J (k + 1) W' ∧ KeptX w.heap.size W.heap.size Fw xs W1 W') ∨ (e = .returned (.bool false) ∧ Jx W' ∧ KeptX w.heap.size W.heap.size Fw xs W1 W')) →
    J 0 W → Calls P gf (#[.func (.yield l) #[] #[]] ++ lb) W fun e W' => (∃ v, e = .returned v) ∧ (J N W' ∨ Jx W')

/-- How a round's body may be left. -/
def roundEnd (S : Nat) (Fw : Nat → Prop) (I : Nat → World → Prop) (Ix : World → Prop) (k : Nat) (xs : Array Value) (W1 W2 : World) : Exit → Act → World → Prop
  | .normal, _, W' => (W'.heap[S]? = W2.heap[S]? ∧ W'.heap[S + 1]? = W2.heap[S + 1]?) ∧ KeptX S (S + 2) Fw xs W1 W' ∧ I (k + 1) W'
  | .ret, _, W' => (W'.heap[S]? = W2.heap[S]? ∧ W'.heap[S + 1]? = W2.heap[S + 1]?) ∧ KeptX S (S + 2) Fw xs W1 W' ∧ Ix W'
  | _, _, _ => False

/-- A range over a function that gives. -/
theorem wp_range {P : Program} {g : Operand} {ps : Array Tmp} {assign body : Code} {Q : Exit → Act → World → Prop} {a : Act} {w : World} {gf : Nat} {lb : Array Value}
    (hg : a.eval g = .func (.func gf) #[] lb) (eg : ∀ args w, (callFunc gf args).run P w = .ok (.enter gf args) w)
    {N : Nat} {X : Nat → World → World → Array Value → Prop} {Fw : Nat → Prop} (hseq : Gives P gf lb N X Fw w) (hps : ∀ k W0 W1 xs, X k W0 W1 xs → xs.size = ps.size)
    (I : Nat → World → Prop) (Ix : World → Prop) (hIg : ∀ k A B, I k A → Tn (w.heap.size + 1) A B → I k B) (hXg : ∀ A B, Ix A → Tn (w.heap.size + 1) A B → Ix B) (h0 : I 0 w)
    (hround : ∀ (l k : Nat) (W0 W1 : World) (xs : Array Value), k < N → I k W0 → w.heap.size + 1 < W0.heap.size → Tn (w.heap.size + 2) W0 W1 → X k W0 W1 xs → (∃ r, W1.heap[w.heap.size + 1]? = some (.loop r)) →
      assign.wpIn (Fence.wide.inRound l) 0 P (Exit.then (fun a1 Wa => W1.grownBy Wa none ∧ ∀ r, body.wpIn (Fence.wide.inRound l) 0 P (roundEnd w.heap.size Fw I Ix k xs W1 (Wa.putObj (w.heap.size + 1) (.loop r))) a1 (Wa.putObj (w.heap.size + 1) (.loop r))) (fun _ _ _ => False))
        { tmps := (ps.zip xs).foldl (fun t (p, v) => t.setIfInBounds p v) a.tmps, defers := [] } W1)
    (hdone : ∀ (W : World), I N W → W.heap[w.heap.size]? = some (.deferred (some [])) → Q .normal { a with defers := { target := .collected w.heap.size, args := #[] } :: a.defers } W)
    (hstop : ∀ (W : World), Ix W → W.heap[w.heap.size]? = some (.deferred (some [])) → Code.ret.wp P Q { a with defers := { target := .collected w.heap.size, args := #[] } :: a.defers } W) :
    (Code.rangeFunc g ps assign body).wp P Q a w := by
  refine (wpIn_wide (n := 0)).1 (wpIn_rangeFunc ?_)
  intro fn _
  generalize hS : w.heap.size = S at *
  obtain ⟨rec, hrec⟩ : ∃ rec : LoopState → Option Code → Loop, rec = fun st pe => { state := st, pending := pe, fn, tmps := a.tmps, params := ps, assign, body, defers := S } := ⟨_, rfl⟩
  obtain ⟨W1, hW1⟩ : ∃ W1, (w.alloc (.deferred (some []))).alloc (.loop (rec .ready none)) = W1 := ⟨_, rfl⟩
  have hL1 : W1.heap[S + 1]? = some (.loop (rec .ready none)) := by
    rw [← hW1, ← hS]; have := World.alloc_heap_new (w.alloc (.deferred (some []))) (.loop (rec .ready none)); rwa [World.size_alloc] at this
  have hg1 : w.grownBy W1 none := by rw [← hW1]; exact grown_trans (World.grownBy_alloc _ _ _) (World.grownBy_alloc _ _ _)
  have hD1 : W1.heap[S]? = some (.deferred (some [])) := by
    rw [← hW1, ← hS]; exact (Below.heap_alloc _ _ _ (by simp)).trans (World.alloc_heap_new w _)
  have hz1 : W1.heap.size = S + 2 := by rw [← hW1, ← hS]; simp
  refine ⟨S + 1, [{ target := .collected S, args := #[] }], W1, { target := .fn (.func gf) lb, args := #[.func (.yield (S + 1)) #[] #[]] }, W1, gf,
    #[.func (.yield (S + 1)) #[] #[]] ++ lb, W1, ?_, ?_, fun _ _ => trivial, ?_, fun e => by simp [Fence.wide] at e, ?_⟩
  · rw [← hW1, hrec, ← hS]; exact run_enterLoop_outer _ _ _ _ _
  · simp only [resolve, hg]
    simp [go_sem]
  · simp [invoke, go_sem, eg]
  · refine callsIn_wide.2 ((hseq (S + 1) (fun k W => I k W ∧ W.heap[S + 1]? = some (.loop (rec .ready none)) ∧ W.heap[S]? = some (.deferred (some [])))
      (fun W => Ix W ∧ W.heap[S + 1]? = some (.loop (rec .done (some .ret))) ∧ W.heap[S]? = some (.deferred (some []))) W1 hg1 ?_ ?_ ?_ ⟨hIg 0 w W1 h0 (Tn.of_grown hg1), hL1, hD1⟩).mono ?_)
    · rintro k A B ⟨hi, hl, hd⟩ ht
      rw [hz1] at ht
      have hlt := (Array.getElem?_eq_some_iff.1 hl).1
      exact ⟨hIg _ _ _ hi (ht.mono (by omega)), (ht.block _ hlt (.inl (by omega))).trans hl, (ht.block _ (by omega) (.inl (by omega))).trans hd⟩
    · rintro A B ⟨hi, hl, hd⟩ ht
      rw [hz1] at ht
      have hlt := (Array.getElem?_eq_some_iff.1 hl).1
      exact ⟨hXg _ _ hi (ht.mono (by omega)), (ht.block _ hlt (.inl (by omega))).trans hl, (ht.block _ (by omega) (.inl (by omega))).trans hd⟩
    · rintro k W0 W xs hk ⟨hi, hl, hd⟩ hsz hgr hx
      rw [hz1] at hgr hsz ⊢
      rw [hS]
      have hlt0 : S + 1 < W0.heap.size := (Array.getElem?_eq_some_iff.1 hl).1
      have hlt : S + 1 < W.heap.size := Nat.lt_of_lt_of_le hlt0 hgr.size
      have hlW : W.heap[S + 1]? = some (.loop (rec .ready none)) := (hgr.block _ hlt0 (.inl (by omega))).trans hl
      have hdW : W.heap[S]? = some (.deferred (some [])) := (hgr.block _ (by omega) (.inl (by omega))).trans hd
      have hy := run_yield (P := P) (args := xs) hlW (by rw [hrec]; exact hps k W0 W xs hx)
      rw [hrec] at hy
      refine ⟨fn, _, assign, body, hy, roundIn_of_wpIn trivial ?_⟩
      clear hy
      refine wpIn_mono (hround (S + 1) k W0 W xs hk hi hlt0 hgr hx ⟨_, hlW⟩) ?_
      intro e a1 Wa hE
      cases e with
      | normal =>
        obtain ⟨hga, hb⟩ := hE
        have hla : Wa.heap[S + 1]? = some (.loop (rec .ready none)) := (hga.block _ hlt (by simp)).trans hlW
        have hda : Wa.heap[S]? = some (.deferred (some [])) := (hga.block _ (by omega) (by simp)).trans hdW
        have hlta : S + 1 < Wa.heap.size := (Array.getElem?_eq_some_iff.1 hla).1
        refine ⟨_, run_beginRound hla (by rw [hrec]), ?_⟩
        have hl2 : (Wa.putObj (S + 1) (.loop { rec .ready none with state := .busy })).heap[S + 1]? = some (.loop { rec .ready none with state := .busy }) := World.putObj_heap_same hlta
        have hd2 : (Wa.putObj (S + 1) (.loop { rec .ready none with state := .busy })).heap[S]? = some (.deferred (some [])) := (World.putObj_heap_other (by omega)).trans hda
        refine wpIn_mono (hb { rec .ready none with state := .busy }) ?_
        intro e2 a2 W' hp
        cases e2 with
        | normal =>
          obtain ⟨⟨k1, k2⟩, k3, k4⟩ := hp
          have hl3 := k2.trans hl2
          have hr := run_endRound (P := P) none hl3
          rw [hrec] at hr
          have htn : Tn (S + 1) W' (W'.putObj (S + 1) (.loop (rec .ready none))) := Tn.put _ hl3 (Nat.le_refl _)
          refine ⟨_, _, hr, .inl ⟨rfl, ⟨?_, ?_, ?_⟩, ?_⟩⟩
          · have := hIg _ _ _ k4 htn
            rw [hrec] at this
            exact this
          · rw [World.putObj_heap_same (Array.getElem?_eq_some_iff.1 hl3).1]
            rw [hrec]
            rfl
          · rw [World.putObj_heap_other (by omega)]; exact k1.trans hd2
          · refine ⟨Nat.le_trans k3.1 (by simp [World.putObj]), fun i hi hc hf hh => ?_⟩
            rw [World.putObj_heap_other (by omega)]
            exact k3.2 i hi hc hf hh
        | ret =>
          obtain ⟨⟨k1, k2⟩, k3, k4⟩ := hp
          have hl3 := k2.trans hl2
          have hr := run_endRound (P := P) (some .ret) hl3
          rw [hrec] at hr
          have htn : Tn (S + 1) W' (W'.putObj (S + 1) (.loop (rec .done (some .ret)))) := Tn.put _ hl3 (Nat.le_refl _)
          refine ⟨_, _, hr, .inr ⟨rfl, ⟨?_, ?_, ?_⟩, ?_⟩⟩
          rotate_right
          · refine ⟨Nat.le_trans k3.1 (by simp [World.putObj]), fun i hi hc hf hh => ?_⟩
            rw [World.putObj_heap_other (by omega)]
            exact k3.2 i hi hc hf hh
          · have := hXg _ _ k4 htn
            rw [hrec] at this
            exact this
          · rw [World.putObj_heap_same (Array.getElem?_eq_some_iff.1 hl3).1]
            rw [hrec]
            rfl
          · rw [World.putObj_heap_other (by omega)]; exact k1.trans hd2
        | _ => exact hp.elim
      | _ => exact hE.elim
    · rintro e W2 ⟨⟨v, rfl⟩, (⟨hi, hl, hd⟩ | ⟨hi, hl, hd⟩)⟩
      · refine ⟨none, _, by have := run_endLoop (P := P) hl (by rw [hrec]; simp); rw [hrec] at this; exact this, hdone _ ?_ ?_⟩
        · exact hIg _ _ _ hi (Tn.put _ hl (Nat.le_refl _))
        · rw [World.putObj_heap_other (by omega)]; exact hd
      · refine ⟨some .ret, _, by have := run_endLoop (P := P) hl (by rw [hrec]; simp); rw [hrec] at this; exact this, wpIn_wide.2 (hstop _ ?_ ?_)⟩
        · exact hXg _ _ hi (Tn.put _ hl (Nat.le_refl _))
        · rw [World.putObj_heap_other (by omega)]; exact hd

/-- A function that ranges over a function, by its body. -/
theorem calls_marks {P : Program} {f : FuncId} {fn : Func} {c : Code} {args : Array Value} {w : World} {R : Ending → World → Prop} (hf : P.funcs[f]? = some fn) (hb : fn.body = some c)
    (h : c.wp P (bodyPostM Fence.wide 0 P fn R) { tmps := args ++ Array.replicate (fn.ntmps - args.size) undef, defers := [] } w) : Calls P f args w R :=
  callsIn_wide.1 (callsIn_of_wp_marks hf hb trivial (wpIn_wide.2 h))
end Go.Proofs.Ytignmnmhigncjaa.Table
