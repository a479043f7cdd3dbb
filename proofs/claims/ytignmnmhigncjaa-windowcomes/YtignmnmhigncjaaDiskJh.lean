/-
  A region that draws its order and whose operations, but for number z, which waits for the others, all keep a fact on memory: an operation whose value stays the same as long as the fact holds may be taken first. Own theorem, for the walks of this seat.
-/
import Derived.Deep.RegionHeld3
import Derived.Deep.DrawnRows
import Derived.WalkKit
namespace Go.Proofs.Ytignmnmhigncjaa.Disk
open Go.RowKit

section
variable {P : Program} {ops : Array Oper} {Q : Exit → Act → World → Prop} {md : Region.Mode} {H : World → Prop} {z : Nat}

/-- Whatever order is picked from here on, and each operation but number z keeps the fact H. -/
def wpHold (P : Program) (z : Nat) (H : World → Prop) (md : Region.Mode) (ops : Array Oper) (Q : Exit → Act → World → Prop) : Nat → Array Bool → Act → World → Prop
  | 0, listed, a, w => Region.ready md ops listed = [] ∧ Q .normal a w
  | n + 1, listed, a, w => (Region.ready md ops listed = [] → Q .normal a w) ∧
      ∀ i ∈ Region.ready md ops listed, wpOp P ops Q i (fun a' w' => (i ≠ z → H w') ∧ wpHold P z H md ops Q n (listed.setIfInBounds i true) a' w') a w

theorem wpAny_of_hold : ∀ (n : Nat) (listed : Array Bool) (a : Act) (w : World), wpHold P z H md ops Q n listed a w → wpAny P md ops Q n listed a w
  | 0, _, _, _, h => h
  | n + 1, _, _, _, h => ⟨h.1, fun i hi => wpOp_mono (fun a' w' h' => wpAny_of_hold n _ a' w' h'.2) (h.2 i hi)⟩

/-- Number z waits for number i, by way of others. -/
def waitsV (md : Region.Mode) (ops : Array Oper) : Nat → Nat → Nat → Bool
  | 0, _, _ => false
  | n + 1, z, i => match ops[z]? with
    | some o => o.after.any fun e => Region.binds md e && (e.on == i || waitsV md ops n e.on i)
    | none => false
def waitsH (md : Region.Mode) (ops : Array Oper) (z i : Nat) : Bool := match ops[z]? with
  | some _ => waitsV md ops ops.size z i
  | none => true

/-- What was carried out had what it waits for. -/
def Shutdown (md : Region.Mode) (ops : Array Oper) (listed : Array Bool) : Prop := ∀ (j : Nat) (o : Oper), ops[j]? = some o → listed.getD j false = true → ∀ e ∈ o.after, Region.binds md e = true → listed.getD e.on false = true
def shutB (md : Region.Mode) (ops : Array Oper) (listed : Array Bool) : Bool := (List.range ops.size).all fun j => !listed.getD j false || ((ops[j]?).map (·.after.all fun e => !Region.binds md e || listed.getD e.on false)).getD true

theorem shutB_spec {listed : Array Bool} (h : shutB md ops listed = true) : Shutdown md ops listed := by
  intro j o hj hl e he hb
  have hjs : j < ops.size := (Array.getElem?_eq_some_iff.1 hj).1
  have h1 := List.all_eq_true.1 h j (List.mem_range.2 hjs)
  rw [hl, hj] at h1
  simp only [Bool.not_true, Bool.false_or, Option.map_some, Option.getD_some] at h1
  have h2 := Array.all_eq_true'.1 h1 e he
  rw [hb] at h2
  simpa using h2

theorem getD_ready {listed : Array Bool} {i : Nat} (h : i ∈ Region.ready md ops listed) : listed.getD i false = false := by
  have h0 := (mem_ready.1 h).1
  rcases Nat.lt_or_ge i listed.size with h' | h'
  · simp [h'] at h0 ⊢; exact h0
  · simp [Array.getElem?_eq_none h']

theorem Shutdown.set {listed : Array Bool} {j : Nat} (h : Shutdown md ops listed) (hj : j ∈ Region.ready md ops listed) : Shutdown md ops (listed.setIfInBounds j true) := by
  intro k o hk hl e he hb
  have q : listed.getD e.on false = true → (listed.setIfInBounds j true).getD e.on false = true := fun hx => by
    by_cases hje : j = e.on
    · subst hje
      rw [getD_ready hj] at hx; cases hx
    · rw [getD_set_ne false hje]; exact hx
  by_cases hkj : j = k
  · subst hkj
    obtain ⟨_, oj, hoj, hall⟩ := mem_ready.1 hj
    rw [hoj] at hk
    cases hk
    exact q (hall e he hb)
  · rw [getD_set_ne false hkj] at hl
    exact q (h k o hk hl e he hb)

theorem waitsV_listed {listed : Array Bool} (hs : Shutdown md ops listed) (i : Nat) : ∀ (n z : Nat), waitsV md ops n z i = true → (∀ o, ops[z]? = some o → ∀ e ∈ o.after, Region.binds md e = true → listed.getD e.on false = true) → listed.getD i false = true
  | 0, _, h, _ => by cases h
  | n + 1, z, h, hz => by
    unfold waitsV at h
    cases ho : ops[z]? with
    | none => rw [ho] at h; cases h
    | some o =>
      rw [ho] at h
      obtain ⟨e, he, h1⟩ := Array.any_eq_true'.1 h
      simp only [Bool.and_eq_true, Bool.or_eq_true, beq_iff_eq] at h1
      have hl := hz o ho e he h1.1
      rcases h1.2 with h2 | h2
      · rw [← h2]; exact hl
      · exact waitsV_listed hs i n e.on h2 (fun o' ho' e' he' hb' => hs e.on o' ho' hl e' he' hb')

theorem waitsH_not {i j : Nat} {listed : Array Bool} (hs : Shutdown md ops listed) (hw : waitsH md ops z i = true) (hi : i ∈ Region.ready md ops listed) (hj : j ∈ Region.ready md ops listed) : j ≠ z := by
  rintro rfl
  obtain ⟨_, oj, hoj, hall⟩ := mem_ready.1 hj
  unfold waitsH at hw
  rw [hoj] at hw
  have h1 := waitsV_listed hs i _ j hw (fun o ho e he hb => by rw [hoj] at ho; cases ho; exact hall e he hb)
  rw [getD_ready hi] at h1
  cases h1

/-- What stays the same as long as H holds may be taken first. -/
theorem wpHold_first {i : Nat} {oi : Oper} {v : Value} (hi : ops[i]? = some oi) (hsel : ∀ (j : Nat) (o : Oper) cs b, ops[j]? = some o → o.op ≠ .select cs b)
    (hz : waitsH md ops z i = true)
    (hQ : ∀ c a w, Q (.panic c) (a.put oi.dst v) w → Q (.panic c) a w) :
    ∀ (n : Nat) (listed : Array Bool) (a : Act) (w : World), Shutdown md ops listed → H w →
      (∀ j oj, ops[j]? = some oj → j ≠ i → listed.getD j true = false → (∀ e ∈ oj.after, Region.binds md e = true → e.on ≠ i) → oi.apart ops oj = true) →
      i ∈ Region.ready md ops listed → YieldsIf P ops H oi v a →
      wpHold P z H md ops Q n (listed.setIfInBounds i true) (a.put oi.dst v) w → wpHold P z H md ops Q (n + 1) listed a w := by
  intro n
  induction n with
  | zero =>
    intro listed a w _ hH _ hr hy W
    refine ⟨fun h => (by rw [h] at hr; cases hr), fun j hj => ?_⟩
    by_cases hji : j = i
    · subst hji; exact hy.wpOp hi hH ⟨fun _ => hH, W⟩
    · have h0 := ready_mono hj hji
      rw [W.1] at h0
      cases h0
  | succ n ih =>
    intro listed a w hsd hH hfree hr hy W
    refine ⟨fun h => (by rw [h] at hr; cases hr), fun j hj => ?_⟩
    by_cases hji : j = i
    · subst hji; exact hy.wpOp hi hH ⟨fun _ => hH, W⟩
    · have h1 := W.2 j (ready_mono hj hji)
      obtain ⟨hjun, oj, hoj, hall⟩ := mem_ready.1 hj
      have hnot : ∀ e ∈ oj.after, Region.binds md e = true → e.on ≠ i := fun e he hb heq => by
        have h2 := hall e he hb
        have h0 := (mem_ready.1 hr).1
        rw [heq] at h2
        rcases Nat.lt_or_ge i listed.size with h' | h'
        · simp [h'] at h0 h2; rw [h0] at h2; cases h2
        · simp [Array.getElem?_eq_none h'] at h2
      have h2 := wpOp_putIf hoj (hfree j oj hoj hji hjun hnot) (fun cs b => hsel i oi cs b hi) (fun cs b => hsel j oj cs b hoj) hQ hy h1
      have hfree' : ∀ k ok, ops[k]? = some ok → k ≠ i → (listed.setIfInBounds j true).getD k true = false →
          (∀ e ∈ ok.after, Region.binds md e = true → e.on ≠ i) → oi.apart ops ok = true := fun k ok hk hki hun hno => by
        refine hfree k ok hk hki ?_ hno
        by_cases hjk : j = k
        · subst hjk; exact hjun
        · rw [getD_set_ne true hjk] at hun; exact hun
      have hjz : j ≠ z := waitsH_not hsd hz hr hj
      refine wpOp_mono (fun a' w' h3 => ⟨h3.2.1, ih (listed.setIfInBounds j true) a' w' (hsd.set hj) (h3.2.1 hjz) hfree' (ready_mono hr (Ne.symm hji)) h3.1 ?_⟩) h2
      rw [Array.setIfInBounds_comm _ _ hji]
      exact h3.2.2

theorem get_of_dropH {i : Nat} {oi : Oper} {l : List Oper} (h : ops.toList.drop i = oi :: l) : ops[i]? = some oi := by
  have h1 : (ops.toList.drop i)[0]? = some oi := by rw [h]; rfl
  rw [List.getElem?_drop] at h1
  simpa using h1

/-- Number i is taken first. -/
theorem wpHold_take {i : Nat} {oi : Oper} {l : List Oper} {d : Option Tmp} {v : Value} {n : Nat} {listed : Array Bool} {a : Act} {w : World} (hH : H w) (hi : ops.toList.drop i = oi :: l) (hd : oi.dst = d)
    (hs : Region.noSelect ops = true) (hz : waitsH md ops z i = true) (hsd : shutB md ops listed = true) (hf : Region.free md ops listed i = true) (hr : (Region.ready md ops listed).contains i = true)
    (hQ : ∀ c a w, Q (.panic c) (a.put d v) w → Q (.panic c) a w) (hw : Region.wanted oi (yielded ops a.tmps) = true) (hy : ∀ x : World, H x → (execOp a.eval oi).run P x = .ok (.value v) x)
    (h : wpHold P z H md ops Q n (listed.setIfInBounds i true) (a.put d v) w) : wpHold P z H md ops Q (n + 1) listed a w := by
  subst hd
  exact wpHold_first (get_of_dropH hi) (Region.noSelect_spec hs) hz hQ n listed a w (shutB_spec hsd) hH (Region.free_spec (get_of_dropH hi) hf) (by simpa using hr) (.inl ⟨hw, hy⟩) h

/-- Numbers of operations that are taken one behind the other. -/
def Idx (_ : List Nat) : Prop := True
theorem Idx.tl {i : Nat} {l : List Nat} (_ : Idx (i :: l)) : Idx l := trivial
/-- The next one of the list is taken first; what is asked of the kernel by default. -/
theorem tk {i : Nat} {l' : List Nat} (_ : Idx (i :: l')) {oi : Oper} {l : List Oper} {d : Option Tmp} {v : Value} {n : Nat} {listed : Array Bool} {a : Act} {w : World} (hH : H w) (hi : ops.toList.drop i = oi :: l) (hd : oi.dst = d)
    (hy : ∀ x : World, H x → (execOp a.eval oi).run P x = .ok (.value v) x)
    (h : wpHold P z H md ops Q n (listed.setIfInBounds i true) (a.put d v) w)
    (hs : Region.noSelect ops = true := by kernel_rfl) (hz : waitsH md ops z i = true := by kernel_rfl) (hsd : shutB md ops listed = true := by kernel_rfl) (hf : Region.free md ops listed i = true := by kernel_rfl) (hr : (Region.ready md ops listed).contains i = true := by kernel_rfl)
    (hQ : ∀ c a w, Q (.panic c) (a.put d v) w → Q (.panic c) a w := by exact fun _ _ _ h => h) (hw : Region.wanted oi (yielded ops a.tmps) = true := by rfl) : wpHold P z H md ops Q (n + 1) listed a w := wpHold_take hH hi hd hs hz hsd hf hr hQ hw hy h
/-- The next one of the list is not wanted. -/
theorem sk {i : Nat} {l' : List Nat} (_ : Idx (i :: l')) {oi : Oper} {l : List Oper} {d : Option Tmp} {n : Nat} {listed : Array Bool} {a : Act} {w : World} (hH : H w) (hi : ops.toList.drop i = oi :: l) (hd : oi.dst = d)
    (h : wpHold P z H md ops Q n (listed.setIfInBounds i true) (a.put d undef) w)
    (hs : Region.noSelect ops = true := by kernel_rfl) (hz : waitsH md ops z i = true := by kernel_rfl) (hsd : shutB md ops listed = true := by kernel_rfl) (hf : Region.free md ops listed i = true := by kernel_rfl) (hr : (Region.ready md ops listed).contains i = true := by kernel_rfl)
    (hQ : ∀ c a w, Q (.panic c) (a.put d undef) w → Q (.panic c) a w := by exact fun _ _ _ h => h) (hw : Region.wanted oi (yielded ops a.tmps) = false := by rfl) : wpHold P z H md ops Q (n + 1) listed a w := by
  subst hd
  exact wpHold_first (v := undef) (get_of_dropH hi) (Region.noSelect_spec hs) hz hQ n listed a w (shutB_spec hsd) hH (Region.free_spec (get_of_dropH hi) hf) (by simpa using hr) (.inr ⟨hw, rfl⟩) h

/-- One alone may come up. -/
theorem wpHold_one {i : Nat} {oi : Oper} {l : List Oper} {n : Nat} {listed : Array Bool} {a : Act} {w : World} (hi : ops.toList.drop i = oi :: l) (hr : Region.ready md ops listed = [i]) (hw : Region.wanted oi (yielded ops a.tmps) = true)
    (h : ∀ K : Act → World → Prop, Shut (∀ a' w', (i ≠ z → H w') → wpHold P z H md ops Q n (listed.setIfInBounds i true) a' w' → K a' w') → Oper.wp P oi a w K Q) : wpHold P z H md ops Q (n + 1) listed a w := by
  refine ⟨fun h0 => (by rw [hr] at h0; cases h0), fun j hj => ?_⟩
  rw [hr] at hj
  have e : j = i := by simpa using hj
  subst e
  refine wpOp_step (get_of_dropH hi) fun K hK => ?_
  rw [if_pos hw]
  exact h K fun a' w' h1 h2 => hK a' w' ⟨h1, h2⟩

theorem wpHold_done {n : Nat} {listed : Array Bool} {a : Act} {w : World} (hr : Region.ready md ops listed = []) (h : Q .normal a w) : wpHold P z H md ops Q n listed a w := by
  cases n with
  | zero => exact ⟨hr, h⟩
  | succ n => exact ⟨fun _ => h, by rw [hr]; simp⟩

theorem wp_region_hold (z : Nat) (H : World → Prop) {id : Nat} {a : Act} {w : World} (hm : P.follows .mixedOrders = true) (h : wpHold P z H .any ops Q ops.size (Array.replicate ops.size false) a w.drew) : (Code.region id ops true).wp P Q a w :=
  wp_region_any hm (wpAny_of_hold _ _ _ _ h)
end
end Go.Proofs.Ytignmnmhigncjaa.Disk
