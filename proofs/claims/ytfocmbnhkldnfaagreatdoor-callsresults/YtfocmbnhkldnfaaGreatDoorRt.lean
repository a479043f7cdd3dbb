/-
  The document's ReadResult: what its steps tell of a form, on plain lists.
-/
import Derived.Test.YtfocmbnhkldnfaaGreatDoorPe
namespace Go.Proofs.YtfocmbnhkldnfaaGreatDoor

def NS (L : Bs) (k : Nat) (b : Bool) (n k' : Nat) (b' : Bool) : Prop := ∀ m M, b = true → m < 1073741824 → L.drop k = Wire.numForm m ++ M → n = m ∧ L.drop k' = M ∧ b' = true
def PS (L : Bs) (k : Nat) (b : Bool) (out : Bs) (k' : Nat) (b' : Bool) : Prop := ∀ p M, b = true → p.length ≤ 4096 → L.drop k = bytesForm p ++ M → out = p ∧ L.drop k' = M ∧ b' = true
def FS (L : Bs) (k : Nat) (b : Bool) (is : Bool) (k' : Nat) (b' : Bool) : Prop := ∀ p M, b = true → L.drop k = flagForm p ++ M → is = p ∧ L.drop k' = M ∧ b' = true

theorem res_none {r : PRes} (h : mayRes r = true) (h0 : r.abort = 0) : r.place = 0 ∧ 1 ≤ r.outs.length ∧ r.outs.length ≤ 16 ∧ r.outs.all mayOut = true := by
  simp only [mayRes, if_pos h0, Bool.and_eq_true, decide_eq_true_eq] at h
  exact ⟨h.1.1.1, h.1.1.2, h.1.2, h.2⟩
theorem res_why {r : PRes} (h : mayRes r = true) (h0 : ¬ r.abort = 0) : 1 ≤ r.abort ∧ r.abort ≤ 3 ∧ 0 ≤ r.place ∧ r.place < 16 ∧ r.outs = [] := by
  simp only [mayRes, if_neg h0, Bool.and_eq_true, decide_eq_true_eq] at h
  exact ⟨h.1.1.1.1, h.1.1.1.2, h.1.1.2, h.1.2, List.eq_nil_of_length_eq_zero h.2⟩

/-- The first number was read. -/
def T0 (L : Bs) (a k1 : Nat) (b1 : Bool) : Prop := ∀ r, mayRes r = true → L = resForm r → (a : Int) = r.abort ∧ b1 = true ∧ L.drop k1 = (if r.abort = 0 then listForm outForm r.outs else Wire.numForm r.place.toNat)
theorem t0_of {L : Bs} {a k1 : Nat} {b1 : Bool} (h : NS L 0 true a k1 b1) : T0 L a k1 b1 := by
  intro r hr e
  by_cases h0 : r.abort = 0
  · obtain ⟨h1, h2, h3⟩ := h 0 (listForm outForm r.outs) rfl (by omega) (by rw [List.drop_zero]; conv => lhs; rw [e]; unfold resForm; rw [if_pos h0])
    exact ⟨by rw [h0]; omega, h3, by rw [if_pos h0]; exact h2⟩
  · have hw := res_why hr h0
    obtain ⟨h1, h2, h3⟩ := h r.abort.toNat (Wire.numForm r.place.toNat) rfl (by omega) (by rw [List.drop_zero]; conv => lhs; rw [e]; unfold resForm; rw [if_neg h0])
    exact ⟨by omega, h3, by rw [if_neg h0]; exact h2⟩

/-- The whole result was read. -/
def TF (L : Bs) (ab pl : Int) (xs : List POut) (b : Bool) : Prop := ∀ r, mayRes r = true → L = resForm r → b = true ∧ r = ⟨ab, pl, xs⟩
theorem tf_why {L : Bs} {a k1 p k2 : Nat} {b1 b2 : Bool} (ha : ¬ a = 0) (h : T0 L a k1 b1) (h2 : NS L k1 b1 p k2 b2) : TF L a p [] b2 := by
  intro r hr e
  obtain ⟨q1, q2, q3⟩ := h r hr e
  have h0 : ¬ r.abort = 0 := by omega
  have hw := res_why hr h0
  rw [if_neg h0] at q3
  obtain ⟨s1, _, s3⟩ := h2 r.place.toNat [] q2 (by omega) (by rw [q3, List.append_nil])
  refine ⟨s3, ?_⟩
  obtain ⟨ab, pl, l⟩ := r
  simp only at q1 s1 hw
  simp only [PRes.mk.injEq]
  exact ⟨q1.symm, by omega, hw.2.2.2.2⟩

/-- How many outs there are. -/
def TN (L : Bs) (n : Nat) : Prop := ∀ r, mayRes r = true → L = resForm r → n = r.outs.length ∧ r.abort = 0
def T1 (L : Bs) (_n k : Nat) (xs : List POut) (k' : Nat) (b : Bool) : Prop := ∀ r, mayRes r = true → L = resForm r → k ≤ r.outs.length → b = true ∧ xs = r.outs.take k ∧ L.drop k' = (r.outs.drop k).flatMap outForm
theorem t1_start {L : Bs} {k1 n k2 : Nat} {b1 b2 : Bool} (h : T0 L 0 k1 b1) (h2 : NS L k1 b1 n k2 b2) : TN L n ∧ T1 L n 0 [] k2 b2 := by
  have key : ∀ r, mayRes r = true → L = resForm r → n = r.outs.length ∧ r.abort = 0 ∧ b2 = true ∧ L.drop k2 = r.outs.flatMap outForm := by
    intro r hr e
    obtain ⟨q1, q2, q3⟩ := h r hr e
    have h0 : r.abort = 0 := by omega
    have hn := res_none hr h0
    rw [if_pos h0] at q3
    obtain ⟨s1, s2, s3⟩ := h2 r.outs.length (r.outs.flatMap outForm) q2 (by omega) q3
    exact ⟨s1, h0, s3, s2⟩
  exact ⟨fun r hr e => ⟨(key r hr e).1, (key r hr e).2.1⟩, fun r hr e _ => ⟨(key r hr e).2.2.1, by simp, by rw [List.drop_zero]; exact (key r hr e).2.2.2⟩⟩
theorem tf_none {L : Bs} {n k k' : Nat} {b : Bool} {xs : List POut} (hn : TN L n) (h : T1 L n k xs k' b) (hk : k ≤ n) (hx : ¬ (k < n ∧ k ≤ 16 ∧ b = true)) : TF L 0 0 xs b := by
  intro r hr e
  obtain ⟨q1, q2⟩ := hn r hr e
  have hw := res_none hr q2
  obtain ⟨s1, s2, _⟩ := h r hr e (by omega)
  refine ⟨s1, ?_⟩
  have hkn : k = r.outs.length := by
    by_cases h1 : k < n ∧ k ≤ 16
    · exact absurd ⟨h1.1, h1.2, s1⟩ hx
    · omega
  rw [hkn, List.take_length] at s2
  obtain ⟨ab, pl, l⟩ := r
  simp only at q2 s2 hw
  simp only [PRes.mk.injEq]
  exact ⟨q2, hw.1, s2.symm⟩

/-- An out's rows. -/
def T2 (L : Bs) (k : Nat) (is : Bool) (vl : Bs) (m j : Nat) (rs : List PRow) (k' : Nat) (b : Bool) : Prop :=
  ∀ r, mayRes r = true → L = resForm r → ∀ (hi : k < r.outs.length), is = r.outs[k].has ∧ vl = r.outs[k].value ∧ m = r.outs[k].rows.length ∧ (j ≤ r.outs[k].rows.length → b = true ∧ rs = r.outs[k].rows.take j ∧ L.drop k' = (r.outs[k].rows.drop j).flatMap rowForm ++ (r.outs.drop (k + 1)).flatMap outForm)
theorem out_may {r : PRes} (h : mayRes r = true) {k : Nat} (hk : k < r.outs.length) : mayOut r.outs[k] = true ∧ r.outs[k].value.length ≤ 256 ∧ r.outs[k].rows.length ≤ 64 ∧ r.outs[k].rows.all mayRow = true := by
  have h0 : r.abort = 0 := by
    by_cases h0 : r.abort = 0
    · exact h0
    · have := (res_why h h0).2.2.2.2
      rw [this] at hk
      simp at hk
  have hm := List.all_eq_true.1 (res_none h h0).2.2.2 _ (List.getElem_mem hk)
  have hm2 := hm
  simp only [mayOut, Bool.and_eq_true, decide_eq_true_eq] at hm2
  exact ⟨hm, by simpa [Names.valueB] using hm2.1.1.1, hm2.1.1.2, hm2.2⟩
theorem t2_start {L : Bs} {n k k' k2 k3 k4 m : Nat} {xs : List POut} {b2 b3 b4 is : Bool} {vl : Bs} (h : T1 L n k xs k' true) (h1 : FS L k' true is k2 b2) (h2 : PS L k2 b2 vl k3 b3) (h3 : NS L k3 b3 m k4 b4) : T2 L k is vl m 0 [] k4 b4 := by
  intro r hr e hi
  obtain ⟨_, _, q⟩ := h r hr e (by omega)
  have hm := out_may hr hi
  rw [List.drop_eq_getElem_cons hi, List.flatMap_cons] at q
  unfold outForm listForm at q
  simp only [List.append_assoc] at q
  obtain ⟨s1, s2, s3⟩ := h1 _ _ rfl q
  obtain ⟨u1, u2, u3⟩ := h2 _ _ s3 (by omega) s2
  obtain ⟨v1, v2, v3⟩ := h3 _ _ u3 (by omega) u2
  exact ⟨s1, u1, v1, fun _ => ⟨v3, by simp, by rw [List.drop_zero]; exact v2⟩⟩
theorem t2_next {L : Bs} {k k' k2 k3 m j : Nat} {b2 b3 is : Bool} {vl ky va : Bs} {rs : List PRow} (h : T2 L k is vl m j rs k' true) (h1 : PS L k' true ky k2 b2) (h2 : PS L k2 b2 va k3 b3) : T2 L k is vl m (j + 1) (rs ++ [(ky, va)]) k3 b3 := by
  intro r hr e hi
  obtain ⟨q1, q2, q3, q4⟩ := h r hr e hi
  have hm := out_may hr hi
  refine ⟨q1, q2, q3, fun hj => ?_⟩
  obtain ⟨_, s2, s3⟩ := q4 (by omega)
  have hjl : j < r.outs[k].rows.length := by omega
  have hrow := List.all_eq_true.1 hm.2.2.2 _ (List.getElem_mem hjl)
  simp only [mayRow, Bool.and_eq_true] at hrow
  have hk1 := key_len hrow.1
  have hv1 : r.outs[k].rows[j].2.length ≤ 256 := by simpa [Names.valueB] using hrow.2
  rw [List.drop_eq_getElem_cons hjl, List.flatMap_cons] at s3
  unfold rowForm at s3
  simp only [List.append_assoc] at s3
  obtain ⟨u1, u2, u3⟩ := h1 _ _ rfl (by omega) s3
  obtain ⟨v1, v2, v3⟩ := h2 _ _ u3 (by omega) u2
  refine ⟨v3, ?_, v2⟩
  rw [s2, u1, v1, List.take_succ_eq_append_getElem hjl]
theorem t1_next {L : Bs} {n k k' k4 m j : Nat} {xs : List POut} {b4 is : Bool} {vl : Bs} {rs : List PRow} (h : T1 L n k xs k' true) (h2 : T2 L k is vl m j rs k4 b4) (hj : j ≤ m) (hx : ¬ (j < m ∧ j ≤ 64 ∧ b4 = true)) : T1 L n (k + 1) (xs ++ [⟨is, vl, rs⟩]) k4 b4 := by
  intro r hr e hk
  have hi : k < r.outs.length := by omega
  obtain ⟨_, s2, _⟩ := h r hr e (by omega)
  have hm := out_may hr hi
  obtain ⟨q1, q2, q3, q4⟩ := h2 r hr e hi
  obtain ⟨u1, u2, u3⟩ := q4 (by omega)
  have hjm : j = r.outs[k].rows.length := by
    by_cases h1 : j < m ∧ j ≤ 64
    · exact absurd ⟨h1.1, h1.2, u1⟩ hx
    · omega
  rw [hjm, List.take_length] at u2
  rw [hjm, List.drop_length] at u3
  refine ⟨u1, ?_, by simpa using u3⟩
  rw [s2, List.take_succ_eq_append_getElem hi, q1, q2, u2]
theorem readR_of {L : Bs} {ab pl : Int} {xs : List POut} {b : Bool} (h : TF L ab pl xs b) : readR L = if b = true ∧ mayRes ⟨ab, pl, xs⟩ = true ∧ resForm ⟨ab, pl, xs⟩ = L then (⟨ab, pl, xs⟩, 0) else (⟨0, 0, []⟩, 4) := by
  split
  · rename_i hc
    unfold readR
    rw [pRes_iff.2 ⟨hc.2.1, hc.2.2.symm⟩]
  · rename_i hc
    unfold readR
    cases hp : pRes L with
    | none => rfl
    | some r =>
      exfalso
      obtain ⟨q1, q2⟩ := pRes_iff.1 hp
      obtain ⟨s1, s2⟩ := h r q1 q2
      exact hc ⟨s1, by rw [← s2]; exact q1, by rw [← s2]; exact q2.symm⟩
end Go.Proofs.YtfocmbnhkldnfaaGreatDoor
