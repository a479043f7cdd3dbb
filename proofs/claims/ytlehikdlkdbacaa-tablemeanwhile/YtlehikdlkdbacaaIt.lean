/-
  The library's functions that go over a list of pointers, up and down.
-/
import Derived.Test.YtlehikdlkdbacaaU
import Derived.Test.YtlehikdlkdbacaaRG
namespace Go.Proofs.Ytlehikdlkdbacaa
open Go.RowKit Disk

/-- A list of pointers, in blocks of F. -/
def PIn (w : World) (F : Nat → Prop) (v : Value) (ps : List Nat) : Prop := ∃ ao cap, v = .slice ao ps.length cap ∧ ps.length ≤ cap ∧ cap ≤ maxLen ∧ ∀ j (hj : j < ps.length), ∃ b off, ao = some ⟨b, off, none⟩ ∧ w.cell? ⟨b, off + j, none⟩ = some (ptr ps[j]) ∧ F b
theorem cell_lt {w : World} {b off : Nat} {v : Value} (h : w.cell? ⟨b, off, none⟩ = some v) : b < w.heap.size := by
  unfold World.cell? at h
  cases hb : w.heap[b]? with
  | none => simp [hb] at h
  | some o => exact (Array.getElem?_eq_some_iff.1 hb).1
theorem cell_same {w w' : World} {b j : Nat} (h : w'.heap[b]? = w.heap[b]?) : w'.cell? ⟨b, j, none⟩ = w.cell? ⟨b, j, none⟩ := by
  unfold World.cell?
  simp only [h]
theorem PIn.same {w w' : World} {F : Nat → Prop} {v : Value} {ps : List Nat} (h : PIn w F v ps) (hs : ∀ k, F k → k < w.heap.size → w'.heap[k]? = w.heap[k]?) : PIn w' F v ps := by
  obtain ⟨ao, cap, h1, h2, h3, h4⟩ := h
  refine ⟨ao, cap, h1, h2, h3, fun j hj => ?_⟩
  obtain ⟨b, off, e, hc, hF⟩ := h4 j hj
  exact ⟨b, off, e, by rw [cell_same (hs b hF (cell_lt hc))]; exact hc, hF⟩
theorem PIn.grown {w w' : World} {F : Nat → Prop} {v : Value} {ps : List Nat} (h : PIn w F v ps) (hg : w.grownBy w' none) : PIn w' F v ps := h.same fun k _ hk => hg.block k hk (by simp)
theorem PIn.weak {w : World} {F G : Nat → Prop} {v : Value} {ps : List Nat} (h : PIn w F v ps) (hs : ∀ k, F k → k < w.heap.size → G k) : PIn w G v ps := by
  obtain ⟨ao, cap, h1, h2, h3, h4⟩ := h
  refine ⟨ao, cap, h1, h2, h3, fun j hj => ?_⟩
  obtain ⟨b, off, e, hc, hF⟩ := h4 j hj
  exact ⟨b, off, e, hc, hs b hF (cell_lt hc)⟩
theorem pin_open {w : World} {F : Nat → Prop} {v : Value} {ps : List Nat} (h : PIn w F v ps) : ∃ ao n cap, v = .slice ao n cap ∧ ps.length = n ∧ n ≤ cap ∧ cap ≤ 9223372036854775807 ∧ Hid (PIn w F (.slice ao n cap) ps) := by
  have h' := h
  obtain ⟨ao, cap, rfl, h2, h3, _⟩ := h'
  unfold maxLen at h3
  exact ⟨ao, _, cap, rfl, rfl, h2, by omega, h⟩
theorem pin_at {w : World} {F : Nat → Prop} {ao : Option Addr} {n cap : Nat} {ps : List Nat} (h : PIn w F (.slice ao n cap) ps) (j : Nat) (hj : j < ps.length) : ∃ b off, ao = some ⟨b, off, none⟩ ∧ w.cell? ⟨b, off + j, none⟩ = some (.pointer (some ⟨ps[j], 0, none⟩)) := by
  obtain ⟨ao', cap', e, _, _, h4⟩ := h
  simp at e
  obtain ⟨rfl, rfl, rfl⟩ := e
  obtain ⟨b, off, e, hc, _⟩ := h4 j hj
  exact ⟨b, off, e, hc⟩

/-- What is handed over going up, and going down. -/
def Xu (ps : List Nat) (k : Nat) (W0 W1 : World) (xs : Array Value) : Prop := W1 = W0 ∧ ∃ h : k < ps.length, xs = #[.int .i64 (k : Int), .pointer (some ⟨ps[k], 0, none⟩)]
def Xd (ps : List Nat) (k : Nat) (W0 W1 : World) (xs : Array Value) : Prop := W1 = W0 ∧ ∃ h : k < ps.length, xs = #[.int .i64 ((ps.length - 1 - k : Nat) : Int), .pointer (some ⟨ps[ps.length - 1 - k]'(by omega), 0, none⟩)]
theorem not_handed (i p q : Nat) (x : Int) : ¬ Handed #[.int .i64 x, .pointer (some ⟨p, q, none⟩)] i := by
  rintro ⟨v, hv, hb⟩
  simp at hv
  rcases hv with rfl | rfl <;> simp [Value.ownBlock] at hb

set_option maxRecDepth 100000 in
set_option maxHeartbeats 4000000 in
theorem all68 (Fw : Nat → Prop) (Bx : Nat) (v : Value) (ps : List Nat) (w : World) (hb : Blk w Bx 66 #[v]) (hv : PIn w (fun k => ¬ Fw k) v ps) (hz : ps.length ≤ 1000000) :
    Gives Try.prog 68 #[.pointer (some ⟨Bx, 0, none⟩)] ps.length (Xu ps) Fw w := by
  intro l J Jx W hgW hJg hXg hY h0
  obtain ⟨ao, n, cap, rfl, hn, hc1, hc2, HV⟩ := pin_open hv
  have HN : Hid (ps.length = n) := hn
  have hn6 : n ≤ 1000000 := by omega
  have HW : Hid (w.heap.size ≤ W.heap.size) := hgW.size
  have HV0 : Hid (PIn w (fun k => ¬ Fw k) (.slice ao n cap) ps) := HV.out
  have HV1 : Hid (PIn W (fun k => k < w.heap.size ∧ ¬ Fw k) (.slice ao n cap) ps) := (HV.out.weak (G := fun k => k < w.heap.size ∧ ¬ Fw k) fun k h1 h2 => ⟨h2, h1⟩).grown hgW
  have c0 := (hb.grown hgW (by simp)).cell 0
  simp at c0
  have HY : Hid _ := hY
  have HJ : Hid (J 0 W) := h0
  clear hb hv hn hz hgW hY h0 hJg hXg HV
  show Calls Try.prog 68 #[.func (.yield l) #[] #[], .pointer (some ⟨Bx, 0, none⟩)] W _
  go_enter Try.func68, Try.ntmps68
  go_wp2_with fail
  go_loopw [7] (fun p wr => ∃ (k : Nat), k ≤ n ∧ p = .int .i64 (k : Int) ∧ J k wr ∧ W.heap.size ≤ wr.heap.size ∧ PIn wr (fun k => k < w.heap.size ∧ ¬ Fw k) (.slice ao n cap) ps) (fun p _ => n - (intOf p).toNat)
  case atStart => exact ⟨0, Nat.zero_le _, rfl, HJ.out, Nat.le_refl _, HV1.out⟩
  case round =>
    obtain ⟨k, hk, rfl, hJ, hsz, hp⟩ := hrel
    have HF : Hid (J k wr ∧ W.heap.size ≤ wr.heap.size ∧ PIn wr (fun k => k < w.heap.size ∧ ¬ Fw k) (.slice ao n cap) ps) := ⟨hJ, hsz, hp⟩
    clear hJ hsz hp
    rcases Nat.lt_or_ge k n with hlt | hge
    · have hkl : k < ps.length := by rw [HN.out]; exact hlt
      obtain ⟨b, off, rfl, hc⟩ := pin_at HF.out.2.2 k hkl
      have i0 : (0 : Int) ≤ (k : Int) := by omega
      have i1 : (k : Int) < (n : Int) := by omega
      obtain ⟨p, hp⟩ : ∃ p, ps[k] = p := ⟨_, rfl⟩
      rw [hp] at hc
      have HX : Hid (Xu ps k wr wr #[.int .i64 (k : Int), .pointer (some ⟨p, 0, none⟩)]) := ⟨rfl, hkl, by rw [hp]⟩
      have HKN : Hid (k < ps.length) := hkl
      clear hp hkl
      go_upto_region 3 with fail
      refine (wpIn_wide (n := 0)).1 (wpIn_region_lit ?_)
      refine wpListIn_plain rfl fun K1 hK1 => oper_wide 0 ?_
      have HK1 : Hid _ := hK1
      clear hK1
      go_wp2_with fail
      refine HK1.out _ _ ?_
      clear HK1 K1
      refine wpListIn_plain rfl fun K1 hK1 => oper_wide 0 ?_
      have HK1 : Hid _ := hK1
      clear hK1
      go_wp2_with fail
      refine HK1.out _ _ ?_
      clear HK1 K1
      refine wpListIn_plain rfl fun K1 hK1 => oper_wide 0 ?_
      have HK1 : Hid _ := hK1
      clear hK1
      go_wp2_with fail
      refine HK1.out _ _ ?_
      clear HK1 K1
      refine wpListIn_plain rfl fun K1 hK1 => yield_wide (HY.out k wr wr _ HKN.out HF.out.1 HF.out.2.1 (Tn.refl _ _) HX.out) rfl rfl rfl rfl ?_
      rintro e W' (⟨rfl, hJ', hkept⟩ | ⟨rfl, hx, _⟩)
      · refine ⟨_, rfl, hK1 _ _ ?_⟩
        clear hK1 K1
        simp only [Act.put, List.setIfInBounds_toArray, List.set_cons_zero, List.set_cons_succ]
        refine wpListIn_plain rfl fun K1 hK1 => oper_wide 0 ?_
        have HK1 : Hid _ := hK1
        clear hK1
        go_wp2_with fail
        refine HK1.out _ _ ?_
        clear HK1 K1
        refine wpListIn_nil ?_
        refine (‹∀ (a : Act) (w : World), Code.wp Try.prog _ _ a w → _› _ _ ?_)
        have HK : Hid (J (k + 1) W' ∧ W.heap.size ≤ W'.heap.size ∧ PIn W' (fun k => k < w.heap.size ∧ ¬ Fw k) (.slice (some ⟨b, off, none⟩) n cap) ps) :=
          ⟨hJ', Nat.le_trans HF.out.2.1 hkept.1, HF.out.2.2.same fun i hi hlt => hkept.2 i hlt (.inl hi.1) hi.2 (not_handed _ _ _ _)⟩
        clear hJ' hkept
        go_wp2_with fail
        go_roundw
        case rel => exact ⟨k + 1, by omega, by go_num, HK.out.1, HK.out.2.1, HK.out.2.2⟩
        case measure => simp [intOf]; omega
      · refine ⟨_, rfl, hK1 _ _ ?_⟩
        clear hK1 K1
        simp only [Act.put, List.setIfInBounds_toArray, List.set_cons_zero, List.set_cons_succ]
        refine wpListIn_plain rfl fun K1 hK1 => oper_wide 0 ?_
        have HK1 : Hid _ := hK1
        clear hK1
        go_wp2_with fail
        refine HK1.out _ _ ?_
        clear HK1 K1
        refine wpListIn_nil ?_
        refine (‹∀ (a : Act) (w : World), Code.wp Try.prog _ _ a w → _› _ _ ?_)
        have HXX : Hid (Jx W') := hx
        clear hx
        go_wp2_with fail
        exact ⟨rfl, _, results_none rfl _ _ _, ⟨_, rfl⟩, .inr HXX.out⟩
    · have e : k = n := by omega
      subst e
      go_wp2_with fail
      refine ⟨rfl, _, results_none rfl _ _ _, ⟨_, rfl⟩, .inl ?_⟩
      rw [HN.out]
      exact HF.out.1

set_option maxRecDepth 100000 in
set_option maxHeartbeats 4000000 in
theorem back69 (Fw : Nat → Prop) (Bx : Nat) (v : Value) (ps : List Nat) (w : World) (hb : Blk w Bx 66 #[v]) (hFx : ¬ Fw Bx) (hv : PIn w (fun k => ¬ Fw k) v ps) (hz : ps.length ≤ 1000000) :
    Gives Try.prog 69 #[.pointer (some ⟨Bx, 0, none⟩)] ps.length (Xd ps) Fw w := by
  intro l J Jx W hgW hJg hXg hY h0
  obtain ⟨ao, n, cap, rfl, hn, hc1, hc2, HV⟩ := pin_open hv
  have HN : Hid (ps.length = n) := hn
  have hn6 : n ≤ 1000000 := by omega
  have HW : Hid (w.heap.size ≤ W.heap.size ∧ Bx < w.heap.size ∧ ¬ Fw Bx) := ⟨hgW.size, hb.lt, hFx⟩
  have HV1 : Hid (PIn W (fun k => k < w.heap.size ∧ ¬ Fw k) (.slice ao n cap) ps ∧ Blk W Bx 66 #[.slice ao n cap]) := ⟨(HV.out.weak (G := fun k => k < w.heap.size ∧ ¬ Fw k) fun k h1 h2 => ⟨h2, h1⟩).grown hgW, hb.grown hgW (by simp)⟩
  have c0 := HV1.out.2.cell 0
  simp at c0
  have HY : Hid _ := hY
  have HJ : Hid (J 0 W) := h0
  have hw1 : IntKind.i64.wrap ((n : Int) - 1) = (n : Int) - 1 := by rw [IntKind.wrap_i64]; omega
  clear hb hv hn hz hgW hY h0 hJg hXg HV hFx
  show Calls Try.prog 69 #[.func (.yield l) #[] #[], .pointer (some ⟨Bx, 0, none⟩)] W _
  go_enter Try.func69, Try.ntmps69
  go_wp2_with fail
  go_loopw [3] (fun p wr => ∃ (k : Nat), k ≤ n ∧ p = .int .i64 ((n : Int) - 1 - (k : Int)) ∧ J k wr ∧ W.heap.size ≤ wr.heap.size ∧ PIn wr (fun k => k < w.heap.size ∧ ¬ Fw k) (.slice ao n cap) ps ∧ Blk wr Bx 66 #[.slice ao n cap]) (fun p _ => (intOf p + 1).toNat)
  case atStart => exact ⟨0, Nat.zero_le _, by simp, HJ.out, Nat.le_refl _, HV1.out.1, HV1.out.2⟩
  case round =>
    obtain ⟨k, hk, rfl, hJ, hsz, hp, hbx⟩ := hrel
    have HF : Hid (J k wr ∧ W.heap.size ≤ wr.heap.size ∧ PIn wr (fun k => k < w.heap.size ∧ ¬ Fw k) (.slice ao n cap) ps ∧ Blk wr Bx 66 #[.slice ao n cap]) := ⟨hJ, hsz, hp, hbx⟩
    clear hJ hsz hp hbx
    rcases Nat.lt_or_ge k n with hlt | hge
    · obtain ⟨j, hj⟩ : ∃ j, n - 1 - k = j := ⟨_, rfl⟩
      have hij : (n : Int) - 1 - (k : Int) = (j : Int) := by omega
      have hjl : j < ps.length := by rw [HN.out]; omega
      obtain ⟨b, off, rfl, hc⟩ := pin_at HF.out.2.2.1 j hjl
      have i0 : (0 : Int) ≤ (j : Int) := by omega
      have i1 : (j : Int) < (n : Int) := by omega
      obtain ⟨p, hp⟩ : ∃ p, ps[j] = p := ⟨_, rfl⟩
      rw [hp] at hc
      have HX : Hid (Xd ps k wr wr #[.int .i64 (j : Int), .pointer (some ⟨p, 0, none⟩)]) := by
        have e : ps.length - 1 - k = j := by rw [HN.out]; exact hj
        refine ⟨rfl, by rw [HN.out]; exact hlt, ?_⟩
        simp only [e, hp]
      have HKN : Hid (k < ps.length ∧ (n : Int) - 1 - (k : Int) = (j : Int)) := ⟨by rw [HN.out]; exact hlt, hij⟩
      have d0 := HF.out.2.2.2.cell 0
      simp at d0
      rw [hij]
      clear hp hjl hij hj
      go_upto_region 3 with fail
      refine (wpIn_wide (n := 0)).1 (wpIn_region_lit ?_)
      refine wpListIn_plain rfl fun K1 hK1 => oper_wide 0 ?_
      have HK1 : Hid _ := hK1
      clear hK1
      go_wp2_with fail
      refine HK1.out _ _ ?_
      clear HK1 K1
      refine wpListIn_plain rfl fun K1 hK1 => oper_wide 0 ?_
      have HK1 : Hid _ := hK1
      clear hK1
      go_wp2_with fail
      refine HK1.out _ _ ?_
      clear HK1 K1
      refine wpListIn_plain rfl fun K1 hK1 => oper_wide 0 ?_
      have HK1 : Hid _ := hK1
      clear hK1
      go_wp2_with fail
      refine HK1.out _ _ ?_
      clear HK1 K1
      refine wpListIn_plain rfl fun K1 hK1 => oper_wide 0 ?_
      have HK1 : Hid _ := hK1
      clear hK1
      go_wp2_with fail
      refine HK1.out _ _ ?_
      clear HK1 K1
      refine wpListIn_plain rfl fun K1 hK1 => oper_wide 0 ?_
      have HK1 : Hid _ := hK1
      clear hK1
      go_wp2_with fail
      refine HK1.out _ _ ?_
      clear HK1 K1
      refine wpListIn_plain rfl fun K1 hK1 => oper_wide 0 ?_
      have HK1 : Hid _ := hK1
      clear hK1
      go_wp2_with fail
      refine HK1.out _ _ ?_
      clear HK1 K1
      refine wpListIn_plain rfl fun K1 hK1 => yield_wide (HY.out k wr wr _ HKN.out.1 HF.out.1 HF.out.2.1 (Tn.refl _ _) HX.out) rfl rfl rfl rfl ?_
      rintro e W' (⟨rfl, hJ', hkept⟩ | ⟨rfl, hx, _⟩)
      · refine ⟨_, rfl, hK1 _ _ ?_⟩
        clear hK1 K1
        simp only [Act.put, List.setIfInBounds_toArray, List.set_cons_zero, List.set_cons_succ]
        refine wpListIn_plain rfl fun K1 hK1 => oper_wide 0 ?_
        have HK1 : Hid _ := hK1
        clear hK1
        go_wp2_with fail
        refine HK1.out _ _ ?_
        clear HK1 K1
        refine wpListIn_nil ?_
        refine (‹∀ (a : Act) (w : World), Code.wp Try.prog _ _ a w → _› _ _ ?_)
        have HK : Hid (J (k + 1) W' ∧ W.heap.size ≤ W'.heap.size ∧ PIn W' (fun k => k < w.heap.size ∧ ¬ Fw k) (.slice (some ⟨b, off, none⟩) n cap) ps ∧ Blk W' Bx 66 #[.slice (some ⟨b, off, none⟩) n cap]) :=
          ⟨hJ', Nat.le_trans HF.out.2.1 hkept.1, HF.out.2.2.1.same fun i hi hlt => hkept.2 i hlt (.inl hi.1) hi.2 (not_handed _ _ _ _), HF.out.2.2.2.same (hkept.2 Bx HF.out.2.2.2.lt (.inl HW.out.2.1) HW.out.2.2 (not_handed _ _ _ _))⟩
        have hw2 : IntKind.i64.wrap ((j : Int) - 1) = (j : Int) - 1 := by rw [IntKind.wrap_i64]; omega
        clear hJ' hkept
        go_wp2_with fail
        go_roundw
        case rel => exact ⟨k + 1, by omega, by have := HKN.out.2; first | (congr 1; omega) | go_num, HK.out.1, HK.out.2.1, HK.out.2.2.1, HK.out.2.2.2⟩
        case measure => simp [intOf] <;> omega
      · refine ⟨_, rfl, hK1 _ _ ?_⟩
        clear hK1 K1
        simp only [Act.put, List.setIfInBounds_toArray, List.set_cons_zero, List.set_cons_succ]
        refine wpListIn_plain rfl fun K1 hK1 => oper_wide 0 ?_
        have HK1 : Hid _ := hK1
        clear hK1
        go_wp2_with fail
        refine HK1.out _ _ ?_
        clear HK1 K1
        refine wpListIn_nil ?_
        refine (‹∀ (a : Act) (w : World), Code.wp Try.prog _ _ a w → _› _ _ ?_)
        have HXX : Hid (Jx W') := hx
        clear hx
        go_wp2_with fail
        exact ⟨rfl, _, results_none rfl _ _ _, ⟨_, rfl⟩, .inr HXX.out⟩
    · have e : k = n := by omega
      subst e
      rw [show (k : Int) - 1 - (k : Int) = -1 by omega]
      go_wp2_with fail
      refine ⟨rfl, _, results_none rfl _ _ _, ⟨_, rfl⟩, .inl ?_⟩
      rw [HN.out]
      exact HF.out.1
end Go.Proofs.Ytlehikdlkdbacaa
