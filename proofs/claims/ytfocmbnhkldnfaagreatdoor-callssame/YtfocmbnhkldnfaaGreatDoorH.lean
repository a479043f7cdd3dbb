/-
  The reader: numbers, flags, bytes, read or given up.
-/
import Derived.Test.YtfocmbnhkldnfaaGreatDoorG
namespace Go.Proofs.YtfocmbnhkldnfaaGreatDoor
open Go.RowKit Disk
open Names (Str)
open Wire (RdB RdG)

/-- The reader at block b has L before it, its bytes in a block of bytes. -/
def RR (w : World) (b : Nat) (L : Bs) : Prop := ∃ s, RdB w b true s ∧ Seg w s L ∧ (L ≠ [] → ∃ k cur, s.ownBlock = some k ∧ Blk w k 5 cur)

theorem seg_empty {w : World} (w' : World) {v : Value} (h : Seg w v []) : Seg w' v [] := by
  obtain ⟨ao, cap, hv, h1, h2, h3, _⟩ := h
  exact ⟨ao, cap, hv, h1, h2, h3, fun j hj => absurd hj (by simp)⟩
theorem seg_own_ne {w : World} {v : Value} {L : Bs} (h : Seg w v L) (hL : L ≠ []) : ∃ k, v.ownBlock = some k := by
  obtain ⟨ao, cap, hv, h1, h2, h3, h4⟩ := h
  obtain ⟨b, off, e, _⟩ := h4 0 (List.length_pos_iff.2 hL)
  subst hv e
  exact ⟨b, rfl⟩

theorem blk_type {w : World} {b t t' : Nat} {c c' : Array Value} (h : Blk w b t c) (h' : Blk w b t' c') : t = t' := by
  unfold Blk at h h'
  rw [h] at h'
  simp at h'
  exact h'.2

theorem RR.kept {w w' : World} {b : Nat} {L : Bs} {r : Option Nat} (h : RR w b L) (hg : w.grownBy w' r) (hb : r ≠ some b) (hr : ∀ k cur, Blk w k 5 cur → r ≠ some k) : RR w' b L := by
  obtain ⟨s, h1, h2, h3⟩ := h
  by_cases hL : L = []
  · subst hL
    exact ⟨s, h1.kept hg hb, seg_empty w' h2, fun h => absurd rfl h⟩
  · obtain ⟨k, cur, hk, hbk⟩ := h3 hL
    have hne := hr k cur hbk
    refine ⟨s, h1.kept hg hb, ?_, fun _ => ⟨k, cur, hk, hbk.grown hg hne⟩⟩
    have : RdG w b k L := ⟨s, h1, h2, fun x hx => by rw [hk] at hx; cases hx; rfl⟩
    obtain ⟨ao, cap, rfl, q1, q2, q3, q4⟩ := h2
    refine ⟨ao, cap, rfl, q1, q2, q3, fun j hj => ?_⟩
    obtain ⟨b', off, rfl, hc⟩ := q4 j hj
    have e : b' = k := by simpa [Value.ownBlock] using hk
    subst e
    exact ⟨b', off, rfl, hg.cell hc (fun e => hne e.symm)⟩
theorem RR.grown {w w' : World} {b : Nat} {L : Bs} (h : RR w b L) (hg : w.grownBy w' none) : RR w' b L := h.kept hg (by simp) (by simp)
theorem RR.blk {w : World} {b : Nat} {L : Bs} (h : RR w b L) : ∃ s, Blk w b 167 #[.bool true, s] := by obtain ⟨s, h1, _⟩ := h; exact ⟨s, h1⟩
theorem RR.set {w w' : World} {b x t : Nat} {c : Array Value} {L : Bs} (h : RR w b L) (hx : Blk w x t c) (hg : w.grownBy w' (some x)) (h1 : t ≠ 167) (h2 : t ≠ 5) : RR w' b L := by
  obtain ⟨s, hs⟩ := h.blk
  refine h.kept hg (fun e => ?_) (fun k cur hk e => ?_)
  · simp at e; subst e; exact h1 (blk_type hx hs)
  · simp at e; subst e; exact h2 (blk_type hx hk)
theorem RR.ne {w : World} {b x t : Nat} {c : Array Value} {L : Bs} (h : RR w b L) (hx : Blk w x t c) (h1 : t ≠ 167) : x ≠ b := by
  obtain ⟨s, hs⟩ := h.blk
  rintro rfl
  exact h1 (blk_type hx hs)

/-- The elder readings, of such a reader. -/
theorem rr_of {w : World} {b : Nat} {L : Bs} (h : RR w b L) : ∃ g, RdG w b g L ∧ ∀ w' M, RdG w' b g M → w.grownBy w' (some b) → (L = [] → M = []) → RR w' b M := by
  obtain ⟨s, h1, h2, h3⟩ := h
  by_cases hL : L = []
  · subst hL
    have : ∃ g, Wire.InB g s := by
      cases hs : s.ownBlock with
      | none => exact ⟨0, fun k hk => by rw [hs] at hk; cases hk⟩
      | some k => exact ⟨k, fun x hx => by rw [hs] at hx; cases hx; rfl⟩
    obtain ⟨g, hg⟩ := this
    refine ⟨g, ⟨s, h1, h2, hg⟩, fun w' M hM _ he => ?_⟩
    obtain ⟨s', q1, q2, _⟩ := hM
    have := he rfl
    subst this
    exact ⟨s', q1, q2, fun h => absurd rfl h⟩
  · obtain ⟨k, cur, hk, hbk⟩ := h3 hL
    refine ⟨k, ⟨s, h1, h2, fun x hx => by rw [hk] at hx; cases hx; rfl⟩, fun w' M hM hg _ => ?_⟩
    obtain ⟨s', q1, q2, q3⟩ := hM
    refine ⟨s', q1, q2, fun hne => ?_⟩
    obtain ⟨x, hx⟩ := seg_own_ne q2 hne
    have e := q3 x hx
    subst e
    exact ⟨x, cur, hx, hbk.grown hg (fun e => by simp at e; subst e; have := blk_type h1 hbk; omega)⟩

/-- What a reading leaves: the thing, or it is given up. -/
def RdPost {α : Type} (b : Nat) (w : World) (r : Option (α × Bs)) (is : α → Value → World → Prop) (e : Ending) (w' : World) : Prop :=
  (∃ x M v, r = some (x, M) ∧ e = .returned v ∧ is x v w' ∧ RR w' b M ∧ w.grownBy w' (some b)) ∨ (r = none ∧ e = Pan 4 ∧ w.grownBy w' (some b))

/-- A reader's value. -/
def rdV (b : Nat) : Value := .agg #[.pointer (some ⟨b, 0, none⟩)]

def pNum64 (L : Bs) : Option (Nat × Bs) := match Wire.scan 0 0 L with
  | some (n, k) => some (n, L.drop k)
  | none => none

set_option maxRecDepth 100000 in
set_option maxHeartbeats 1000000 in
theorem next152 (b : Nat) (L : Bs) (w : World) (hr : RR w b L) :
    Calls Tryz.prog 152 #[rdV b, .func (.func 153) #[] #[]] w (RdPost b w (pNum64 L) (fun n v _ => v = .int .u64 n ∧ n < 2 ^ 64)) := by
  unfold rdV
  have hr1 := hr.grown (World.grownBy_alloc w (.cells #[.pointer (some ⟨b, 0, none⟩)] 86) none)
  obtain ⟨g, hg, hk⟩ := rr_of hr1
  have HG : Hid (RdG (w.alloc (.cells #[.pointer (some ⟨b, 0, none⟩)] 86)) b g L) := hg
  have HK : Hid _ := hk
  clear hr hr1 hg hk
  cases hs : Wire.scan 0 0 L with
  | none =>
    have HS : Hid (Wire.rdNum L = (0, 4, L) ∧ pNum64 L = none) := ⟨Wire.rdNum_none hs, by simp [pNum64, hs]⟩
    clear hs
    go_enter Tryz.func152, Tryz.ntmps152
    go_wp2_with (go_at_call 153; refine (Wire.number25_g b g L _ HG.out).mono ?_)
    rw [HS.out.1]
    rintro e w1 ⟨rfl, h1, h2⟩
    have F : Hid (w.grownBy w1 (some b)) := grown_trans (World.grownBy_alloc _ _ _) h2
    clear h1 h2
    go_wp2_with (go_at_call 55; refine (sure_no _ _).mono ?_; rintro e w2 ⟨rfl, hw2⟩; rw [hw2]; clear hw2; unfold Pan)
    exact ⟨rfl, .inr ⟨HS.out.2, rfl, F.out⟩⟩
  | some nk =>
    obtain ⟨n, k⟩ := nk
    have HS : Hid (Wire.rdNum L = (n, 0, L.drop k) ∧ pNum64 L = some (n, L.drop k) ∧ n < 2 ^ 64) := ⟨Wire.rdNum_some hs, by simp [pNum64, hs], (Wire.scan_bound L 0 0 (by omega) (by simp) n k hs).1⟩
    clear hs
    go_enter Tryz.func152, Tryz.ntmps152
    go_wp2_with (go_at_call 153; refine (Wire.number25_g b g L _ HG.out).mono ?_)
    rw [HS.out.1]
    rintro e w1 ⟨rfl, h1, h2⟩
    have F : Hid (RR w1 b (L.drop k) ∧ w.grownBy w1 (some b)) := ⟨HK.out w1 _ h1 h2 (fun h => by rw [h]; simp), grown_trans (World.grownBy_alloc _ _ _) h2⟩
    clear h1 h2
    go_wp2_with (go_at_call 55; refine (sure_yes _ _).mono ?_; rintro e w2 ⟨rfl, hw2⟩; rw [hw2]; clear hw2)
    go_ret
    exact .inl ⟨n, _, _, HS.out.2.1, rfl, ⟨rfl, HS.out.2.2⟩, F.out.1, F.out.2⟩

set_option maxRecDepth 100000 in
set_option maxHeartbeats 1000000 in
theorem number109 (b : Nat) (L : Bs) (most : Nat) (w : World) (hm : most ≤ 9223372036854775807) (hr : RR w b L) :
    Calls Tryz.prog 109 #[rdV b, .int .i64 most] w (RdPost b w (pNum most L) (fun n v _ => v = .int .i64 n ∧ n ≤ most)) := by
  have HR : Hid (RR w b L) := hr
  have HQ : Hid (pNum most L = (pNum64 L).bind fun x => if x.1 ≤ most then some x else none) := by
    unfold pNum pNum64
    cases Wire.scan 0 0 L <;> rfl
  have wu : IntKind.u64.wrap (most : Int) = (most : Int) := by rw [IntKind.wrap_u64]; omega
  clear hr
  have e0 : rdV b = .agg #[.pointer (some ⟨b, 0, none⟩)] := rfl
  rw [e0]
  go_enter Tryz.func109, Tryz.ntmps109
  go_wp2_with (go_at_call 152; refine (next152 b L _ (HR.out.grown (World.grownBy_alloc _ _ none))).mono ?_)
  rintro e w1 (⟨n, M, v, hx, rfl, ⟨rfl, hn⟩, hR, hg⟩ | ⟨hx, rfl, hg⟩)
  · have F : Hid (pNum64 L = some (n, M) ∧ RR w1 b M ∧ w.grownBy w1 (some b)) := ⟨hx, hR, grown_trans (World.grownBy_alloc _ _ _) hg⟩
    clear hx hR hg
    by_cases hle : n ≤ most
    · have i1 : (n : Int) ≤ (most : Int) := by omega
      have wi : IntKind.i64.wrap (n : Int) = (n : Int) := by rw [IntKind.wrap_i64]; omega
      go_wp2_with (go_at_call 55; refine (sure_yes _ _).mono ?_; rintro e w2 ⟨rfl, hw2⟩; rw [hw2]; clear hw2)
      go_ret
      exact .inl ⟨n, M, _, by rw [HQ.out, F.out.1]; simp [hle], rfl, ⟨by simp, hle⟩, F.out.2.1, F.out.2.2⟩
    · have i1 : ((n : Int) ≤ (most : Int)) = False := eq_false (by omega)
      go_wp2_with (go_at_call 55; refine (sure_no _ _).mono ?_; rintro e w2 ⟨rfl, hw2⟩; rw [hw2]; clear hw2; unfold Pan)
      exact ⟨rfl, .inr ⟨by rw [HQ.out, F.out.1]; simp [hle], rfl, F.out.2.2⟩⟩
  · have F : Hid (pNum64 L = none ∧ w.grownBy w1 (some b)) := ⟨hx, grown_trans (World.grownBy_alloc _ _ _) hg⟩
    clear hx hg
    unfold Pan
    go_wp2_with fail
    exact ⟨rfl, .inr ⟨by rw [HQ.out, F.out.1]; rfl, rfl, F.out.2⟩⟩
end Go.Proofs.YtfocmbnhkldnfaaGreatDoor
