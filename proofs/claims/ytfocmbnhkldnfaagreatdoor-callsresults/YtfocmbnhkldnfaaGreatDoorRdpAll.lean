/-
  Texts of Rdp, put together.
-/
import Derived.Test.YtfocmbnhkldnfaaGreatDoorG
import Derived.Test.YtfocmbnhkldnfaaGreatDoorNamesAll
/-
  The reader: numbers, flags, bytes, read or given up.
-/
namespace Go.Proofs.YtfocmbnhkldnfaaGreatDoor
open Go.RowKit Disk
open Names (Str)
open Wire (RdB RdG)

/-- The reader at block b has L before it, its bytes in a block of bytes. -/
def RR (w : World) (b : Nat) (L : Bs) : Prop := ∃ s, RdB w b true s ∧ Seg w s L ∧ (L ≠ [] → ∃ k cur, s.ownBlock = some k ∧ Blk w k 5 cur)

theorem seg_empty {w : World} (w' : World) {v : Value} (h : Seg w v []) : Seg w' v [] := by
  obtain ⟨ao, cap, hv, h1, h2, h3, _⟩ := h
  exact ⟨ao, cap, hv, h1, h2, h3, fun j hj => absurd hj (by simp)⟩
theorem seg_own_ne {w : World} {v : Value} {L : Bs} (h : Seg w v L) (hL : L ≠ []) : ∃ k, v.ownBlock = some k := by
  obtain ⟨ao, cap, hv, h1, h2, h3, h4⟩ := h
  obtain ⟨b, off, e, _⟩ := h4 0 (List.length_pos_iff.2 hL)
  subst hv e
  exact ⟨b, rfl⟩

theorem blk_type {w : World} {b t t' : Nat} {c c' : Array Value} (h : Blk w b t c) (h' : Blk w b t' c') : t = t' := by
  unfold Blk at h h'
  rw [h] at h'
  simp at h'
  exact h'.2

theorem RR.kept {w w' : World} {b : Nat} {L : Bs} {r : Option Nat} (h : RR w b L) (hg : w.grownBy w' r) (hb : r ≠ some b) (hr : ∀ k cur, Blk w k 5 cur → r ≠ some k) : RR w' b L := by
  obtain ⟨s, h1, h2, h3⟩ := h
  by_cases hL : L = []
  · subst hL
    exact ⟨s, h1.kept hg hb, seg_empty w' h2, fun h => absurd rfl h⟩
  · obtain ⟨k, cur, hk, hbk⟩ := h3 hL
    have hne := hr k cur hbk
    refine ⟨s, h1.kept hg hb, ?_, fun _ => ⟨k, cur, hk, hbk.grown hg hne⟩⟩
    have : RdG w b k L := ⟨s, h1, h2, fun x hx => by rw [hk] at hx; cases hx; rfl⟩
    obtain ⟨ao, cap, rfl, q1, q2, q3, q4⟩ := h2
    refine ⟨ao, cap, rfl, q1, q2, q3, fun j hj => ?_⟩
    obtain ⟨b', off, rfl, hc⟩ := q4 j hj
    have e : b' = k := by simpa [Value.ownBlock] using hk
    subst e
    exact ⟨b', off, rfl, hg.cell hc (fun e => hne e.symm)⟩
theorem RR.grown {w w' : World} {b : Nat} {L : Bs} (h : RR w b L) (hg : w.grownBy w' none) : RR w' b L := h.kept hg (by simp) (by simp)
theorem RR.blk {w : World} {b : Nat} {L : Bs} (h : RR w b L) : ∃ s, Blk w b 167 #[.bool true, s] := by obtain ⟨s, h1, _⟩ := h; exact ⟨s, h1⟩
theorem RR.set {w w' : World} {b x t : Nat} {c : Array Value} {L : Bs} (h : RR w b L) (hx : Blk w x t c) (hg : w.grownBy w' (some x)) (h1 : t ≠ 167) (h2 : t ≠ 5) : RR w' b L := by
  obtain ⟨s, hs⟩ := h.blk
  refine h.kept hg (fun e => ?_) (fun k cur hk e => ?_)
  · simp at e; subst e; exact h1 (blk_type hx hs)
  · simp at e; subst e; exact h2 (blk_type hx hk)
theorem RR.ne {w : World} {b x t : Nat} {c : Array Value} {L : Bs} (h : RR w b L) (hx : Blk w x t c) (h1 : t ≠ 167) : x ≠ b := by
  obtain ⟨s, hs⟩ := h.blk
  rintro rfl
  exact h1 (blk_type hx hs)

/-- The elder readings, of such a reader. -/
theorem rr_of {w : World} {b : Nat} {L : Bs} (h : RR w b L) : ∃ g, RdG w b g L ∧ ∀ w' M, RdG w' b g M → w.grownBy w' (some b) → (L = [] → M = []) → RR w' b M := by
  obtain ⟨s, h1, h2, h3⟩ := h
  by_cases hL : L = []
  · subst hL
    have : ∃ g, Wire.InB g s := by
      cases hs : s.ownBlock with
      | none => exact ⟨0, fun k hk => by rw [hs] at hk; cases hk⟩
      | some k => exact ⟨k, fun x hx => by rw [hs] at hx; cases hx; rfl⟩
    obtain ⟨g, hg⟩ := this
    refine ⟨g, ⟨s, h1, h2, hg⟩, fun w' M hM _ he => ?_⟩
    obtain ⟨s', q1, q2, _⟩ := hM
    have := he rfl
    subst this
    exact ⟨s', q1, q2, fun h => absurd rfl h⟩
  · obtain ⟨k, cur, hk, hbk⟩ := h3 hL
    refine ⟨k, ⟨s, h1, h2, fun x hx => by rw [hk] at hx; cases hx; rfl⟩, fun w' M hM hg _ => ?_⟩
    obtain ⟨s', q1, q2, q3⟩ := hM
    refine ⟨s', q1, q2, fun hne => ?_⟩
    obtain ⟨x, hx⟩ := seg_own_ne q2 hne
    have e := q3 x hx
    subst e
    exact ⟨x, cur, hx, hbk.grown hg (fun e => by simp at e; subst e; have := blk_type h1 hbk; omega)⟩

/-- What a reading leaves: the thing, or it is given up. -/
def RdPost {α : Type} (b : Nat) (w : World) (r : Option (α × Bs)) (is : α → Value → World → Prop) (e : Ending) (w' : World) : Prop :=
  (∃ x M v, r = some (x, M) ∧ e = .returned v ∧ is x v w' ∧ RR w' b M ∧ w.grownBy w' (some b)) ∨ (r = none ∧ e = Pan 4 ∧ w.grownBy w' (some b))

/-- A reader's value. -/
def rdV (b : Nat) : Value := .agg #[.pointer (some ⟨b, 0, none⟩)]

def pNum64 (L : Bs) : Option (Nat × Bs) := match Wire.scan 0 0 L with
  | some (n, k) => some (n, L.drop k)
  | none => none

set_option maxRecDepth 100000 in
set_option maxHeartbeats 1000000 in
theorem next152 (b : Nat) (L : Bs) (w : World) (hr : RR w b L) :
    Calls Tryz.prog 152 #[rdV b, .func (.func 153) #[] #[]] w (RdPost b w (pNum64 L) (fun n v _ => v = .int .u64 n ∧ n < 2 ^ 64)) := by
  unfold rdV
  have hr1 := hr.grown (World.grownBy_alloc w (.cells #[.pointer (some ⟨b, 0, none⟩)] 86) none)
  obtain ⟨g, hg, hk⟩ := rr_of hr1
  have HG : Hid (RdG (w.alloc (.cells #[.pointer (some ⟨b, 0, none⟩)] 86)) b g L) := hg
  have HK : Hid _ := hk
  clear hr hr1 hg hk
  cases hs : Wire.scan 0 0 L with
  | none =>
    have HS : Hid (Wire.rdNum L = (0, 4, L) ∧ pNum64 L = none) := ⟨Wire.rdNum_none hs, by simp [pNum64, hs]⟩
    clear hs
    go_enter Tryz.func152, Tryz.ntmps152
    go_wp2_with (go_at_call 153; refine (Wire.number25_g b g L _ HG.out).mono ?_)
    rw [HS.out.1]
    rintro e w1 ⟨rfl, h1, h2⟩
    have F : Hid (w.grownBy w1 (some b)) := grown_trans (World.grownBy_alloc _ _ _) h2
    clear h1 h2
    go_wp2_with (go_at_call 55; refine (sure_no _ _).mono ?_; rintro e w2 ⟨rfl, hw2⟩; rw [hw2]; clear hw2; unfold Pan)
    exact ⟨rfl, .inr ⟨HS.out.2, rfl, F.out⟩⟩
  | some nk =>
    obtain ⟨n, k⟩ := nk
    have HS : Hid (Wire.rdNum L = (n, 0, L.drop k) ∧ pNum64 L = some (n, L.drop k) ∧ n < 2 ^ 64) := ⟨Wire.rdNum_some hs, by simp [pNum64, hs], (Wire.scan_bound L 0 0 (by omega) (by simp) n k hs).1⟩
    clear hs
    go_enter Tryz.func152, Tryz.ntmps152
    go_wp2_with (go_at_call 153; refine (Wire.number25_g b g L _ HG.out).mono ?_)
    rw [HS.out.1]
    rintro e w1 ⟨rfl, h1, h2⟩
    have F : Hid (RR w1 b (L.drop k) ∧ w.grownBy w1 (some b)) := ⟨HK.out w1 _ h1 h2 (fun h => by rw [h]; simp), grown_trans (World.grownBy_alloc _ _ _) h2⟩
    clear h1 h2
    go_wp2_with (go_at_call 55; refine (sure_yes _ _).mono ?_; rintro e w2 ⟨rfl, hw2⟩; rw [hw2]; clear hw2)
    go_ret
    exact .inl ⟨n, _, _, HS.out.2.1, rfl, ⟨rfl, HS.out.2.2⟩, F.out.1, F.out.2⟩

set_option maxRecDepth 100000 in
set_option maxHeartbeats 1000000 in
theorem number109 (b : Nat) (L : Bs) (most : Nat) (w : World) (hm : most ≤ 9223372036854775807) (hr : RR w b L) :
    Calls Tryz.prog 109 #[rdV b, .int .i64 most] w (RdPost b w (pNum most L) (fun n v _ => v = .int .i64 n ∧ n ≤ most)) := by
  have HR : Hid (RR w b L) := hr
  have HQ : Hid (pNum most L = (pNum64 L).bind fun x => if x.1 ≤ most then some x else none) := by
    unfold pNum pNum64
    cases Wire.scan 0 0 L <;> rfl
  have wu : IntKind.u64.wrap (most : Int) = (most : Int) := by rw [IntKind.wrap_u64]; omega
  clear hr
  have e0 : rdV b = .agg #[.pointer (some ⟨b, 0, none⟩)] := rfl
  rw [e0]
  go_enter Tryz.func109, Tryz.ntmps109
  go_wp2_with (go_at_call 152; refine (next152 b L _ (HR.out.grown (World.grownBy_alloc _ _ none))).mono ?_)
  rintro e w1 (⟨n, M, v, hx, rfl, ⟨rfl, hn⟩, hR, hg⟩ | ⟨hx, rfl, hg⟩)
  · have F : Hid (pNum64 L = some (n, M) ∧ RR w1 b M ∧ w.grownBy w1 (some b)) := ⟨hx, hR, grown_trans (World.grownBy_alloc _ _ _) hg⟩
    clear hx hR hg
    by_cases hle : n ≤ most
    · have i1 : (n : Int) ≤ (most : Int) := by omega
      have wi : IntKind.i64.wrap (n : Int) = (n : Int) := by rw [IntKind.wrap_i64]; omega
      go_wp2_with (go_at_call 55; refine (sure_yes _ _).mono ?_; rintro e w2 ⟨rfl, hw2⟩; rw [hw2]; clear hw2)
      go_ret
      exact .inl ⟨n, M, _, by rw [HQ.out, F.out.1]; simp [hle], rfl, ⟨by simp, hle⟩, F.out.2.1, F.out.2.2⟩
    · have i1 : ((n : Int) ≤ (most : Int)) = False := eq_false (by omega)
      go_wp2_with (go_at_call 55; refine (sure_no _ _).mono ?_; rintro e w2 ⟨rfl, hw2⟩; rw [hw2]; clear hw2; unfold Pan)
      exact ⟨rfl, .inr ⟨by rw [HQ.out, F.out.1]; simp [hle], rfl, F.out.2.2⟩⟩
  · have F : Hid (pNum64 L = none ∧ w.grownBy w1 (some b)) := ⟨hx, grown_trans (World.grownBy_alloc _ _ _) hg⟩
    clear hx hg
    unfold Pan
    go_wp2_with fail
    exact ⟨rfl, .inr ⟨by rw [HQ.out, F.out.1]; rfl, rfl, F.out.2⟩⟩
end Go.Proofs.YtfocmbnhkldnfaaGreatDoor
/-
  The reader: flags, bytes; opened.
-/
namespace Go.Proofs.YtfocmbnhkldnfaaGreatDoor
open Go.RowKit Disk
open Names (Str)
open Wire (RdB RdG)

theorem rdFlag_p (L : Bs) : (pFlag L = none ∧ (Wire.rdFlag L).2.1 = 4) ∨ (∃ f M, pFlag L = some (f, M) ∧ Wire.rdFlag L = (f, 0, M)) := by
  cases L with
  | nil => exact .inl ⟨rfl, rfl⟩
  | cons c l =>
    unfold pFlag Wire.rdFlag
    by_cases h : c.toNat ≤ 1
    · refine .inr ⟨decide (c.toNat = 1), l, by simp [h], ?_⟩
      simp only
      rw [if_neg (by omega)]
      by_cases h1 : c.toNat = 1 <;> simp [h1]
    · refine .inl ⟨by simp [h], ?_⟩
      simp only
      rw [if_pos (by omega)]

set_option maxRecDepth 100000 in
set_option maxHeartbeats 1000000 in
theorem next174 (b : Nat) (L : Bs) (w : World) (hr : RR w b L) :
    Calls Tryz.prog 174 #[rdV b, .func (.func 175) #[] #[]] w (RdPost b w (pFlag L) (fun f v _ => v = .bool f)) := by
  unfold rdV
  have hr1 := hr.grown (World.grownBy_alloc w (.cells #[.pointer (some ⟨b, 0, none⟩)] 86) none)
  obtain ⟨g, hg, hk⟩ := rr_of hr1
  have HG : Hid (RdG (w.alloc (.cells #[.pointer (some ⟨b, 0, none⟩)] 86)) b g L) := hg
  have HK : Hid _ := hk
  clear hr hr1 hg hk
  rcases rdFlag_p L with ⟨hp, he⟩ | ⟨f, M, hp, he⟩
  · have HS : Hid ((Wire.rdFlag L).2.1 = 4 ∧ pFlag L = none) := ⟨he, hp⟩
    clear he hp
    go_enter Tryz.func174, Tryz.ntmps174
    go_wp2_with (go_at_call 175; refine (Wire.flag28_g b g L _ HG.out).mono ?_)
    rw [HS.out.1]
    rintro e w1 ⟨rfl, h1, h2⟩
    have F : Hid (w.grownBy w1 (some b)) := grown_trans (World.grownBy_alloc _ _ _) h2
    clear h1 h2
    go_wp2_with (go_at_call 55; refine (sure_no _ _).mono ?_; rintro e w2 ⟨rfl, hw2⟩; rw [hw2]; clear hw2; unfold Pan)
    exact ⟨rfl, .inr ⟨HS.out.2, rfl, F.out⟩⟩
  · have HS : Hid (Wire.rdFlag L = (f, 0, M) ∧ pFlag L = some (f, M) ∧ (L = [] → M = [])) := ⟨he, hp, fun h => by subst h; simp [pFlag] at hp⟩
    clear he hp
    go_enter Tryz.func174, Tryz.ntmps174
    go_wp2_with (go_at_call 175; refine (Wire.flag28_g b g L _ HG.out).mono ?_)
    rw [HS.out.1]
    rintro e w1 ⟨rfl, h1, h2⟩
    have F : Hid (RR w1 b M ∧ w.grownBy w1 (some b)) := ⟨HK.out w1 _ h1 h2 HS.out.2.2, grown_trans (World.grownBy_alloc _ _ _) h2⟩
    clear h1 h2
    go_wp2_with (go_at_call 55; refine (sure_yes _ _).mono ?_; rintro e w2 ⟨rfl, hw2⟩; rw [hw2]; clear hw2)
    go_ret
    exact .inl ⟨f, _, _, HS.out.2.1, rfl, rfl, F.out.1, F.out.2⟩

set_option maxRecDepth 100000 in
set_option maxHeartbeats 1000000 in
theorem flag136 (b : Nat) (L : Bs) (w : World) (hr : RR w b L) :
    Calls Tryz.prog 136 #[rdV b] w (RdPost b w (pFlag L) (fun f v _ => v = .bool f)) := by
  have HR : Hid (RR w b L) := hr
  clear hr
  have e0 : rdV b = .agg #[.pointer (some ⟨b, 0, none⟩)] := rfl
  rw [e0]
  go_enter Tryz.func136, Tryz.ntmps136
  go_wp2_with (go_at_call 174; refine (next174 b L _ (HR.out.grown (World.grownBy_alloc _ _ none))).mono ?_)
  rintro e w1 (⟨n, M, v, hx, rfl, rfl, hR, hg⟩ | ⟨hx, rfl, hg⟩)
  · have F : Hid (pFlag L = some (n, M) ∧ RR w1 b M ∧ w.grownBy w1 (some b)) := ⟨hx, hR, grown_trans (World.grownBy_alloc _ _ _) hg⟩
    clear hx hR hg
    go_wp2_with fail
    go_ret
    exact .inl ⟨n, M, _, F.out.1, rfl, rfl, F.out.2.1, F.out.2.2⟩
  · have F : Hid (pFlag L = none ∧ w.grownBy w1 (some b)) := ⟨hx, grown_trans (World.grownBy_alloc _ _ _) hg⟩
    clear hx hg
    unfold Pan
    go_wp2_with fail
    exact ⟨rfl, .inr ⟨F.out.1, rfl, F.out.2⟩⟩

theorem rdBytes_p (L : Bs) (most : Nat) : (pBytes most L = none ∧ ((Wire.rdBytes L most).2.1 = 4 ∨ (Wire.rdBytes L most).2.1 = 3)) ∨ (∃ x M, pBytes most L = some (x, M) ∧ Wire.rdBytes L most = (x, 0, M)) := by
  unfold pBytes pNum
  cases hs : Wire.scan 0 0 L with
  | none => exact .inl ⟨rfl, .inl (by rw [Wire.rdBytes_none (by omega) hs])⟩
  | some nk =>
    obtain ⟨n, k⟩ := nk
    by_cases hl : n ≤ most
    · by_cases hf : (L.drop k).length < n
      · refine .inl ⟨?_, .inl (by rw [Wire.rdBytes_few (by omega) hs (by omega) hf])⟩
        simp only [hl, if_true]
        rw [if_neg (by omega)]
      · refine .inr ⟨(L.drop k).take n, (L.drop k).drop n, ?_, Wire.rdBytes_ok (by omega) hs (by omega) hf⟩
        simp only [hl, if_true]
        rw [if_pos (by omega)]
    · refine .inl ⟨?_, .inr (by rw [Wire.rdBytes_long (by omega) hs (by omega)])⟩
      simp only [hl, if_false]

set_option maxRecDepth 100000 in
set_option maxHeartbeats 1000000 in
theorem inner172 (b m g : Nat) (L : Bs) (most : Nat) (w : World) (hm : most ≤ 9223372036854775807) (hz : L.length ≤ 140737488355328) (hr : RdG w b g L) (hc : w.cell? ⟨m, 0, none⟩ = some (.int .i64 most)) :
    Calls Tryz.prog 172 #[.pointer (some ⟨b, 0, none⟩), .pointer (some ⟨m, 0, none⟩)] w fun e w' => ∃ v, e = .returned (.tuple #[v, .int .i64 (Wire.rdBytes L most).2.1]) ∧ Wire.OkG b g (Wire.rdBytes L most).1 (Wire.rdBytes L most).2.2 w v w' := by
  have HR : Hid (RdG w b g L) := hr
  clear hr
  go_enter Tryz.func172, Tryz.ntmps172
  go_wp2_with (go_at_call 173; refine (Wire.bytes27_g b g L most _ HR.out (by omega) hz).mono ?_)
  rintro e w1 ⟨v, rfl, h⟩
  have H : Hid _ := h
  clear h
  go_wp2_with fail
  go_ret2
  exact ⟨_, rfl, H.out⟩

set_option maxRecDepth 100000 in
set_option maxHeartbeats 1000000 in
theorem next171 (b m : Nat) (L : Bs) (most : Nat) (w : World) (hm : most ≤ 9223372036854775807) (hz : L.length ≤ 140737488355328) (hr : RR w b L) (hc : w.cell? ⟨m, 0, none⟩ = some (.int .i64 most)) :
    Calls Tryz.prog 171 #[rdV b, .func (.func 172) #[] #[.pointer (some ⟨m, 0, none⟩)]] w (RdPost b w (pBytes most L) (fun x v w' => Own w' w.heap.size v x)) := by
  unfold rdV
  have hr1 := hr.grown (World.grownBy_alloc w (.cells #[.pointer (some ⟨b, 0, none⟩)] 86) none)
  have hc1 := grown_fun (World.grownBy_alloc w (.cells #[.pointer (some ⟨b, 0, none⟩)] 86) none) hc
  obtain ⟨g, hg, hk⟩ := rr_of hr1
  have HG : Hid (RdG (w.alloc (.cells #[.pointer (some ⟨b, 0, none⟩)] 86)) b g L ∧ (w.alloc (.cells #[.pointer (some ⟨b, 0, none⟩)] 86)).cell? ⟨m, 0, none⟩ = some (.int .i64 most)) := ⟨hg, hc1⟩
  have HK : Hid _ := hk
  clear hr hr1 hg hk hc hc1
  rcases rdBytes_p L most with ⟨hp, he⟩ | ⟨x, M, hp, he⟩
  · obtain ⟨er, her⟩ : ∃ er, er = (Wire.rdBytes L most).2.1 := ⟨_, rfl⟩
    have HS : Hid ((Wire.rdBytes L most).2.1 = er ∧ pBytes most L = none) := ⟨her.symm, hp⟩
    have hne : (er == 0) = false := by rw [her]; rcases he with he | he <;> rw [he] <;> rfl
    clear he hp her
    go_enter Tryz.func171, Tryz.ntmps171
    go_wp2_with (go_at_call 172; refine (inner172 b m g L most _ hm hz HG.out.1 HG.out.2).mono ?_)
    rw [HS.out.1]
    rintro e w1 ⟨v, rfl, _, _, h2⟩
    have F : Hid (w.grownBy w1 (some b)) := grown_trans (World.grownBy_alloc _ _ _) h2
    clear h2
    go_wp2_with (go_at_call 55; refine (sure_no _ _).mono ?_; rintro e w2 ⟨rfl, hw2⟩; rw [hw2]; clear hw2; unfold Pan)
    exact ⟨rfl, .inr ⟨HS.out.2, rfl, F.out⟩⟩
  · have HS : Hid (Wire.rdBytes L most = (x, 0, M) ∧ pBytes most L = some (x, M) ∧ (L = [] → M = [])) := ⟨he, hp, fun h => by
      obtain ⟨e1, _⟩ := pBytes_inv hp
      rw [h] at e1
      have := congrArg List.length e1
      have h2 := Wire.numForm_pos x.length
      simp [bytesForm] at this
      omega⟩
    clear he hp
    go_enter Tryz.func171, Tryz.ntmps171
    go_wp2_with (go_at_call 172; refine (inner172 b m g L most _ hm hz HG.out.1 HG.out.2).mono ?_)
    rw [HS.out.1]
    rintro e w1 ⟨v, rfl, h0, h1, h2⟩
    have F : Hid (RR w1 b M ∧ w.grownBy w1 (some b) ∧ Own w1 w.heap.size v x) := ⟨HK.out w1 _ h1 h2 HS.out.2.2, grown_trans (World.grownBy_alloc _ _ _) h2, h0.mono (by simp)⟩
    clear h1 h2 h0
    go_wp2_with (go_at_call 55; refine (sure_yes _ _).mono ?_; rintro e w2 ⟨rfl, hw2⟩; rw [hw2]; clear hw2)
    go_ret
    exact .inl ⟨x, _, _, HS.out.2.1, rfl, F.out.2.2, F.out.1, F.out.2.1⟩

set_option maxRecDepth 100000 in
set_option maxHeartbeats 1000000 in
theorem bytes135 (b : Nat) (L : Bs) (most : Nat) (w : World) (hm : most ≤ 9223372036854775807) (hz : L.length ≤ 140737488355328) (hr : RR w b L) :
    Calls Tryz.prog 135 #[rdV b, .int .i64 most] w (RdPost b w (pBytes most L) (fun x v w' => Own w' w.heap.size v x)) := by
  have HR : Hid (RR w b L) := hr
  clear hr
  have hmf : ∀ (fn : Fn) (first cap : Array Value) (w : World), (Instr.makeFunc fn first cap).run Tryz.prog w = .ok (.func fn first cap) w := fun _ _ _ _ => rfl
  have e0 : rdV b = .agg #[.pointer (some ⟨b, 0, none⟩)] := rfl
  rw [e0]
  go_enter Tryz.func135, Tryz.ntmps135
  go_wp2_with (go_at_call 171; refine (next171 b (w.heap.size + 1) L most _ hm hz (HR.out.grown (grown_trans (World.grownBy_alloc _ _ none) (World.grownBy_alloc _ _ none))) (by simp [go_sem])).mono ?_)
  rintro e w1 (⟨n, M, v, hx, rfl, h0, hR, hg⟩ | ⟨hx, rfl, hg⟩)
  · have F : Hid (pBytes most L = some (n, M) ∧ RR w1 b M ∧ w.grownBy w1 (some b) ∧ Own w1 w.heap.size v n) := ⟨hx, hR, grown_trans (grown_trans (World.grownBy_alloc _ _ _) (World.grownBy_alloc _ _ _)) hg, h0.mono (by simp; omega)⟩
    clear hx hR hg h0
    go_wp2_with fail
    go_ret
    exact .inl ⟨n, M, _, F.out.1, rfl, F.out.2.2.2, F.out.2.1, F.out.2.2.1⟩
  · have F : Hid (pBytes most L = none ∧ w.grownBy w1 (some b)) := ⟨hx, grown_trans (grown_trans (World.grownBy_alloc _ _ _) (World.grownBy_alloc _ _ _)) hg⟩
    clear hx hg
    unfold Pan
    go_wp2_with fail
    exact ⟨rfl, .inr ⟨F.out.1, rfl, F.out.2⟩⟩

theorem own_blk {w : World} {B : Nat} {v : Value} {L : Bs} (h : Own w B v L) {k : Nat} (hk : v.ownBlock = some k) : ∃ cur, Blk w k 5 cur := by
  rcases h.2 with ⟨rfl, _⟩ | ⟨g, c, cur, e, hb, hg, _⟩
  · simp [Value.ownBlock] at hk
  · subst e
    simp [Value.ownBlock] at hk
    subst hk
    exact ⟨cur, hg⟩

set_option maxRecDepth 100000 in
set_option maxHeartbeats 1000000 in
theorem open86 (v : Value) (L : Bs) (w : World) (hs : Seg w v L) (hsz : L.length ≤ 140737488355328) :
    Calls Tryz.prog 86 #[v] w fun e w' => ∃ b, e = .returned (.pointer (some ⟨b, 0, none⟩)) ∧ w.heap.size ≤ b ∧ RR w' b L ∧ w.grownBy w' none := by
  have HC : Hid _ := Wire.clone_any v L w hs hsz
  clear hs hsz
  go_enter Tryz.func86, Tryz.ntmps86
  go_wp2_with fail
  refine Calls.mono HC.out ?_
  rintro e w1 ⟨u, rfl, h1, h2⟩
  have h1' : Own w1 w.heap.size u L := h1
  obtain ⟨x, n, y, rfl⟩ := slice_of h1'
  have F : Hid (RR (w1.alloc (.cells #[.bool true, .slice x n y] 167)) w1.heap.size L) := ⟨_, heap_alloc_new w1 _, seg_alloc h1'.seg _, fun hne => by
    obtain ⟨k, hk⟩ := seg_own_ne h1'.seg hne
    obtain ⟨cur, hb⟩ := own_blk h1' hk
    exact ⟨k, cur, hk, hb.grown (World.grownBy_alloc _ _ none) (by simp)⟩⟩
  have G : Hid _ := h2
  clear h1 h1' h2 HC
  go_wp2_with fail
  go_ret
  exact ⟨w1.heap.size, rfl, G.out.size, F.out, grown_trans G.out (World.grownBy_alloc _ _ _)⟩

theorem end87 (b : Nat) (L : Bs) (w : World) (hr : RR w b L) : Calls Tryz.prog 87 #[.pointer (some ⟨b, 0, none⟩)] w fun e w' => e = .returned (.int .i64 (if L = [] then 0 else 4)) ∧ w' = w := by
  obtain ⟨s, h1, h2, _⟩ := hr
  exact Wire.end_any b s L w h1 h2
end Go.Proofs.YtfocmbnhkldnfaaGreatDoor
/-
  Rows of things of the call's own; ops whose lists are the call's own.
-/
namespace Go.Proofs.YtfocmbnhkldnfaaGreatDoor
open Go.RowKit Disk
open Names (Str)
open Wire (RdB RdG)

theorem own_set {w w' : World} {B x t : Nat} {c : Array Value} {v : Value} {L : Bs} (h : Own w B v L) (hx : Blk w x t c) (ht : t ≠ 5) (hg : w.grownBy w' (some x)) : Own w' B v L :=
  h.same fun k hk => hg.block k (h.lt k hk).2 (fun e => h.other hx ht (by rw [hk, e]))

section
variable {α : Type}
/-- A row of things of the call's own: each in c cells of a block of type t. -/
def LRow (t c : Nat) (R : World → List Value → α → Prop) (w : World) (B : Nat) (v : Value) (l : List α) : Prop :=
  ∃ vs : List (List Value), w.ownsRow B t c v l.length vs.flatten ∧ vs.length = l.length ∧ (∀ x ∈ vs, x.length = c) ∧ ∀ j (h : j < vs.length) (h' : j < l.length), R w vs[j] l[j]

/-- What is said of a thing stays said while blocks of other types than those of T are written. -/
def Stab (T : Nat → Prop) (R : World → List Value → α → Prop) : Prop := (∀ w w' vs x, R w vs x → w.grownBy w' none → R w' vs x) ∧ (∀ w w' vs x g t cur, R w vs x → Blk w g t cur → ¬ T t → w.grownBy w' (some g) → R w' vs x)

variable {t c : Nat} {R : World → List Value → α → Prop} {T : Nat → Prop}
theorem lrow_nil (w : World) (B : Nat) : LRow t c R w B (.slice none 0 0) [] := ⟨[], World.ownsRow_nil _ _ _ _, rfl, by simp, fun j h => absurd h (by simp)⟩
theorem owns_grown {w w' : World} {B n : Nat} {v : Value} {xs : List Value} (h : w.ownsRow B t c v n xs) (hg : w.grownBy w' none) : w'.ownsRow B t c v n xs := h.kept hg (by cases v.ownBlock <;> simp)
theorem owns_blk {w : World} {B n : Nat} {v : Value} {xs : List Value} (h : w.ownsRow B t c v n xs) {k : Nat} (hk : v.ownBlock = some k) : ∃ cur, Blk w k t cur := by
  rcases h.2 with ⟨rfl, _⟩ | ⟨g, cp, cur, e, hb, hg, _⟩
  · simp [Value.ownBlock] at hk
  · subst e
    simp [Value.ownBlock] at hk
    subst hk
    exact ⟨cur, hg⟩
theorem owns_set {w w' : World} {B n x t' : Nat} {v : Value} {xs : List Value} {cc : Array Value} (h : w.ownsRow B t c v n xs) (hx : Blk w x t' cc) (ht : t' ≠ t) (hg : w.grownBy w' (some x)) : w'.ownsRow B t c v n xs := by
  refine h.kept hg ?_
  cases hv : v.ownBlock with
  | none => simp
  | some k =>
    obtain ⟨cur, hb⟩ := owns_blk h hv
    refine .inr fun e => ?_
    simp at e
    subst e
    exact ht (blk_type hx hb)
theorem LRow.grown {w w' : World} {B : Nat} {v : Value} {l : List α} (h : LRow t c R w B v l) (hs : Stab T R) (hg : w.grownBy w' none) : LRow t c R w' B v l := by
  obtain ⟨vs, h1, h2, h3, h4⟩ := h
  exact ⟨vs, owns_grown h1 hg, h2, h3, fun j hj hj' => hs.1 _ _ _ _ (h4 j hj hj') hg⟩
theorem LRow.set {w w' : World} {B x t' : Nat} {v : Value} {l : List α} {cc : Array Value} (h : LRow t c R w B v l) (hs : Stab T R) (hx : Blk w x t' cc) (ht : t' ≠ t) (hT : ¬ T t') (hg : w.grownBy w' (some x)) : LRow t c R w' B v l := by
  obtain ⟨vs, h1, h2, h3, h4⟩ := h
  exact ⟨vs, owns_set h1 hx ht hg, h2, h3, fun j hj hj' => hs.2 _ _ _ _ _ _ _ (h4 j hj hj') hx hT hg⟩
theorem LRow.shape {w : World} {B : Nat} {v : Value} {l : List α} (h : LRow t c R w B v l) : ∃ x y, v = .slice x l.length y := by
  obtain ⟨vs, h1, _⟩ := h
  rcases h1.2 with ⟨rfl, h0⟩ | ⟨g, cap, cur, rfl, _⟩
  · exact ⟨none, 0, by rw [h0]⟩
  · exact ⟨_, _, rfl⟩
theorem LRow.lt {w : World} {B : Nat} {v : Value} {l : List α} (h : LRow t c R w B v l) : ∀ k, v.ownBlock = some k → B ≤ k ∧ k < w.heap.size := by
  obtain ⟨vs, h1, _⟩ := h
  exact fun k hk => World.ownsRow.lt h1 k hk
theorem LRow.mono {w : World} {B B' : Nat} {v : Value} {l : List α} (h : LRow t c R w B v l) (hB : B' ≤ B) : LRow t c R w B' v l := by
  obtain ⟨vs, h1, h2⟩ := h
  refine ⟨vs, ⟨h1.1, ?_⟩, h2⟩
  rcases h1.2 with h0 | ⟨g, cap, cur, e, hb, hg⟩
  · exact .inl h0
  · exact .inr ⟨g, cap, cur, e, by omega, hg⟩
/-- One more. -/
theorem LRow.snoc {w w' : World} {B : Nat} {v v' : Value} {vs : List (List Value)} {l : List α} {x : List Value} {a : α} (hs : Stab T R) (hT : ¬ T t) (h1 : w.ownsRow B t c v l.length vs.flatten) (h2 : vs.length = l.length) (h3 : ∀ x ∈ vs, x.length = c) (h4 : ∀ j (h : j < vs.length) (h' : j < l.length), R w vs[j] l[j])
    (hx : x.length = c) (ha : R w x a) (hg : w.grownBy w' v.ownBlock) (hr : w'.ownsRow B t c v' (l.length + 1) (vs.flatten ++ x)) : LRow t c R w' B v' (l ++ [a]) := by
  have keep : ∀ {y b}, R w y b → R w' y b := by
    intro y b hy
    cases hv : v.ownBlock with
    | none => rw [hv] at hg; exact hs.1 _ _ _ _ hy hg
    | some k =>
      rw [hv] at hg
      obtain ⟨cur, hb⟩ := owns_blk h1 hv
      exact hs.2 _ _ _ _ _ _ _ hy hb hT hg
  refine ⟨vs ++ [x], by simpa using hr, by simp [h2], ?_, fun j hj hj' => ?_⟩
  · intro y hy
    simp at hy
    rcases hy with hy | rfl
    · exact h3 y hy
    · exact hx
  · by_cases hlt : j < vs.length
    · rw [List.getElem_append_left hlt, List.getElem_append_left (by omega)]
      exact keep (h4 j hlt (by omega))
    · have e1 : j = vs.length := by simp at hj; omega
      subst e1
      have e2 : (vs ++ [x])[vs.length] = x := by simp
      have e3 : (l ++ [a])[vs.length]'hj' = a := by simp [h2]
      rw [e2, e3]
      exact keep ha

theorem flatten_get {c : Nat} : ∀ (vs : List (List Value)) (j i : Nat) (_h3 : ∀ x ∈ vs, x.length = c) (hj : j < vs.length) (_hi : i < c), vs.flatten[j * c + i]? = vs[j][i]?
  | [], j, i, _, hj, _ => absurd hj (by simp)
  | x :: vs, 0, i, h3, _, hi => by
    have hx := h3 x (by simp)
    simp only [List.flatten_cons, Nat.zero_mul, Nat.zero_add, List.getElem_cons_zero]
    rw [List.getElem?_append_left (by omega)]
  | x :: vs, j + 1, i, h3, hj, hi => by
    have hx := h3 x (by simp)
    simp only [List.flatten_cons, List.getElem_cons_succ]
    rw [List.getElem?_append_right (by rw [hx, Nat.add_mul]; omega)]
    have := flatten_get vs j i (fun y hy => h3 y (by simp [hy])) (by simpa using hj) hi
    rw [← this]
    congr 1
    rw [hx, Nat.add_mul]; omega
/-- The cells of a thing. -/
theorem LRow.cell {w : World} {B : Nat} {v : Value} {l : List α} (h : LRow t c R w B v l) (j : Nat) (hj : j < l.length) : ∃ g cap x, v = .slice (some ⟨g, 0, none⟩) l.length cap ∧ x.length = c ∧ R w x l[j] ∧ B ≤ g ∧ Blk w g t (w.heap[g]?.map (fun o => match o with | .cells cs _ _ => cs | _ => #[])|>.getD #[]) ∧ ∀ i (_hi : i < c), w.cell? ⟨g, j * c + i, none⟩ = x[i]? := by
  obtain ⟨vs, h1, h2, h3, h4⟩ := h
  rcases h1.2 with ⟨_, h0⟩ | ⟨g, cap, cur, e, hb, hg, q1, q2, q3, q4⟩
  · omega
  · have hr : w.ownsRow B t c (.slice (some ⟨g, 0, none⟩) l.length cap) l.length vs.flatten := by rw [← e]; exact h1
    refine ⟨g, cap, vs[j]'(by omega), e, h3 _ (List.getElem_mem _), h4 j (by omega) hj, hb, by rw [hg]; exact hg, fun i hi => ?_⟩
    have hlt : j * c + i < l.length * c := by
      have : (j + 1) * c ≤ l.length * c := Nat.mul_le_mul_right c (by omega)
      rw [Nat.add_mul] at this; omega
    rw [hr.cellAt (j * c + i) hlt]
    exact flatten_get vs j i h3 (by omega) hi
end

theorem cut_slice {w : World} {B : Nat} {v : Value} {L : Bs} (h : Names.Cut w B v L) : ∃ x n y, v = .slice x n y := by obtain ⟨x, y, e⟩ := h.seg.shape; exact ⟨x, _, y, e⟩
theorem cut_set {w w' : World} {B x t : Nat} {c : Array Value} {v : Value} {L : Bs} (h : Names.Cut w B v L) (hx : Blk w x t c) (ht : t ≠ 5) (hg : w.grownBy w' (some x)) : Names.Cut w' B v L := by
  rcases h with h | ⟨g, cap, rfl, h⟩
  · exact .inl (own_set h hx ht hg)
  · exact .inr ⟨g, cap, rfl, own_set h hx ht hg⟩

/-- The lists of an op are the call's own. -/
structure OpOwn (w : World) (B : Nat) (k v ol t : Value) (o : POp) : Prop where
  key : Names.Cut w B k o.key
  value : Names.Cut w B v o.value
  old : Names.Cut w B ol o.old
  tos : Names.Cut w B t o.to
  fits : OpIn o
theorem OpOwn.seg {w : World} {B : Nat} {k v ol t : Value} {o : POp} (h : OpOwn w B k v ol t o) : OpSeg w k v ol t o := ⟨h.key.seg, h.value.seg, h.old.seg, h.tos.seg, h.fits⟩
theorem OpOwn.grown {w w' : World} {B : Nat} {k v ol t : Value} {o : POp} (h : OpOwn w B k v ol t o) (hg : w.grownBy w' none) : OpOwn w' B k v ol t o := ⟨h.key.grown hg, h.value.grown hg, h.old.grown hg, h.tos.grown hg, h.fits⟩
theorem OpOwn.mono {w : World} {B B' : Nat} {k v ol t : Value} {o : POp} (h : OpOwn w B k v ol t o) (hB : B' ≤ B) : OpOwn w B' k v ol t o := ⟨h.key.mono hB, h.value.mono hB, h.old.mono hB, h.tos.mono hB, h.fits⟩
theorem OpOwn.set {w w' : World} {B x t' : Nat} {c : Array Value} {k v ol t : Value} {o : POp} (h : OpOwn w B k v ol t o) (hx : Blk w x t' c) (ht : t' ≠ 5) (hg : w.grownBy w' (some x)) : OpOwn w' B k v ol t o :=
  ⟨cut_set h.key hx ht hg, cut_set h.value hx ht hg, cut_set h.old hx ht hg, cut_set h.tos hx ht hg, h.fits⟩

/-- The cells of an op of one's own. -/
def OpR (B : Nat) (w : World) (x : List Value) (o : POp) : Prop := ∃ k v ol t, x = [.int .i64 o.kind, Str o.table, k, v, .bool o.has, ol, t, .int .i64 o.most] ∧ OpOwn w B k v ol t o
theorem opR_stab (B : Nat) : Stab (fun t => t = 5) (OpR B) := by
  refine ⟨fun w w' vs x h hg => ?_, fun w w' vs x g t cur h hb ht hg => ?_⟩
  · obtain ⟨k, v, ol, t, e, h⟩ := h
    exact ⟨k, v, ol, t, e, h.grown hg⟩
  · obtain ⟨k, v, ol, t', e, h⟩ := h
    exact ⟨k, v, ol, t', e, h.set hb ht hg⟩
/-- Ops of the call's own. -/
def OpsOwn (w : World) (B : Nat) (v : Value) (l : List POp) : Prop := LRow 71 8 (OpR B) w B v l ∧ l.length ≤ 1099511627776
theorem OpsOwn.ops {w : World} {B : Nat} {v : Value} {l : List POp} (h : OpsOwn w B v l) : Ops w v l := by
  obtain ⟨h, hl⟩ := h
  obtain ⟨x, y, e⟩ := h.shape
  refine ⟨x, y, e, hl, fun j hj => ?_⟩
  obtain ⟨g, cap, cs, e2, hlen, ⟨k, v', ol, t, rfl, ho⟩, _, _, hc⟩ := h.cell j hj
  rw [e] at e2
  simp at e2
  refine ⟨g, 0, k, v', ol, t, e2.1, ?_, ho.seg⟩
  rw [Nat.zero_add]
  exact ⟨hc 0 (by omega), hc 1 (by omega), hc 2 (by omega), hc 3 (by omega), hc 4 (by omega), hc 5 (by omega), hc 6 (by omega), hc 7 (by omega)⟩
theorem OpsOwn.grown {w w' : World} {B : Nat} {v : Value} {l : List POp} (h : OpsOwn w B v l) (hg : w.grownBy w' none) : OpsOwn w' B v l := ⟨h.1.grown (opR_stab B) hg, h.2⟩
theorem OpsOwn.set {w w' : World} {B x t' : Nat} {v : Value} {l : List POp} {cc : Array Value} (h : OpsOwn w B v l) (hx : Blk w x t' cc) (h1 : t' ≠ 71) (h2 : t' ≠ 5) (hg : w.grownBy w' (some x)) : OpsOwn w' B v l := ⟨h.1.set (opR_stab B) hx h1 h2 hg, h.2⟩
theorem OpsOwn.mono {w : World} {B B' : Nat} {v : Value} {l : List POp} (h : OpsOwn w B v l) (hB : B' ≤ B) : OpsOwn w B' v l := by
  obtain ⟨⟨vs, h1, h2, h3, h4⟩, hl⟩ := h
  refine ⟨LRow.mono ⟨vs, h1, h2, h3, fun j hj hj' => ?_⟩ hB, hl⟩
  obtain ⟨k, v, ol, t, e, ho⟩ := h4 j hj hj'
  exact ⟨k, v, ol, t, e, ho.mono hB⟩
end Go.Proofs.YtfocmbnhkldnfaaGreatDoor
/-
  An op is read, or it is given up.
-/
namespace Go.Proofs.YtfocmbnhkldnfaaGreatDoor
open Go.RowKit Disk
open Names (Str)
open Wire (RdB RdG)

/-- What is one's own stays. -/
def Keep (w w' : World) : Prop := ∀ B v L, Own w B v L → Own w' B v L
theorem Keep.trans {a b c : World} (h : Keep a b) (k : Keep b c) : Keep a c := fun B v L x => k B v L (h B v L x)
theorem keep_set {w w' : World} {x t : Nat} {c : Array Value} (hx : Blk w x t c) (ht : t ≠ 5) (hg : w.grownBy w' (some x)) : Keep w w' := fun _ _ _ h => own_set h hx ht hg

theorem number109_int (x : Int) (b : Nat) (L : Bs) (most : Nat) (hx : x = most) (w : World) (hm : most ≤ 9223372036854775807) (hr : RR w b L) :
    Calls Tryz.prog 109 #[rdV b, .int .i64 x] w (RdPost b w (pNum most L) (fun n v _ => v = .int .i64 n ∧ n ≤ most)) := by subst hx; exact number109 b L most w hm hr
theorem bytes135_int (x : Int) (b : Nat) (L : Bs) (most : Nat) (hx : x = most) (w : World) (hm : most ≤ 9223372036854775807) (hz : L.length ≤ 140737488355328) (hr : RR w b L) :
    Calls Tryz.prog 135 #[rdV b, .int .i64 x] w (RdPost b w (pBytes most L) (fun x v w' => Own w' w.heap.size v x)) := by subst hx; exact bytes135 b L most w hm hz hr

/-- While an op is read: the reader, its box, the op's own block. -/
structure Mid (w w1 : World) (b x : Nat) (L : Bs) (cs : Array Value) : Prop where
  rr : RR w1 b L
  box : Blk w1 w.heap.size 86 #[.pointer (some ⟨b, 0, none⟩)]
  res : Blk w1 (w.heap.size + 1) 71 #[.int .i64 0, .string ⟨#[]⟩, .slice none 0 0, .slice none 0 0, .bool false, .slice none 0 0, .slice none 0 0, .int .i64 0]
  op : Blk w1 x 71 cs
  grow : w.grownBy w1 (some b)
  far : w.heap.size + 1 < x
theorem Mid.call {w w1 w2 : World} {b x : Nat} {L M : Bs} {cs : Array Value} (h : Mid w w1 b x L cs) (hr : RR w2 b M) (hg : w1.grownBy w2 (some b)) : Mid w w2 b x M cs :=
  ⟨hr, h.box.grown hg (fun e => h.rr.ne h.box (by decide) (by simpa using e.symm)), h.res.grown hg (fun e => h.rr.ne h.res (by decide) (by simpa using e.symm)), h.op.grown hg (fun e => h.rr.ne h.op (by decide) (by simpa using e.symm)), grown_trans h.grow hg, h.far⟩
theorem Mid.keep {w w1 w2 : World} {b x : Nat} {L : Bs} {cs : Array Value} (h : Mid w w1 b x L cs) (hg : w1.grownBy w2 (some b)) : Keep w1 w2 := by
  obtain ⟨s, hs⟩ := h.rr.blk
  exact keep_set hs (by decide) hg
theorem Mid.store {w w1 : World} {b x : Nat} {L : Bs} {cs : Array Value} (h : Mid w w1 b x L cs) (i : Nat) (v : Value) : Mid w (w1.setCell ⟨x, i, none⟩ v) b x L (cs.setIfInBounds i v) :=
  have hg := grown_setCell w1 x i v
  ⟨h.rr.set h.op hg (by decide) (by decide), h.box.grown hg (fun e => by have := h.far; simp at e; omega), h.res.grown hg (fun e => by have := h.far; simp at e; omega), h.op.store i v, grown_new h.grow hg (fun y hy => by simp at hy; have := h.far; omega), h.far⟩
theorem Mid.skeep {w w1 : World} {b x : Nat} {L : Bs} {cs : Array Value} (h : Mid w w1 b x L cs) (i : Nat) (v : Value) : Keep w1 (w1.setCell ⟨x, i, none⟩ v) := keep_set h.op (by decide) (grown_setCell _ _ _ _)

/-- An op was read. -/
def OpTold (w : World) (o : POp) (v : Value) (w' : World) : Prop := ∃ k x ol t, v = opV k x ol t o ∧ OpOwn w' w.heap.size k x ol t o

theorem pOp_len {L M : Bs} {k : Nat} {most : Nat} (h : pNum most L = some (k, M)) : M.length ≤ L.length := by
  obtain ⟨e, _⟩ := pNum_inv h
  rw [e]; simp
theorem pBytes_len {L M x : Bs} {most : Nat} (h : pBytes most L = some (x, M)) : M.length ≤ L.length := by
  obtain ⟨e, _⟩ := pBytes_inv h
  rw [e]; simp
theorem pFlag_len {L M : Bs} {f : Bool} (h : pFlag L = some (f, M)) : M.length ≤ L.length := by
  rw [pFlag_inv h]; simp

theorem cells8 {w : World} {b t : Nat} {a0 a1 a2 a3 a4 a5 a6 a7 : Value} (h : Blk w b t #[a0, a1, a2, a3, a4, a5, a6, a7]) : w.cell? ⟨b, 0, none⟩ = some a0 ∧ w.cell? ⟨b, 1, none⟩ = some a1 ∧ w.cell? ⟨b, 2, none⟩ = some a2 ∧ w.cell? ⟨b, 3, none⟩ = some a3 ∧ w.cell? ⟨b, 4, none⟩ = some a4 ∧ w.cell? ⟨b, 5, none⟩ = some a5 ∧ w.cell? ⟨b, 6, none⟩ = some a6 ∧ w.cell? ⟨b, 7, none⟩ = some a7 :=
  ⟨h.cell 0, h.cell 1, h.cell 2, h.cell 3, h.cell 4, h.cell 5, h.cell 6, h.cell 7⟩
theorem frees8 {w : World} {b t : Nat} {c : Array Value} (h : Blk w b t c) : w.frozen? ⟨b, 0, none⟩ = false ∧ w.frozen? ⟨b, 1, none⟩ = false ∧ w.frozen? ⟨b, 2, none⟩ = false ∧ w.frozen? ⟨b, 3, none⟩ = false ∧ w.frozen? ⟨b, 4, none⟩ = false ∧ w.frozen? ⟨b, 5, none⟩ = false ∧ w.frozen? ⟨b, 6, none⟩ = false ∧ w.frozen? ⟨b, 7, none⟩ = false :=
  ⟨h.free 0, h.free 1, h.free 2, h.free 3, h.free 4, h.free 5, h.free 6, h.free 7⟩
theorem grown8 (w : World) (b : Nat) (a0 a1 a2 a3 a4 a5 a6 a7 : Value) : w.grownBy ((((((((w.setCell ⟨b, 0, none⟩ a0).setCell ⟨b, 1, none⟩ a1).setCell ⟨b, 2, none⟩ a2).setCell ⟨b, 3, none⟩ a3).setCell ⟨b, 4, none⟩ a4).setCell ⟨b, 5, none⟩ a5).setCell ⟨b, 6, none⟩ a6).setCell ⟨b, 7, none⟩ a7) (some b) :=
  grown_trans (grown_trans (grown_trans (grown_trans (grown_trans (grown_trans (grown_trans (grown_setCell _ _ _ _) (grown_setCell _ _ _ _)) (grown_setCell _ _ _ _)) (grown_setCell _ _ _ _)) (grown_setCell _ _ _ _)) (grown_setCell _ _ _ _)) (grown_setCell _ _ _ _)) (grown_setCell _ _ _ _)

theorem pRest2 {t key L v M : Bs} (h : pBytes 256 L = some (v, M)) : pRest 2 t key L = some (⟨2, t, key, v, false, [], [], 0⟩, M) := by unfold pRest; simp [h]
theorem pRest4 {t key L o v M M1 M2 : Bs} {f : Bool} (h : pFlag L = some (f, M1)) (h1 : pBytes 256 M1 = some (o, M2)) (h2 : pBytes 256 M2 = some (v, M)) : pRest 4 t key L = some (⟨4, t, key, v, f, o, [], 0⟩, M) := by unfold pRest; simp [h, h1, h2]
theorem pRest5 {t key L x M M1 : Bs} {m : Nat} (h : pBytes 64 L = some (x, M1)) (h1 : pNum 64 M1 = some (m, M)) : pRest 5 t key L = some (⟨5, t, key, [], false, [], x, m⟩, M) := by unfold pRest; simp [h, h1]
theorem pRest0 {n : Nat} {t key L : Bs} (h2 : n ≠ 2) (h4 : n ≠ 4) (h5 : n ≠ 5) : pRest n t key L = some (⟨n, t, key, [], false, [], [], 0⟩, L) := by unfold pRest; simp [h2, h4, h5]
theorem pOp_of {L L1 L2 L3 M t key : Bs} {n : Nat} {o : POp} (h1 : pNum 5 L = some (n, L1)) (h2 : pBytes 16 L1 = some (t, L2)) (h3 : pBytes 64 L2 = some (key, L3)) (h4 : pRest n t key L3 = some (o, M)) : pOp L = if mayOp o = true then some (o, M) else none := by unfold pOp; simp [h1, h2, h3, h4]
theorem pOp_no {L L1 L2 L3 t key : Bs} {n : Nat} (h1 : pNum 5 L = some (n, L1)) (h2 : pBytes 16 L1 = some (t, L2)) (h3 : pBytes 64 L2 = some (key, L3)) (h4 : pRest n t key L3 = none) : pOp L = none := by unfold pOp; simp [h1, h2, h3, h4]

set_option maxRecDepth 100000 in
set_option maxHeartbeats 8000000 in
theorem op89 (b : Nat) (L : Bs) (w : World) (hz : L.length ≤ 140737488355328) (hr : RR w b L) :
    Calls Tryz.prog 89 #[rdV b] w (RdPost b w (pOp L) (OpTold w)) := by
  have HR0 : Hid (RR w b L) := hr
  have hblt : b < w.heap.size := by obtain ⟨s, hs⟩ := hr.blk; exact hs.lt
  clear hr
  have e0 : rdV b = .agg #[.pointer (some ⟨b, 0, none⟩)] := rfl
  rw [e0]
  go_enter Tryz.func89, Tryz.ntmps89
  go_wp2_with (go_at_call 109; refine (number109_int _ b L 5 rfl _ (by decide) (HR0.out.grown (grown_trans (World.grownBy_alloc _ _ none) (World.grownBy_alloc _ _ none)))).mono ?_)
  intro e w1 h
  rcases h.symm with ⟨hx, rfl, hg⟩ | ⟨n, L1, v, hx, rfl, ⟨rfl, hn⟩, hR, hg⟩
  · have F : Hid (pOp L = none ∧ w.grownBy w1 (some b)) := ⟨by unfold pOp; rw [hx]; rfl, grown_trans (grown_trans (World.grownBy_alloc _ _ _) (World.grownBy_alloc _ _ _)) hg⟩
    clear hx hg h
    unfold Pan
    go_wp2_with fail
    exact ⟨rfl, .inr ⟨F.out.1, rfl, F.out.2⟩⟩
  clear h
  obtain ⟨X, hX⟩ : ∃ X, X = w1.heap.size := ⟨_, rfl⟩
  have HM : Hid (Mid w (w1.alloc (.cells #[.int .i64 n, .string ⟨#[]⟩, .slice none 0 0, .slice none 0 0, .bool false, .slice none 0 0, .slice none 0 0, .int .i64 0] 71)) b X L1 #[.int .i64 n, .string ⟨#[]⟩, .slice none 0 0, .slice none 0 0, .bool false, .slice none 0 0, .slice none 0 0, .int .i64 0]) := by
    have hA : Blk w1 w.heap.size 86 #[.pointer (some ⟨b, 0, none⟩)] := Blk.grown (Blk.grown (heap_alloc_new w _) (World.grownBy_alloc _ _ none) (by simp)) hg (fun e => by simp at e; omega)
    have hB : Blk w1 (w.heap.size + 1) 71 #[.int .i64 0, .string ⟨#[]⟩, .slice none 0 0, .slice none 0 0, .bool false, .slice none 0 0, .slice none 0 0, .int .i64 0] := by
      have := Blk.grown (heap_alloc_new (w.alloc (.cells #[.pointer (some ⟨b, 0, none⟩)] 86)) (.cells #[.int .i64 0, .string ⟨#[]⟩, .slice none 0 0, .slice none 0 0, .bool false, .slice none 0 0, .slice none 0 0, .int .i64 0] 71)) hg (fun e => by simp at e; omega)
      simpa using this
    refine ⟨hR.grown (World.grownBy_alloc _ _ none), hA.grown (World.grownBy_alloc _ _ none) (by simp), hB.grown (World.grownBy_alloc _ _ none) (by simp), by rw [hX]; exact heap_alloc_new w1 _, grown_trans (grown_trans (grown_trans (World.grownBy_alloc _ _ _) (World.grownBy_alloc _ _ _)) hg) (World.grownBy_alloc _ _ _), ?_⟩
    have := hg.size
    simp at this
    omega
  have HN : Hid (pNum 5 L = some (n, L1) ∧ n ≤ 5) := ⟨hx, hn⟩
  have hz1 : L1.length ≤ 140737488355328 := Nat.le_trans (pOp_len hx) hz
  clear hx hR hg hn
  have kb := HM.out.box.cell 0
  go_wp2_with (go_at_call 135; refine (bytes135_int _ b L1 16 rfl _ (by decide) hz1 HM.out.rr).mono ?_)
  rw [← hX]
  generalize (w1.alloc (.cells #[.int .i64 n, .string ⟨#[]⟩, .slice none 0 0, .slice none 0 0, .bool false, .slice none 0 0, .slice none 0 0, .int .i64 0] 71)) = W1 at HM kb ⊢
  clear hX kb
  intro e w2 h
  rcases h.symm with ⟨hx, rfl, hg⟩ | ⟨tb, L2, v2, hx, rfl, ho, hR, hg⟩
  · have F : Hid (pOp L = none ∧ w.grownBy w2 (some b)) := ⟨by unfold pOp; rw [HN.out.1]; simp [hx], grown_trans HM.out.grow hg⟩
    clear hx hg h
    unfold Pan
    go_wp2_with fail
    exact ⟨rfl, .inr ⟨F.out.1, rfl, F.out.2⟩⟩
  clear h
  have HT : Hid (pBytes 16 L1 = some (tb, L2) ∧ tb.length ≤ 16) := ⟨hx, (pBytes_inv hx).2⟩
  have hz2 : L2.length ≤ 140737488355328 := Nat.le_trans (pBytes_len hx) hz1
  have cv := seg_str ho.seg
  have HM2 := HM.out.call hR hg
  have kb := HM2.box.cell 0
  have k1 := HM2.op.cell 1
  have z1 := HM2.op.free 1
  have HM3 := HM2.store 1 (.string ⟨tb.toArray⟩)
  have kb3 := HM3.box.cell 0
  have HM : Hid (Mid w (w2.setCell ⟨X, 1, none⟩ (.string ⟨tb.toArray⟩)) b X L2 #[.int .i64 n, .string ⟨tb.toArray⟩, .slice none 0 0, .slice none 0 0, .bool false, .slice none 0 0, .slice none 0 0, .int .i64 0]) := HM3
  clear hx ho hR hg HM2 HM3
  go_wp2_with (go_at_call 135; refine (bytes135_int _ b L2 64 rfl _ (by decide) hz2 HM.out.rr).mono ?_)
  clear kb k1 z1 cv kb3
  generalize (w2.setCell ⟨X, 1, none⟩ (.string ⟨tb.toArray⟩)) = W2 at HM ⊢
  intro e w3 h
  rcases h.symm with ⟨hx, rfl, hg⟩ | ⟨ky, L3, v3, hx, rfl, ho, hR, hg⟩
  · have F : Hid (pOp L = none ∧ w.grownBy w3 (some b)) := ⟨by unfold pOp; rw [HN.out.1]; simp [HT.out.1, hx], grown_trans HM.out.grow hg⟩
    clear hx hg h
    unfold Pan
    go_wp2_with fail
    exact ⟨rfl, .inr ⟨F.out.1, rfl, F.out.2⟩⟩
  clear h
  have HY : Hid (pBytes 64 L2 = some (ky, L3)) := hx
  have hz3 : L3.length ≤ 140737488355328 := Nat.le_trans (pBytes_len hx) hz2
  obtain ⟨x3, n3, y3, rfl⟩ := slice_of ho
  have HM2 := HM.out.call hR hg
  have k2 := HM2.op.cell 2
  have z2 := HM2.op.free 2
  have hw := HM.out.grow.size
  have HM3 := HM2.store 2 (.slice x3 n3 y3)
  have ho2 := HM2.skeep 2 (.slice x3 n3 y3) _ _ _ (ho.mono hw)
  have kb := HM3.box.cell 0
  have kn := HM3.op.cell 0
  have HM : Hid (Mid w (w3.setCell ⟨X, 2, none⟩ (.slice x3 n3 y3)) b X L3 #[.int .i64 n, .string ⟨tb.toArray⟩, .slice x3 n3 y3, .slice none 0 0, .bool false, .slice none 0 0, .slice none 0 0, .int .i64 0] ∧ Own (w3.setCell ⟨X, 2, none⟩ (.slice x3 n3 y3)) w.heap.size (.slice x3 n3 y3) ky) := ⟨HM3, ho2⟩
  clear hx ho hR hg HM2 HM3 ho2 hw
  by_cases h2 : n = 2
  · subst h2
    go_wp2_with (go_at_call 135; refine (bytes135_int _ b L3 256 rfl _ (by decide) hz3 HM.out.1.rr).mono ?_)
    clear kb k2 z2 kn
    generalize (w3.setCell ⟨X, 2, none⟩ (.slice x3 n3 y3)) = W3 at HM ⊢
    intro e w4 h
    rcases h.symm with ⟨hx, rfl, hg⟩ | ⟨vl, M9, v4, hx, rfl, ho, hR, hg⟩
    · have F : Hid (pOp L = none ∧ w.grownBy w4 (some b)) := ⟨pOp_no HN.out.1 HT.out.1 HY.out (by unfold pRest; simp [hx]), grown_trans HM.out.1.grow hg⟩
      clear hx hg h
      unfold Pan
      go_wp2_with fail
      exact ⟨rfl, .inr ⟨F.out.1, rfl, F.out.2⟩⟩
    clear h
    obtain ⟨x4, n4, y4, rfl⟩ := slice_of ho
    have HR : Hid (pOp L = if mayOp ⟨2, tb, ky, vl, false, [], [], 0⟩ = true then some (⟨2, tb, ky, vl, false, [], [], 0⟩, M9) else none) := pOp_of HN.out.1 HT.out.1 HY.out (pRest2 hx)
    have HM2 := HM.out.1.call hR hg
    have k3 := HM2.op.cell 3
    have z3 := HM2.op.free 3
    have hw := HM.out.1.grow.size
    have HM3 := HM2.store 3 (.slice x4 n4 y4)
    have ho2 := HM2.skeep 3 (.slice x4 n4 y4) _ _ _ (ho.mono hw)
    have ho3 := HM2.skeep 3 (.slice x4 n4 y4) _ _ _ (HM.out.1.keep hg _ _ _ HM.out.2)
    have HP : Hid (OpOwn (w4.setCell ⟨X, 3, none⟩ (.slice x4 n4 y4)) w.heap.size (.slice x3 n3 y3) (.slice x4 n4 y4) (.slice none 0 0) (.slice none 0 0) ⟨2, tb, ky, vl, false, [], [], 0⟩) := ⟨.inl ho3, .inl ho2, .inl (Own.nil _ _), .inl (Own.nil _ _), ⟨by simp, by simp, by simp, by simp, by have := HT.out.2; simp; omega⟩⟩
    have HM : Hid (Mid w (w4.setCell ⟨X, 3, none⟩ (.slice x4 n4 y4)) b X M9 #[.int .i64 2, .string ⟨tb.toArray⟩, .slice x3 n3 y3, .slice x4 n4 y4, .bool false, .slice none 0 0, .slice none 0 0, .int .i64 0]) := HM3
    clear hx ho hR hg HM2 HM3 ho2 ho3 hw
    obtain ⟨k0, k1, k2, k3, k4, k5, k6, k7⟩ := cells8 HM.out.op
    go_wp2_with (go_at_call 120; refine (may120_of _ _ _ _ _ (⟨2, tb, ky, vl, false, [], [], 0⟩ : POp) _ rfl HP.out.seg).mono ?_)
    rintro e w9 ⟨rfl, hg9⟩
    have HM9 : Hid (Mid w w9 b X M9 _) := ⟨HM.out.rr.grown hg9, HM.out.box.grown hg9 (by simp), HM.out.res.grown hg9 (by simp), HM.out.op.grown hg9 (by simp), grown_trans HM.out.grow (grown_weak hg9 _), HM.out.far⟩
    have HP9 : Hid (OpOwn w9 w.heap.size (.slice x3 n3 y3) (.slice x4 n4 y4) (.slice none 0 0) (.slice none 0 0) (⟨2, tb, ky, vl, false, [], [], 0⟩ : POp)) := HP.out.grown hg9
    clear hg9 k0 k1 k2 k3 k4 k5 k6 k7
    cases hmay : mayOp (⟨2, tb, ky, vl, false, [], [], 0⟩ : POp) with
    | true =>
      have HQ : Hid (pOp L = some ((⟨2, tb, ky, vl, false, [], [], 0⟩ : POp), M9)) := by rw [HR.out]; simp [hmay, Hid]
      clear hmay
      obtain ⟨k0, k1, k2, k3, k4, k5, k6, k7⟩ := cells8 HM9.out.op
      obtain ⟨r0, r1, r2, r3, r4, r5, r6, r7⟩ := cells8 HM9.out.res
      obtain ⟨z0, z1, z2, z3, z4, z5, z6, z7⟩ := frees8 HM9.out.res
      go_wp2_with (go_at_call 55; refine (sure_yes _ _).mono ?_; rintro e w2 ⟨rfl, hw2⟩; rw [hw2]; clear hw2)
      have hb := (((((((HM9.out.res.store 0 (.int .i64 2)).store 1 (.string ⟨tb.toArray⟩)).store 2 (.slice x3 n3 y3)).store 3 (.slice x4 n4 y4)).store 4 (.bool false)).store 5 (.slice none 0 0)).store 6 (.slice none 0 0)).store 7 (.int .i64 0)
      refine bodyPost_ret (v := _) (results_cell_row rfl _ _ (w.heap.size + 1) 71 _ (0, 0) _ rfl hb Tryz.underlying71 rfl (by kernel_rfl)) rfl ?_
      have hg := grown8 w9 (w.heap.size + 1) (.int .i64 2) (.string ⟨tb.toArray⟩) (.slice x3 n3 y3) (.slice x4 n4 y4) (.bool false) (.slice none 0 0) (.slice none 0 0) (.int .i64 0)
      exact .inl ⟨_, M9, _, HQ.out, rfl, ⟨_, _, _, _, rfl, HP9.out.set HM9.out.res (by decide) hg⟩, HM9.out.rr.set HM9.out.res hg (by decide) (by decide), grown_new HM9.out.grow hg (fun y hy => by simp at hy; omega)⟩
    | false =>
      have HQ : Hid (pOp L = none) := by rw [HR.out]; simp [hmay, Hid]
      clear hmay
      go_wp2_with (go_at_call 55; refine (sure_no _ _).mono ?_; rintro e w2 ⟨rfl, hw2⟩; rw [hw2]; clear hw2; unfold Pan)
      exact ⟨rfl, .inr ⟨HQ.out, rfl, HM9.out.grow⟩⟩
  by_cases h4 : n = 4
  · subst h4
    go_wp2_with (go_at_call 136; refine (flag136 b L3 _ HM.out.1.rr).mono ?_)
    clear kb k2 z2 kn
    generalize (w3.setCell ⟨X, 2, none⟩ (.slice x3 n3 y3)) = W3 at HM ⊢
    intro e w4 h
    rcases h.symm with ⟨hx, rfl, hg⟩ | ⟨fl, L4, v4, hx, rfl, rfl, hR, hg⟩
    · have F : Hid (pOp L = none ∧ w.grownBy w4 (some b)) := ⟨pOp_no HN.out.1 HT.out.1 HY.out (by unfold pRest; simp [hx]), grown_trans HM.out.1.grow hg⟩
      clear hx hg h
      unfold Pan
      go_wp2_with fail
      exact ⟨rfl, .inr ⟨F.out.1, rfl, F.out.2⟩⟩
    clear h
    have HL : Hid (pFlag L3 = some (fl, L4)) := hx
    have hz4 : L4.length ≤ 140737488355328 := Nat.le_trans (pFlag_len hx) hz3
    have HM2 := HM.out.1.call hR hg
    have k4 := HM2.op.cell 4
    have z4 := HM2.op.free 4
    have HM3 := HM2.store 4 (.bool fl)
    have ho3 := HM2.skeep 4 (.bool fl) _ _ _ (HM.out.1.keep hg _ _ _ HM.out.2)
    have kb := HM3.box.cell 0
    have HM : Hid (Mid w (w4.setCell ⟨X, 4, none⟩ (.bool fl)) b X L4 #[.int .i64 4, .string ⟨tb.toArray⟩, .slice x3 n3 y3, .slice none 0 0, .bool fl, .slice none 0 0, .slice none 0 0, .int .i64 0] ∧ Own (w4.setCell ⟨X, 4, none⟩ (.bool fl)) w.heap.size (.slice x3 n3 y3) ky) := ⟨HM3, ho3⟩
    clear hx hR hg HM2 HM3 ho3
    go_wp2_with (go_at_call 135; refine (bytes135_int _ b L4 256 rfl _ (by decide) hz4 HM.out.1.rr).mono ?_)
    clear kb k4 z4
    generalize (w4.setCell ⟨X, 4, none⟩ (.bool fl)) = W4 at HM ⊢
    intro e w5 h
    rcases h.symm with ⟨hx, rfl, hg⟩ | ⟨od, L5, v5, hx, rfl, ho, hR, hg⟩
    · have F : Hid (pOp L = none ∧ w.grownBy w5 (some b)) := ⟨pOp_no HN.out.1 HT.out.1 HY.out (by unfold pRest; simp [HL.out, hx]), grown_trans HM.out.1.grow hg⟩
      clear hx hg h
      unfold Pan
      go_wp2_with fail
      exact ⟨rfl, .inr ⟨F.out.1, rfl, F.out.2⟩⟩
    clear h
    have HD : Hid (pBytes 256 L4 = some (od, L5)) := hx
    have hz5 : L5.length ≤ 140737488355328 := Nat.le_trans (pBytes_len hx) hz4
    obtain ⟨x5, n5, y5, rfl⟩ := slice_of ho
    have HM2 := HM.out.1.call hR hg
    have k5 := HM2.op.cell 5
    have z5 := HM2.op.free 5
    have hw := HM.out.1.grow.size
    have HM3 := HM2.store 5 (.slice x5 n5 y5)
    have ho2 := HM2.skeep 5 (.slice x5 n5 y5) _ _ _ (ho.mono hw)
    have ho3 := HM2.skeep 5 (.slice x5 n5 y5) _ _ _ (HM.out.1.keep hg _ _ _ HM.out.2)
    have kb := HM3.box.cell 0
    have HM : Hid (Mid w (w5.setCell ⟨X, 5, none⟩ (.slice x5 n5 y5)) b X L5 #[.int .i64 4, .string ⟨tb.toArray⟩, .slice x3 n3 y3, .slice none 0 0, .bool fl, .slice x5 n5 y5, .slice none 0 0, .int .i64 0] ∧ Own (w5.setCell ⟨X, 5, none⟩ (.slice x5 n5 y5)) w.heap.size (.slice x3 n3 y3) ky ∧ Own (w5.setCell ⟨X, 5, none⟩ (.slice x5 n5 y5)) w.heap.size (.slice x5 n5 y5) od) := ⟨HM3, ho3, ho2⟩
    clear hx ho hR hg HM2 HM3 ho2 ho3 hw
    go_wp2_with (go_at_call 135; refine (bytes135_int _ b L5 256 rfl _ (by decide) hz5 HM.out.1.rr).mono ?_)
    clear kb k5 z5
    generalize (w5.setCell ⟨X, 5, none⟩ (.slice x5 n5 y5)) = W5 at HM ⊢
    intro e w6 h
    rcases h.symm with ⟨hx, rfl, hg⟩ | ⟨vl, M9, v6, hx, rfl, ho, hR, hg⟩
    · have F : Hid (pOp L = none ∧ w.grownBy w6 (some b)) := ⟨pOp_no HN.out.1 HT.out.1 HY.out (by unfold pRest; simp [HL.out, HD.out, hx]), grown_trans HM.out.1.grow hg⟩
      clear hx hg h
      unfold Pan
      go_wp2_with fail
      exact ⟨rfl, .inr ⟨F.out.1, rfl, F.out.2⟩⟩
    clear h
    obtain ⟨x6, n6, y6, rfl⟩ := slice_of ho
    have HR : Hid (pOp L = if mayOp ⟨4, tb, ky, vl, fl, od, [], 0⟩ = true then some (⟨4, tb, ky, vl, fl, od, [], 0⟩, M9) else none) := pOp_of HN.out.1 HT.out.1 HY.out (pRest4 HL.out HD.out hx)
    have HM2 := HM.out.1.call hR hg
    have k3 := HM2.op.cell 3
    have z3 := HM2.op.free 3
    have hw := HM.out.1.grow.size
    have HM3 := HM2.store 3 (.slice x6 n6 y6)
    have ho2 := HM2.skeep 3 (.slice x6 n6 y6) _ _ _ (ho.mono hw)
    have ho3 := HM2.skeep 3 (.slice x6 n6 y6) _ _ _ (HM.out.1.keep hg _ _ _ HM.out.2.1)
    have ho4 := HM2.skeep 3 (.slice x6 n6 y6) _ _ _ (HM.out.1.keep hg _ _ _ HM.out.2.2)
    have HP : Hid (OpOwn (w6.setCell ⟨X, 3, none⟩ (.slice x6 n6 y6)) w.heap.size (.slice x3 n3 y3) (.slice x6 n6 y6) (.slice x5 n5 y5) (.slice none 0 0) ⟨4, tb, ky, vl, fl, od, [], 0⟩) := ⟨.inl ho3, .inl ho2, .inl ho4, .inl (Own.nil _ _), ⟨by simp, by simp, by simp, by simp, by have := HT.out.2; simp; omega⟩⟩
    have HM : Hid (Mid w (w6.setCell ⟨X, 3, none⟩ (.slice x6 n6 y6)) b X M9 #[.int .i64 4, .string ⟨tb.toArray⟩, .slice x3 n3 y3, .slice x6 n6 y6, .bool fl, .slice x5 n5 y5, .slice none 0 0, .int .i64 0]) := HM3
    clear hx ho hR hg HM2 HM3 ho2 ho3 ho4 hw
    obtain ⟨k0, k1, k2, k3, k4, k5, k6, k7⟩ := cells8 HM.out.op
    go_wp2_with (go_at_call 120; refine (may120_of _ _ _ _ _ (⟨4, tb, ky, vl, fl, od, [], 0⟩ : POp) _ rfl HP.out.seg).mono ?_)
    rintro e w9 ⟨rfl, hg9⟩
    have HM9 : Hid (Mid w w9 b X M9 _) := ⟨HM.out.rr.grown hg9, HM.out.box.grown hg9 (by simp), HM.out.res.grown hg9 (by simp), HM.out.op.grown hg9 (by simp), grown_trans HM.out.grow (grown_weak hg9 _), HM.out.far⟩
    have HP9 : Hid (OpOwn w9 w.heap.size (.slice x3 n3 y3) (.slice x6 n6 y6) (.slice x5 n5 y5) (.slice none 0 0) (⟨4, tb, ky, vl, fl, od, [], 0⟩ : POp)) := HP.out.grown hg9
    clear hg9 k0 k1 k2 k3 k4 k5 k6 k7
    cases hmay : mayOp (⟨4, tb, ky, vl, fl, od, [], 0⟩ : POp) with
    | true =>
      have HQ : Hid (pOp L = some ((⟨4, tb, ky, vl, fl, od, [], 0⟩ : POp), M9)) := by rw [HR.out]; simp [hmay, Hid]
      clear hmay
      obtain ⟨k0, k1, k2, k3, k4, k5, k6, k7⟩ := cells8 HM9.out.op
      obtain ⟨r0, r1, r2, r3, r4, r5, r6, r7⟩ := cells8 HM9.out.res
      obtain ⟨z0, z1, z2, z3, z4, z5, z6, z7⟩ := frees8 HM9.out.res
      go_wp2_with (go_at_call 55; refine (sure_yes _ _).mono ?_; rintro e w2 ⟨rfl, hw2⟩; rw [hw2]; clear hw2)
      have hb := (((((((HM9.out.res.store 0 (.int .i64 4)).store 1 (.string ⟨tb.toArray⟩)).store 2 (.slice x3 n3 y3)).store 3 (.slice x6 n6 y6)).store 4 (.bool fl)).store 5 (.slice x5 n5 y5)).store 6 (.slice none 0 0)).store 7 (.int .i64 0)
      refine bodyPost_ret (v := _) (results_cell_row rfl _ _ (w.heap.size + 1) 71 _ (0, 0) _ rfl hb Tryz.underlying71 rfl (by kernel_rfl)) rfl ?_
      have hg := grown8 w9 (w.heap.size + 1) (.int .i64 4) (.string ⟨tb.toArray⟩) (.slice x3 n3 y3) (.slice x6 n6 y6) (.bool fl) (.slice x5 n5 y5) (.slice none 0 0) (.int .i64 0)
      exact .inl ⟨_, M9, _, HQ.out, rfl, ⟨_, _, _, _, rfl, HP9.out.set HM9.out.res (by decide) hg⟩, HM9.out.rr.set HM9.out.res hg (by decide) (by decide), grown_new HM9.out.grow hg (fun y hy => by simp at hy; omega)⟩
    | false =>
      have HQ : Hid (pOp L = none) := by rw [HR.out]; simp [hmay, Hid]
      clear hmay
      go_wp2_with (go_at_call 55; refine (sure_no _ _).mono ?_; rintro e w2 ⟨rfl, hw2⟩; rw [hw2]; clear hw2; unfold Pan)
      exact ⟨rfl, .inr ⟨HQ.out, rfl, HM9.out.grow⟩⟩
  by_cases h5 : n = 5
  · subst h5
    go_wp2_with (go_at_call 135; refine (bytes135_int _ b L3 64 rfl _ (by decide) hz3 HM.out.1.rr).mono ?_)
    clear kb k2 z2 kn
    generalize (w3.setCell ⟨X, 2, none⟩ (.slice x3 n3 y3)) = W3 at HM ⊢
    intro e w4 h
    rcases h.symm with ⟨hx, rfl, hg⟩ | ⟨tt, L4, v4, hx, rfl, ho, hR, hg⟩
    · have F : Hid (pOp L = none ∧ w.grownBy w4 (some b)) := ⟨pOp_no HN.out.1 HT.out.1 HY.out (by unfold pRest; simp [hx]), grown_trans HM.out.1.grow hg⟩
      clear hx hg h
      unfold Pan
      go_wp2_with fail
      exact ⟨rfl, .inr ⟨F.out.1, rfl, F.out.2⟩⟩
    clear h
    have HD : Hid (pBytes 64 L3 = some (tt, L4)) := hx
    obtain ⟨x4, n4, y4, rfl⟩ := slice_of ho
    have HM2 := HM.out.1.call hR hg
    have k6 := HM2.op.cell 6
    have z6 := HM2.op.free 6
    have hw := HM.out.1.grow.size
    have HM3 := HM2.store 6 (.slice x4 n4 y4)
    have ho2 := HM2.skeep 6 (.slice x4 n4 y4) _ _ _ (ho.mono hw)
    have ho3 := HM2.skeep 6 (.slice x4 n4 y4) _ _ _ (HM.out.1.keep hg _ _ _ HM.out.2)
    have kb := HM3.box.cell 0
    have HM : Hid (Mid w (w4.setCell ⟨X, 6, none⟩ (.slice x4 n4 y4)) b X L4 #[.int .i64 5, .string ⟨tb.toArray⟩, .slice x3 n3 y3, .slice none 0 0, .bool false, .slice none 0 0, .slice x4 n4 y4, .int .i64 0] ∧ Own (w4.setCell ⟨X, 6, none⟩ (.slice x4 n4 y4)) w.heap.size (.slice x3 n3 y3) ky ∧ Own (w4.setCell ⟨X, 6, none⟩ (.slice x4 n4 y4)) w.heap.size (.slice x4 n4 y4) tt) := ⟨HM3, ho3, ho2⟩
    clear hx ho hR hg HM2 HM3 ho2 ho3 hw
    go_wp2_with (go_at_call 109; refine (number109_int _ b L4 64 rfl _ (by decide) HM.out.1.rr).mono ?_)
    clear kb k6 z6
    generalize (w4.setCell ⟨X, 6, none⟩ (.slice x4 n4 y4)) = W4 at HM ⊢
    intro e w5 h
    rcases h.symm with ⟨hx, rfl, hg⟩ | ⟨ms, M9, v5, hx, rfl, ⟨rfl, hn⟩, hR, hg⟩
    · have F : Hid (pOp L = none ∧ w.grownBy w5 (some b)) := ⟨pOp_no HN.out.1 HT.out.1 HY.out (by unfold pRest; simp [HD.out, hx]), grown_trans HM.out.1.grow hg⟩
      clear hx hg h
      unfold Pan
      go_wp2_with fail
      exact ⟨rfl, .inr ⟨F.out.1, rfl, F.out.2⟩⟩
    clear h
    have HR : Hid (pOp L = if mayOp ⟨5, tb, ky, [], false, [], tt, ms⟩ = true then some (⟨5, tb, ky, [], false, [], tt, ms⟩, M9) else none) := pOp_of HN.out.1 HT.out.1 HY.out (pRest5 HD.out hx)
    have HM2 := HM.out.1.call hR hg
    have k7 := HM2.op.cell 7
    have z7 := HM2.op.free 7
    have HM3 := HM2.store 7 (.int .i64 ms)
    have ho3 := HM2.skeep 7 (.int .i64 ms) _ _ _ (HM.out.1.keep hg _ _ _ HM.out.2.1)
    have ho4 := HM2.skeep 7 (.int .i64 ms) _ _ _ (HM.out.1.keep hg _ _ _ HM.out.2.2)
    have HP : Hid (OpOwn (w5.setCell ⟨X, 7, none⟩ (.int .i64 ms)) w.heap.size (.slice x3 n3 y3) (.slice none 0 0) (.slice none 0 0) (.slice x4 n4 y4) ⟨5, tb, ky, [], false, [], tt, ms⟩) := ⟨.inl ho3, .inl (Own.nil _ _), .inl (Own.nil _ _), .inl ho4, ⟨by simp, by simp, by simp <;> omega, by simp <;> omega, by have := HT.out.2; simp; omega⟩⟩
    have HM : Hid (Mid w (w5.setCell ⟨X, 7, none⟩ (.int .i64 ms)) b X M9 #[.int .i64 5, .string ⟨tb.toArray⟩, .slice x3 n3 y3, .slice none 0 0, .bool false, .slice none 0 0, .slice x4 n4 y4, .int .i64 ms]) := HM3
    clear hx hR hg HM2 HM3 ho3 ho4 hn
    obtain ⟨k0, k1, k2, k3, k4, k5, k6, k7⟩ := cells8 HM.out.op
    go_wp2_with (go_at_call 120; refine (may120_of _ _ _ _ _ (⟨5, tb, ky, [], false, [], tt, ms⟩ : POp) _ rfl HP.out.seg).mono ?_)
    rintro e w9 ⟨rfl, hg9⟩
    have HM9 : Hid (Mid w w9 b X M9 _) := ⟨HM.out.rr.grown hg9, HM.out.box.grown hg9 (by simp), HM.out.res.grown hg9 (by simp), HM.out.op.grown hg9 (by simp), grown_trans HM.out.grow (grown_weak hg9 _), HM.out.far⟩
    have HP9 : Hid (OpOwn w9 w.heap.size (.slice x3 n3 y3) (.slice none 0 0) (.slice none 0 0) (.slice x4 n4 y4) (⟨5, tb, ky, [], false, [], tt, ms⟩ : POp)) := HP.out.grown hg9
    clear hg9 k0 k1 k2 k3 k4 k5 k6 k7
    cases hmay : mayOp (⟨5, tb, ky, [], false, [], tt, ms⟩ : POp) with
    | true =>
      have HQ : Hid (pOp L = some ((⟨5, tb, ky, [], false, [], tt, ms⟩ : POp), M9)) := by rw [HR.out]; simp [hmay, Hid]
      clear hmay
      obtain ⟨k0, k1, k2, k3, k4, k5, k6, k7⟩ := cells8 HM9.out.op
      obtain ⟨r0, r1, r2, r3, r4, r5, r6, r7⟩ := cells8 HM9.out.res
      obtain ⟨z0, z1, z2, z3, z4, z5, z6, z7⟩ := frees8 HM9.out.res
      go_wp2_with (go_at_call 55; refine (sure_yes _ _).mono ?_; rintro e w2 ⟨rfl, hw2⟩; rw [hw2]; clear hw2)
      have hb := (((((((HM9.out.res.store 0 (.int .i64 5)).store 1 (.string ⟨tb.toArray⟩)).store 2 (.slice x3 n3 y3)).store 3 (.slice none 0 0)).store 4 (.bool false)).store 5 (.slice none 0 0)).store 6 (.slice x4 n4 y4)).store 7 (.int .i64 ms)
      refine bodyPost_ret (v := _) (results_cell_row rfl _ _ (w.heap.size + 1) 71 _ (0, 0) _ rfl hb Tryz.underlying71 rfl (by kernel_rfl)) rfl ?_
      have hg := grown8 w9 (w.heap.size + 1) (.int .i64 5) (.string ⟨tb.toArray⟩) (.slice x3 n3 y3) (.slice none 0 0) (.bool false) (.slice none 0 0) (.slice x4 n4 y4) (.int .i64 ms)
      exact .inl ⟨_, M9, _, HQ.out, rfl, ⟨_, _, _, _, rfl, HP9.out.set HM9.out.res (by decide) hg⟩, HM9.out.rr.set HM9.out.res hg (by decide) (by decide), grown_new HM9.out.grow hg (fun y hy => by simp at hy; omega)⟩
    | false =>
      have HQ : Hid (pOp L = none) := by rw [HR.out]; simp [hmay, Hid]
      clear hmay
      go_wp2_with (go_at_call 55; refine (sure_no _ _).mono ?_; rintro e w2 ⟨rfl, hw2⟩; rw [hw2]; clear hw2; unfold Pan)
      exact ⟨rfl, .inr ⟨HQ.out, rfl, HM9.out.grow⟩⟩
  · have q2 : ((n : Int) == 2) = false := by simp; omega
    have q4 : ((n : Int) == 4) = false := by simp; omega
    have q5 : ((n : Int) == 5) = false := by simp; omega
    obtain ⟨M9, hM9⟩ : ∃ M9, M9 = L3 := ⟨_, rfl⟩
    have HR : Hid (pOp L = if mayOp ⟨n, tb, ky, [], false, [], [], 0⟩ = true then some (⟨n, tb, ky, [], false, [], [], 0⟩, M9) else none) := by rw [hM9]; exact pOp_of HN.out.1 HT.out.1 HY.out (pRest0 h2 h4 h5)
    rw [← hM9] at HM
    have HP : Hid (OpOwn (w3.setCell ⟨X, 2, none⟩ (.slice x3 n3 y3)) w.heap.size (.slice x3 n3 y3) (.slice none 0 0) (.slice none 0 0) (.slice none 0 0) ⟨n, tb, ky, [], false, [], [], 0⟩) := ⟨.inl HM.out.2, .inl (Own.nil _ _), .inl (Own.nil _ _), .inl (Own.nil _ _), ⟨by simp <;> omega, by have := HN.out.2; simp <;> omega, by simp, by simp, by have := HT.out.2; simp; omega⟩⟩
    have HM : Hid (Mid w (w3.setCell ⟨X, 2, none⟩ (.slice x3 n3 y3)) b X M9 #[.int .i64 n, .string ⟨tb.toArray⟩, .slice x3 n3 y3, .slice none 0 0, .bool false, .slice none 0 0, .slice none 0 0, .int .i64 0]) := HM.out.1
    clear hM9 hz3
    obtain ⟨k0, k1, k2, k3, k4, k5, k6, k7⟩ := cells8 HM.out.op
    go_wp2_with (go_at_call 120; refine (may120_of _ _ _ _ _ (⟨n, tb, ky, [], false, [], [], 0⟩ : POp) _ rfl HP.out.seg).mono ?_)
    rintro e w9 ⟨rfl, hg9⟩
    have HM9 : Hid (Mid w w9 b X M9 _) := ⟨HM.out.rr.grown hg9, HM.out.box.grown hg9 (by simp), HM.out.res.grown hg9 (by simp), HM.out.op.grown hg9 (by simp), grown_trans HM.out.grow (grown_weak hg9 _), HM.out.far⟩
    have HP9 : Hid (OpOwn w9 w.heap.size (.slice x3 n3 y3) (.slice none 0 0) (.slice none 0 0) (.slice none 0 0) (⟨n, tb, ky, [], false, [], [], 0⟩ : POp)) := HP.out.grown hg9
    clear hg9 k0 k1 k2 k3 k4 k5 k6 k7
    cases hmay : mayOp (⟨n, tb, ky, [], false, [], [], 0⟩ : POp) with
    | true =>
      have HQ : Hid (pOp L = some ((⟨n, tb, ky, [], false, [], [], 0⟩ : POp), M9)) := by rw [HR.out]; simp [hmay, Hid]
      clear hmay
      obtain ⟨k0, k1, k2, k3, k4, k5, k6, k7⟩ := cells8 HM9.out.op
      obtain ⟨r0, r1, r2, r3, r4, r5, r6, r7⟩ := cells8 HM9.out.res
      obtain ⟨z0, z1, z2, z3, z4, z5, z6, z7⟩ := frees8 HM9.out.res
      go_wp2_with (go_at_call 55; refine (sure_yes _ _).mono ?_; rintro e w2 ⟨rfl, hw2⟩; rw [hw2]; clear hw2)
      have hb := (((((((HM9.out.res.store 0 (.int .i64 n)).store 1 (.string ⟨tb.toArray⟩)).store 2 (.slice x3 n3 y3)).store 3 (.slice none 0 0)).store 4 (.bool false)).store 5 (.slice none 0 0)).store 6 (.slice none 0 0)).store 7 (.int .i64 0)
      refine bodyPost_ret (v := _) (results_cell_row rfl _ _ (w.heap.size + 1) 71 _ (0, 0) _ rfl hb Tryz.underlying71 rfl (by kernel_rfl)) rfl ?_
      have hg := grown8 w9 (w.heap.size + 1) (.int .i64 n) (.string ⟨tb.toArray⟩) (.slice x3 n3 y3) (.slice none 0 0) (.bool false) (.slice none 0 0) (.slice none 0 0) (.int .i64 0)
      exact .inl ⟨_, M9, _, HQ.out, rfl, ⟨_, _, _, _, rfl, HP9.out.set HM9.out.res (by decide) hg⟩, HM9.out.rr.set HM9.out.res hg (by decide) (by decide), grown_new HM9.out.grow hg (fun y hy => by simp at hy; omega)⟩
    | false =>
      have HQ : Hid (pOp L = none) := by rw [HR.out]; simp [hmay, Hid]
      clear hmay
      go_wp2_with (go_at_call 55; refine (sure_no _ _).mono ?_; rintro e w2 ⟨rfl, hw2⟩; rw [hw2]; clear hw2; unfold Pan)
      exact ⟨rfl, .inr ⟨HQ.out, rfl, HM9.out.grow⟩⟩
end Go.Proofs.YtfocmbnhkldnfaaGreatDoor
/-
  Lists of ops are read: one by one.
-/
namespace Go.Proofs.YtfocmbnhkldnfaaGreatDoor
open Go.RowKit Disk
open Names (Str)
open Wire (RdB RdG)

theorem results_row_tmp {fn : Func} {p u : Tmp} {ty : TypeId} (h : fn.results = #[.cell p ty, .tmp u]) (tmps : Array Value) (w : World) (g : Nat) (cs : Array Value)
    (hp : tmps.getD p undef = .pointer (some ⟨g, 0, none⟩)) (hl : (loadVar ty ⟨g, 0, none⟩).run Tryz.prog w = .ok (.agg cs) w) :
    (results fn tmps).run Tryz.prog w = .ok (.tuple #[.agg cs, tmps.getD u undef]) w := by
  rw [results_cell_tmp h, hp]
  simp [asAddr, Result.andThen, hl]

theorem ne171 (c : Value) (w : World) : (binOp .eql 171 (.func (.func 134) #[] #[c]) .nilFunc).run Tryz.prog w = .ok (.bool false) w := by kernel_rfl

set_option maxRecDepth 100000 in
set_option maxHeartbeats 2000000 in
theorem one134 (b f : Nat) (L : Bs) (w : World) (hz : L.length ≤ 140737488355328) (hr : RR w b L) (hf : Blk w f 129 #[.func (.func 89) #[] #[]]) :
    Calls Tryz.prog 134 #[.pointer (some ⟨b, 0, none⟩), .pointer (some ⟨f, 0, none⟩)] w (RdPost b w (pOp L) (fun o v w' => ∃ u, v = .tuple #[u, .int .i64 0] ∧ OpTold w o u w')) := by
  have HR : Hid (RR w b L) := hr
  have hb : b < w.heap.size := by obtain ⟨s, hs⟩ := hr.blk; exact hs.lt
  have kf := fun o => grown_fun (World.grownBy_alloc w o none) (hf.cell 0)
  clear hr
  go_enter Tryz.func134, Tryz.ntmps134
  go_wp2_with (go_at_call 89; refine (op89 b L _ hz (HR.out.grown (World.grownBy_alloc _ _ none))).mono ?_)
  intro e w1 h
  rcases h.symm with ⟨hx, rfl, hg⟩ | ⟨o, M, v, hx, rfl, ho, hR, hg⟩
  · have F : Hid (pOp L = none ∧ w.grownBy w1 (some b)) := ⟨hx, grown_trans (World.grownBy_alloc _ _ _) hg⟩
    clear hx hg h
    unfold Pan
    go_wp2_with fail
    exact ⟨rfl, .inr ⟨F.out.1, rfl, F.out.2⟩⟩
  clear h
  have hres : Blk w1 w.heap.size 71 #[.int .i64 0, .string ⟨#[]⟩, .slice none 0 0, .slice none 0 0, .bool false, .slice none 0 0, .slice none 0 0, .int .i64 0] := Blk.grown (heap_alloc_new w _) hg (fun e => by simp at e; omega)
  have HW : Hid (w.grownBy w1 (some b) ∧ RR w1 b M ∧ pOp L = some (o, M)) := ⟨grown_trans (World.grownBy_alloc _ _ _) hg, hR, hx⟩
  obtain ⟨k, x, ol, t, rfl, ho⟩ := ho
  obtain ⟨x1, n1, y1, rfl⟩ := cut_slice ho.key
  obtain ⟨x2, n2, y2, rfl⟩ := cut_slice ho.value
  obtain ⟨x3, n3, y3, rfl⟩ := cut_slice ho.old
  obtain ⟨x4, n4, y4, rfl⟩ := cut_slice ho.tos
  obtain ⟨r0, r1, r2, r3, r4, r5, r6, r7⟩ := cells8 hres
  obtain ⟨z0, z1, z2, z3, z4, z5, z6, z7⟩ := frees8 hres
  have hb1 := (((((((hres.store 0 (.int .i64 o.kind)).store 1 (.string ⟨o.table.toArray⟩)).store 2 (.slice x1 n1 y1)).store 3 (.slice x2 n2 y2)).store 4 (.bool o.has)).store 5 (.slice x3 n3 y3)).store 6 (.slice x4 n4 y4)).store 7 (.int .i64 o.most)
  have hg1 := grown8 w1 w.heap.size (.int .i64 o.kind) (.string ⟨o.table.toArray⟩) (.slice x1 n1 y1) (.slice x2 n2 y2) (.bool o.has) (.slice x3 n3 y3) (.slice x4 n4 y4) (.int .i64 o.most)
  have HO : Hid (OpOwn w1 w.heap.size (.slice x1 n1 y1) (.slice x2 n2 y2) (.slice x3 n3 y3) (.slice x4 n4 y4) o ∧ Blk w1 w.heap.size 71 #[.int .i64 0, .string ⟨#[]⟩, .slice none 0 0, .slice none 0 0, .bool false, .slice none 0 0, .slice none 0 0, .int .i64 0]) := ⟨ho.mono (by simp), hres⟩
  have HB : Hid _ := And.intro hb1 hg1
  clear ho hres hx hg hR hb1 hg1
  unfold opV Str
  go_wp2_with fail
  refine bodyPost_ret (v := _) (results_row_tmp rfl _ _ w.heap.size _ rfl (run_loadVar_row _ w.heap.size 71 71 _ (0, 0) _ HB.out.1 Tryz.underlying71 rfl (by kernel_rfl))) rfl ?_
  exact .inl ⟨o, M, _, HW.out.2.2, rfl, ⟨_, rfl, _, _, _, _, rfl, HO.out.1.set HO.out.2 (by decide) HB.out.2⟩, HW.out.2.1.set HO.out.2 HB.out.2 (by decide) (by decide), grown_new HW.out.1 HB.out.2 (fun y hy => by simp at hy; omega)⟩

theorem Tryz.info71 : (Tryz.prog.info? 71).map (fun i => (i.zero, i.size, i.bytes)) = some (some (.agg #[.int .i64 0, .string ⟨#[]⟩, .slice none 0 0, .slice none 0 0, .bool false, .slice none 0 0, .slice none 0 0, .int .i64 0]), 8, 136) := by kernel_rfl
theorem add_addr (g j : Nat) : (⟨g, 0, none⟩ : Addr).add j = ⟨g, j, none⟩ := by unfold Addr.add; split <;> simp_all

/-- An op appended to a row of ops. -/
theorem app71_wp {o : Oper} {a : Act} {K : Act → World → Prop} {Q : Exit → Act → World → Prop} (w : World) (s x : Operand)
    (ho : o.op = .call { callee := .builtin .append, args := #[s, x], argTypes := #[22, 22] })
    (B : Nat) (v : Value) (l : List POp) (p : POp) (g : Nat) (k vl ol t : Value) (hs : a.eval s = v) (hx : a.eval x = .slice (some ⟨g, 0, none⟩) 1 1)
    (hrow : OpsOwn w B v l) (hc : Blk w g 71 #[.int .i64 p.kind, .string ⟨p.table.toArray⟩, k, vl, .bool p.has, ol, t, .int .i64 p.most]) (hp : OpOwn w B k vl ol t p) (hb : l.length ≤ 100000000) (hB : B ≤ w.heap.size)
    (h : ∀ g' cap' w', OpsOwn w' B (.slice (some ⟨g', 0, none⟩) (l.length + 1) cap') (l ++ [p]) → w.grownBy w' v.ownBlock → (v.ownBlock = some g' ∨ g' = w.heap.size) → K (a.put o.dst (.slice (some ⟨g', 0, none⟩) (l.length + 1) cap')) w') : o.wp Tryz.prog a w K Q := by
  obtain ⟨i0, hi, hz0, hz1, hz2⟩ := info_parts Tryz.info71
  obtain ⟨⟨vs, h1, h2, h3, h4⟩, hl⟩ := hrow
  obtain ⟨q0, q1, q2, q3, q4, q5, q6, q7⟩ := cells8 hc
  obtain ⟨x1, n1, y1, rfl⟩ := cut_slice hp.key
  obtain ⟨x2, n2, y2, rfl⟩ := cut_slice hp.value
  obtain ⟨x3, n3, y3, rfl⟩ := cut_slice hp.old
  obtain ⟨x4, n4, y4, rfl⟩ := cut_slice hp.tos
  refine wp_append_lies w s x 22 ho B 71 i0 _ 8 136 Tryz.underlying22 hi hz0 hz1 hz2 rfl (by decide) v l.length vs.flatten hs h1 ⟨g, 0, none⟩ 1 1 [.int .i64 p.kind, .string ⟨p.table.toArray⟩, .slice x1 n1 y1, .slice x2 n2 y2, .bool p.has, .slice x3 n3 y3, .slice x4 n4 y4, .int .i64 p.most] hx rfl ?_ ?_ (by decide) (by unfold maxLen; omega) (by omega) hB w.heap.size rfl ?_
  · intro j y hj
    rw [add_addr]
    match j, hj with
    | 0, hj => simp at hj; subst hj; exact q0
    | 1, hj => simp at hj; subst hj; exact q1
    | 2, hj => simp at hj; subst hj; exact q2
    | 3, hj => simp at hj; subst hj; exact q3
    | 4, hj => simp at hj; subst hj; exact q4
    | 5, hj => simp at hj; subst hj; exact q5
    | 6, hj => simp at hj; subst hj; exact q6
    | 7, hj => simp at hj; subst hj; exact q7
    | j + 8, hj => simp at hj
  · intro y hy
    simp at hy
    rcases hy with rfl | rfl | rfl | rfl | rfl | rfl | rfl | rfl <;> rfl
  · intro g' cap' w' r2 r3 r4 _
    exact h g' cap' w' ⟨LRow.snoc (opR_stab B) (by decide) h1 h2 h3 h4 rfl ⟨_, _, _, _, rfl, hp⟩ r3 r2, by simp; omega⟩ r3 r4

theorem app71 {ops : Array Oper} {rest : List Oper} {o : Oper} {a : Act} {Q : Exit → Act → World → Prop} (w : World) (hw : Region.wanted o (yielded ops a.tmps) = true) (s x : Operand)
    (ho : o.op = .call { callee := .builtin .append, args := #[s, x], argTypes := #[22, 22] })
    (B : Nat) (v : Value) (l : List POp) (p : POp) (g : Nat) (k vl ol t : Value) (hs : a.eval s = v) (hx : a.eval x = .slice (some ⟨g, 0, none⟩) 1 1)
    (hrow : OpsOwn w B v l) (hc : Blk w g 71 #[.int .i64 p.kind, .string ⟨p.table.toArray⟩, k, vl, .bool p.has, ol, t, .int .i64 p.most]) (hp : OpOwn w B k vl ol t p) (hb : l.length ≤ 100000000) (hB : B ≤ w.heap.size)
    (h : ∀ g' cap' w', OpsOwn w' B (.slice (some ⟨g', 0, none⟩) (l.length + 1) cap') (l ++ [p]) → w.grownBy w' v.ownBlock → (v.ownBlock = some g' ∨ g' = w.heap.size) → wpList Tryz.prog ops Q rest (a.put o.dst (.slice (some ⟨g', 0, none⟩) (l.length + 1) cap')) w') : wpList Tryz.prog ops Q (o :: rest) a w :=
  BigFrame.wpList_want hw fun _ hK => app71_wp w s x ho B v l p g k vl ol t hs hx hrow hc hp hb hB fun g' cap' w' h1 h2 h3 => hK _ _ (h g' cap' w' h1 h2 h3)

theorem pMany_snoc {α : Type} {p : Bs → Option (α × Bs)} : ∀ (k : Nat) (L : Bs) (xs : List α) (M : Bs), pMany p k L = some (xs, M) → pMany p (k + 1) L = (p M).bind fun x => some (xs ++ [x.1], x.2)
  | 0, L, xs, M, h => by
    simp [pMany] at h
    obtain ⟨rfl, rfl⟩ := h
    simp only [pMany]
    cases p L <;> rfl
  | k + 1, L, xs, M, h => by
    rw [pMany] at h
    cases hp : p L with
    | none => rw [hp] at h; cases h
    | some y =>
      rw [hp] at h
      simp only [Option.bind_some] at h
      cases hq : pMany p k y.2 with
      | none => rw [hq] at h; cases h
      | some z =>
        rw [hq] at h
        simp at h
        obtain ⟨rfl, rfl⟩ := h
        rw [pMany, hp]
        simp only [Option.bind_some]
        rw [pMany_snoc k y.2 z.1 z.2 hq]
        cases p z.2 <;> simp
theorem pMany_none {α : Type} {p : Bs → Option (α × Bs)} : ∀ (k n : Nat) (L : Bs) (xs : List α) (M : Bs), pMany p k L = some (xs, M) → p M = none → k < n → pMany p n L = none
  | 0, n, L, xs, M, h, hn, hk => by
    simp [pMany] at h
    obtain ⟨rfl, rfl⟩ := h
    cases n with
    | zero => omega
    | succ n => rw [pMany, hn]; rfl
  | k + 1, n, L, xs, M, h, hn, hk => by
    rw [pMany] at h
    cases hp : p L with
    | none => rw [hp] at h; cases h
    | some y =>
      rw [hp] at h
      simp only [Option.bind_some] at h
      cases hq : pMany p k y.2 with
      | none => rw [hq] at h; cases h
      | some z =>
        rw [hq] at h
        simp at h
        obtain ⟨rfl, rfl⟩ := h
        cases n with
        | zero => omega
        | succ n =>
          rw [pMany, hp]
          simp only [Option.bind_some]
          rw [pMany_none k n y.2 z.1 z.2 hq hn (by omega)]
          rfl
theorem pMany_len {α : Type} {p : Bs → Option (α × Bs)} (hp : ∀ L x M, p L = some (x, M) → M.length ≤ L.length) : ∀ (k : Nat) (L : Bs) (xs : List α) (M : Bs), pMany p k L = some (xs, M) → M.length ≤ L.length ∧ xs.length = k
  | 0, L, xs, M, h => by simp [pMany] at h; obtain ⟨rfl, rfl⟩ := h; simp
  | k + 1, L, xs, M, h => by
    rw [pMany] at h
    cases hp' : p L with
    | none => rw [hp'] at h; cases h
    | some y =>
      rw [hp'] at h
      simp only [Option.bind_some] at h
      cases hq : pMany p k y.2 with
      | none => rw [hq] at h; cases h
      | some z =>
        rw [hq] at h
        simp at h
        obtain ⟨rfl, rfl⟩ := h
        have h1 := hp L y.1 y.2 hp'
        have h2 := pMany_len hp k y.2 z.1 z.2 hq
        simp; omega
theorem pOp_le (L : Bs) (x : POp) (M : Bs) (h : pOp L = some (x, M)) : M.length ≤ L.length := by rw [(pOp_inv h).2]; simp
end Go.Proofs.YtfocmbnhkldnfaaGreatDoor
/-
  Lists of ops are read: Take and what it calls.
-/
namespace Go.Proofs.YtfocmbnhkldnfaaGreatDoor
open Go.RowKit Disk
open Names (Str)
open Wire (RdB RdG)

theorem OpsOwn.slice {w : World} {B : Nat} {v : Value} {l : List POp} (h : OpsOwn w B v l) : ∃ x n y, v = .slice x n y ∧ n = l.length := by obtain ⟨x, y, e⟩ := h.1.shape; exact ⟨x, _, y, e, rfl⟩

set_option maxRecDepth 100000 in
set_option maxHeartbeats 4000000 in
theorem things170 (b f n : Nat) (L : Bs) (w : World) (hn : n ≤ 100) (hz : L.length ≤ 140737488355328) (hr : RR w b L) (hf : Blk w f 129 #[.func (.func 89) #[] #[]]) :
    Calls Tryz.prog 170 #[.pointer (some ⟨b, 0, none⟩), .int .u64 n, .func (.func 134) #[] #[.pointer (some ⟨f, 0, none⟩)]] w (RdPost b w (pMany pOp n L) (fun l v w' => ∃ u, v = .tuple #[u, .int .i64 0] ∧ OpsOwn w' w.heap.size u l)) := by
  have HR : Hid (RR w b L ∧ Blk w f 129 #[.func (.func 89) #[] #[]]) := ⟨hr, hf⟩
  have hblt : b < w.heap.size := by obtain ⟨s, hs⟩ := hr.blk; exact hs.lt
  have hfb : f ≠ b := hr.ne hf (by decide)
  clear hr hf
  go_enter Tryz.func170, Tryz.ntmps170
  go_wp2_with fail
  go_loopw [8, 12] (fun v i wr => ∃ (k : Nat) (xs : List POp) (M : Bs), k ≤ n ∧ i = .int .u64 k ∧ Hid (pMany pOp k L = some (xs, M)) ∧ OpsOwn wr w.heap.size v xs ∧ RR wr b M ∧ w.grownBy wr (some b)) (fun _ i _ => n - (intOf i).toNat)
  case atStart => exact ⟨0, [], L, by omega, rfl, rfl, ⟨lrow_nil _ _, by simp⟩, HR.out.1, grown_refl _ _⟩
  case round =>
    obtain ⟨k, xs, M, hk, rfl, hp, hown, hrr, hg⟩ := hrel
    obtain ⟨hlen, hxs⟩ := pMany_len pOp_le k L xs M hp.out
    have hf1 : Blk wr f 129 #[.func (.func 89) #[] #[]] := HR.out.2.grown hg (fun e => hfb (by simpa using e.symm))
    by_cases hlt : k < n
    · have i2 : (k : Int) < (n : Int) := by omega
      have HO : Hid (OpsOwn wr w.heap.size u8 xs ∧ RR wr b M ∧ w.grownBy wr (some b) ∧ Blk wr f 129 #[.func (.func 89) #[] #[]]) := ⟨hown, hrr, hg, hf1⟩
      have hzM : M.length ≤ 140737488355328 := by omega
      clear hown hrr hg hf1
      go_wp2_with (go_at_call 134; refine (one134 b f M _ hzM HO.out.2.1 HO.out.2.2.2).mono ?_)
      intro e w1 h
      rcases h.symm with ⟨hx, rfl, hg1⟩ | ⟨o, M1, v, hx, rfl, ⟨u, rfl, k1, x1, ol1, t1, rfl, ho⟩, hR, hg1⟩
      · have F : Hid (pMany pOp n L = none ∧ w.grownBy w1 (some b)) := ⟨pMany_none k n L xs M hp.out hx hlt, grown_trans HO.out.2.2.1 hg1⟩
        clear hx hg1 h
        unfold Pan
        go_wp2_with fail
        exact ⟨rfl, .inr ⟨F.out.1, rfl, F.out.2⟩⟩
      clear h
      obtain ⟨s, hs⟩ := HO.out.2.1.blk
      have hown1 := HO.out.1.set hs (by decide) (by decide) hg1
      have HP : Hid (pMany pOp (k + 1) L = some (xs ++ [o], M1)) := by rw [pMany_snoc k L xs M hp.out, hx]; rfl
      obtain ⟨xa, na, ya, rfl⟩ := cut_slice ho.key
      obtain ⟨xb, nb, yb, rfl⟩ := cut_slice ho.value
      obtain ⟨xc, nc, yc, rfl⟩ := cut_slice ho.old
      obtain ⟨xd, nd, yd, rfl⟩ := cut_slice ho.tos
      have HQ : Hid (OpsOwn w1 w.heap.size u8 xs ∧ OpOwn w1 w.heap.size (.slice xa na ya) (.slice xb nb yb) (.slice xc nc yc) (.slice xd nd yd) o ∧ RR w1 b M1 ∧ w.grownBy w1 (some b) ∧ w.heap.size ≤ w1.heap.size) := ⟨hown1, ho.mono HO.out.2.2.1.size, hR, grown_trans HO.out.2.2.1 hg1, Nat.le_trans HO.out.2.2.1.size hg1.size⟩
      clear hx hg1 ho hR hown1 hs
      unfold opV Str
      have HX : Hid (OpsOwn ((w1.alloc (.cells #[.int .i64 o.kind, .string ⟨o.table.toArray⟩, .slice xa na ya, .slice xb nb yb, .bool o.has, .slice xc nc yc, .slice xd nd yd, .int .i64 o.most] 71)).alloc (.cells #[.int .i64 o.kind, .string ⟨o.table.toArray⟩, .slice xa na ya, .slice xb nb yb, .bool o.has, .slice xc nc yc, .slice xd nd yd, .int .i64 o.most] 71)) w.heap.size u8 xs) := HQ.out.1.grown (grown_trans (World.grownBy_alloc _ _ none) (World.grownBy_alloc _ _ none))
      have HY : Hid (OpOwn ((w1.alloc (.cells #[.int .i64 o.kind, .string ⟨o.table.toArray⟩, .slice xa na ya, .slice xb nb yb, .bool o.has, .slice xc nc yc, .slice xd nd yd, .int .i64 o.most] 71)).alloc (.cells #[.int .i64 o.kind, .string ⟨o.table.toArray⟩, .slice xa na ya, .slice xb nb yb, .bool o.has, .slice xc nc yc, .slice xd nd yd, .int .i64 o.most] 71)) w.heap.size (.slice xa na ya) (.slice xb nb yb) (.slice xc nc yc) (.slice xd nd yd) o) := HQ.out.2.1.grown (grown_trans (World.grownBy_alloc _ _ none) (World.grownBy_alloc _ _ none))
      have HZ : Hid (Blk ((w1.alloc (.cells #[.int .i64 o.kind, .string ⟨o.table.toArray⟩, .slice xa na ya, .slice xb nb yb, .bool o.has, .slice xc nc yc, .slice xd nd yd, .int .i64 o.most] 71)).alloc (.cells #[.int .i64 o.kind, .string ⟨o.table.toArray⟩, .slice xa na ya, .slice xb nb yb, .bool o.has, .slice xc nc yc, .slice xd nd yd, .int .i64 o.most] 71)) (w1.heap.size + 1) 71 #[.int .i64 o.kind, .string ⟨o.table.toArray⟩, .slice xa na ya, .slice xb nb yb, .bool o.has, .slice xc nc yc, .slice xd nd yd, .int .i64 o.most]) := by
        have := heap_alloc_new (w1.alloc (.cells #[.int .i64 o.kind, .string ⟨o.table.toArray⟩, .slice xa na ya, .slice xb nb yb, .bool o.has, .slice xc nc yc, .slice xd nd yd, .int .i64 o.most] 71)) (.cells #[.int .i64 o.kind, .string ⟨o.table.toArray⟩, .slice xa na ya, .slice xb nb yb, .bool o.has, .slice xc nc yc, .slice xd nd yd, .int .i64 o.most] 71)
        simpa [Blk, Hid] using this
      have HU : Hid (w.heap.size ≤ ((w1.alloc (.cells #[.int .i64 o.kind, .string ⟨o.table.toArray⟩, .slice xa na ya, .slice xb nb yb, .bool o.has, .slice xc nc yc, .slice xd nd yd, .int .i64 o.most] 71)).alloc (.cells #[.int .i64 o.kind, .string ⟨o.table.toArray⟩, .slice xa na ya, .slice xb nb yb, .bool o.has, .slice xc nc yc, .slice xd nd yd, .int .i64 o.most] 71)).heap.size) := by have := HQ.out.2.2.2.2; unfold Hid; simp; omega
      go_wp2_with (at_builtin; refine app71 _ rfl (.tmp 23) (.tmp 25) rfl w.heap.size u8 xs o _ _ _ _ _ rfl rfl HX.out HZ.out HY.out (by omega) HU.out ?_; intro g' cap' w3 o3 g3 l3)
      have S4 : Hid (OpsOwn w3 w.heap.size (.slice (some ⟨g', 0, none⟩) (xs.length + 1) cap') (xs ++ [o]) ∧ RR w3 b M1 ∧ w.grownBy w3 (some b)) := by
        have q1 : RR ((w1.alloc (.cells #[.int .i64 o.kind, .string ⟨o.table.toArray⟩, .slice xa na ya, .slice xb nb yb, .bool o.has, .slice xc nc yc, .slice xd nd yd, .int .i64 o.most] 71)).alloc (.cells #[.int .i64 o.kind, .string ⟨o.table.toArray⟩, .slice xa na ya, .slice xb nb yb, .bool o.has, .slice xc nc yc, .slice xd nd yd, .int .i64 o.most] 71)) b M1 := HQ.out.2.2.1.grown (grown_trans (World.grownBy_alloc _ _ none) (World.grownBy_alloc _ _ none))
        have q2 := grown_trans HQ.out.2.2.2.1 (grown_weak (grown_trans (World.grownBy_alloc w1 (.cells #[.int .i64 o.kind, .string ⟨o.table.toArray⟩, .slice xa na ya, .slice xb nb yb, .bool o.has, .slice xc nc yc, .slice xd nd yd, .int .i64 o.most] 71) none) (World.grownBy_alloc _ (.cells #[.int .i64 o.kind, .string ⟨o.table.toArray⟩, .slice xa na ya, .slice xb nb yb, .bool o.has, .slice xc nc yc, .slice xd nd yd, .int .i64 o.most] 71) none)) (some b))
        refine ⟨o3, ?_, grown_new q2 g3 (fun y hy => (HX.out.1.lt y hy).1)⟩
        cases hv : Value.ownBlock u8 with
        | none => rw [hv] at g3; exact q1.grown g3
        | some y =>
          rw [hv] at g3
          obtain ⟨vs, hvs, _⟩ := HX.out.1
          obtain ⟨cur, hcur⟩ := owns_blk hvs hv
          exact q1.set hcur g3 (by decide) (by decide)
      clear o3 g3 l3 HX HY HQ
      go_wp2_with fail
      go_roundw
      case rel => exact ⟨k + 1, xs ++ [o], M1, by omega, by go_num, HP.out, by have := S4.out.1; rw [hxs] at this; exact this, S4.out.2.1, S4.out.2.2⟩
      case measure => simp [intOf]; omega
    · have e : k = n := by omega
      subst e
      have HO : Hid (OpsOwn wr w.heap.size u8 xs ∧ RR wr b M ∧ w.grownBy wr (some b)) := ⟨hown, hrr, hg⟩
      clear hown hrr hg
      go_wp2_with fail
      go_ret2
      exact .inl ⟨xs, M, _, hp.out, rfl, ⟨_, rfl, HO.out.1⟩, HO.out.2.1, HO.out.2.2⟩

/-- The count that stands ahead. -/
theorem count169 (b : Nat) (L : Bs) (most : Nat) (w : World) (hm : most ≤ 9223372036854775807) (hr : RR w b L) :
    Calls Tryz.prog 169 #[.pointer (some ⟨b, 0, none⟩), .int .i64 most] w fun e w' => (∃ n M, pNum most L = some (n, M) ∧ e = .returned (.tuple #[.int .u64 n, .int .i64 0]) ∧ n ≤ most ∧ RR w' b M ∧ w.grownBy w' (some b)) ∨ (∃ er : Int, pNum most L = none ∧ (er != 0) = true ∧ e = .returned (.tuple #[.int .u64 0, .int .i64 er]) ∧ (∃ s2, Blk w' b 167 #[.bool true, s2]) ∧ w.grownBy w' (some b)) := by
  obtain ⟨g, hg, hk⟩ := rr_of hr
  obtain ⟨s, h1, h2, h3⟩ := hg
  unfold pNum
  cases hs : Wire.scan 0 0 L with
  | none =>
    refine (Wire.count50_none b true s L most w h1 h2 (by omega) hs).mono ?_
    rintro e w' ⟨rfl, rfl⟩
    exact .inr ⟨4, rfl, rfl, rfl, ⟨s, h1⟩, grown_refl _ _⟩
  | some nk =>
    obtain ⟨n, k⟩ := nk
    refine (Wire.count50_g b true s L n k most w h1 h2 g h3 (by omega) (by omega) hs).mono ?_
    rintro e w' ⟨rfl, t, ht, hit, rfl⟩
    by_cases hle : n ≤ most
    · rw [Wire.rdCount_ok (by omega) hs (by omega)]
      refine .inl ⟨n, L.drop k, by simp [hle], rfl, hle, hk _ _ ?_ (grown_setCell _ _ _ _) (fun h => by rw [h]; simp), grown_setCell _ _ _ _⟩
      exact Wire.after_count g n k h1 h2 h3 t ht hit
    · rw [Wire.rdCount_long (by omega) hs (by omega)]
      exact .inr ⟨3, by simp [hle], rfl, rfl, ⟨t, h1.store t⟩, grown_setCell _ _ _ _⟩
end Go.Proofs.YtfocmbnhkldnfaaGreatDoor
/-
  Calls are read.
-/
namespace Go.Proofs.YtfocmbnhkldnfaaGreatDoor
open Go.RowKit Disk
open Names (Str)
open Wire (RdB RdG)

/-- What a list's reading is told as. -/
abbrev OpsTold (w : World) (l : List POp) (v : Value) (w' : World) : Prop := ∃ u, v = .tuple #[u, .int .i64 0] ∧ OpsOwn w' w.heap.size u l
/-- A list's reading within: it is told, or an error is, or it is given up. -/
def TkPost (b : Nat) (w : World) (r : Option (List POp × Bs)) (e : Ending) (w' : World) : Prop :=
  RdPost b w r (OpsTold w) e w' ∨ (r = none ∧ (∃ u er, e = .returned (.tuple #[u, .int .i64 er]) ∧ (er != 0) = true) ∧ (∃ s2, Blk w' b 167 #[.bool true, s2]) ∧ w.grownBy w' (some b))

theorem pMany_le {most n : Nat} {L M : Bs} (h : pNum most L = some (n, M)) : pList pOp most L = pMany pOp n M := by unfold pList; rw [h]; rfl
theorem pList_no {most : Nat} {L : Bs} (h : pNum most L = none) : pList pOp most L = none := by unfold pList; rw [h]; rfl

set_option maxRecDepth 100000 in
set_option maxHeartbeats 2000000 in
theorem take168 (b m f g : Nat) (L : Bs) (most : Nat) (w : World) (hm : most ≤ 100) (hz : L.length ≤ 140737488355328) (hr : RR w b L) (hmc : w.cell? ⟨m, 0, none⟩ = some (.int .i64 most)) (hgc : Blk w g 171 #[.func (.func 134) #[] #[.pointer (some ⟨f, 0, none⟩)]]) (hf : Blk w f 129 #[.func (.func 89) #[] #[]]) :
    Calls Tryz.prog 168 #[.pointer (some ⟨b, 0, none⟩), .pointer (some ⟨m, 0, none⟩), .pointer (some ⟨g, 0, none⟩)] w (TkPost b w (pList pOp most L)) := by
  have HR : Hid (RR w b L ∧ Blk w f 129 #[.func (.func 89) #[] #[]] ∧ Blk w g 171 #[.func (.func 134) #[] #[.pointer (some ⟨f, 0, none⟩)]]) := ⟨hr, hf, hgc⟩
  have hfb : f ≠ b := hr.ne hf (by decide)
  have hgb : g ≠ b := hr.ne hgc (by decide)
  clear hr hf hgc
  go_enter Tryz.func168, Tryz.ntmps168
  go_wp2_with (go_at_call 169; refine (count169 b L most _ (by omega) HR.out.1).mono ?_)
  rintro e w1 (⟨n, M, hx, rfl, hn, hR, hg⟩ | ⟨er, hx, her, rfl, hs2, hg⟩)
  · have HF : Hid (Blk w1 f 129 #[.func (.func 89) #[] #[]]) := HR.out.2.1.grown hg (fun e => hfb (by simpa using e.symm))
    have hgc := (HR.out.2.2.grown hg (fun e => hgb (by simpa using e.symm))).cell 0
    have HN : Hid (pNum most L = some (n, M) ∧ RR w1 b M ∧ w.grownBy w1 (some b)) := ⟨hx, hR, hg⟩
    have hzM := pOp_len hx
    clear hx hR hg
    go_wp2_with (go_at_call 170; refine (things170 b f n M _ (by omega) (by omega) HN.out.2.1 HF.out).mono ?_)
    intro e w2 h
    rcases h.symm with ⟨hx, rfl, hg2⟩ | ⟨l, M2, v, hx, rfl, ⟨u, rfl, ho⟩, hR2, hg2⟩
    · have F : Hid (pList pOp most L = none ∧ w.grownBy w2 (some b)) := ⟨by rw [pMany_le HN.out.1, hx], grown_trans HN.out.2.2 hg2⟩
      clear hx hg2 h
      unfold Pan
      go_wp2_with fail
      exact ⟨rfl, .inl (.inr ⟨F.out.1, rfl, F.out.2⟩)⟩
    clear h
    have F : Hid (pList pOp most L = some (l, M2) ∧ OpsOwn w2 w.heap.size u l ∧ RR w2 b M2 ∧ w.grownBy w2 (some b)) := ⟨by rw [pMany_le HN.out.1, hx], ho.mono HN.out.2.2.size, hR2, grown_trans HN.out.2.2 hg2⟩
    clear hx ho hR2 hg2
    go_wp2_with fail
    go_ret2
    exact .inl (.inl ⟨l, M2, _, F.out.1, rfl, ⟨_, rfl, F.out.2.1⟩, F.out.2.2.1, F.out.2.2.2⟩)
  · have F : Hid (pList pOp most L = none ∧ (er != 0) = true ∧ (∃ s2, Blk w1 b 167 #[.bool true, s2]) ∧ w.grownBy w1 (some b)) := ⟨pList_no hx, her, hs2, hg⟩
    clear hx hs2 hg
    go_wp2_with fail
    go_ret2
    exact .inr ⟨F.out.1, ⟨_, _, rfl, F.out.2.1⟩, F.out.2.2.1, F.out.2.2.2⟩

set_option maxRecDepth 100000 in
set_option maxHeartbeats 2000000 in
theorem whole167 (b m f g : Nat) (L : Bs) (most : Nat) (w : World) (hm : most ≤ 100) (hz : L.length ≤ 140737488355328) (hr : RR w b L) (hmc : w.cell? ⟨m, 0, none⟩ = some (.int .i64 most)) (hgc : Blk w g 171 #[.func (.func 134) #[] #[.pointer (some ⟨f, 0, none⟩)]]) (hf : Blk w f 129 #[.func (.func 89) #[] #[]]) :
    Calls Tryz.prog 167 #[.pointer (some ⟨b, 0, none⟩), .func (.func 168) #[] #[.pointer (some ⟨m, 0, none⟩), .pointer (some ⟨g, 0, none⟩)]] w fun e w' => RdPost b w (pList pOp most L) (OpsTold w) e w' ∨ (pList pOp most L = none ∧ (∃ u er, e = .returned (.tuple #[u, .int .i64 er]) ∧ (er != 0) = true) ∧ w.grownBy w' (some b)) := by
  have HR : Hid (RR w b L ∧ Blk w f 129 #[.func (.func 89) #[] #[]] ∧ Blk w g 171 #[.func (.func 134) #[] #[.pointer (some ⟨f, 0, none⟩)]] ∧ w.cell? ⟨m, 0, none⟩ = some (.int .i64 most)) := ⟨hr, hf, hgc, hmc⟩
  obtain ⟨s, hs, hseg, hk⟩ := hr
  obtain ⟨x0, y0, e0⟩ := hseg.shape
  obtain ⟨n0, hn0⟩ : ∃ n, n = L.length := ⟨_, rfl⟩
  rw [← hn0] at e0
  subst e0
  have c0 := hs.cell0
  have c1 := hs.cell1
  have hbl : b < w.heap.size := hs.lt
  have HS : Hid (RdB w b true (.slice x0 n0 y0)) := hs
  clear hgc hf hmc hseg hk hn0
  go_enter Tryz.func167, Tryz.ntmps167
  go_wp2_with (first | (go_at_call 130; refine (Wire.there_some b true _ _ HS.out).mono ?_; rintro e w1 ⟨rfl, hw1⟩; rw [hw1]; clear hw1) | (go_at_call 168; refine (take168 b m f g L most _ hm hz (HR.out.1.grown (World.grownBy_alloc _ _ none)) (grown_fun (World.grownBy_alloc _ _ none) HR.out.2.2.2) (HR.out.2.2.1.grown (World.grownBy_alloc _ _ none) (by simp)) (HR.out.2.1.grown (World.grownBy_alloc _ _ none) (by simp))).mono ?_))
  rintro e w1 (h | ⟨hx, ⟨u, er, rfl, her⟩, ⟨s2, hs2⟩, hg⟩)
  · rcases h.symm with ⟨hx, rfl, hg⟩ | ⟨l, M, v, hx, rfl, ⟨u, rfl, ho⟩, hR, hg⟩
    · have F : Hid (pList pOp most L = none ∧ w.grownBy w1 (some b)) := ⟨hx, grown_trans (World.grownBy_alloc _ _ _) hg⟩
      clear hx hg h
      unfold Pan
      go_wp2_with fail
      exact ⟨rfl, .inl (.inr ⟨F.out.1, rfl, F.out.2⟩)⟩
    · have F : Hid (pList pOp most L = some (l, M) ∧ OpsOwn w1 w.heap.size u l ∧ RR w1 b M ∧ w.grownBy w1 (some b)) := ⟨hx, ho.mono (by simp), hR, grown_trans (World.grownBy_alloc _ _ _) hg⟩
      clear hx ho hR hg h
      go_wp2_with fail
      go_ret2
      exact .inl (.inl ⟨l, M, _, F.out.1, rfl, ⟨_, rfl, F.out.2.1⟩, F.out.2.2.1, F.out.2.2.2⟩)
  · have F : Hid (pList pOp most L = none ∧ (er != 0) = true ∧ w.grownBy w1 (some b)) := ⟨hx, her, grown_trans (World.grownBy_alloc _ _ _) hg⟩
    have hw : Blk w1 w.heap.size 167 #[.bool true, .slice x0 n0 y0] := Blk.grown (heap_alloc_new w _) hg (fun e => by simp at e; omega)
    have d0 := hw.cell 0
    have d1 := hw.cell 1
    have b0 := hs2.cell 0
    have b1 := hs2.cell 1
    have z0 := hs2.free 0
    have z1 := hs2.free 1
    clear hx hg hw hs2
    go_wp2_with fail
    go_ret2
    exact .inr ⟨F.out.1, ⟨_, _, rfl, F.out.2.1⟩, grown_trans F.out.2.2 (grown_trans (grown_setCell _ _ _ _) (grown_setCell _ _ _ _))⟩

set_option maxRecDepth 100000 in
set_option maxHeartbeats 2000000 in
theorem take133 (b f : Nat) (L : Bs) (most : Nat) (w : World) (hm : most ≤ 100) (hz : L.length ≤ 140737488355328) (hr : RR w b L) (hf : Blk w f 129 #[.func (.func 89) #[] #[]]) :
    Calls Tryz.prog 133 #[.pointer (some ⟨b, 0, none⟩), .int .i64 most, .func (.func 134) #[] #[.pointer (some ⟨f, 0, none⟩)]] w fun e w' => RdPost b w (pList pOp most L) (OpsTold w) e w' ∨ (pList pOp most L = none ∧ (∃ u er, e = .returned (.tuple #[u, .int .i64 er]) ∧ (er != 0) = true) ∧ w.grownBy w' (some b)) := by
  have HR : Hid (RR w b L ∧ Blk w f 129 #[.func (.func 89) #[] #[]]) := ⟨hr, hf⟩
  have q1 := ne171
  have hmf : ∀ (fn : Fn) (first cap : Array Value) (w : World), (Instr.makeFunc fn first cap).run Tryz.prog w = .ok (.func fn first cap) w := fun _ _ _ _ => rfl
  clear hr hf
  have HB : Hid (Blk ((w.alloc (.cells #[.int .i64 most] 3)).alloc (.cells #[.func (.func 134) #[] #[.pointer (some ⟨f, 0, none⟩)]] 171)) (w.heap.size + 1) 171 #[.func (.func 134) #[] #[.pointer (some ⟨f, 0, none⟩)]]) := by
    have := heap_alloc_new (w.alloc (.cells #[.int .i64 most] 3)) (.cells #[.func (.func 134) #[] #[.pointer (some ⟨f, 0, none⟩)]] 171)
    simpa [Blk, Hid] using this
  go_enter Tryz.func133, Tryz.ntmps133
  go_wp2_with (go_at_call 167; refine (whole167 b w.heap.size f (w.heap.size + 1) L most _ hm hz (HR.out.1.grown (grown_trans (World.grownBy_alloc _ _ none) (World.grownBy_alloc _ _ none))) (by simp [go_sem]) HB.out (HR.out.2.grown (grown_trans (World.grownBy_alloc _ _ none) (World.grownBy_alloc _ _ none)) (by simp))).mono ?_)
  rintro e w1 (h | ⟨hx, ⟨u, er, rfl, her⟩, hg⟩)
  · rcases h.symm with ⟨hx, rfl, hg⟩ | ⟨l, M, v, hx, rfl, ⟨u, rfl, ho⟩, hR, hg⟩
    · have F : Hid (pList pOp most L = none ∧ w.grownBy w1 (some b)) := ⟨hx, grown_trans (grown_trans (World.grownBy_alloc _ _ _) (World.grownBy_alloc _ _ _)) hg⟩
      clear hx hg h
      unfold Pan
      go_wp2_with fail
      exact ⟨rfl, .inl (.inr ⟨F.out.1, rfl, F.out.2⟩)⟩
    · have F : Hid (pList pOp most L = some (l, M) ∧ OpsOwn w1 w.heap.size u l ∧ RR w1 b M ∧ w.grownBy w1 (some b)) := ⟨hx, ho.mono (by simp; omega), hR, grown_trans (grown_trans (World.grownBy_alloc _ _ _) (World.grownBy_alloc _ _ _)) hg⟩
      clear hx ho hR hg h
      go_wp2_with fail
      go_ret2
      exact .inl (.inl ⟨l, M, _, F.out.1, rfl, ⟨_, rfl, F.out.2.1⟩, F.out.2.2.1, F.out.2.2.2⟩)
  · have F : Hid (pList pOp most L = none ∧ (er != 0) = true ∧ w.grownBy w1 (some b)) := ⟨hx, her, grown_trans (grown_trans (World.grownBy_alloc _ _ _) (World.grownBy_alloc _ _ _)) hg⟩
    clear hx hg
    go_wp2_with fail
    go_ret2
    exact .inr ⟨F.out.1, ⟨_, _, rfl, F.out.2.1⟩, F.out.2.2⟩

set_option maxRecDepth 100000 in
set_option maxHeartbeats 2000000 in
theorem list132 (b m f : Nat) (L : Bs) (most : Nat) (w : World) (hm : most ≤ 100) (hz : L.length ≤ 140737488355328) (hr : RR w b L) (hmc : w.cell? ⟨m, 0, none⟩ = some (.int .i64 most)) (hf : Blk w f 129 #[.func (.func 89) #[] #[]]) :
    Calls Tryz.prog 132 #[.pointer (some ⟨b, 0, none⟩), .pointer (some ⟨m, 0, none⟩), .pointer (some ⟨f, 0, none⟩)] w fun e w' => RdPost b w (pList pOp most L) (OpsTold w) e w' ∨ (pList pOp most L = none ∧ (∃ u er, e = .returned (.tuple #[u, .int .i64 er]) ∧ (er != 0) = true) ∧ w.grownBy w' (some b)) := by
  have HR : Hid (RR w b L ∧ Blk w f 129 #[.func (.func 89) #[] #[]]) := ⟨hr, hf⟩
  have hmf : ∀ (fn : Fn) (first cap : Array Value) (w : World), (Instr.makeFunc fn first cap).run Tryz.prog w = .ok (.func fn first cap) w := fun _ _ _ _ => rfl
  clear hr hf
  go_enter Tryz.func132, Tryz.ntmps132
  go_wp2_with (go_at_call 133; refine (take133 b f L most _ hm hz HR.out.1 HR.out.2).mono ?_)
  rintro e w1 (h | ⟨hx, ⟨u, er, rfl, her⟩, hg⟩)
  · rcases h.symm with ⟨hx, rfl, hg⟩ | ⟨l, M, v, hx, rfl, ⟨u, rfl, ho⟩, hR, hg⟩
    · have F : Hid (pList pOp most L = none ∧ w.grownBy w1 (some b)) := ⟨hx, hg⟩
      clear hx hg h
      unfold Pan
      go_wp2_with fail
      exact ⟨rfl, .inl (.inr ⟨F.out.1, rfl, F.out.2⟩)⟩
    · have F : Hid (pList pOp most L = some (l, M) ∧ OpsOwn w1 w.heap.size u l ∧ RR w1 b M ∧ w.grownBy w1 (some b)) := ⟨hx, ho, hR, hg⟩
      clear hx ho hR hg h
      go_wp2_with fail
      go_ret2
      exact .inl (.inl ⟨l, M, _, F.out.1, rfl, ⟨_, rfl, F.out.2.1⟩, F.out.2.2.1, F.out.2.2.2⟩)
  · have F : Hid (pList pOp most L = none ∧ (er != 0) = true ∧ w.grownBy w1 (some b)) := ⟨hx, her, hg⟩
    clear hx hg
    go_wp2_with fail
    go_ret2
    exact .inr ⟨F.out.1, ⟨_, _, rfl, F.out.2.1⟩, F.out.2.2⟩

set_option maxRecDepth 100000 in
set_option maxHeartbeats 2000000 in
theorem next131 (b m f : Nat) (L : Bs) (most : Nat) (w : World) (hm : most ≤ 100) (hz : L.length ≤ 140737488355328) (hr : RR w b L) (hmc : w.cell? ⟨m, 0, none⟩ = some (.int .i64 most)) (hf : Blk w f 129 #[.func (.func 89) #[] #[]]) :
    Calls Tryz.prog 131 #[rdV b, .func (.func 132) #[] #[.pointer (some ⟨m, 0, none⟩), .pointer (some ⟨f, 0, none⟩)]] w (RdPost b w (pList pOp most L) (fun l v w' => OpsOwn w' w.heap.size v l)) := by
  have HR : Hid (RR w b L ∧ Blk w f 129 #[.func (.func 89) #[] #[]] ∧ w.cell? ⟨m, 0, none⟩ = some (.int .i64 most)) := ⟨hr, hf, hmc⟩
  clear hr hf hmc
  have e0 : rdV b = .agg #[.pointer (some ⟨b, 0, none⟩)] := rfl
  rw [e0]
  go_enter Tryz.func131, Tryz.ntmps131
  go_wp2_with (go_at_call 132; refine (list132 b m f L most _ hm hz (HR.out.1.grown (World.grownBy_alloc _ _ none)) (grown_fun (World.grownBy_alloc _ _ none) HR.out.2.2) (HR.out.2.1.grown (World.grownBy_alloc _ _ none) (by simp))).mono ?_)
  rintro e w1 (h | ⟨hx, ⟨u, er, rfl, her⟩, hg⟩)
  · rcases h.symm with ⟨hx, rfl, hg⟩ | ⟨l, M, v, hx, rfl, ⟨u, rfl, ho⟩, hR, hg⟩
    · have F : Hid (pList pOp most L = none ∧ w.grownBy w1 (some b)) := ⟨hx, grown_trans (World.grownBy_alloc _ _ _) hg⟩
      clear hx hg h
      unfold Pan
      go_wp2_with fail
      exact ⟨rfl, .inr ⟨F.out.1, rfl, F.out.2⟩⟩
    · have F : Hid (pList pOp most L = some (l, M) ∧ OpsOwn w1 w.heap.size u l ∧ RR w1 b M ∧ w.grownBy w1 (some b)) := ⟨hx, ho.mono (by simp), hR, grown_trans (World.grownBy_alloc _ _ _) hg⟩
      clear hx ho hR hg h
      go_wp2_with (go_at_call 55; refine (sure_yes _ _).mono ?_; rintro e w2 ⟨rfl, hw2⟩; rw [hw2]; clear hw2)
      go_ret
      exact .inl ⟨l, M, _, F.out.1, rfl, F.out.2.1, F.out.2.2.1, F.out.2.2.2⟩
  · have F : Hid (pList pOp most L = none ∧ w.grownBy w1 (some b)) := ⟨hx, grown_trans (World.grownBy_alloc _ _ _) hg⟩
    have q : (er == 0) = false := by simpa using her
    clear hx hg her
    go_wp2_with (go_at_call 55; refine (sure_no _ _).mono ?_; rintro e w2 ⟨rfl, hw2⟩; rw [hw2]; clear hw2; unfold Pan)
    exact ⟨rfl, .inr ⟨F.out.1, rfl, F.out.2⟩⟩

set_option maxRecDepth 100000 in
set_option maxHeartbeats 2000000 in
theorem list88 (b : Nat) (L : Bs) (most : Nat) (w : World) (hm : most ≤ 100) (hz : L.length ≤ 140737488355328) (hr : RR w b L) :
    Calls Tryz.prog 88 #[rdV b, .int .i64 most, .func (.func 89) #[] #[]] w (RdPost b w (pList pOp most L) (fun l v w' => OpsOwn w' w.heap.size v l)) := by
  have HR : Hid (RR w b L) := hr
  have hmf : ∀ (fn : Fn) (first cap : Array Value) (w : World), (Instr.makeFunc fn first cap).run Tryz.prog w = .ok (.func fn first cap) w := fun _ _ _ _ => rfl
  clear hr
  have e0 : rdV b = .agg #[.pointer (some ⟨b, 0, none⟩)] := rfl
  rw [e0]
  have HB : Hid (Blk (((w.alloc (.cells #[.pointer (some ⟨b, 0, none⟩)] 86)).alloc (.cells #[.int .i64 most] 3)).alloc (.cells #[.func (.func 89) #[] #[]] 129)) (w.heap.size + 1 + 1) 129 #[.func (.func 89) #[] #[]]) := by
    have := heap_alloc_new ((w.alloc (.cells #[.pointer (some ⟨b, 0, none⟩)] 86)).alloc (.cells #[.int .i64 most] 3)) (.cells #[.func (.func 89) #[] #[]] 129)
    simpa [Blk, Hid] using this
  go_enter Tryz.func88, Tryz.ntmps88
  go_wp2_with (go_at_call 131; refine (next131 b (w.heap.size + 1) (w.heap.size + 1 + 1) L most _ hm hz (HR.out.grown (grown3 _ _ _ _)) (by simp [go_sem]) HB.out).mono ?_)
  intro e w1 h
  rcases h.symm with ⟨hx, rfl, hg⟩ | ⟨l, M, v, hx, rfl, ho, hR, hg⟩
  · have F : Hid (pList pOp most L = none ∧ w.grownBy w1 (some b)) := ⟨hx, grown_trans (grown_weak (grown3 _ _ _ _) _) hg⟩
    clear hx hg h
    unfold Pan
    go_wp2_with fail
    exact ⟨rfl, .inr ⟨F.out.1, rfl, F.out.2⟩⟩
  · have F : Hid (pList pOp most L = some (l, M) ∧ OpsOwn w1 w.heap.size v l ∧ RR w1 b M ∧ w.grownBy w1 (some b)) := ⟨hx, ho.mono (by simp; omega), hR, grown_trans (grown_weak (grown3 _ _ _ _) _) hg⟩
    clear hx ho hR hg h
    go_wp2_with fail
    go_ret
    exact .inl ⟨l, M, _, F.out.1, rfl, F.out.2.1, F.out.2.2.1, F.out.2.2.2⟩
end Go.Proofs.YtfocmbnhkldnfaaGreatDoor
/-
  Calls are read: Read.
-/
namespace Go.Proofs.YtfocmbnhkldnfaaGreatDoor
open Go.RowKit Disk
open Names (Str)
open Wire (RdB RdG)

theorem list88_int (x : Int) (b : Nat) (L : Bs) (most : Nat) (hx : x = most) (w : World) (hm : most ≤ 100) (hz : L.length ≤ 140737488355328) (hr : RR w b L) :
    Calls Tryz.prog 88 #[rdV b, .int .i64 x, .func (.func 89) #[] #[]] w (RdPost b w (pList pOp most L) (fun l v w' => OpsOwn w' w.heap.size v l)) := by subst hx; exact list88 b L most w hm hz hr

/-- Ops, at least one. -/
def pOps (L : Bs) : Option (List POp × Bs) := (pList pOp 16 L).bind fun l => if l.1.length = 0 then none else some l
theorem pCall_ops (L : Bs) : pCall L = (pOps L).bind fun l => if l.2.length = 0 then some l.1 else none := by
  unfold pCall pOps
  cases pList pOp 16 L with
  | none => rfl
  | some l => simp only [Option.bind_some]; split <;> rfl

set_option maxRecDepth 100000 in
set_option maxHeartbeats 2000000 in
theorem call48 (b : Nat) (L : Bs) (w : World) (hz : L.length ≤ 140737488355328) (hr : RR w b L) :
    Calls Tryz.prog 48 #[rdV b] w (RdPost b w (pOps L) (fun l v w' => ∃ u, v = .agg #[u] ∧ OpsOwn w' w.heap.size u l)) := by
  have HR : Hid (RR w b L) := hr
  have hbl : b < w.heap.size := by obtain ⟨s, hs⟩ := hr.blk; exact hs.lt
  clear hr
  have e0 : rdV b = .agg #[.pointer (some ⟨b, 0, none⟩)] := rfl
  rw [e0]
  go_enter Tryz.func48, Tryz.ntmps48
  go_wp2_with (go_at_call 88; refine (list88_int _ b L 16 rfl _ (by decide) hz (HR.out.grown (grown_trans (World.grownBy_alloc _ _ none) (World.grownBy_alloc _ _ none)))).mono ?_)
  intro e w1 h
  rcases h.symm with ⟨hx, rfl, hg⟩ | ⟨l, M, v, hx, rfl, ho, hR, hg⟩
  · have F : Hid (pOps L = none ∧ w.grownBy w1 (some b)) := ⟨by unfold pOps; rw [hx]; rfl, grown_trans (grown_trans (World.grownBy_alloc _ _ _) (World.grownBy_alloc _ _ _)) hg⟩
    clear hx hg h
    unfold Pan
    go_wp2_with fail
    exact ⟨rfl, .inr ⟨F.out.1, rfl, F.out.2⟩⟩
  clear h
  obtain ⟨x, n, y, rfl, hn⟩ := ho.slice
  have hres : Blk w1 (w.heap.size + 1) 24 #[.slice none 0 0] := by
    have := Blk.grown (heap_alloc_new (w.alloc (.cells #[.pointer (some ⟨b, 0, none⟩)] 86)) (.cells #[.slice none 0 0] 24)) hg (fun e => by simp at e; omega)
    simpa using this
  have F : Hid (pList pOp 16 L = some (l, M) ∧ OpsOwn w1 w.heap.size (.slice x n y) l ∧ RR w1 b M ∧ w.grownBy w1 (some b) ∧ n = l.length ∧ Blk w1 (w.heap.size + 1) 24 #[.slice none 0 0]) := ⟨hx, ho.mono (by simp; omega), hR, grown_trans (grown_trans (World.grownBy_alloc _ _ _) (World.grownBy_alloc _ _ _)) hg, hn, hres⟩
  have c0 := hres.cell 0
  have z0 := hres.free 0
  have hn2 : n ≤ 1099511627776 := by rw [hn]; exact ho.2
  clear hx ho hR hg hn hres
  by_cases h0 : n = 0
  · have HQ : Hid (pOps L = none) := by unfold pOps; rw [F.out.1]; simp only [Option.bind_some]; rw [if_pos (by rw [← F.out.2.2.2.2.1]; exact h0)]; rfl
    subst h0
    go_wp2_with (go_at_call 55; refine (sure_no _ _).mono ?_; rintro e w2 ⟨rfl, hw2⟩; rw [hw2]; clear hw2; unfold Pan)
    exact ⟨rfl, .inr ⟨HQ.out, rfl, F.out.2.2.2.1⟩⟩
  · have i0 : (0 : Int) < (n : Int) := by omega
    have i1 : 0 < n := by omega
    have HQ : Hid (pOps L = some (l, M)) := by unfold pOps; rw [F.out.1]; simp only [Option.bind_some]; rw [if_neg (by rw [← F.out.2.2.2.2.1]; exact h0)]; rfl
    have hb := F.out.2.2.2.2.2.store 0 (.slice x n y)
    have HB : Hid _ := hb
    clear hb
    go_wp2_with (go_at_call 55; refine (sure_yes _ _).mono ?_; rintro e w2 ⟨rfl, hw2⟩; rw [hw2]; clear hw2)
    refine bodyPost_ret (v := _) (results_cell_row rfl _ _ (w.heap.size + 1) 24 _ (0, 0) _ rfl HB.out Tryz.underlying24 rfl (by kernel_rfl)) rfl ?_
    exact .inl ⟨l, M, _, HQ.out, rfl, ⟨_, rfl, F.out.2.1.set F.out.2.2.2.2.2 (by decide) (by decide) (grown_setCell _ _ _ _)⟩, F.out.2.2.1.set F.out.2.2.2.2.2 (grown_setCell _ _ _ _) (by decide) (by decide), grown_new F.out.2.2.2.1 (grown_setCell _ _ _ _) (fun y hy => by simp at hy; omega)⟩

set_option maxRecDepth 100000 in
set_option maxHeartbeats 2000000 in
theorem whole85 (p q : Nat) (v : Value) (L : Bs) (w : World) (hz : L.length ≤ 140737488355328) (hp : w.cell? ⟨p, 0, none⟩ = some v) (hq : w.cell? ⟨q, 0, none⟩ = some (.func (.func 48) #[] #[])) (hs : Seg w v L) :
    Calls Tryz.prog 85 #[.pointer (some ⟨p, 0, none⟩), .pointer (some ⟨q, 0, none⟩)] w (Within w (fun u w' => ∃ l x, pCall L = some l ∧ u = .agg #[x] ∧ OpsOwn w' w.heap.size x l) (fun c _ => pCall L = none ∧ c = 4)) := by
  have HS : Hid (Seg w v L) := hs
  obtain ⟨x0, y0, e0⟩ := hs.shape
  obtain ⟨n0, hn0⟩ : ∃ n, n = L.length := ⟨_, rfl⟩
  rw [← hn0] at e0
  subst e0
  have kp := fun o => grown_fun (World.grownBy_alloc w o none) hp
  have HQ : Hid (w.cell? ⟨q, 0, none⟩ = some (.func (.func 48) #[] #[])) := hq
  clear hs hp hq hn0
  go_enter Tryz.func85, Tryz.ntmps85
  go_wp2_with (go_at_call 86; refine (open86 _ L _ (HS.out.grown (World.grownBy_alloc _ _ none)) hz).mono ?_)
  rintro e w1 ⟨b, rfl, hb, hR, hg⟩
  have hres : Blk w1 w.heap.size 24 #[.slice none 0 0] := Blk.grown (heap_alloc_new w _) hg (by simp)
  have kq := fun o => grown_fun (World.grownBy_alloc w1 o none) (grown_fun (grown_trans (World.grownBy_alloc _ _ none) hg) HQ.out)
  have H1 : Hid (RR (w1.alloc (.cells #[.pointer (some ⟨b, 0, none⟩)] 86)) b L ∧ w.grownBy (w1.alloc (.cells #[.pointer (some ⟨b, 0, none⟩)] 86)) none ∧ Blk (w1.alloc (.cells #[.pointer (some ⟨b, 0, none⟩)] 86)) w.heap.size 24 #[.slice none 0 0] ∧ Blk (w1.alloc (.cells #[.pointer (some ⟨b, 0, none⟩)] 86)) w1.heap.size 86 #[.pointer (some ⟨b, 0, none⟩)] ∧ w.heap.size < b ∧ w.heap.size < w1.heap.size) := ⟨hR.grown (World.grownBy_alloc _ _ none), grown_trans (grown_trans (World.grownBy_alloc _ _ none) hg) (World.grownBy_alloc _ _ none), hres.grown (World.grownBy_alloc _ _ none) (by simp), heap_alloc_new _ _, by simp at hb; omega, by have := hg.size; simp at this; omega⟩
  clear hR hres hg kp hb
  go_wp2_with (go_at_call 48; refine (call48 b L _ hz H1.out.1).mono ?_)
  generalize (w1.alloc (.cells #[.pointer (some ⟨b, 0, none⟩)] 86)) = W1 at H1 ⊢
  intro e w2 h
  rcases h.symm with ⟨hx, rfl, hg⟩ | ⟨l, M, v, hx, rfl, ⟨u, rfl, ho⟩, hR, hg⟩
  · have F : Hid (pCall L = none ∧ w.grownBy w2 none) := ⟨by rw [pCall_ops, hx]; rfl, grown_new H1.out.2.1 hg (fun y hy => by simp at hy; have := H1.out.2.2.2.2.1; omega)⟩
    clear hx hg h
    unfold Pan
    go_wp2_with fail
    exact ⟨rfl, .inr ⟨4, rfl, ⟨F.out.1, rfl⟩, F.out.2⟩⟩
  clear h
  obtain ⟨x, n, y, rfl, hn⟩ := ho.slice
  have hr2 : Blk w2 w.heap.size 24 #[.slice none 0 0] := H1.out.2.2.1.grown hg (fun e => by simp at e; have := H1.out.2.2.2.2.1; omega)
  have hx2 : Blk w2 w1.heap.size 86 #[.pointer (some ⟨b, 0, none⟩)] := H1.out.2.2.2.1.grown hg (fun e => by
    simp at e
    exact H1.out.1.ne H1.out.2.2.2.1 (by decide) e.symm)
  have F : Hid (pOps L = some (l, M) ∧ OpsOwn w2 w.heap.size (.slice x n y) l ∧ RR w2 b M ∧ w.grownBy w2 none ∧ Blk w2 w.heap.size 24 #[.slice none 0 0]) := ⟨hx, ho.mono H1.out.2.1.size, hR, grown_new H1.out.2.1 hg (fun y hy => by simp at hy; have := H1.out.2.2.2.2.1; omega), hr2⟩
  have kx := fun o => grown_fun (World.grownBy_alloc w2 o none) (hx2.cell 0)
  have c0 := fun o => grown_fun (World.grownBy_alloc w2 o none) (hr2.cell 0)
  have z0 := fun o => (hr2.grown (World.grownBy_alloc w2 o none) (by simp)).free 0
  have HRR := fun o => F.out.2.2.1.grown (World.grownBy_alloc w2 o none)
  have HR2 : Hid _ := HRR
  clear hx ho hR hg hn hr2 hx2 HRR
  by_cases hM : M = []
  · have HC : Hid (pCall L = some l) := by rw [pCall_ops, F.out.1]; simp [hM, Hid]
    go_wp2_with (first | (go_at_call 87; refine (end87 b M _ (HR2.out _)).mono ?_; rintro e w3 ⟨rfl, hw3⟩; rw [hw3, if_pos hM]; clear hw3) | (go_at_call 55; refine (sure_yes _ _).mono ?_; rintro e w3 ⟨rfl, hw3⟩; rw [hw3]; clear hw3))
    have hb := (F.out.2.2.2.2.grown (World.grownBy_alloc w2 (.cells #[.slice x n y] 24) none) (by simp)).store 0 (.slice x n y)
    refine bodyPost_ret (v := _) (results_cell_row rfl _ _ w.heap.size 24 _ (0, 0) _ rfl hb Tryz.underlying24 rfl (by kernel_rfl)) rfl ?_
    exact .inl ⟨_, rfl, ⟨l, _, HC.out, rfl, (F.out.2.1.grown (World.grownBy_alloc _ _ none)).set (F.out.2.2.2.2.grown (World.grownBy_alloc _ _ none) (by simp)) (by decide) (by decide) (grown_setCell _ _ _ _)⟩, grown_new (grown_trans F.out.2.2.2.1 (World.grownBy_alloc _ _ none)) (grown_setCell _ _ _ _) (fun y hy => by simp at hy; omega)⟩
  · have HC : Hid (pCall L = none) := by rw [pCall_ops, F.out.1]; simp [hM, Hid]
    go_wp2_with (first | (go_at_call 87; refine (end87 b M _ (HR2.out _)).mono ?_; rintro e w3 ⟨rfl, hw3⟩; rw [hw3, if_neg hM]; clear hw3) | (go_at_call 55; refine (sure_no _ _).mono ?_; rintro e w3 ⟨rfl, hw3⟩; rw [hw3]; clear hw3; unfold Pan))
    exact ⟨rfl, .inr ⟨4, rfl, ⟨HC.out, rfl⟩, grown_trans F.out.2.2.2.1 (World.grownBy_alloc _ _ none)⟩⟩

/-- A call's reading: the call, or an error. -/
def ReadPost (w : World) (r : List POp × Int) (e : Ending) (w' : World) : Prop := ∃ u, e = .returned (.tuple #[.agg #[u], .int .i64 r.2]) ∧ OpsOwn w' w.heap.size u r.1 ∧ w.grownBy w' none
def rdRes (L : Bs) : List POp × Int := match pCall L with | some l => (l, 0) | none => ([], 4)

set_option maxRecDepth 100000 in
set_option maxHeartbeats 2000000 in
theorem whole47 (v : Value) (L : Bs) (w : World) (hz : L.length ≤ 140737488355328) (hs : Seg w v L) :
    Calls Tryz.prog 47 #[v, .func (.func 48) #[] #[]] w (ReadPost w (rdRes L)) := by
  have HS : Hid (Seg w v L) := hs
  obtain ⟨x0, y0, e0⟩ := hs.shape
  obtain ⟨n0, hn0⟩ : ∃ n, n = L.length := ⟨_, rfl⟩
  rw [← hn0] at e0
  subst e0
  have hmf : ∀ (fn : Fn) (first cap : Array Value) (w : World), (Instr.makeFunc fn first cap).run Tryz.prog w = .ok (.func fn first cap) w := fun _ _ _ _ => rfl
  clear hs hn0
  obtain ⟨W, hW⟩ : ∃ W, W = ((w.alloc (.cells #[.slice x0 n0 y0] 29)).alloc (.cells #[.func (.func 48) #[] #[]] 83)).alloc (.cells #[.slice none 0 0] 24) := ⟨_, rfl⟩
  have hgW : w.grownBy W none := by rw [hW]; exact grown3 _ _ _ _
  have k1 : W.cell? ⟨w.heap.size, 0, none⟩ = some (.slice x0 n0 y0) := by rw [hW]; simp [go_sem]
  have k2 : W.cell? ⟨w.heap.size + 1, 0, none⟩ = some (.func (.func 48) #[] #[]) := by rw [hW]; simp [go_sem]
  have k3 : Blk W (w.heap.size + 1 + 1) 24 #[.slice none 0 0] := by
    have := heap_alloc_new ((w.alloc (.cells #[.slice x0 n0 y0] 29)).alloc (.cells #[.func (.func 48) #[] #[]] 83)) (.cells #[.slice none 0 0] 24)
    rw [hW]
    simpa [Blk] using this
  have hin := whole85 w.heap.size (w.heap.size + 1) (.slice x0 n0 y0) L ((W.alloc (.cells #[.slice none 0 0] 24)).alloc (.cells #[.int .i64 0] 30)) hz (grown_fun (grown_trans (World.grownBy_alloc _ _ none) (World.grownBy_alloc _ _ none)) k1) (grown_fun (grown_trans (World.grownBy_alloc _ _ none) (World.grownBy_alloc _ _ none)) k2) (HS.out.grown (grown_trans hgW (grown_trans (World.grownBy_alloc _ _ none) (World.grownBy_alloc _ _ none))))
  have HF : Hid _ := face51_85 _ _ W _ _ (by
    rintro u w1 ⟨l, x, _, rfl, ho⟩
    obtain ⟨a, n, c, rfl, _⟩ := ho.slice
    exact ⟨a, n, c, rfl⟩) (by
    rintro u w1 w2 b t c ⟨l, x, h1, h2, ho⟩ hb ht hg
    refine ⟨l, x, h1, h2, ho.set hb ?_ ?_ hg⟩ <;> omega) hin
  have HG : Hid (w.grownBy W none ∧ Blk W (w.heap.size + 1 + 1) 24 #[.slice none 0 0]) := ⟨hgW, k3⟩
  clear hin hgW k1 k2 k3
  go_enter Tryz.func47, Tryz.ntmps47
  go_wp2_with (go_at_call 51; rw [← hW]; refine Calls.mono HF.out ?_)
  rintro e w1 ⟨(⟨u, rfl, l, x, hx, rfl, ho⟩ | ⟨c, w2, rfl, hx, rfl⟩), hg⟩
  · obtain ⟨a, n, y, rfl, hn⟩ := ho.slice
    have hb : Blk w1 (w.heap.size + 1 + 1) 24 #[.slice none 0 0] := HG.out.2.grown hg (by simp)
    have c0 := hb.cell 0
    have z0 := hb.free 0
    have F : Hid (rdRes L = (l, 0) ∧ OpsOwn w1 w.heap.size (.slice a n y) l ∧ w.grownBy w1 none ∧ Blk w1 (w.heap.size + 1 + 1) 24 #[.slice none 0 0]) := ⟨by unfold rdRes; rw [hx], ho.mono (by have := HG.out.1.size; simp; omega), grown_trans HG.out.1 hg, hb⟩
    clear hx ho hg hb HF hW hn
    go_wp2_with fail
    have hb2 := F.out.2.2.2.store 0 (.slice a n y)
    refine bodyPost_ret (v := _) (results_row_tmp rfl _ _ (w.heap.size + 1 + 1) _ rfl (run_loadVar_row _ (w.heap.size + 1 + 1) 24 24 _ (0, 0) _ hb2 Tryz.underlying24 rfl (by kernel_rfl))) rfl ?_
    exact ⟨_, by rw [F.out.1]; rfl, by rw [F.out.1]; exact F.out.2.1.set F.out.2.2.2 (by decide) (by decide) (grown_setCell _ _ _ _), grown_new F.out.2.2.1 (grown_setCell _ _ _ _) (fun y hy => by simp at hy; omega)⟩
  · have hb : Blk w1 (w.heap.size + 1 + 1) 24 #[.slice none 0 0] := HG.out.2.grown hg (by simp)
    have c0 := hb.cell 0
    have z0 := hb.free 0
    have F : Hid (rdRes L = ([], 4) ∧ w.grownBy w1 none ∧ Blk w1 (w.heap.size + 1 + 1) 24 #[.slice none 0 0]) := ⟨by unfold rdRes; rw [hx], grown_trans HG.out.1 hg, hb⟩
    clear hx hg hb HF hW
    go_wp2_with fail
    have hb2 := F.out.2.2.store 0 (.slice none 0 0)
    refine bodyPost_ret (v := _) (results_row_tmp rfl _ _ (w.heap.size + 1 + 1) _ rfl (run_loadVar_row _ (w.heap.size + 1 + 1) 24 24 _ (0, 0) _ hb2 Tryz.underlying24 rfl (by kernel_rfl))) rfl ?_
    exact ⟨_, by rw [F.out.1]; rfl, by rw [F.out.1]; exact ⟨lrow_nil _ _, by simp⟩, grown_new F.out.2.1 (grown_setCell _ _ _ _) (fun y hy => by simp at hy; omega)⟩

set_option maxRecDepth 100000 in
set_option maxHeartbeats 2000000 in
theorem read22 (v : Value) (L : Bs) (w : World) (hz : L.length ≤ 140737488355328) (hs : Seg w v L) :
    Calls Tryz.prog 22 #[v] w (ReadPost w (readC L)) := by
  have HS : Hid (Seg w v L) := hs
  obtain ⟨x0, y0, e0⟩ := hs.shape
  obtain ⟨n0, hn0⟩ : ∃ n, n = L.length := ⟨_, rfl⟩
  rw [← hn0] at e0
  subst e0
  have hn1 : n0 ≤ 140737488355328 := by omega
  have HN : Hid (n0 = L.length) := hn0
  clear hs hn0
  by_cases hle : n0 ≤ 4096
  · have i1 : ¬ (4096 : Int) < (n0 : Int) := by omega
    have HC : Hid (readC L = rdRes L) := by unfold readC rdRes; rw [if_pos (by rw [← HN.out]; exact hle)]; rfl
    go_enter Tryz.func22, Tryz.ntmps22
    go_wp2_with (go_at_call 47; refine (whole47 _ L _ hz (HS.out.grown (World.grownBy_alloc _ _ none))).mono ?_)
    rintro e w1 ⟨u, rfl, ho, hg⟩
    obtain ⟨a, n, y, rfl, hn⟩ := ho.slice
    have hb : Blk w1 w.heap.size 24 #[.slice none 0 0] := Blk.grown (heap_alloc_new w _) hg (by simp)
    have c0 := hb.cell 0
    have z0 := hb.free 0
    have F : Hid (OpsOwn w1 w.heap.size (.slice a n y) (rdRes L).1 ∧ w.grownBy w1 none ∧ Blk w1 w.heap.size 24 #[.slice none 0 0]) := ⟨ho.mono (by simp), grown_trans (World.grownBy_alloc _ _ none) hg, hb⟩
    clear ho hg hb hn
    go_wp2_with fail
    have hb2 := F.out.2.2.store 0 (.slice a n y)
    refine bodyPost_ret (v := _) (results_row_tmp rfl _ _ w.heap.size _ rfl (run_loadVar_row _ w.heap.size 24 24 _ (0, 0) _ hb2 Tryz.underlying24 rfl (by kernel_rfl))) rfl ?_
    exact ⟨_, by rw [HC.out]; rfl, by rw [HC.out]; exact F.out.1.set F.out.2.2 (by decide) (by decide) (grown_setCell _ _ _ _), grown_new F.out.2.1 (grown_setCell _ _ _ _) (fun y hy => by simp at hy; omega)⟩
  · have i1 : (4096 : Int) < (n0 : Int) := by omega
    have HC : Hid (readC L = ([], 3)) := by unfold readC; rw [if_neg (by rw [← HN.out]; exact hle)]; rfl
    go_enter Tryz.func22, Tryz.ntmps22
    go_wp2_with fail
    refine bodyPost_ret (v := _) (results_row_tmp rfl _ _ w.heap.size _ rfl (run_loadVar_row _ w.heap.size 24 24 _ (0, 0) _ (heap_alloc_new w _) Tryz.underlying24 rfl (by kernel_rfl))) rfl ?_
    exact ⟨_, by rw [HC.out]; rfl, by rw [HC.out]; exact ⟨lrow_nil _ _, by simp⟩, World.grownBy_alloc _ _ none⟩
end Go.Proofs.YtfocmbnhkldnfaaGreatDoor
