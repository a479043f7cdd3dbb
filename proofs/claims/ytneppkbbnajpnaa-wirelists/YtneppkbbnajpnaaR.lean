/-
  The reader's methods: Number, Signed, Flag, Bytes: what each answers of the bytes before it, and where the reader is behind the call.
-/
import Derived.Test.YtneppkbbnajpnaaF
namespace Go.Proofs.Ytneppkbbnajpnaa
open Go.RowKit

/-- What Number answers: the number, the error's number, what is left. -/
def rdNum (L : List UInt8) : Nat × Int × List UInt8 := match scan 0 0 L with
  | none => (0, 4, L)
  | some (n, k) => (n, 0, L.drop k)

theorem rdNum_none {L : List UInt8} (h : scan 0 0 L = none) : rdNum L = (0, 4, L) := by simp [rdNum, h]
theorem rdNum_some {L : List UInt8} {n k : Nat} (h : scan 0 0 L = some (n, k)) : rdNum L = (n, 0, L.drop k) := by simp [rdNum, h]

theorem rdNum_lt (L : List UInt8) : (rdNum L).1 < 2 ^ 64 := by
  cases h : scan 0 0 L with
  | none => rw [rdNum_none h]; show 0 < 2 ^ 64; decide
  | some x => obtain ⟨n, k⟩ := x; rw [rdNum_some h]; exact (scan_bound L 0 0 (by omega) (by simp) n k h).1

def unfoldZ (n : Nat) : Int := if n % 2 = 1 then -((n / 2 : Nat) : Int) - 1 else ((n / 2 : Nat) : Int)

theorem rdb_alloc {w : World} {b : Nat} {o : Bool} {s : Value} (h : RdB w b o s) (x : Obj) : RdB (w.alloc x) b o s := h.kept (World.grownBy_alloc w x none) (by simp)
theorem seg_alloc {w : World} {v : Value} {L : List UInt8} (h : Seg w v L) (x : Obj) : Seg (w.alloc x) v L := h.grown (World.grownBy_alloc w x none)

theorem Seg.shape {w : World} {v : Value} {L : List UInt8} (h : Seg w v L) : ∃ ao cap, v = .slice ao L.length cap := by obtain ⟨ao, cap, h, _⟩ := h; exact ⟨ao, cap, h⟩

/-- The reader's block behind a step that has stored what is left. -/
theorem rd_stored {w : World} {b : Nat} {s t : Value} {L M : List UInt8} (hr : RdB w b true s) (hs : Seg w s M) (ht : Seg w t L) : Rd (w.setCell ⟨b, 1, none⟩ t) b L := by
  obtain ⟨ao, cap, rfl⟩ := hs.shape
  exact ⟨t, hr.store t, ht.grownR hr (grown_setCell w b 1 t)⟩

set_option maxHeartbeats 400000 in
theorem number25_nil (w : World) : Calls Try.prog 25 #[.pointer none] w fun e w' => e = .returned (.tuple #[.int .u64 0, .int .i64 1]) ∧ w' = w := by
  go_enter Try.func25, Try.ntmps25
  go_wp2_with fail
  refine (whole46_nil _ _).mono ?_
  rintro e w' ⟨rfl, rfl⟩
  go_wp2_with fail
  go_ret2
  exact ⟨rfl, rfl⟩

set_option maxHeartbeats 400000 in
theorem number25_zero (b : Nat) (s : Value) (w : World) (hr : RdB w b false s) : Calls Try.prog 25 #[.pointer (some ⟨b, 0, none⟩)] w fun e w' => e = .returned (.tuple #[.int .u64 0, .int .i64 1]) ∧ w' = w := by
  go_enter Try.func25, Try.ntmps25
  go_wp2_with fail
  refine (whole46_zero b s _ _ hr).mono ?_
  rintro e w' ⟨rfl, rfl⟩
  go_wp2_with fail
  go_ret2
  exact ⟨rfl, rfl⟩

theorem whole46_any (b : Nat) (L : List UInt8) (w : World) (hr : Rd w b L) :
    Calls Try.prog 46 #[.pointer (some ⟨b, 0, none⟩), .func (.func 47) #[] #[]] w fun e w' => e = .returned (.tuple #[.int .u64 (rdNum L).1, .int .i64 (rdNum L).2.1]) ∧ Rd w' b (rdNum L).2.2 ∧ w.grownBy w' (some b) := by
  obtain ⟨s, hr, hs⟩ := hr
  obtain ⟨ao, cap, rfl⟩ := hs.shape
  cases h : scan 0 0 L with
  | none =>
    rw [rdNum_none h]
    refine (whole46_err b ao L.length cap 4 w hr (by decide) ((digits_none b true _ L _ (rdb_alloc hr _) (seg_alloc hs _) h).mono ?_)).mono ?_
    · rintro e w2 ⟨rfl, rfl⟩
      exact ⟨_, rfl, ⟨_, rdb_alloc hr _⟩, grown_refl _ _⟩
    · rintro e w' ⟨rfl, h1, h2⟩
      exact ⟨rfl, ⟨_, h1, hs.grownR hr h2⟩, h2⟩
  | some x =>
    obtain ⟨n, k⟩ := x
    rw [rdNum_some h]
    refine (whole46_ok b ao L.length cap w (fun v w' => v = .int .u64 n ∧ Rd w' b (L.drop k) ∧ w.grownBy w' (some b)) hr ((digits_some b true _ L n k _ (rdb_alloc hr _) (seg_alloc hs _) h).mono ?_)).mono ?_
    · rintro e w2 ⟨rfl, t, ht, rfl⟩
      exact ⟨_, rfl, rfl, rd_stored (rdb_alloc hr _) (seg_alloc hs _) ht, grown_trans (World.grownBy_alloc w _ _) (grown_setCell _ b 1 t)⟩
    · rintro e w' ⟨_, rfl, rfl, h1, h2⟩
      exact ⟨rfl, h1, h2⟩

set_option maxHeartbeats 400000 in
theorem number25 (b : Nat) (L : List UInt8) (w : World) (hr : Rd w b L) :
    Calls Try.prog 25 #[.pointer (some ⟨b, 0, none⟩)] w fun e w' => e = .returned (.tuple #[.int .u64 (rdNum L).1, .int .i64 (rdNum L).2.1]) ∧ Rd w' b (rdNum L).2.2 ∧ w.grownBy w' (some b) := by
  go_enter Try.func25, Try.ntmps25
  go_wp2_with fail
  refine (whole46_any b L _ hr).mono ?_
  rintro e w' ⟨rfl, h1, h2⟩
  have F : Hid _ := And.intro h1 h2
  clear h1 h2
  go_wp2_with fail
  go_ret2
  exact ⟨rfl, F.out⟩

set_option maxHeartbeats 400000 in
theorem signed26_nil (w : World) : Calls Try.prog 26 #[.pointer none] w fun e w' => e = .returned (.tuple #[.int .i64 0, .int .i64 1]) ∧ w' = w := by
  go_enter Try.func26, Try.ntmps26
  go_wp2_with fail
  refine (number25_nil _).mono ?_
  rintro e w' ⟨rfl, rfl⟩
  go_wp2_with fail
  go_ret2
  exact ⟨rfl, rfl⟩

set_option maxHeartbeats 400000 in
theorem signed26_zero (b : Nat) (s : Value) (w : World) (hr : RdB w b false s) : Calls Try.prog 26 #[.pointer (some ⟨b, 0, none⟩)] w fun e w' => e = .returned (.tuple #[.int .i64 0, .int .i64 1]) ∧ w' = w := by
  go_enter Try.func26, Try.ntmps26
  go_wp2_with fail
  refine (number25_zero b s _ hr).mono ?_
  rintro e w' ⟨rfl, rfl⟩
  go_wp2_with fail
  go_ret2
  exact ⟨rfl, rfl⟩

set_option maxHeartbeats 400000 in
theorem signed26_of (b : Nat) (n : Nat) (er : Int) (Φ : World → Prop) (w : World) (hn64 : n ≤ 18446744073709551615)
    (hC : Calls Try.prog 25 #[.pointer (some ⟨b, 0, none⟩)] w fun e w' => e = .returned (.tuple #[.int .u64 n, .int .i64 er]) ∧ Φ w') :
    Calls Try.prog 26 #[.pointer (some ⟨b, 0, none⟩)] w fun e w' => e = .returned (.tuple #[.int .i64 (unfoldZ n), .int .i64 er]) ∧ Φ w' := by
  have HC : Hid _ := hC
  clear hC
  by_cases h2 : n % 2 = 1
  · have e2 : Hid (-((n : Int) / 2) - 1 = unfoldZ n) := by simp [Hid, unfoldZ, h2]
    have h2' : ((n : Int) % 2 == 1) = true := by simp; omega
    clear h2
    go_enter Try.func26, Try.ntmps26
    go_wp2_with fail
    refine Calls.mono HC.out ?_
    rintro e w' ⟨rfl, h1⟩
    have F : Hid _ := h1
    clear h1
    go_wp2_with fail
    go_ret2
    exact ⟨ret_two e2.out, F.out⟩
  · have e2 : Hid ((n : Int) / 2 = unfoldZ n) := by simp [Hid, unfoldZ, h2]
    have h2' : ((n : Int) % 2 == 1) = false := by simp; omega
    clear h2
    go_enter Try.func26, Try.ntmps26
    go_wp2_with fail
    refine Calls.mono HC.out ?_
    rintro e w' ⟨rfl, h1⟩
    have F : Hid _ := h1
    clear h1
    go_wp2_with fail
    go_ret2
    exact ⟨ret_two e2.out, F.out⟩

theorem signed26 (b : Nat) (L : List UInt8) (w : World) (hr : Rd w b L) :
    Calls Try.prog 26 #[.pointer (some ⟨b, 0, none⟩)] w fun e w' => e = .returned (.tuple #[.int .i64 (unfoldZ (rdNum L).1), .int .i64 (rdNum L).2.1]) ∧ Rd w' b (rdNum L).2.2 ∧ w.grownBy w' (some b) :=
  signed26_of b _ _ _ w (by have := rdNum_lt L; omega) (number25 b L w hr)

/-- What Flag answers. -/
def rdFlag (L : List UInt8) : Bool × Int × List UInt8 := match L with
  | [] => (false, 4, [])
  | c :: l => if 1 < c.toNat then (false, 4, c :: l) else (c.toNat == 1, 0, l)

set_option maxHeartbeats 400000 in
theorem bit53_bad (b : Nat) (o : Bool) (s : Value) (L : List UInt8) (w : World) (hr : RdB w b o s) (hs : Seg w s L) (h : (rdFlag L).2.1 = 4) :
    Calls Try.prog 53 #[.pointer (some ⟨b, 0, none⟩)] w fun e w' => e = .returned (.tuple #[.bool false, .int .i64 4]) ∧ w' = w := by
  obtain ⟨ao, cap, rfl, h1, h2, h3, h4⟩ := hs
  have hc1 := hr.cell1
  cases L with
  | nil =>
    clear h4 h3 h2 h1 h hr
    go_enter Try.func53, Try.ntmps53
    go_wp2_with fail
    go_ret2
    exact ⟨rfl, rfl⟩
  | cons c l =>
    obtain ⟨bb, off, rfl, hc⟩ := h4 0 (by simp)
    have hc : w.cell? ⟨bb, off, none⟩ = some (.int .u8 (c.toNat : Int)) := by simpa using hc
    have hlen : 0 < (c :: l).length := by simp
    obtain ⟨n, hn⟩ : ∃ n, (c :: l).length = n := ⟨_, rfl⟩
    rw [hn] at hc1 hlen
    have hbig : 1 < c.toNat := by
      simp [rdFlag] at h
      by_cases hx : 1 < c.toNat
      · exact hx
      · simp [hx] at h
    obtain ⟨x, hx⟩ : ∃ x, c.toNat = x := ⟨_, rfl⟩
    rw [hx] at hc hbig
    clear h4 h3 h2 h1 h hr hn hx
    go_enter Try.func53, Try.ntmps53
    go_wp2_with fail
    go_ret2
    exact ⟨rfl, rfl⟩

theorem seg_one_cell {w : World} {v : Value} {c : UInt8} (h : Seg w v [c]) : ∃ b off cap, v = .slice (some ⟨b, off, none⟩) 1 cap ∧ w.cell? ⟨b, off, none⟩ = some (.int .u8 (c.toNat : Int)) := by
  obtain ⟨ao, cap, rfl, h1, h2, h3, h4⟩ := h
  obtain ⟨bb, off, rfl, hc⟩ := h4 0 (by simp)
  exact ⟨bb, off, cap, rfl, by simpa using hc⟩

theorem ret_flag {a b : Bool} {c : Int} (h : a = b) : Ending.returned (.tuple #[.bool a, .int .i64 c]) = .returned (.tuple #[.bool b, .int .i64 c]) := by rw [h]

set_option maxHeartbeats 400000 in
theorem bit53_ok (b : Nat) (o : Bool) (s : Value) (c : UInt8) (l : List UInt8) (w : World) (hr : RdB w b o s) (hs : Seg w s (c :: l)) (hle : c.toNat ≤ 1) :
    Calls Try.prog 53 #[.pointer (some ⟨b, 0, none⟩)] w fun e w' => e = .returned (.tuple #[.bool (c.toNat == 1), .int .i64 0]) ∧ ∃ t, Seg w t l ∧ w' = w.setCell ⟨b, 1, none⟩ t := by
  have HC : Hid _ := pass_int b o s (c :: l) 1 1 w rfl hr hs (by simp)
  have HR : Hid _ := hr
  obtain ⟨ao, cap, rfl, h1, h2, h3, h4⟩ := hs
  have hc1 := hr.cell1
  obtain ⟨bb, off, rfl, hc⟩ := h4 0 (by simp)
  have hc : w.cell? ⟨bb, off, none⟩ = some (.int .u8 (c.toNat : Int)) := by simpa using hc
  have hlen : 0 < (c :: l).length := by simp
  obtain ⟨n, hn⟩ : ∃ n, (c :: l).length = n := ⟨_, rfl⟩
  rw [hn] at hc1 hlen
  obtain ⟨x, hx⟩ : ∃ x, c.toNat = x := ⟨_, rfl⟩
  rw [hx] at hc hle ⊢
  have HX : Hid _ := hx
  clear h4 h3 h2 h1 hr hn hx
  have n0 : ((n : Int) == 0) = false := by simp; omega
  have x1 : decide ((1 : Int) < (x : Int)) = false := by simp; omega
  go_enter Try.func53, Try.ntmps53
  go_wp2_with fail
  refine Calls.mono HC.out ?_
  rintro e w' ⟨p, rfl, hp, t, ht, hw⟩
  have hp2 : Seg w' p [c] := by
    have e : List.take 1 (c :: l) = [c] := rfl
    rw [e] at hp
    rw [hw]
    exact hp.grownR HR.out (grown_setCell w b 1 t)
  obtain ⟨b2, off2, cap2, rfl, hc2⟩ := seg_one_cell hp2
  rw [HX.out] at hc2
  have F : Hid (∃ t, Seg w t l ∧ w' = w.setCell ⟨b, 1, none⟩ t) := ⟨t, by simpa using ht, hw⟩
  clear ht hw hp hp2 HC
  go_wp2_with fail
  go_ret2
  exact ⟨ret_flag (by rw [Bool.eq_iff_iff]; simp; omega), F.out⟩

set_option maxHeartbeats 400000 in
theorem flag28_nil (w : World) : Calls Try.prog 28 #[.pointer none] w fun e w' => e = .returned (.tuple #[.bool false, .int .i64 1]) ∧ w' = w := by
  go_enter Try.func28, Try.ntmps28
  go_wp2_with fail
  refine (whole52_nil _ _).mono ?_
  rintro e w' ⟨rfl, rfl⟩
  go_wp2_with fail
  go_ret2
  exact ⟨rfl, rfl⟩

set_option maxHeartbeats 400000 in
theorem flag28_zero (b : Nat) (s : Value) (w : World) (hr : RdB w b false s) : Calls Try.prog 28 #[.pointer (some ⟨b, 0, none⟩)] w fun e w' => e = .returned (.tuple #[.bool false, .int .i64 1]) ∧ w' = w := by
  go_enter Try.func28, Try.ntmps28
  go_wp2_with fail
  refine (whole52_zero b s _ _ hr).mono ?_
  rintro e w' ⟨rfl, rfl⟩
  go_wp2_with fail
  go_ret2
  exact ⟨rfl, rfl⟩

theorem whole52_any (b : Nat) (L : List UInt8) (w : World) (hr : Rd w b L) :
    Calls Try.prog 52 #[.pointer (some ⟨b, 0, none⟩), .func (.func 53) #[] #[]] w fun e w' => e = .returned (.tuple #[.bool (rdFlag L).1, .int .i64 (rdFlag L).2.1]) ∧ Rd w' b (rdFlag L).2.2 ∧ w.grownBy w' (some b) := by
  obtain ⟨s, hr, hs⟩ := hr
  obtain ⟨ao, cap, rfl⟩ := hs.shape
  have bad : rdFlag L = (false, 4, L) → Calls Try.prog 52 #[.pointer (some ⟨b, 0, none⟩), .func (.func 53) #[] #[]] w fun e w' => e = .returned (.tuple #[.bool (rdFlag L).1, .int .i64 (rdFlag L).2.1]) ∧ Rd w' b (rdFlag L).2.2 ∧ w.grownBy w' (some b) := by
    intro h
    have h4 : (rdFlag L).2.1 = 4 := by rw [h]
    rw [h]
    refine (whole52_err b ao L.length cap 4 w hr (by decide) ((bit53_bad b true _ L _ (rdb_alloc hr _) (seg_alloc hs _) h4).mono ?_)).mono ?_
    · rintro e w2 ⟨rfl, rfl⟩
      exact ⟨_, rfl, ⟨_, rdb_alloc hr _⟩, grown_refl _ _⟩
    · rintro e w' ⟨rfl, h1, h2⟩
      exact ⟨rfl, ⟨_, h1, hs.grownR hr h2⟩, h2⟩
  cases L with
  | nil => exact bad rfl
  | cons c l =>
    by_cases hc : 1 < c.toNat
    · exact bad (by simp [rdFlag, hc])
    · have e : rdFlag (c :: l) = (c.toNat == 1, 0, l) := by simp [rdFlag, hc]
      rw [e]
      refine (whole52_ok b ao (c :: l).length cap w (fun v w' => v = .bool (c.toNat == 1) ∧ Rd w' b l ∧ w.grownBy w' (some b)) hr ((bit53_ok b true _ c l _ (rdb_alloc hr _) (seg_alloc hs _) (by omega)).mono ?_)).mono ?_
      · rintro e w2 ⟨rfl, t, ht, rfl⟩
        exact ⟨_, rfl, rfl, rd_stored (rdb_alloc hr _) (seg_alloc hs _) ht, grown_trans (World.grownBy_alloc w _ _) (grown_setCell _ b 1 t)⟩
      · rintro e w' ⟨_, rfl, rfl, h1, h2⟩
        exact ⟨rfl, h1, h2⟩

set_option maxHeartbeats 400000 in
theorem flag28 (b : Nat) (L : List UInt8) (w : World) (hr : Rd w b L) :
    Calls Try.prog 28 #[.pointer (some ⟨b, 0, none⟩)] w fun e w' => e = .returned (.tuple #[.bool (rdFlag L).1, .int .i64 (rdFlag L).2.1]) ∧ Rd w' b (rdFlag L).2.2 ∧ w.grownBy w' (some b) := by
  go_enter Try.func28, Try.ntmps28
  go_wp2_with fail
  refine (whole52_any b L _ hr).mono ?_
  rintro e w' ⟨rfl, h1, h2⟩
  have F : Hid _ := And.intro h1 h2
  clear h1 h2
  go_wp2_with fail
  go_ret2
  exact ⟨rfl, F.out⟩

/-- What count answers: how many there are, the error's number, how many bytes it took. -/
def rdCount (L : List UInt8) (most : Int) : Nat × Int × List UInt8 :=
  if most < 0 then (0, 2, L) else match scan 0 0 L with
    | none => (0, 4, L)
    | some (n, k) => if most < (n : Int) then (0, 3, L.drop k) else (n, 0, L.drop k)

/-- What Bytes answers. -/
def rdBytes (L : List UInt8) (most : Int) : List UInt8 × Int × List UInt8 :=
  if (rdCount L most).2.1 ≠ 0 then ([], (rdCount L most).2.1, L) else
    if (rdCount L most).2.2.length < (rdCount L most).1 then ([], 4, L) else
      ((rdCount L most).2.2.take (rdCount L most).1, 0, (rdCount L most).2.2.drop (rdCount L most).1)

set_option maxHeartbeats 400000 in
theorem count50_neg (r : Value) (most : Int) (w : World) (h : most < 0) : Calls Try.prog 50 #[r, .int .i64 most] w fun e w' => e = .returned (.tuple #[.int .u64 0, .int .i64 2]) ∧ w' = w := by
  go_enter Try.func50, Try.ntmps50
  go_wp2_with fail
  go_ret2
  exact ⟨rfl, rfl⟩

set_option maxHeartbeats 400000 in
theorem count50_none (b : Nat) (o : Bool) (s : Value) (L : List UInt8) (most : Int) (w : World) (hr : RdB w b o s) (hs : Seg w s L) (h0 : 0 ≤ most) (hn : scan 0 0 L = none) :
    Calls Try.prog 50 #[.pointer (some ⟨b, 0, none⟩), .int .i64 most] w fun e w' => e = .returned (.tuple #[.int .u64 0, .int .i64 4]) ∧ w' = w := by
  have HC : Hid _ := digits_none b o s L w hr hs hn
  clear hr hs hn
  go_enter Try.func50, Try.ntmps50
  go_wp2_with fail
  refine Calls.mono HC.out ?_
  rintro e w' ⟨rfl, rfl⟩
  go_wp2_with fail
  go_ret2
  exact ⟨rfl, rfl⟩

set_option maxHeartbeats 400000 in
theorem count50_some (b : Nat) (o : Bool) (s : Value) (L : List UInt8) (n k : Nat) (most : Int) (w : World) (hr : RdB w b o s) (hs : Seg w s L) (h0 : 0 ≤ most) (hm : most ≤ 9223372036854775807) (hn : scan 0 0 L = some (n, k)) :
    Calls Try.prog 50 #[.pointer (some ⟨b, 0, none⟩), .int .i64 most] w fun e w' => e = .returned (.tuple #[.int .u64 (rdCount L most).1, .int .i64 (rdCount L most).2.1]) ∧ ∃ t, Seg w t (L.drop k) ∧ w' = w.setCell ⟨b, 1, none⟩ t := by
  have HC : Hid _ := digits_some b o s L n k w hr hs hn
  have hb := (scan_bound L 0 0 (by omega) (by simp) n k hn).1
  have hn64 : n ≤ 18446744073709551615 := by omega
  by_cases hlt : most < (n : Int)
  · have e1 : rdCount L most = (0, 3, L.drop k) := by simp [rdCount, hn, hlt, show ¬ most < 0 by omega]
    rw [e1]
    clear hr hs hn hb e1
    go_enter Try.func50, Try.ntmps50
    go_wp2_with fail
    refine Calls.mono HC.out ?_
    rintro e w' ⟨rfl, h1⟩
    have F : Hid _ := h1
    clear h1 HC
    go_wp2_with fail
    go_ret2
    exact ⟨rfl, F.out⟩
  · have e1 : rdCount L most = (n, 0, L.drop k) := by simp [rdCount, hn, hlt, show ¬ most < 0 by omega]
    rw [e1]
    clear hr hs hn hb e1
    go_enter Try.func50, Try.ntmps50
    go_wp2_with fail
    refine Calls.mono HC.out ?_
    rintro e w' ⟨rfl, h1⟩
    have F : Hid _ := h1
    clear h1 HC
    go_wp2_with fail
    go_ret2
    exact ⟨rfl, F.out⟩
end Go.Proofs.Ytneppkbbnajpnaa
