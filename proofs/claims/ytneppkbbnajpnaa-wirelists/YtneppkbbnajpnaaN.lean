/-
  What each instance of the function whole does, over whatever its reading function does: no reader or a zero one: nothing is read; an error: the reader is put back; else what was read.
-/
import Derived.Test.YtneppkbbnajpnaaD
namespace Go.Proofs.Ytneppkbbnajpnaa
open Go.RowKit

/-- The reader at block b has L before it. -/
def Rd (w : World) (b : Nat) (L : List UInt8) : Prop := ∃ s, RdB w b true s ∧ Seg w s L

theorem Rd.lt {w : World} {b : Nat} {L : List UInt8} (h : Rd w b L) : b < w.heap.size := by obtain ⟨s, h1, _⟩ := h; exact h1.lt

theorem rdb_back {w1 : World} {b : Nat} {s2 t : Value} (h : RdB w1 b true s2) : RdB ((w1.setCell ⟨b, 0, none⟩ (.bool true)).setCell ⟨b, 1, none⟩ t) b true t := by
  have h1 := heap_setCell_same w1 b 0 _ _ (.bool true) h
  have h2 := heap_setCell_same _ b 1 _ _ t h1
  exact h2

set_option maxHeartbeats 400000 in
theorem whole46_nil (f : Value) (w : World) : Calls Try.prog 46 #[.pointer none, f] w fun e w' => e = .returned (.tuple #[.int .u64 0, .int .i64 1]) ∧ w' = w := by
  go_enter Try.func46, Try.ntmps46
  go_wp2_with (go_at_call 45; refine (there_nil _).mono ?_; rintro e w' ⟨rfl, rfl⟩)
  go_ret2
  exact ⟨rfl, rfl⟩

set_option maxHeartbeats 400000 in
theorem whole46_zero (b : Nat) (s f : Value) (w : World) (hr : RdB w b false s) : Calls Try.prog 46 #[.pointer (some ⟨b, 0, none⟩), f] w fun e w' => e = .returned (.tuple #[.int .u64 0, .int .i64 1]) ∧ w' = w := by
  go_enter Try.func46, Try.ntmps46
  go_wp2_with (go_at_call 45; refine (there_some b false s _ hr).mono ?_; rintro e w' ⟨rfl, rfl⟩)
  go_ret2
  exact ⟨rfl, rfl⟩

set_option maxHeartbeats 1000000 in
theorem whole46_err (b : Nat) (ao : Option Addr) (n cap : Nat) (er : Int) (w : World) (hr : RdB w b true (.slice ao n cap)) (her : er ≠ 0)
    (hC : Calls Try.prog 47 #[.pointer (some ⟨b, 0, none⟩)] (w.alloc (.cells #[.bool true, .slice ao n cap] 73)) fun e w2 => ∃ v, e = .returned (.tuple #[v, .int .i64 er]) ∧ (∃ s2, RdB w2 b true s2) ∧ (w.alloc (.cells #[.bool true, .slice ao n cap] 73)).grownBy w2 (some b)) :
    Calls Try.prog 46 #[.pointer (some ⟨b, 0, none⟩), .func (.func 47) #[] #[]] w fun e w' => e = .returned (.tuple #[.int .u64 0, .int .i64 er]) ∧ RdB w' b true (.slice ao n cap) ∧ w.grownBy w' (some b) := by
  have hc0 := hr.cell0
  have hc1 := hr.cell1
  have HC : Hid _ := hC
  have her' : (er == 0) = false := by simp [her]
  have hne : b < w.heap.size := hr.lt
  clear hC her
  go_enter Try.func46, Try.ntmps46
  go_wp2_with fail
  refine (there_some b true _ _ hr).mono ?_
  rintro e w' ⟨rfl, he⟩
  subst he
  go_wp2_with fail
  refine Calls.mono HC.out ?_
  rintro e w2 ⟨v, rfl, ⟨s2, hr2⟩, hg⟩
  have k0 : w2.cell? ⟨w'.heap.size, 0, none⟩ = some (.bool true) := hg.cell (by simp) (by simp; omega)
  have k1 : w2.cell? ⟨w'.heap.size, 1, none⟩ = some (.slice ao n cap) := hg.cell (by simp) (by simp; omega)
  have f0 := hr2.free 0
  have f1 := hr2.free 1
  have e0 := hr2.cell0
  have e1 := hr2.cell1
  have R : Hid _ := rdb_back (t := .slice ao n cap) hr2
  have G : Hid _ := grown_trans (World.grownBy_alloc w' _ (some b)) (grown_trans hg (grown_trans (grown_setCell w2 b 0 (.bool true)) (grown_setCell _ b 1 (.slice ao n cap))))
  clear hr2 hg HC
  go_wp2_with fail
  go_ret2
  exact ⟨rfl, R.out, G.out⟩

set_option maxHeartbeats 1000000 in
theorem whole46_ok (b : Nat) (ao : Option Addr) (n cap : Nat) (w : World) (Φ : Value → World → Prop) (hr : RdB w b true (.slice ao n cap))
    (hC : Calls Try.prog 47 #[.pointer (some ⟨b, 0, none⟩)] (w.alloc (.cells #[.bool true, .slice ao n cap] 73)) fun e w2 => ∃ v, e = .returned (.tuple #[v, .int .i64 0]) ∧ Φ v w2) :
    Calls Try.prog 46 #[.pointer (some ⟨b, 0, none⟩), .func (.func 47) #[] #[]] w fun e w' => ∃ v, e = .returned (.tuple #[v, .int .i64 0]) ∧ Φ v w' := by
  have hc0 := hr.cell0
  have hc1 := hr.cell1
  have HC : Hid _ := hC
  clear hC
  go_enter Try.func46, Try.ntmps46
  go_wp2_with fail
  refine (there_some b true _ _ hr).mono ?_
  rintro e w' ⟨rfl, he⟩
  subst he
  go_wp2_with fail
  refine Calls.mono HC.out ?_
  rintro e w2 ⟨v, rfl, hphi⟩
  have P : Hid _ := hphi
  clear hphi HC
  go_wp2_with fail
  go_ret2
  exact ⟨v, rfl, P.out⟩

set_option maxHeartbeats 400000 in
theorem whole48_nil (f : Value) (w : World) : Calls Try.prog 48 #[.pointer none, f] w fun e w' => e = .returned (.tuple #[.slice none 0 0, .int .i64 1]) ∧ w' = w := by
  go_enter Try.func48, Try.ntmps48
  go_wp2_with (go_at_call 45; refine (there_nil _).mono ?_; rintro e w' ⟨rfl, rfl⟩)
  go_ret2
  exact ⟨rfl, rfl⟩

set_option maxHeartbeats 400000 in
theorem whole48_zero (b : Nat) (s f : Value) (w : World) (hr : RdB w b false s) : Calls Try.prog 48 #[.pointer (some ⟨b, 0, none⟩), f] w fun e w' => e = .returned (.tuple #[.slice none 0 0, .int .i64 1]) ∧ w' = w := by
  go_enter Try.func48, Try.ntmps48
  go_wp2_with (go_at_call 45; refine (there_some b false s _ hr).mono ?_; rintro e w' ⟨rfl, rfl⟩)
  go_ret2
  exact ⟨rfl, rfl⟩

set_option maxHeartbeats 1000000 in
theorem whole48_err (c0 : Value) (b : Nat) (ao : Option Addr) (n cap : Nat) (er : Int) (w : World) (hr : RdB w b true (.slice ao n cap)) (her : er ≠ 0)
    (hC : Calls Try.prog 49 #[.pointer (some ⟨b, 0, none⟩), c0] (w.alloc (.cells #[.bool true, .slice ao n cap] 73)) fun e w2 => ∃ v, e = .returned (.tuple #[v, .int .i64 er]) ∧ (∃ s2, RdB w2 b true s2) ∧ (w.alloc (.cells #[.bool true, .slice ao n cap] 73)).grownBy w2 (some b)) :
    Calls Try.prog 48 #[.pointer (some ⟨b, 0, none⟩), .func (.func 49) #[] #[c0]] w fun e w' => e = .returned (.tuple #[.slice none 0 0, .int .i64 er]) ∧ RdB w' b true (.slice ao n cap) ∧ w.grownBy w' (some b) := by
  have hc0 := hr.cell0
  have hc1 := hr.cell1
  have HC : Hid _ := hC
  have her' : (er == 0) = false := by simp [her]
  have hne : b < w.heap.size := hr.lt
  clear hC her
  go_enter Try.func48, Try.ntmps48
  go_wp2_with fail
  refine (there_some b true _ _ hr).mono ?_
  rintro e w' ⟨rfl, he⟩
  subst he
  go_wp2_with fail
  refine Calls.mono HC.out ?_
  rintro e w2 ⟨v, rfl, ⟨s2, hr2⟩, hg⟩
  have k0 : w2.cell? ⟨w'.heap.size, 0, none⟩ = some (.bool true) := hg.cell (by simp) (by simp; omega)
  have k1 : w2.cell? ⟨w'.heap.size, 1, none⟩ = some (.slice ao n cap) := hg.cell (by simp) (by simp; omega)
  have f0 := hr2.free 0
  have f1 := hr2.free 1
  have e0 := hr2.cell0
  have e1 := hr2.cell1
  have R : Hid _ := rdb_back (t := .slice ao n cap) hr2
  have G : Hid _ := grown_trans (World.grownBy_alloc w' _ (some b)) (grown_trans hg (grown_trans (grown_setCell w2 b 0 (.bool true)) (grown_setCell _ b 1 (.slice ao n cap))))
  clear hr2 hg HC
  go_wp2_with fail
  go_ret2
  exact ⟨rfl, R.out, G.out⟩

set_option maxHeartbeats 1000000 in
theorem whole48_ok (c0 : Value) (b : Nat) (ao : Option Addr) (n cap : Nat) (w : World) (Φ : Value → World → Prop) (hr : RdB w b true (.slice ao n cap))
    (hC : Calls Try.prog 49 #[.pointer (some ⟨b, 0, none⟩), c0] (w.alloc (.cells #[.bool true, .slice ao n cap] 73)) fun e w2 => ∃ v, e = .returned (.tuple #[v, .int .i64 0]) ∧ Φ v w2) :
    Calls Try.prog 48 #[.pointer (some ⟨b, 0, none⟩), .func (.func 49) #[] #[c0]] w fun e w' => ∃ v, e = .returned (.tuple #[v, .int .i64 0]) ∧ Φ v w' := by
  have hc0 := hr.cell0
  have hc1 := hr.cell1
  have HC : Hid _ := hC
  clear hC
  go_enter Try.func48, Try.ntmps48
  go_wp2_with fail
  refine (there_some b true _ _ hr).mono ?_
  rintro e w' ⟨rfl, he⟩
  subst he
  go_wp2_with fail
  refine Calls.mono HC.out ?_
  rintro e w2 ⟨v, rfl, hphi⟩
  have P : Hid _ := hphi
  clear hphi HC
  go_wp2_with fail
  go_ret2
  exact ⟨v, rfl, P.out⟩

set_option maxHeartbeats 400000 in
theorem whole52_nil (f : Value) (w : World) : Calls Try.prog 52 #[.pointer none, f] w fun e w' => e = .returned (.tuple #[.bool false, .int .i64 1]) ∧ w' = w := by
  go_enter Try.func52, Try.ntmps52
  go_wp2_with (go_at_call 45; refine (there_nil _).mono ?_; rintro e w' ⟨rfl, rfl⟩)
  go_ret2
  exact ⟨rfl, rfl⟩

set_option maxHeartbeats 400000 in
theorem whole52_zero (b : Nat) (s f : Value) (w : World) (hr : RdB w b false s) : Calls Try.prog 52 #[.pointer (some ⟨b, 0, none⟩), f] w fun e w' => e = .returned (.tuple #[.bool false, .int .i64 1]) ∧ w' = w := by
  go_enter Try.func52, Try.ntmps52
  go_wp2_with (go_at_call 45; refine (there_some b false s _ hr).mono ?_; rintro e w' ⟨rfl, rfl⟩)
  go_ret2
  exact ⟨rfl, rfl⟩

set_option maxHeartbeats 1000000 in
theorem whole52_err (b : Nat) (ao : Option Addr) (n cap : Nat) (er : Int) (w : World) (hr : RdB w b true (.slice ao n cap)) (her : er ≠ 0)
    (hC : Calls Try.prog 53 #[.pointer (some ⟨b, 0, none⟩)] (w.alloc (.cells #[.bool true, .slice ao n cap] 73)) fun e w2 => ∃ v, e = .returned (.tuple #[v, .int .i64 er]) ∧ (∃ s2, RdB w2 b true s2) ∧ (w.alloc (.cells #[.bool true, .slice ao n cap] 73)).grownBy w2 (some b)) :
    Calls Try.prog 52 #[.pointer (some ⟨b, 0, none⟩), .func (.func 53) #[] #[]] w fun e w' => e = .returned (.tuple #[.bool false, .int .i64 er]) ∧ RdB w' b true (.slice ao n cap) ∧ w.grownBy w' (some b) := by
  have hc0 := hr.cell0
  have hc1 := hr.cell1
  have HC : Hid _ := hC
  have her' : (er == 0) = false := by simp [her]
  have hne : b < w.heap.size := hr.lt
  clear hC her
  go_enter Try.func52, Try.ntmps52
  go_wp2_with fail
  refine (there_some b true _ _ hr).mono ?_
  rintro e w' ⟨rfl, he⟩
  subst he
  go_wp2_with fail
  refine Calls.mono HC.out ?_
  rintro e w2 ⟨v, rfl, ⟨s2, hr2⟩, hg⟩
  have k0 : w2.cell? ⟨w'.heap.size, 0, none⟩ = some (.bool true) := hg.cell (by simp) (by simp; omega)
  have k1 : w2.cell? ⟨w'.heap.size, 1, none⟩ = some (.slice ao n cap) := hg.cell (by simp) (by simp; omega)
  have f0 := hr2.free 0
  have f1 := hr2.free 1
  have e0 := hr2.cell0
  have e1 := hr2.cell1
  have R : Hid _ := rdb_back (t := .slice ao n cap) hr2
  have G : Hid _ := grown_trans (World.grownBy_alloc w' _ (some b)) (grown_trans hg (grown_trans (grown_setCell w2 b 0 (.bool true)) (grown_setCell _ b 1 (.slice ao n cap))))
  clear hr2 hg HC
  go_wp2_with fail
  go_ret2
  exact ⟨rfl, R.out, G.out⟩

set_option maxHeartbeats 1000000 in
theorem whole52_ok (b : Nat) (ao : Option Addr) (n cap : Nat) (w : World) (Φ : Value → World → Prop) (hr : RdB w b true (.slice ao n cap))
    (hC : Calls Try.prog 53 #[.pointer (some ⟨b, 0, none⟩)] (w.alloc (.cells #[.bool true, .slice ao n cap] 73)) fun e w2 => ∃ v, e = .returned (.tuple #[v, .int .i64 0]) ∧ Φ v w2) :
    Calls Try.prog 52 #[.pointer (some ⟨b, 0, none⟩), .func (.func 53) #[] #[]] w fun e w' => ∃ v, e = .returned (.tuple #[v, .int .i64 0]) ∧ Φ v w' := by
  have hc0 := hr.cell0
  have hc1 := hr.cell1
  have HC : Hid _ := hC
  clear hC
  go_enter Try.func52, Try.ntmps52
  go_wp2_with fail
  refine (there_some b true _ _ hr).mono ?_
  rintro e w' ⟨rfl, he⟩
  subst he
  go_wp2_with fail
  refine Calls.mono HC.out ?_
  rintro e w2 ⟨v, rfl, hphi⟩
  have P : Hid _ := hphi
  clear hphi HC
  go_wp2_with fail
  go_ret2
  exact ⟨v, rfl, P.out⟩

set_option maxHeartbeats 400000 in
theorem whole54_nil (f : Value) (w : World) : Calls Try.prog 54 #[.pointer none, f] w fun e w' => e = .returned (.tuple #[.slice none 0 0, .int .i64 1]) ∧ w' = w := by
  go_enter Try.func54, Try.ntmps54
  go_wp2_with (go_at_call 45; refine (there_nil _).mono ?_; rintro e w' ⟨rfl, rfl⟩)
  go_ret2
  exact ⟨rfl, rfl⟩

set_option maxHeartbeats 400000 in
theorem whole54_zero (b : Nat) (s f : Value) (w : World) (hr : RdB w b false s) : Calls Try.prog 54 #[.pointer (some ⟨b, 0, none⟩), f] w fun e w' => e = .returned (.tuple #[.slice none 0 0, .int .i64 1]) ∧ w' = w := by
  go_enter Try.func54, Try.ntmps54
  go_wp2_with (go_at_call 45; refine (there_some b false s _ hr).mono ?_; rintro e w' ⟨rfl, rfl⟩)
  go_ret2
  exact ⟨rfl, rfl⟩

set_option maxHeartbeats 1000000 in
theorem whole54_err (c0 c1 : Value) (b : Nat) (ao : Option Addr) (n cap : Nat) (er : Int) (w : World) (hr : RdB w b true (.slice ao n cap)) (her : er ≠ 0)
    (hC : Calls Try.prog 55 #[.pointer (some ⟨b, 0, none⟩), c0, c1] (w.alloc (.cells #[.bool true, .slice ao n cap] 73)) fun e w2 => ∃ v, e = .returned (.tuple #[v, .int .i64 er]) ∧ (∃ s2, RdB w2 b true s2) ∧ (w.alloc (.cells #[.bool true, .slice ao n cap] 73)).grownBy w2 (some b)) :
    Calls Try.prog 54 #[.pointer (some ⟨b, 0, none⟩), .func (.func 55) #[] #[c0, c1]] w fun e w' => e = .returned (.tuple #[.slice none 0 0, .int .i64 er]) ∧ RdB w' b true (.slice ao n cap) ∧ w.grownBy w' (some b) := by
  have hc0 := hr.cell0
  have hc1 := hr.cell1
  have HC : Hid _ := hC
  have her' : (er == 0) = false := by simp [her]
  have hne : b < w.heap.size := hr.lt
  clear hC her
  go_enter Try.func54, Try.ntmps54
  go_wp2_with fail
  refine (there_some b true _ _ hr).mono ?_
  rintro e w' ⟨rfl, he⟩
  subst he
  go_wp2_with fail
  refine Calls.mono HC.out ?_
  rintro e w2 ⟨v, rfl, ⟨s2, hr2⟩, hg⟩
  have k0 : w2.cell? ⟨w'.heap.size, 0, none⟩ = some (.bool true) := hg.cell (by simp) (by simp; omega)
  have k1 : w2.cell? ⟨w'.heap.size, 1, none⟩ = some (.slice ao n cap) := hg.cell (by simp) (by simp; omega)
  have f0 := hr2.free 0
  have f1 := hr2.free 1
  have e0 := hr2.cell0
  have e1 := hr2.cell1
  have R : Hid _ := rdb_back (t := .slice ao n cap) hr2
  have G : Hid _ := grown_trans (World.grownBy_alloc w' _ (some b)) (grown_trans hg (grown_trans (grown_setCell w2 b 0 (.bool true)) (grown_setCell _ b 1 (.slice ao n cap))))
  clear hr2 hg HC
  go_wp2_with fail
  go_ret2
  exact ⟨rfl, R.out, G.out⟩

set_option maxHeartbeats 1000000 in
theorem whole54_ok (c0 c1 : Value) (b : Nat) (ao : Option Addr) (n cap : Nat) (w : World) (Φ : Value → World → Prop) (hr : RdB w b true (.slice ao n cap))
    (hC : Calls Try.prog 55 #[.pointer (some ⟨b, 0, none⟩), c0, c1] (w.alloc (.cells #[.bool true, .slice ao n cap] 73)) fun e w2 => ∃ v, e = .returned (.tuple #[v, .int .i64 0]) ∧ Φ v w2) :
    Calls Try.prog 54 #[.pointer (some ⟨b, 0, none⟩), .func (.func 55) #[] #[c0, c1]] w fun e w' => ∃ v, e = .returned (.tuple #[v, .int .i64 0]) ∧ Φ v w' := by
  have hc0 := hr.cell0
  have hc1 := hr.cell1
  have HC : Hid _ := hC
  clear hC
  go_enter Try.func54, Try.ntmps54
  go_wp2_with fail
  refine (there_some b true _ _ hr).mono ?_
  rintro e w' ⟨rfl, he⟩
  subst he
  go_wp2_with fail
  refine Calls.mono HC.out ?_
  rintro e w2 ⟨v, rfl, hphi⟩
  have P : Hid _ := hphi
  clear hphi HC
  go_wp2_with fail
  go_ret2
  exact ⟨v, rfl, P.out⟩

set_option maxHeartbeats 400000 in
theorem whole57_nil (f : Value) (w : World) : Calls Try.prog 57 #[.pointer none, f] w fun e w' => e = .returned (.tuple #[.slice none 0 0, .int .i64 1]) ∧ w' = w := by
  go_enter Try.func57, Try.ntmps57
  go_wp2_with (go_at_call 45; refine (there_nil _).mono ?_; rintro e w' ⟨rfl, rfl⟩)
  go_ret2
  exact ⟨rfl, rfl⟩

set_option maxHeartbeats 400000 in
theorem whole57_zero (b : Nat) (s f : Value) (w : World) (hr : RdB w b false s) : Calls Try.prog 57 #[.pointer (some ⟨b, 0, none⟩), f] w fun e w' => e = .returned (.tuple #[.slice none 0 0, .int .i64 1]) ∧ w' = w := by
  go_enter Try.func57, Try.ntmps57
  go_wp2_with (go_at_call 45; refine (there_some b false s _ hr).mono ?_; rintro e w' ⟨rfl, rfl⟩)
  go_ret2
  exact ⟨rfl, rfl⟩

set_option maxHeartbeats 1000000 in
theorem whole57_err (c0 c1 : Value) (b : Nat) (ao : Option Addr) (n cap : Nat) (er : Int) (w : World) (hr : RdB w b true (.slice ao n cap)) (her : er ≠ 0)
    (hC : Calls Try.prog 58 #[.pointer (some ⟨b, 0, none⟩), c0, c1] (w.alloc (.cells #[.bool true, .slice ao n cap] 73)) fun e w2 => ∃ v, e = .returned (.tuple #[v, .int .i64 er]) ∧ (∃ s2, RdB w2 b true s2) ∧ (w.alloc (.cells #[.bool true, .slice ao n cap] 73)).grownBy w2 (some b)) :
    Calls Try.prog 57 #[.pointer (some ⟨b, 0, none⟩), .func (.func 58) #[] #[c0, c1]] w fun e w' => e = .returned (.tuple #[.slice none 0 0, .int .i64 er]) ∧ RdB w' b true (.slice ao n cap) ∧ w.grownBy w' (some b) := by
  have hc0 := hr.cell0
  have hc1 := hr.cell1
  have HC : Hid _ := hC
  have her' : (er == 0) = false := by simp [her]
  have hne : b < w.heap.size := hr.lt
  clear hC her
  go_enter Try.func57, Try.ntmps57
  go_wp2_with fail
  refine (there_some b true _ _ hr).mono ?_
  rintro e w' ⟨rfl, he⟩
  subst he
  go_wp2_with fail
  refine Calls.mono HC.out ?_
  rintro e w2 ⟨v, rfl, ⟨s2, hr2⟩, hg⟩
  have k0 : w2.cell? ⟨w'.heap.size, 0, none⟩ = some (.bool true) := hg.cell (by simp) (by simp; omega)
  have k1 : w2.cell? ⟨w'.heap.size, 1, none⟩ = some (.slice ao n cap) := hg.cell (by simp) (by simp; omega)
  have f0 := hr2.free 0
  have f1 := hr2.free 1
  have e0 := hr2.cell0
  have e1 := hr2.cell1
  have R : Hid _ := rdb_back (t := .slice ao n cap) hr2
  have G : Hid _ := grown_trans (World.grownBy_alloc w' _ (some b)) (grown_trans hg (grown_trans (grown_setCell w2 b 0 (.bool true)) (grown_setCell _ b 1 (.slice ao n cap))))
  clear hr2 hg HC
  go_wp2_with fail
  go_ret2
  exact ⟨rfl, R.out, G.out⟩

set_option maxHeartbeats 1000000 in
theorem whole57_ok (c0 c1 : Value) (b : Nat) (ao : Option Addr) (n cap : Nat) (w : World) (Φ : Value → World → Prop) (hr : RdB w b true (.slice ao n cap))
    (hC : Calls Try.prog 58 #[.pointer (some ⟨b, 0, none⟩), c0, c1] (w.alloc (.cells #[.bool true, .slice ao n cap] 73)) fun e w2 => ∃ v, e = .returned (.tuple #[v, .int .i64 0]) ∧ Φ v w2) :
    Calls Try.prog 57 #[.pointer (some ⟨b, 0, none⟩), .func (.func 58) #[] #[c0, c1]] w fun e w' => ∃ v, e = .returned (.tuple #[v, .int .i64 0]) ∧ Φ v w' := by
  have hc0 := hr.cell0
  have hc1 := hr.cell1
  have HC : Hid _ := hC
  clear hC
  go_enter Try.func57, Try.ntmps57
  go_wp2_with fail
  refine (there_some b true _ _ hr).mono ?_
  rintro e w' ⟨rfl, he⟩
  subst he
  go_wp2_with fail
  refine Calls.mono HC.out ?_
  rintro e w2 ⟨v, rfl, hphi⟩
  have P : Hid _ := hphi
  clear hphi HC
  go_wp2_with fail
  go_ret2
  exact ⟨v, rfl, P.out⟩

set_option maxHeartbeats 400000 in
theorem whole61_nil (f : Value) (w : World) : Calls Try.prog 61 #[.pointer none, f] w fun e w' => e = .returned (.tuple #[.slice none 0 0, .int .i64 1]) ∧ w' = w := by
  go_enter Try.func61, Try.ntmps61
  go_wp2_with (go_at_call 45; refine (there_nil _).mono ?_; rintro e w' ⟨rfl, rfl⟩)
  go_ret2
  exact ⟨rfl, rfl⟩

set_option maxHeartbeats 400000 in
theorem whole61_zero (b : Nat) (s f : Value) (w : World) (hr : RdB w b false s) : Calls Try.prog 61 #[.pointer (some ⟨b, 0, none⟩), f] w fun e w' => e = .returned (.tuple #[.slice none 0 0, .int .i64 1]) ∧ w' = w := by
  go_enter Try.func61, Try.ntmps61
  go_wp2_with (go_at_call 45; refine (there_some b false s _ hr).mono ?_; rintro e w' ⟨rfl, rfl⟩)
  go_ret2
  exact ⟨rfl, rfl⟩

set_option maxHeartbeats 1000000 in
theorem whole61_err (c0 c1 : Value) (b : Nat) (ao : Option Addr) (n cap : Nat) (er : Int) (w : World) (hr : RdB w b true (.slice ao n cap)) (her : er ≠ 0)
    (hC : Calls Try.prog 62 #[.pointer (some ⟨b, 0, none⟩), c0, c1] (w.alloc (.cells #[.bool true, .slice ao n cap] 73)) fun e w2 => ∃ v, e = .returned (.tuple #[v, .int .i64 er]) ∧ (∃ s2, RdB w2 b true s2) ∧ (w.alloc (.cells #[.bool true, .slice ao n cap] 73)).grownBy w2 (some b)) :
    Calls Try.prog 61 #[.pointer (some ⟨b, 0, none⟩), .func (.func 62) #[] #[c0, c1]] w fun e w' => e = .returned (.tuple #[.slice none 0 0, .int .i64 er]) ∧ RdB w' b true (.slice ao n cap) ∧ w.grownBy w' (some b) := by
  have hc0 := hr.cell0
  have hc1 := hr.cell1
  have HC : Hid _ := hC
  have her' : (er == 0) = false := by simp [her]
  have hne : b < w.heap.size := hr.lt
  clear hC her
  go_enter Try.func61, Try.ntmps61
  go_wp2_with fail
  refine (there_some b true _ _ hr).mono ?_
  rintro e w' ⟨rfl, he⟩
  subst he
  go_wp2_with fail
  refine Calls.mono HC.out ?_
  rintro e w2 ⟨v, rfl, ⟨s2, hr2⟩, hg⟩
  have k0 : w2.cell? ⟨w'.heap.size, 0, none⟩ = some (.bool true) := hg.cell (by simp) (by simp; omega)
  have k1 : w2.cell? ⟨w'.heap.size, 1, none⟩ = some (.slice ao n cap) := hg.cell (by simp) (by simp; omega)
  have f0 := hr2.free 0
  have f1 := hr2.free 1
  have e0 := hr2.cell0
  have e1 := hr2.cell1
  have R : Hid _ := rdb_back (t := .slice ao n cap) hr2
  have G : Hid _ := grown_trans (World.grownBy_alloc w' _ (some b)) (grown_trans hg (grown_trans (grown_setCell w2 b 0 (.bool true)) (grown_setCell _ b 1 (.slice ao n cap))))
  clear hr2 hg HC
  go_wp2_with fail
  go_ret2
  exact ⟨rfl, R.out, G.out⟩

set_option maxHeartbeats 1000000 in
theorem whole61_ok (c0 c1 : Value) (b : Nat) (ao : Option Addr) (n cap : Nat) (w : World) (Φ : Value → World → Prop) (hr : RdB w b true (.slice ao n cap))
    (hC : Calls Try.prog 62 #[.pointer (some ⟨b, 0, none⟩), c0, c1] (w.alloc (.cells #[.bool true, .slice ao n cap] 73)) fun e w2 => ∃ v, e = .returned (.tuple #[v, .int .i64 0]) ∧ Φ v w2) :
    Calls Try.prog 61 #[.pointer (some ⟨b, 0, none⟩), .func (.func 62) #[] #[c0, c1]] w fun e w' => ∃ v, e = .returned (.tuple #[v, .int .i64 0]) ∧ Φ v w' := by
  have hc0 := hr.cell0
  have hc1 := hr.cell1
  have HC : Hid _ := hC
  clear hC
  go_enter Try.func61, Try.ntmps61
  go_wp2_with fail
  refine (there_some b true _ _ hr).mono ?_
  rintro e w' ⟨rfl, he⟩
  subst he
  go_wp2_with fail
  refine Calls.mono HC.out ?_
  rintro e w2 ⟨v, rfl, hphi⟩
  have P : Hid _ := hphi
  clear hphi HC
  go_wp2_with fail
  go_ret2
  exact ⟨v, rfl, P.out⟩

end Go.Proofs.Ytneppkbbnajpnaa
