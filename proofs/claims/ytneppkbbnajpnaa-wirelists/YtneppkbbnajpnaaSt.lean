/-
  One step of a script: the program's reader and the document's answer the same and go as far.
-/
import Derived.Test.YtneppkbbnajpnaaLn
import Derived.Test.YtneppkbbnajpnaaG
import Derived.Test.YtneppkbbnajpnaaK
namespace Go.Proofs.Ytneppkbbnajpnaa
open Go.RowKit

theorem bytes42 (d : Nat) (ao : Option Addr) (cap k : Nat) (L : List UInt8) (most : Int) (w : World) (hr : RfB w d (.slice ao L.length cap) k) (hs : Seg w (.slice ao L.length cap) L) (hk : k ≤ L.length) (h0 : 0 ≤ most) (hm : most ≤ 9223372036854775807) (hz : L.length ≤ 1048576) :
    Calls Try.prog 42 #[.pointer (some ⟨d, 0, none⟩), .int .i64 most] w fun e w' => ∃ v, e = .returned (.tuple #[v, .int .i64 (rdBytes (L.drop k) most).2.1]) ∧ Own w' w.heap.size v (rdBytes (L.drop k) most).1 ∧ RfPost d (.slice ao L.length cap) L (rdBytes (L.drop k) most).2.2 w w' := by
  cases hn : scan 0 0 (L.drop k) with
  | none =>
    rw [rdBytes_none h0 hn]
    refine (bytes42_none d ao cap k L most w hr hs hk hn).mono ?_
    rintro e w' ⟨rfl, h1, h2⟩
    exact ⟨_, rfl, Own.nil _ _, k, hk, rfl, h1, h2⟩
  | some z =>
    obtain ⟨n, m⟩ := z
    have hb := scan_bound _ 0 0 (by omega) (by simp) n m hn
    have hkm : k + m ≤ L.length := by simp at hb; omega
    have hdl : ((L.drop k).drop m).length = L.length - (k + m) := by first | (simp; omega) | simp
    by_cases hl : most < (n : Int)
    · rw [rdBytes_long h0 hn hl]
      refine (bytes42_long d ao cap k L most w n m hr hs hk h0 hm hn hl).mono ?_
      rintro e w' ⟨rfl, h1, h2⟩
      exact ⟨_, rfl, Own.nil _ _, k, hk, rfl, h1, h2⟩
    · by_cases hf : ((L.drop k).drop m).length < n
      · rw [rdBytes_few h0 hn hl hf]
        refine (bytes42_few d ao cap k L most w n m hr hs hk h0 hm hn hl (by omega)).mono ?_
        rintro e w' ⟨rfl, h1, h2⟩
        exact ⟨_, rfl, Own.nil _ _, k, hk, rfl, h1, h2⟩
      · rw [rdBytes_ok h0 hn hl hf]
        refine (bytes42_ok d ao cap k L most w n m hr hs hk h0 hm hn hl (by omega) hz).mono ?_
        rintro e w' ⟨v, rfl, h1, h2, h3⟩
        refine ⟨v, rfl, by rw [List.drop_drop]; exact h1, k + m + n, by omega, ?_, h2, h3⟩
        rw [List.drop_drop, List.drop_drop]

theorem numbers44 (d : Nat) (ao : Option Addr) (cap k : Nat) (L : List UInt8) (most : Int) (w : World) (hr : RfB w d (.slice ao L.length cap) k) (hs : Seg w (.slice ao L.length cap) L) (hk : k ≤ L.length) (h0 : 0 ≤ most) (hm : most ≤ 9223372036854775807) (hz : L.length ≤ 1048576) :
    Calls Try.prog 44 #[.pointer (some ⟨d, 0, none⟩), .int .i64 most] w fun e w' => ∃ v, e = .returned (.tuple #[v, .int .i64 (rdList (L.drop k) most).2.1]) ∧ OwnN w' w.heap.size v (rdList (L.drop k) most).1 ∧ RfPost d (.slice ao L.length cap) L (rdList (L.drop k) most).2.2 w w' := by
  cases hn : scan 0 0 (L.drop k) with
  | none =>
    rw [rdList_none h0 hn]
    refine (numbers44_none d ao cap k L most w hr hs hk hn).mono ?_
    rintro e w' ⟨rfl, h1, h2⟩
    exact ⟨_, rfl, OwnN.nil _ _, k, hk, rfl, h1, h2⟩
  | some z =>
    obtain ⟨n, m⟩ := z
    by_cases hl : most < (n : Int)
    · rw [rdList_long h0 hn hl]
      refine (numbers44_long d ao cap k L most w n m hr hs hk h0 hm hn hl).mono ?_
      rintro e w' ⟨rfl, h1, h2⟩
      exact ⟨_, rfl, OwnN.nil _ _, k, hk, rfl, h1, h2⟩
    · have e1 : (L.drop k).drop m = L.drop (k + m) := by rw [List.drop_drop]
      cases hf : rdMany n (L.drop (k + m)) with
      | none =>
        rw [rdList_fail h0 hn hl (by rw [e1]; exact hf)]
        refine (numbers44_fail d ao cap k L most w n m hr hs hk h0 hm hn hl hz hf).mono ?_
        rintro e w' ⟨rfl, h1, h2⟩
        exact ⟨_, rfl, OwnN.nil _ _, k, hk, rfl, h1, h2⟩
      | some y =>
        obtain ⟨ys, N⟩ := y
        rw [rdList_ok h0 hn hl (by rw [e1]; exact hf)]
        exact numbers44_ok d ao cap k L most w n m ys N hr hs hk h0 hm hn hl hz hf

/-- Both readers at the same place, over what was there at first. -/
def St (W0 w : World) (b d g : Nat) (sv : Value) (L : List UInt8) (k : Nat) : Prop :=
  W0.grownBy w none ∧ W0.heap.size ≤ b ∧ W0.heap.size ≤ d ∧ b ≠ d ∧ g ≠ d ∧ g < w.heap.size ∧ RdG w b g (L.drop k) ∧ RfB w d sv k ∧ k ≤ L.length

theorem St.alloc {W0 w : World} {b d g : Nat} {sv : Value} {L : List UInt8} {k : Nat} (h : St W0 w b d g sv L k) (o : Obj) : St W0 (w.alloc o) b d g sv L k := by
  obtain ⟨h1, h2, h3, h4, h5, h6, h7, h8, h9⟩ := h
  have ga := World.grownBy_alloc w o none
  exact ⟨grown_trans h1 ga, h2, h3, h4, h5, Nat.lt_of_lt_of_le h6 ga.size, h7.kept ga (by simp) (by simp), h8.kept ga (by simp), h9⟩

theorem St.grown {W0 w w' : World} {b d g : Nat} {sv : Value} {L : List UInt8} {k : Nat} (h : St W0 w b d g sv L k) (ga : w.grownBy w' none) : St W0 w' b d g sv L k := by
  obtain ⟨h1, h2, h3, h4, h5, h6, h7, h8, h9⟩ := h
  exact ⟨grown_trans h1 ga, h2, h3, h4, h5, Nat.lt_of_lt_of_le h6 ga.size, h7.kept ga (by simp) (by simp), h8.kept ga (by simp), h9⟩

/-- The program's reader has gone on; the document's has not yet. -/
def Mid (W0 w : World) (b d g : Nat) (sv : Value) (L : List UInt8) (k : Nat) (M : List UInt8) : Prop :=
  W0.grownBy w none ∧ W0.heap.size ≤ b ∧ W0.heap.size ≤ d ∧ b ≠ d ∧ g ≠ d ∧ g < w.heap.size ∧ RdG w b g M ∧ RfB w d sv k ∧ k ≤ L.length

theorem St.mid {W0 w w' : World} {b d g : Nat} {sv : Value} {L M : List UInt8} {k : Nat} (h : St W0 w b d g sv L k) (hr : RdG w' b g M) (hg : w.grownBy w' (some b)) : Mid W0 w' b d g sv L k M := by
  obtain ⟨h1, h2, h3, h4, h5, h6, h7, h8, h9⟩ := h
  exact ⟨grown_new h1 hg (by intro x hx; simp at hx; omega), h2, h3, h4, h5, Nat.lt_of_lt_of_le h6 hg.size, hr, h8.kept hg (by simp; omega), h9⟩

theorem Mid.st {W0 w w' : World} {b d g : Nat} {sv : Value} {L M : List UInt8} {k : Nat} (h : Mid W0 w b d g sv L k M) (hp : RfPost d sv L M w w') : ∃ k', St W0 w' b d g sv L k' := by
  obtain ⟨h1, h2, h3, h4, h5, h6, h7, h8, h9⟩ := h
  obtain ⟨k', q1, q2, q3, q4⟩ := hp
  refine ⟨k', grown_new h1 q4 (by intro x hx; simp at hx; omega), h2, h3, h4, h5, Nat.lt_of_lt_of_le h6 q4.size, ?_, q3, q1⟩
  rw [q2]
  exact h7.kept q4 (by simp; omega) (by simp; omega)

/-- The program's reader has stayed where it was: so has the document's. -/
theorem Mid.stay {W0 w : World} {b d g : Nat} {sv : Value} {L : List UInt8} {k : Nat} (h : Mid W0 w b d g sv L k (L.drop k)) : St W0 w b d g sv L k := h

section
variable (W0 : World) (b d g : Nat) (ao : Option Addr) (cap : Nat) (L : List UInt8) (k : Nat) (kind most : Int) (w : World)

/-- What a step leaves. -/
def StepPost (W0 : World) (b d g : Nat) (ao : Option Addr) (cap : Nat) (L : List UInt8) (e : Ending) (w' : World) : Prop := e = .returned (.bool true) ∧ ∃ k', St W0 w' b d g (.slice ao L.length cap) L k'

set_option maxRecDepth 100000 in
set_option maxHeartbeats 1000000 in
theorem step20_one (h : St W0 w b d g (.slice ao L.length cap) L k) (hs : Seg W0 (.slice ao L.length cap) L) :
    Calls Try.prog 20 #[.pointer (some ⟨b, 0, none⟩), .pointer (some ⟨d, 0, none⟩), .agg #[.int .i64 1, .int .i64 most]] w (StepPost W0 b d g ao cap L) := by
  have S0 : Hid _ := h.alloc (.cells #[.int .i64 1, .int .i64 most] 43)
  have HS : Hid (Seg W0 (.slice ao L.length cap) L) := hs
  obtain ⟨x, hx⟩ : ∃ x, (rdNum (L.drop k)).1 = x := ⟨_, rfl⟩
  obtain ⟨er, her⟩ : ∃ er, (rdNum (L.drop k)).2.1 = er := ⟨_, rfl⟩
  obtain ⟨M, hM⟩ : ∃ M, (rdNum (L.drop k)).2.2 = M := ⟨_, rfl⟩
  have HX : Hid _ := And.intro hx (And.intro her hM)
  clear h hs hx her hM
  go_enter Try.func20, Try.ntmps20
  go_wp2_with fail
  refine (number25_g b g (L.drop k) _ S0.out.2.2.2.2.2.2.1).mono ?_
  rw [HX.out.1, HX.out.2.1, HX.out.2.2]
  rintro e w1 ⟨rfl, q1, q2⟩
  have S1 : Hid (Mid W0 w1 b d g (.slice ao L.length cap) L k M) := St.mid S0.out q1 q2
  clear q1 q2
  go_wp2_with fail
  refine (number39 d ao cap k L _ S1.out.2.2.2.2.2.2.2.1 (Seg.grown HS.out S1.out.1) S1.out.2.2.2.2.2.2.2.2).mono ?_
  rw [HX.out.1, HX.out.2.1, HX.out.2.2]
  rintro e w2 ⟨rfl, q1⟩
  have S2 : Hid (∃ k', St W0 w2 b d g (.slice ao L.length cap) L k') := Mid.st S1.out q1
  clear q1
  go_wp2_with fail
  refine (num_any _ _).mono ?_
  rintro e w3 ⟨rfl, he⟩; subst he
  go_wp2_with fail
  go_ret
  exact ⟨rfl, S2.out⟩
end
end Go.Proofs.Ytneppkbbnajpnaa
