/-
  One step of a script, by its kinds: signed numbers, flags, bytes.
-/
import Derived.Test.YtneppkbbnajpnaaSt
namespace Go.Proofs.Ytneppkbbnajpnaa
open Go.RowKit

theorem rdBytes_len (L : List UInt8) (most : Int) : (rdBytes L most).1.length ≤ L.length := by
  by_cases h0 : most < 0
  · rw [rdBytes_neg h0]; simp
  · have h0 : 0 ≤ most := by omega
    cases hn : scan 0 0 L with
    | none => rw [rdBytes_none h0 hn]; simp
    | some z =>
      obtain ⟨n, m⟩ := z
      by_cases hl : most < (n : Int)
      · rw [rdBytes_long h0 hn hl]; simp
      · by_cases hf : (L.drop m).length < n
        · rw [rdBytes_few h0 hn hl hf]; simp
        · rw [rdBytes_ok h0 hn hl hf]; simp; omega

section
variable (W0 : World) (b d g : Nat) (ao : Option Addr) (cap : Nat) (L : List UInt8) (k : Nat) (kind most : Int) (w : World)

set_option maxRecDepth 100000 in
set_option maxHeartbeats 1000000 in
theorem step20_two (h : St W0 w b d g (.slice ao L.length cap) L k) (hs : Seg W0 (.slice ao L.length cap) L) :
    Calls Try.prog 20 #[.pointer (some ⟨b, 0, none⟩), .pointer (some ⟨d, 0, none⟩), .agg #[.int .i64 2, .int .i64 most]] w (StepPost W0 b d g ao cap L) := by
  have S0 : Hid _ := h.alloc (.cells #[.int .i64 2, .int .i64 most] 43)
  have HS : Hid (Seg W0 (.slice ao L.length cap) L) := hs
  have h64 : Hid ((rdNum (L.drop k)).1 ≤ 18446744073709551615) := by unfold Hid; have := rdNum_lt (L.drop k); omega
  obtain ⟨x, hx⟩ : ∃ x, unfoldZ (rdNum (L.drop k)).1 = x := ⟨_, rfl⟩
  obtain ⟨er, her⟩ : ∃ er, (rdNum (L.drop k)).2.1 = er := ⟨_, rfl⟩
  obtain ⟨M, hM⟩ : ∃ M, (rdNum (L.drop k)).2.2 = M := ⟨_, rfl⟩
  have HX : Hid _ := And.intro hx (And.intro her hM)
  clear h hs hx her hM
  go_enter Try.func20, Try.ntmps20
  go_wp2_with fail
  refine (signed26_of b _ _ _ _ h64.out (number25_g b g (L.drop k) _ S0.out.2.2.2.2.2.2.1)).mono ?_
  rw [HX.out.1, HX.out.2.1, HX.out.2.2]
  rintro e w1 ⟨rfl, q1, q2⟩
  have S1 : Hid (Mid W0 w1 b d g (.slice ao L.length cap) L k M) := St.mid S0.out q1 q2
  clear q1 q2
  go_wp2_with fail
  refine (signed40_of d _ _ _ _ h64.out (number39 d ao cap k L _ S1.out.2.2.2.2.2.2.2.1 (Seg.grown HS.out S1.out.1) S1.out.2.2.2.2.2.2.2.2)).mono ?_
  rw [HX.out.1, HX.out.2.1, HX.out.2.2]
  rintro e w2 ⟨rfl, q1⟩
  have S2 : Hid (∃ k', St W0 w2 b d g (.slice ao L.length cap) L k') := Mid.st S1.out q1
  clear q1
  go_wp2_with fail
  refine (num_any _ _).mono ?_
  rintro e w3 ⟨rfl, he⟩; subst he
  go_wp2_with fail
  go_ret
  exact ⟨rfl, S2.out⟩

set_option maxRecDepth 100000 in
set_option maxHeartbeats 1000000 in
theorem step20_three (h : St W0 w b d g (.slice ao L.length cap) L k) (hs : Seg W0 (.slice ao L.length cap) L) :
    Calls Try.prog 20 #[.pointer (some ⟨b, 0, none⟩), .pointer (some ⟨d, 0, none⟩), .agg #[.int .i64 3, .int .i64 most]] w (StepPost W0 b d g ao cap L) := by
  have S0 : Hid _ := h.alloc (.cells #[.int .i64 3, .int .i64 most] 43)
  have HS : Hid (Seg W0 (.slice ao L.length cap) L) := hs
  obtain ⟨x, hx⟩ : ∃ x, (rdFlag (L.drop k)).1 = x := ⟨_, rfl⟩
  obtain ⟨er, her⟩ : ∃ er, (rdFlag (L.drop k)).2.1 = er := ⟨_, rfl⟩
  obtain ⟨M, hM⟩ : ∃ M, (rdFlag (L.drop k)).2.2 = M := ⟨_, rfl⟩
  have HX : Hid _ := And.intro hx (And.intro her hM)
  clear h hs hx her hM
  go_enter Try.func20, Try.ntmps20
  go_wp2_with fail
  refine (flag28_g b g (L.drop k) _ S0.out.2.2.2.2.2.2.1).mono ?_
  rw [HX.out.1, HX.out.2.1, HX.out.2.2]
  rintro e w1 ⟨rfl, q1, q2⟩
  have S1 : Hid (Mid W0 w1 b d g (.slice ao L.length cap) L k M) := St.mid S0.out q1 q2
  clear q1 q2
  go_wp2_with fail
  refine (flag41 d ao cap k L _ S1.out.2.2.2.2.2.2.2.1 (Seg.grown HS.out S1.out.1) S1.out.2.2.2.2.2.2.2.2).mono ?_
  rw [HX.out.1, HX.out.2.1, HX.out.2.2]
  rintro e w2 ⟨rfl, q1⟩
  have S2 : Hid (∃ k', St W0 w2 b d g (.slice ao L.length cap) L k') := Mid.st S1.out q1
  clear q1
  go_wp2_with fail
  refine (num_any _ _).mono ?_
  rintro e w3 ⟨rfl, he⟩; subst he
  go_wp2_with fail
  go_ret
  exact ⟨rfl, S2.out⟩

/-- Blocks of both readers and of the program's bytes lie below. -/
theorem St.blocks {W0 w : World} {b d g : Nat} {sv : Value} {L : List UInt8} {k : Nat} (h : St W0 w b d g sv L k) : b < w.heap.size ∧ d < w.heap.size ∧ g < w.heap.size := by
  obtain ⟨h1, h2, h3, h4, h5, h6, h7, h8, h9⟩ := h
  exact ⟨h7.rd.lt, (Array.getElem?_eq_some_iff.1 h8).1, h6⟩

/-- What lies in a block above is written over: both stay. -/
theorem St.spoilt {W0 w w' : World} {b d g N : Nat} {sv : Value} {L : List UInt8} {k : Nat} {r : Option Nat} (h : St W0 w b d g sv L k) (hg : w.grownBy w' r) (hr : ∀ x, r = some x → N ≤ x) (hN : b < N ∧ d < N ∧ g < N) (_h0 : W0.heap.size ≤ N) : St W0 w' b d g sv L k := by
  obtain ⟨h1, h2, h3, h4, h5, h6, h7, h8, h9⟩ := h
  have nb : r ≠ some b := by intro e; have := hr _ e; omega
  have nd : r ≠ some d := by intro e; have := hr _ e; omega
  have ng : r ≠ some g := by intro e; have := hr _ e; omega
  exact ⟨grown_new h1 hg (by intro x hx; have := hr x hx; omega), h2, h3, h4, h5, Nat.lt_of_lt_of_le h6 hg.size, h7.kept hg nb ng, h8.kept hg nd, h9⟩

theorem box_new (w : World) (vs : Array Value) (t : Nat) : (w.alloc (.cells vs t)).heap[w.heap.size]? = some (.cells vs t (0, 0)) := by
  show (w.heap.push _)[w.heap.size]? = _
  rw [Array.getElem?_push_size]

theorem box_kept {w w' : World} {p : Nat} {o : Obj} {r : Option Nat} (h : w.heap[p]? = some o) (hg : w.grownBy w' r) (hr : r ≠ some p) : w'.heap[p]? = some o := by
  rw [hg.block p (Array.getElem?_eq_some_iff.1 h).1 (Ne.symm hr), h]

set_option maxRecDepth 100000 in
set_option maxHeartbeats 1000000 in
theorem step20_four_neg (h : St W0 w b d g (.slice ao L.length cap) L k) (hm : most < 0) (hz : L.length ≤ 1048576) :
    Calls Try.prog 20 #[.pointer (some ⟨b, 0, none⟩), .pointer (some ⟨d, 0, none⟩), .agg #[.int .i64 4, .int .i64 most]] w (StepPost W0 b d g ao cap L) := by
  have hb := h.blocks
  have S0 : Hid _ := h.alloc (.cells #[.int .i64 4, .int .i64 most] 43)
  have B0 : Hid _ := box_new w #[.int .i64 4, .int .i64 most] 43
  have hneg : decide (most < 0) = true := by simp; omega
  have HM : Hid _ := hm
  clear h hm
  go_enter Try.func20, Try.ntmps20
  go_wp2_with fail
  refine (bytes27_g b g (L.drop k) most _ S0.out.2.2.2.2.2.2.1 (by have := HM.out; omega) (by simp; omega)).mono ?_
  rw [rdBytes_neg HM.out]
  rintro e w1 ⟨v, rfl, hown, q1, q2⟩
  have S1 : Hid (Mid W0 w1 b d g (.slice ao L.length cap) L k (L.drop k)) := St.mid S0.out q1 q2
  have hbx := box_kept B0.out q2 (by simp; omega)
  have c1 := cell_of_row w1 w.heap.size 1 _ _ _ hbx
  simp at c1
  have hl : ∃ a c, v = .slice a 0 c := by
    rcases hown.shape with ⟨rfl, _⟩ | ⟨g, cap, rfl, _, _⟩
    · exact ⟨_, _, rfl⟩
    · exact ⟨_, _, rfl⟩
  obtain ⟨a1, c2, rfl⟩ := hl
  clear q1 q2 hown hbx B0 HM
  go_wp2_with fail
  refine (num_any _ _).mono ?_
  rintro e w3 ⟨rfl, he⟩; subst he
  go_wp2_with fail
  go_ret
  exact ⟨rfl, k, S1.out.stay⟩

set_option maxRecDepth 100000 in
set_option maxHeartbeats 1000000 in
theorem step20_four (h : St W0 w b d g (.slice ao L.length cap) L k) (hs : Seg W0 (.slice ao L.length cap) L) (hm : 0 ≤ most) (hm2 : most ≤ 9223372036854775807) (hz : L.length ≤ 1048576) :
    Calls Try.prog 20 #[.pointer (some ⟨b, 0, none⟩), .pointer (some ⟨d, 0, none⟩), .agg #[.int .i64 4, .int .i64 most]] w (StepPost W0 b d g ao cap L) := by
  have hb := h.blocks
  have hsz0 := h.1.size
  have S0 : Hid _ := h.alloc (.cells #[.int .i64 4, .int .i64 most] 43)
  have B0 : Hid _ := box_new w #[.int .i64 4, .int .i64 most] 43
  have hneg : decide (most < 0) = false := by simp; omega
  have HS : Hid (Seg W0 (.slice ao L.length cap) L) := hs
  obtain ⟨x, hx⟩ : ∃ x, (rdBytes (L.drop k) most).1 = x := ⟨_, rfl⟩
  obtain ⟨er, her⟩ : ∃ er, (rdBytes (L.drop k) most).2.1 = er := ⟨_, rfl⟩
  obtain ⟨M, hM⟩ : ∃ M, (rdBytes (L.drop k) most).2.2 = M := ⟨_, rfl⟩
  have HX : Hid _ := And.intro hx (And.intro her hM)
  have HZ : Hid _ := hz
  have HB : Hid _ := hb
  have HW : Hid _ := hsz0
  clear h hx her hM hs hz hb hsz0
  go_enter Try.func20, Try.ntmps20
  go_wp2_with fail
  refine (bytes27_g b g (L.drop k) most _ S0.out.2.2.2.2.2.2.1 hm2 (by have := HZ.out; simp; omega)).mono ?_
  rw [HX.out.1, HX.out.2.1, HX.out.2.2]
  rintro e w1 ⟨v, rfl, hown, q1, q2⟩
  have S1 : Hid (Mid W0 w1 b d g (.slice ao L.length cap) L k M) := St.mid S0.out q1 q2
  have O1 : Hid (Own w1 (w.heap.size + 1) v x) := by
    have e : (w.alloc (.cells #[.int .i64 4, .int .i64 most] 43)).heap.size = w.heap.size + 1 := by
      show (w.heap.push _).size = _
      simp
    rw [← e]; exact hown
  have HBX : Hid _ := box_kept B0.out q2 (by have := HB.out; simp; omega)
  have c1 := cell_of_row w1 w.heap.size 1 _ _ _ HBX.out
  simp at c1
  have hsz1 : Hid (w.heap.size + 1 ≤ w1.heap.size) := by
    have := q2.size
    have e : (w.alloc (.cells #[.int .i64 4, .int .i64 most] 43)).heap.size = w.heap.size + 1 := by
      show (w.heap.push _).size = _
      simp
    unfold Hid; omega
  clear q1 q2 hown B0
  go_wp2_with fail
  refine (bytes42 d ao cap k L most _ S1.out.2.2.2.2.2.2.2.1 (Seg.grown HS.out S1.out.1) S1.out.2.2.2.2.2.2.2.2 hm hm2 HZ.out).mono ?_
  rw [HX.out.1, HX.out.2.1, HX.out.2.2]
  rintro e w2 ⟨u, rfl, hown2, q1⟩
  have S2 : Hid (∃ k', St W0 w2 b d g (.slice ao L.length cap) L k') := Mid.st S1.out q1
  have O2 : Hid (Own w2 (w.heap.size + 1) v x) := by
    obtain ⟨_, _, _, _, q4⟩ := q1
    refine World.ownsRow.kept O1.out q4 ?_
    cases hv : v.ownBlock with
    | none => exact .inl rfl
    | some j =>
      right
      intro e
      have := (World.ownsRow.lt O1.out j hv).1
      have := HB.out
      simp at e; omega
  have hsz2 : Hid (w.heap.size + 1 ≤ w2.heap.size) := by
    obtain ⟨_, _, _, _, q4⟩ := q1
    exact Nat.le_trans hsz1.out q4.size
  have cv := seg_str O2.out.seg
  have cv2 := seg_str hown2.seg
  clear q1 hown2 O1 S1 c1 HBX
  go_wp2_with fail
  refine (num_any _ _).mono ?_
  rintro e w3 ⟨rfl, he⟩; subst he
  have HXL : Hid (x.length ≤ 140737488355318) := by
    have h1 := HX.out.1
    have h2 := HZ.out
    have h3 := rdBytes_len (L.drop k) most
    unfold Hid
    rw [← h1]
    simp at h3; omega
  go_wp2_with fail
  refine (spoil17 (w.heap.size + 1) v x w3 O2.out hsz2.out HXL.out).mono ?_
  rintro e w4 ⟨rfl, q1⟩
  have S4 : Hid (∃ k', St W0 w4 b d g (.slice ao L.length cap) L k') := by
    obtain ⟨k', hk'⟩ := S2.out
    have h1 := HB.out
    have h2 := HW.out
    exact ⟨k', hk'.spoilt (N := w.heap.size + 1) q1 (fun x hx => (World.ownsRow.lt O2.out x hx).1) (by omega) (by omega)⟩
  clear q1
  go_wp2_with fail
  go_ret
  exact ⟨rfl, S4.out⟩
end
end Go.Proofs.Ytneppkbbnajpnaa
