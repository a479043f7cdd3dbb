/-
  WindowSteps: what stands at the head of its loop.
-/
import Derived.Test.YtignmnmhigncjaaDb0
import Derived.Test.YtignmnmhigncjaaDb1
import Derived.Test.YtignmnmhigncjaaDb2
import Derived.Test.YtignmnmhigncjaaDb3
import Derived.Test.YtignmnmhigncjaaDb4
import Derived.Test.YtignmnmhigncjaaDb5
namespace Go.Proofs.Ytignmnmhigncjaa
open Go.RowKit Disk S

theorem do11 (Q : Nat → Prop) (b : Nat) (v : Value) (n rb : Nat) (tv bv : Value) (L : List (Option ByteArray)) (kd z : Int) (x : ByteArray) (w : World) (h : Two Q w b v n rb tv bv L) (hL : L.length ≤ 600000) :
    Calls Try.prog 11 #[.pointer (some ⟨b, 0, none⟩), .pointer (some ⟨rb, 0, none⟩), .agg #[.int .i64 kd, .int .i64 z, .string x]] w (DoP Q b v n rb tv bv L w) := by
  by_cases h1 : kd = 1
  · subst h1; exact do11_1 Q b v n rb tv bv L z x w h hL
  by_cases h2 : kd = 2
  · subst h2; exact do11_2 Q b v n rb tv bv L z x w h hL
  by_cases h3 : kd = 3
  · subst h3; exact do11_3 Q b v n rb tv bv L z x w h hL
  by_cases h4 : kd = 4
  · subst h4; exact do11_4 Q b v n rb tv bv L z x w h hL
  by_cases h5 : kd = 5
  · subst h5; exact do11_5 Q b v n rb tv bv L z x w h hL
  exact do11_0 Q b v n rb tv bv L kd ⟨h1, h2, h3, h4, h5⟩ z x w h hL

section
open Disk
variable {P : Program} {ops : Array Oper} {Q : Exit → Act → World → Prop} {md : Region.Mode} {z : Nat}
/-- A stronger fact may be held from here on. -/
theorem wpHold_weak {H H' : World → Prop} (hh : ∀ w, H' w → H w) : ∀ (n : Nat) (listed : Array Bool) (a : Act) (w : World), wpHold P z H' md ops Q n listed a w → wpHold P z H md ops Q n listed a w
  | 0, _, _, _, h => h
  | n + 1, _, _, _, h => ⟨h.1, fun i hi => wpOp_mono (fun a' w' h' => ⟨fun hz => hh _ (h'.1 hz), wpHold_weak hh n _ a' w' h'.2⟩) (h.2 i hi)⟩
end

/-- The pair from which the copies were made, or none. -/
def OldP (w : World) (n : Nat) (po pq : Value) (F : Nat → Prop) : Prop :=
  (po = .pointer none ∧ pq = .pointer none) ∨ ∃ ob ov orb otv obv oL oQ, po = .pointer (some ⟨ob, 0, none⟩) ∧ pq = .pointer (some ⟨orb, 0, none⟩) ∧ Two oQ w ob ov n orb otv obv oL ∧ oL.length ≤ 300 ∧ ∀ j, (FN ob ov j ∨ FR orb otv obv j ∨ oQ j) → ¬ F j
theorem OldP.step {w w' : World} {n : Nat} {po pq : Value} {F F' : Nat → Prop} (h : OldP w n po pq F) (hf : Fr w w' F) (hF : ∀ i, F' i → F i ∨ w.heap.size ≤ i) : OldP w' n po pq F' := by
  rcases h with h | ⟨ob, ov, orb, otv, obv, oL, oQ, h1, h2, h3, h4, h5⟩
  · exact .inl h
  · obtain ⟨T, K, hr, hz⟩ := h3.ref
    have lt : ∀ j, (FN ob ov j ∨ FR orb otv obv j ∨ oQ j) → j < w.heap.size := by
      rintro j (hj | hj | hj)
      · exact h3.win.lt j hj
      · exact hr.lt j hj
      · exact h3.low j hj
    refine .inr ⟨ob, ov, orb, otv, obv, oL, oQ, h1, h2, ⟨h3.win.kept fun i hi hl => hf.block i hl (h5 i ?_), ⟨T, K, hr.kept fun i hi => hf.block i (hr.lt i hi) (h5 i (.inr (.inl hi))), hz⟩, h3.apart, fun i hi => Nat.lt_of_lt_of_le (h3.low i hi) hf.size⟩, h4, fun j hj e => ?_⟩
    · rcases hi with hi | hi
      · exact .inl hi
      · exact .inr (.inr hi)
    · rcases hF j e with e | e
      · exact h5 j hj e
      · have := lt j hj
        omega
/-- The pair that goes on. -/
structure CurP (w wr : World) (n : Nat) (b : Nat) (v : Value) (rb : Nat) (tv bv : Value) (L : List (Option ByteArray)) (Q : Nat → Prop) (i : Nat) : Prop where
  two : Two Q wr b v n rb tv bv L
  len : L.length ≤ i
  gr : w.grownBy wr none
  new : ∀ j, FN b v j ∨ FR rb tv bv j ∨ Q j → w.heap.size ≤ j
def FB (b : Nat) (v : Value) (rb : Nat) (tv bv : Value) (i : Nat) : Prop := FN b v i ∨ FR rb tv bv i
/-- Both, at the loop's head. -/
def StP (w : World) (n : Nat) (i : Nat) (pw pr po pq : Value) (wr : World) : Prop := ∃ b v rb tv bv L Q, pw = .pointer (some ⟨b, 0, none⟩) ∧ pr = .pointer (some ⟨rb, 0, none⟩) ∧ CurP w wr n b v rb tv bv L Q i ∧ OldP wr n po pq (FB b v rb tv bv)
theorem stP_begin {w w1 w2 : World} {n b rb : Nat} {v : Value} (h : Win (fun _ => False) w1 b v n [] 0) (hg : w.grownBy w1 none) (hn : ∀ i, FN b v i → w.heap.size ≤ i) (g2 : w1.grownBy w2 none) (hb : Blk w2 rb 33 #[.int .i64 (n : Nat), .slice none 0 0, .slice none 0 0]) (hrb : w1.heap.size ≤ rb) : StP w n 0 (.pointer (some ⟨b, 0, none⟩)) (.pointer (some ⟨rb, 0, none⟩)) (.pointer none) (.pointer none) w2 := by
  refine ⟨b, v, rb, .slice none 0 0, .slice none 0 0, [], fun _ => False, rfl, rfl, ⟨⟨h.grown g2, ⟨[], [], ⟨hb, Row.nil _ _ _, Row.nil _ _ _, rfl, by simp⟩, rfl⟩, fun _ _ h => h, fun _ h => h.elim⟩, Nat.le_refl _, grown_trans hg g2, ?_⟩, .inl ⟨rfl, rfl⟩⟩
  rintro j (hj | (rfl | hj | hj) | hj)
  · exact hn j hj
  · exact Nat.le_trans hg.size hrb
  · simp [Value.ownBlock] at hj
  · simp [Value.ownBlock] at hj
  · exact hj.elim
/-- A copy goes on, the elder pair stays. -/
theorem stP_copy {w wr w1 w2 : World} {n i b rb b' rb' : Nat} {v tv bv v' tv' bv' : Value} {L : List (Option ByteArray)} {Q : Nat → Prop} {T' : List ByteArray} {K' : List Bool} (h : CurP w wr n b v rb tv bv L Q i) (hi : i ≤ 300) (hw : Win Q w1 b' v' n L (lead L)) (g1 : wr.grownBy w1 none) (h1 : ∀ j, FN b' v' j → wr.heap.size ≤ j)
    (hr : Rw w2 rb' tv' bv' n T' K') (hz : zipL T' K' = L) (g2 : w1.grownBy w2 none) (h2 : ∀ j, FR rb' tv' bv' j → w1.heap.size ≤ j) : StP w n i (.pointer (some ⟨b', 0, none⟩)) (.pointer (some ⟨rb', 0, none⟩)) (.pointer (some ⟨b, 0, none⟩)) (.pointer (some ⟨rb, 0, none⟩)) w2 := by
  have s0 := h.gr.size
  have s1 := g1.size
  obtain ⟨T, K, hr0, _⟩ := h.two.ref
  refine ⟨b', v', rb', tv', bv', L, Q, rfl, rfl, ⟨⟨hw.grown g2, ⟨T', K', hr, hz⟩, fun j hj e => ?_, fun j hj => ?_⟩, h.len, grown_trans h.gr (grown_trans g1 g2), ?_⟩, .inr ⟨b, v, rb, tv, bv, L, Q, rfl, rfl, h.two.grown (grown_trans g1 g2), by have := h.len; omega, ?_⟩⟩
  · have := h2 j hj
    have := h.two.low j e
    omega
  · have := h.two.low j hj
    have := g2.size
    omega
  · rintro j (hj | hj | hj)
    · have := h1 j hj
      omega
    · have := h2 j hj
      omega
    · exact h.new j (.inr (.inr hj))
  · intro j hj e
    have hlt : j < wr.heap.size := by
      rcases hj with hj | hj | hj
      · exact h.two.win.lt j hj
      · exact hr0.lt j hj
      · exact h.two.low j hj
    rcases e with e | e
    · have := h1 j e
      omega
    · have := h2 j e
      omega
/-- Behind a step of both. -/
theorem stP_do {w wr w2 : World} {n i b rb : Nat} {v tv bv po pq : Value} {L : List (Option ByteArray)} {Q : Nat → Prop} (h : CurP w wr n b v rb tv bv L Q i) (ho : OldP wr n po pq (FB b v rb tv bv)) {Q' : Nat → Prop} {tv' bv' : Value} {L' : List (Option ByteArray)} (hT : Two Q' w2 b v n rb tv' bv' L') (hl : L'.length ≤ L.length + 1)
    (hf : Fr wr w2 (fun i => FN b v i ∨ FR rb tv bv i)) (hfr : ∀ i, FR rb tv' bv' i → FR rb tv bv i ∨ wr.heap.size ≤ i) (hq : ∀ i, Q' i → Q i ∨ wr.heap.size ≤ i) : CurP w w2 n b v rb tv' bv' L' Q' (i + 1) ∧ OldP w2 n po pq (FB b v rb tv' bv') := by
  have s0 := h.gr.size
  refine ⟨⟨hT, by have := h.len; omega, ?_, ?_⟩, ho.step hf ?_⟩
  · refine Fr.grown (F := FB b v rb tv bv) ((Fr.of (F := FB b v rb tv bv) h.gr (by simp)).trans hf fun i hi => .inl hi) ?_
    rintro k (hk | hk)
    · exact h.new k (.inl hk)
    · exact h.new k (.inr (.inl hk))
  · rintro j (hj | hj | hj)
    · exact h.new j (.inl hj)
    · rcases hfr j hj with e | e
      · exact h.new j (.inr (.inl e))
      · omega
    · rcases hq j hj with e | e
      · exact h.new j (.inr (.inr e))
      · omega
  · rintro j (hj | hj)
    · exact .inl (.inl hj)
    · rcases hfr j hj with e | e
      · exact .inl (.inr e)
      · exact .inr e
theorem OldP.grown {w w' : World} {n : Nat} {po pq : Value} {F : Nat → Prop} (h : OldP w n po pq F) (hg : w.grownBy w' none) : OldP w' n po pq F := h.step (Fr.of hg (by simp)) fun _ hi => .inl hi
theorem CurP.grown {w wr w2 : World} {n i b rb : Nat} {v tv bv : Value} {L : List (Option ByteArray)} {Q : Nat → Prop} (h : CurP w wr n b v rb tv bv L Q i) (hg : wr.grownBy w2 none) : CurP w w2 n b v rb tv bv L Q i := ⟨h.two.grown hg, h.len, grown_trans h.gr hg, h.new⟩

/-- A step. -/
structure PSt where
  kind : Int
  n : Int
  text : ByteArray
instance : Inhabited PSt := ⟨⟨0, 0, ⟨#[]⟩⟩⟩
/-- The slice v reads as the steps ss. -/
def Stps (W : World) (v : Value) (ss : List PSt) : Prop :=
  ∃ ao cap, v = .slice ao ss.length cap ∧ ss.length ≤ 9223372036854775807 ∧ ∀ j (hj : j < ss.length), ∃ b off, ao = some ⟨b, off, none⟩ ∧ W.cell? ⟨b, off + j * 3, none⟩ = some (.int .i64 ss[j].kind) ∧ W.cell? ⟨b, off + j * 3 + 1, none⟩ = some (.int .i64 ss[j].n) ∧ W.cell? ⟨b, off + j * 3 + 2, none⟩ = some (.string ss[j].text)
theorem stps_grown {W W' : World} {v : Value} {ss : List PSt} (h : Stps W v ss) (hg : W.grownBy W' none) : Stps W' v ss := by
  obtain ⟨ao, cap, e, hl, h⟩ := h
  refine ⟨ao, cap, e, hl, fun j hj => ?_⟩
  obtain ⟨b, off, h1, h2, h3, h4⟩ := h j hj
  exact ⟨b, off, h1, hg.cell h2 (by simp), hg.cell h3 (by simp), hg.cell h4 (by simp)⟩
theorem stps_at {W : World} {ao : Option Addr} {n cap : Nat} {ss : List PSt} (h : Stps W (.slice ao n cap) ss) (j : Nat) (hj : j < ss.length) : ∃ b off, ao = some ⟨b, off, none⟩ ∧ W.cell? ⟨b, off + j * 3, none⟩ = some (.int .i64 ss[j].kind) ∧ W.cell? ⟨b, off + j * 3 + 1, none⟩ = some (.int .i64 ss[j].n) ∧ W.cell? ⟨b, off + j * 3 + 2, none⟩ = some (.string ss[j].text) := by
  obtain ⟨ao', cap', e, _, h⟩ := h
  simp at e
  obtain ⟨rfl, _, rfl⟩ := e
  exact h j hj
end Go.Proofs.Ytignmnmhigncjaa
