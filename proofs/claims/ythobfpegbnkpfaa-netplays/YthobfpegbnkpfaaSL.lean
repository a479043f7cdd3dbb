/-
  A net of the call's own, step by step.
-/
import Derived.Test.YthobfpegbnkpfaaSC
namespace Go.Proofs.Ythobfpegbnkpfaa.S
open Go.RowKit Disk

/-- A net of the call's own: all its blocks lie behind what was there at w. -/
structure Mine (w w1 : World) (b : Nat) (v : Value) (q : List Pcl) (s : Int) : Prop where
  net : Net w1 b w.heap.size v q s
  gr : w.grownBy w1 none
  lo : w.heap.size ≤ b
theorem Mine.grown {w w1 w2 : World} {b : Nat} {v : Value} {q : List Pcl} {s : Int} (h : Mine w w1 b v q s) (hg : w1.grownBy w2 none) : Mine w w2 b v q s := ⟨h.net.grown hg, grown_trans h.gr hg, h.lo⟩
theorem Mine.to {w w1 w2 : World} {b : Nat} {v : Value} {q q' : List Pcl} {s s' : Int} (h : Mine w w1 b v q s) (ht : NetTo w1 b w.heap.size v w2 q' s') : ∃ v', Mine w w2 b v' q' s' := by
  obtain ⟨v', h1, h2, h3⟩ := ht
  refine ⟨v', h1, ?_, h.lo⟩
  refine ((Fr.of (F := fun i => w.heap.size ≤ i) h.gr (by simp)).trans h2 fun i hi => ?_).grown fun k hk => hk
  rcases hi with rfl | hi
  · exact .inl h.lo
  · exact .inl (h.net.way.row.lt i hi).1
theorem Mine.len {w w1 : World} {b : Nat} {v : Value} {q : List Pcl} {s : Int} (h : Mine w w1 b v q s) : Calls Try.prog 16 #[.pointer (some ⟨b, 0, none⟩)] w1 fun e w' => e = .returned (.int .i64 (q.length : Int)) ∧ w' = w1 := len_yes _ _ _ _ _ _ h.net
/-- A block that is no net's stays. -/
theorem Mine.other {w w1 w2 : World} {b : Nat} {v : Value} {q q' : List Pcl} {s s' : Int} (h : Mine w w1 b v q s) (ht : NetTo w1 b w.heap.size v w2 q' s') {i t : Nat} {c : Array Value} (hb : Blk w1 i t c) (h1 : t ≠ 58) (h2 : t ≠ 59) : Blk w2 i t c := by
  obtain ⟨_, _, hf, _⟩ := ht
  exact h.net.other hf hb h1 h2
theorem mine_new {w w1 : World} (h : Net w1 w.heap.size w.heap.size (.slice none 0 0) [] 0) (hg : w.grownBy w1 none) : Mine w w1 w.heap.size (.slice none 0 0) [] 0 := ⟨h, hg, Nat.le_refl _⟩
/-- A row apart from a net. -/
theorem Mine.apart {w w1 : World} {b : Nat} {v : Value} {q : List Pcl} {s : Int} (h : Mine w w1 b v q s) {i t : Nat} {c : Array Value} (hb : Blk w1 i t c) (h1 : t ≠ 58) (h2 : t ≠ 59) : i < w1.heap.size ∧ ¬ FN b v i := by
  refine ⟨hb.lt, fun e => ?_⟩
  rcases e with rfl | e
  · exact h1 (blk_type hb h.net.blk)
  · obtain ⟨C, hC⟩ := h.net.way.row.blk i e
    exact h2 (blk_type hb hC)
/-- A block of the call's own that is no net's is written. -/
theorem Mine.but {w w1 w2 : World} {b : Nat} {v : Value} {q : List Pcl} {s : Int} {r : Option Nat} (h : Mine w w1 b v q s) (hg : w1.grownBy w2 r) (hr : ∀ k, r = some k → w.heap.size ≤ k ∧ ∃ t C, Blk w1 k t C ∧ t ≠ 58 ∧ t ≠ 59 ∧ t ≠ 61) : Mine w w2 b v q s := by
  have keep : ∀ {i t c}, Blk w1 i t c → t = 58 ∨ t = 59 ∨ t = 61 → Blk w2 i t c := fun {i t c} hb ht => hb.grown hg fun e => by
    obtain ⟨_, t', C, hC, h1, h2, h3⟩ := hr i e
    have := blk_type hb hC
    subst this
    rcases ht with rfl | rfl | rfl
    · exact h1 rfl
    · exact h2 rfl
    · exact h3 rfl
  refine ⟨⟨keep h.net.blk (.inl rfl), ⟨h.net.way.row.same fun k hk => ?_, fun a ha => keep (h.net.way.par a ha) (.inr (.inr rfl))⟩, h.net.len, h.net.asc, h.net.top, h.net.low⟩, grown_new h.gr hg fun x hx => (hr x hx).1, h.lo⟩
  obtain ⟨C, hC⟩ := h.net.way.row.blk k hk
  exact (keep hC (.inr (.inl rfl))).trans hC.symm
/-- A row that is no net's stays. -/
theorem Mine.row {w w1 w2 : World} {b B e : Nat} {v x : Value} {q q' : List Pcl} {s s' : Int} {xs : List Value} (h : Mine w w1 b v q s) (ht : NetTo w1 b w.heap.size v w2 q' s') (hx : Row e w1 B x xs) (h1 : e ≠ 58) (h2 : e ≠ 59) : Row e w2 B x xs := hx.same fun k hk => by
  obtain ⟨C, hC⟩ := hx.blk k hk
  exact (h.other ht hC h1 h2).trans hC.symm
end Go.Proofs.Ythobfpegbnkpfaa.S
