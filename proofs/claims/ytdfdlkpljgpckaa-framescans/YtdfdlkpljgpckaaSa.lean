/-
  What FrameScans' walk leans on: whether bytes are just one frame; the list of frames whose bodies are written over one behind the other.
-/
import Derived.Test.YtdfdlkpljgpckaaOv
import Derived.Test.YtdfdlkpljgpckaaKn
import Derived.Test.YtdfdlkpljgpckaaWireAll
namespace Go.Proofs.Ytdfdlkpljgpckaa
open Go.RowKit Disk

theorem ends_zero {L : List UInt8} {fs : Frs} {R : List UInt8} (h : Sc L fs R) (he : ends R = 0) : R = [] := by
  by_cases hR : R = []
  · exact hR
  · have := h.last hR
    unfold ends at he
    rw [if_neg hR] at he
    exact absurd he this

theorem sc_one {L : List UInt8} {fs : Frs} {R : List UInt8} (h : Sc L fs R) : (isOne L → fs = [(((kindOf L : Nat) : Int), bodyOf L)] ∧ ends R = 0) ∧ (fs.length = 1 → ends R = 0 → isOne L) := by
  constructor
  · rintro ⟨hc, hl⟩
    have hd : L.drop (9 + lenOf L) = [] := List.drop_eq_nil_of_le (by omega)
    have h1 : Sc L [(((kindOf L : Nat) : Int), bodyOf L)] [] := sc_cons hc (by rw [hd]; exact sc_nil [] (fun h => absurd rfl h))
    obtain ⟨rfl, rfl⟩ := sc_unique _ h h1
    exact ⟨rfl, rfl⟩
  · intro h1 h2
    have hR := ends_zero h h2
    subst hR
    obtain ⟨f, rfl⟩ := List.length_eq_one_iff.1 h1
    obtain ⟨a1, _, a3, _⟩ := h.at 0 (by simp)
    have e : (flat ([f].take 0)).length = 0 := rfl
    rw [e, List.drop_zero] at a1 a3
    have hl := h.len
    rw [flat_cons, flat_nil, List.append_nil, frm_len] at hl
    simp at hl a3
    have := (bodyOf_len (code_spl a1).1).1
    rw [a3] at this
    exact ⟨a1, by omega⟩

theorem fc_set : ∀ (vs : List Value) (l : Frs) (k : Nat) (u : Value), (fc vs l).set (k * 2 + 1) u = fc (vs.set k u) l
  | [], l, k, u => by cases l <;> simp [fc]
  | v :: vs, [], k, u => by cases k <;> simp [fc]
  | v :: vs, f :: l, 0, u => by simp [fc]
  | v :: vs, f :: l, k + 1, u => by
    have := fc_set vs l k u
    simp only [fc, List.set_cons_succ]
    rw [show (k + 1) * 2 = (k * 2 + 1) + 1 from by omega]
    simp only [List.set_cons_succ, this]

/-- The list's rows from k on are as they were told; all that was written lies from A on and below Z, or is new. -/
structure LI (w6 : World) (A Z : Nat) (vl : Value) (vs : List Value) (fs : Frs) (k : Nat) (wr : World) : Prop where
  fr : Fr w6 wr (fun b => A ≤ b ∧ b < Z)
  row : ∃ vs', vs'.length = fs.length ∧ (∀ j (h : j < vs.length) (h' : j < vs'.length), k ≤ j → vs'[j] = vs[j]) ∧ wr.ownsRow A 25 2 vl fs.length (fc vs' fs)
  own : ∀ j (h : j < vs.length) (h' : j < fs.length), k ≤ j → Disk.Own wr A vs[j] fs[j].2

theorem LI.start {w4 w6 : World} {A : Nat} {vl : Value} {vs : List Value} {fs : Frs} (h : FRow w4 A vl vs fs) (hg : w4.grownBy w6 none) : LI w6 A w4.heap.size vl vs fs 0 w6 :=
  ⟨Fr.of (grown_refl _ none) (by simp), ⟨vs, h.len, fun _ _ _ _ => rfl, (h.grown hg).row⟩, fun j h1 h2 _ => (h.grown hg).each j h1 h2⟩

theorem LI.grown {w6 : World} {A Z : Nat} {vl : Value} {vs : List Value} {fs : Frs} {k : Nat} {wr wr' : World} (h : LI w6 A Z vl vs fs k wr) (hg : wr.grownBy wr' none) : LI w6 A Z vl vs fs k wr' := by
  obtain ⟨vs', h1, h2, h3⟩ := h.row
  refine ⟨h.fr.trans (Fr.of hg (F := fun b => A ≤ b ∧ b < Z) (by simp)) (fun i hi => .inl hi), ⟨vs', h1, h2, h3.kept hg (by cases vl.ownBlock <;> simp)⟩, fun j a b c => (h.own j a b c).grown hg⟩

theorem LI.cell {w6 : World} {A Z : Nat} {vl : Value} {vs : List Value} {fs : Frs} {k : Nat} {wr : World} (h : LI w6 A Z vl vs fs k wr) (hk : k < fs.length) (hv : k < vs.length) : ∃ g cap cur, vl = .slice (some ⟨g, 0, none⟩) fs.length cap ∧ Blk wr g 25 cur ∧ wr.cell? ⟨g, k * 2, none⟩ = some (.int .i64 fs[k].1) ∧ wr.cell? ⟨g, k * 2 + 1, none⟩ = some vs[k] := by
  obtain ⟨vs', h1, h2, h3⟩ := h.row
  have hv' : k < vs'.length := by omega
  obtain ⟨c0, c1⟩ := fc_get vs' fs k hv' hk
  rw [h2 k hv hv' (Nat.le_refl _)] at c1
  rcases h3.2 with ⟨_, h0⟩ | ⟨g, cap, cur, e, _, hg, _, _, _, ht⟩
  · omega
  · have ec : ∀ j u, (fc vs' fs)[j]? = some u → wr.cell? ⟨g, j, none⟩ = some u := by
      intro j u hj
      rw [Blk.cell (show Blk wr g 25 cur from hg)]
      rw [← ht, List.getElem?_take] at hj
      split at hj
      · rw [← Array.getElem?_toList]; exact hj
      · simp at hj
    exact ⟨g, cap, cur, e, hg, ec _ _ c0, ec _ _ c1⟩

theorem LI.step {w4 w6 : World} {A : Nat} {vl : Value} {vs : List Value} {fs : Frs} {k g cap : Nat} {wr wb : World} (h : LI w6 A w4.heap.size vl vs fs k wr) (hf : FRow w4 A vl vs fs) (hk : k < vs.length) (he : vl = .slice (some ⟨g, 0, none⟩) fs.length cap) (hg : wr.grownBy wb vs[k].ownBlock) (u : Value) :
    LI w6 A w4.heap.size vl vs fs (k + 1) (wb.setCell ⟨g, k * 2 + 1, none⟩ u) := by
  obtain ⟨vs', h1, h2, h3⟩ := h.row
  have hkf : k < fs.length := by rw [← hf.len]; exact hk
  have hvg : vl.ownBlock = some g := by rw [he]; rfl
  have hne : ∀ j (hj : j < vs.length), k ≤ j → ∀ x, vs[j].ownBlock = some x → vl.ownBlock ≠ some x := fun j hj hkj x hx => frow_own h3 (h.own j hj (by rw [← hf.len]; exact hj) hkj) hx
  have h3b : wb.ownsRow A 25 2 vl fs.length (fc vs' fs) := by
    refine h3.kept hg ?_
    rw [hvg]
    cases e : vs[k].ownBlock with
    | none => simp
    | some x => have := hne k hk (Nat.le_refl _) x e; rw [hvg] at this; simp at this ⊢; omega
  refine ⟨?_, ⟨vs'.set k u, by simpa using h1, fun j a b c => ?_, ?_⟩, fun j a b c => ?_⟩
  · refine (h.fr.trans (Fr.of hg (F := fun b => A ≤ b ∧ b < w4.heap.size) (fun x hx => ?_)) (fun i hi => .inl hi)).trans (Fr.of (grown_setCell wb g (k * 2 + 1) u) (F := fun b => A ≤ b ∧ b < w4.heap.size) (fun x hx => ?_)) (fun i hi => .inl hi)
    · exact (hf.each k hk hkf).lt x hx
    · simp at hx
      subst hx
      exact hf.lt (.inl hvg)
  · rw [List.getElem_set_ne (by omega)]
    exact h2 j a (by simpa using b) (by omega)
  · subst he
    have := (h3b.stored (k * 2 + 1) u).1
    rw [fc_set] at this
    exact this
  · have ho := h.own j a b (by omega)
    have hb : Disk.Own wb A vs[j] fs[j].2 := ho.same fun x hx => hg.block x (ho.lt x hx).2 (fun e => hf.far k j hk a (by omega) x e.symm hx)
    refine hb.same fun x hx => (grown_setCell wb g (k * 2 + 1) u).block x (hb.lt x hx).2 (fun e => ?_)
    have := hne j a (by omega) x hx
    rw [hvg] at this
    exact this (by simpa using e.symm)

/-- What lies below A is as it was. -/
theorem LI.low {w3 w6 : World} {Z : Nat} {vl : Value} {vs : List Value} {fs : Frs} {k : Nat} {wr : World} (h : LI w6 w3.heap.size Z vl vs fs k wr) (hg : w3.grownBy w6 none) : w3.grownBy wr none :=
  ⟨h.fr.os.trans hg.os, h.fr.tape.trans hg.tape, h.fr.output.trans hg.output, Nat.le_trans hg.size h.fr.size, fun x hx _ => (h.fr.block x (by have := hg.size; omega) (fun e => by omega)).trans (hg.block x hx (by simp))⟩
/-- What lies from Z on is as it was. -/
theorem LI.high {w6 : World} {A Z : Nat} {vl : Value} {vs : List Value} {fs : Frs} {k : Nat} {wr : World} (h : LI w6 A Z vl vs fs k wr) (x : Nat) (hz : Z ≤ x) (hx : x < w6.heap.size) : wr.heap[x]? = w6.heap[x]? := h.fr.block x hx (fun e => by omega)

theorem LI.want {w4 w5 : World} {A Z : Nat} {vl vw : Value} {vs vs2 : List Value} {fs fs2 : Frs} {k : Nat} {wr : World} (h : LI w5 A Z vl vs fs k wr) (hf : FRow w4 Z vw vs2 fs2) (hg : w4.grownBy w5 none) : FRow wr Z vw vs2 fs2 :=
  hf.same fun x hx => (h.high x (hf.lt hx).1 (Nat.lt_of_lt_of_le (hf.lt hx).2 hg.size)).trans (hg.block x (hf.lt hx).2 (by simp))

theorem eql40 (w : World) (f : Fn) (a b : Array Value) : (binOp .eql 40 (.func f a b) .nilFunc).run Try.prog w = .ok (.bool false) w := by kernel_rfl

theorem str_append (L M : List UInt8) : (⟨L.toArray⟩ : ByteArray) ++ (⟨M.toArray⟩ : ByteArray) = ⟨(L ++ M).toArray⟩ := by
  apply ByteArray.ext
  rw [ByteArray.data_append]
  simp

theorem str_add (L M : List UInt8) (wk : World) (h : L.length + M.length ≤ 9223372036854775807) : (Op.stringOp .add ⟨L.toArray⟩ ⟨M.toArray⟩).run Try.prog wk = .ok (.string ⟨(L ++ M).toArray⟩) wk := by
  have h1 := run_string_add_sum (P := Try.prog) (w := wk) ⟨L.toArray⟩ ⟨M.toArray⟩ (by simpa [ByteArray.size] using h)
  rw [str_append] at h1
  exact h1

/-- What a store into an owned row finds. -/
theorem own_facts {w : World} {B g n cap : Nat} {L : List UInt8} (h : Disk.Own w B (.slice (some ⟨g, 0, none⟩) n cap) L) (j : Nat) (hj : j < L.length) : w.cell? ⟨g, j, none⟩ = some (.int .u8 (L[j].toNat : Int)) ∧ w.frozen? ⟨g, j, none⟩ = false := by
  obtain ⟨cur, hb⟩ := own_blk h rfl
  obtain ⟨ao', cap', hv, _, _, _, h4⟩ := h.seg
  simp at hv
  obtain ⟨b', off', e', hc⟩ := h4 j hj
  rw [← hv.1] at e'
  simp at e'
  rw [← e'.1, ← e'.2, Nat.zero_add] at hc
  exact ⟨hc, hb.free j⟩
end Go.Proofs.Ytdfdlkpljgpckaa
