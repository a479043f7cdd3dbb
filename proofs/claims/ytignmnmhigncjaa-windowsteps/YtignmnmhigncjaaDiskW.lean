/-
  Words for memory: a slice of bytes that reads as a list (Seg), one that lies in the call's own memory (Own), blocks (Blk), footprints: sets of blocks that a thing lies in, and what a step of the world leaves of them.
-/
import Derived.Test.YtignmnmhigncjaaRows
import Derived.WalkKit
import Derived.WalkSpells
import Derived.WalkLawsBesides
import Derived.Laws.AppendOwnNone
import Derived.BigFrame
import Derived.Deep.RegionHeld3
import Derived.Deep.DrawnRows
import Derived.Deep.QuietTactic
import Derived.BigQuiet
import Derived.Deep.AppendLies
import Derived.Deep.DeepAppendRoom
namespace Go.Proofs.Ytignmnmhigncjaa.Disk
open Go.RowKit

def BV (L : List UInt8) : List Value := L.map fun u => Value.int .u8 (u.toNat : Int)

theorem BV_len (L : List UInt8) : (BV L).length = L.length := by simp [BV]
theorem BV_append (L M : List UInt8) : BV (L ++ M) = BV L ++ BV M := by simp [BV]
theorem BV_take (L : List UInt8) (n : Nat) : BV (L.take n) = (BV L).take n := by simp [BV, List.map_take]
theorem BV_one (L : List UInt8) : ∀ u ∈ BV L, u.oneCell' = true := by
  intro u hu; simp [BV] at hu; obtain ⟨x, _, rfl⟩ := hu; rfl

/-- The slice v reads as L. -/
def Seg (w : World) (v : Value) (L : List UInt8) : Prop :=
  ∃ ao cap, v = .slice ao L.length cap ∧ L.length ≤ cap ∧ cap ≤ maxLen ∧ (ao = none → cap = 0) ∧ ∀ j (hj : j < L.length), ∃ b off, ao = some ⟨b, off, none⟩ ∧ w.cell? ⟨b, off + j, none⟩ = some (.int .u8 (L[j].toNat : Int))

/-- The slice v owns L: a block from its beginning on. -/
def Own (w : World) (B : Nat) (v : Value) (L : List UInt8) : Prop := w.ownsRow B 5 1 v L.length (BV L)

/-- A block's cells. -/
def Blk (w : World) (b t : Nat) (c : Array Value) : Prop := w.heap[b]? = some (.cells c t (0, 0))

theorem grown_refl (w : World) (r : Option Nat) : w.grownBy w r := ⟨rfl, rfl, rfl, Nat.le_refl _, fun _ _ _ => rfl⟩
theorem grown_weak {w w' : World} (h : w.grownBy w' none) (r : Option Nat) : w.grownBy w' r := ⟨h.os, h.tape, h.output, h.size, fun k hk _ => h.block k hk (by simp)⟩
theorem grown_trans {a b c : World} {r : Option Nat} (h : a.grownBy b r) (k : b.grownBy c r) : a.grownBy c r :=
  ⟨k.os.trans h.os, k.tape.trans h.tape, k.output.trans h.output, Nat.le_trans h.size k.size, fun i hi hr => (k.block i (Nat.lt_of_lt_of_le hi h.size) hr).trans (h.block i hi hr)⟩
/-- A step that writes one block that was not there before. -/
theorem grown_new {a b c : World} {r q : Option Nat} (h : a.grownBy b r) (k : b.grownBy c q) (hq : ∀ x, q = some x → a.heap.size ≤ x) : a.grownBy c r :=
  ⟨k.os.trans h.os, k.tape.trans h.tape, k.output.trans h.output, Nat.le_trans h.size k.size, fun i hi hr => (k.block i (Nat.lt_of_lt_of_le hi h.size) (fun e => by have := hq i e.symm; omega)).trans (h.block i hi hr)⟩
theorem grown_drew (w : World) (r : Option Nat) : w.grownBy w.drew r := ⟨rfl, rfl, rfl, Nat.le_refl _, fun _ _ _ => rfl⟩
theorem grown_drewN (w : World) (q : Nat) (r : Option Nat) : w.grownBy (w.drewN q) r := ⟨rfl, rfl, rfl, Nat.le_refl _, fun _ _ _ => rfl⟩
theorem grown_setCell (w : World) (b o : Nat) (v : Value) : w.grownBy (w.setCell ⟨b, o, none⟩ v) (some b) :=
  ⟨rfl, rfl, rfl, by simp [World.setCell], fun k _ hk => heap_setCell_other w ⟨b, o, none⟩ k v (fun e => hk (by simp [e]))⟩
theorem grown_below {w w' : World} (h : w.grownBy w' none) : Below w.heap.size w w' := ⟨h.os, h.tape, h.output, h.size, fun k hk => h.block k hk (by simp)⟩

theorem Blk.lt {w : World} {b t : Nat} {c : Array Value} (h : Blk w b t c) : b < w.heap.size := (Array.getElem?_eq_some_iff.1 h).1
theorem Blk.cell {w : World} {b t : Nat} {c : Array Value} (h : Blk w b t c) (j : Nat) : w.cell? ⟨b, j, none⟩ = c[j]? := cell_of_row w b j _ _ _ h
theorem Blk.free {w : World} {b t : Nat} {c : Array Value} (h : Blk w b t c) (j : Nat) : w.frozen? ⟨b, j, none⟩ = false := frozen_of_row w b j _ _ h
theorem Blk.store {w : World} {b t : Nat} {c : Array Value} (h : Blk w b t c) (i : Nat) (v : Value) : Blk (w.setCell ⟨b, i, none⟩ v) b t (c.setIfInBounds i v) := heap_setCell_same w b i _ _ v h
theorem Blk.grown {w w' : World} {b t : Nat} {c : Array Value} {r : Option Nat} (h : Blk w b t c) (hg : w.grownBy w' r) (hr : r ≠ some b) : Blk w' b t c :=
  (hg.block b h.lt (fun e => hr e.symm)).trans h
theorem Blk.same {w w' : World} {b t : Nat} {c : Array Value} (h : Blk w b t c) (hs : w'.heap[b]? = w.heap[b]?) : Blk w' b t c := hs.trans h

theorem Seg.len {w : World} {v : Value} {L : List UInt8} (h : Seg w v L) : L.length ≤ 9223372036854775807 := by
  obtain ⟨ao, cap, _, h1, h2, _⟩ := h
  unfold maxLen at h2; omega
theorem Seg.shape {w : World} {v : Value} {L : List UInt8} (h : Seg w v L) : ∃ ao cap, v = .slice ao L.length cap := by obtain ⟨ao, cap, h, _⟩ := h; exact ⟨ao, cap, h⟩

theorem seg_nil (w : World) : Seg w (.slice none 0 0) [] := ⟨none, 0, rfl, Nat.le_refl _, Nat.zero_le _, fun _ => rfl, fun j hj => absurd hj (by simp)⟩

theorem Seg.of_cells {w w' : World} {v : Value} {L : List UInt8} (h : Seg w v L) (hc : ∀ b j (x : Int), w.cell? ⟨b, j, none⟩ = some (.int .u8 x) → w'.cell? ⟨b, j, none⟩ = some (.int .u8 x)) : Seg w' v L := by
  obtain ⟨ao, cap, hv, h1, h2, h3, h4⟩ := h
  refine ⟨ao, cap, hv, h1, h2, h3, fun j hj => ?_⟩
  obtain ⟨b, off, e, hcell⟩ := h4 j hj
  exact ⟨b, off, e, hc _ _ _ hcell⟩

theorem Seg.grown {w w' : World} {v : Value} {L : List UInt8} (h : Seg w v L) (hg : w.grownBy w' none) : Seg w' v L :=
  h.of_cells fun _ _ _ hc => hg.cell hc (by simp)

theorem Own.seg {w : World} {B : Nat} {v : Value} {L : List UInt8} (h : Own w B v L) : Seg w v L := by
  rcases h.2 with ⟨rfl, hn⟩ | ⟨g, cap, cur, rfl, hb, hg, hnc, hcm, hcs, ht⟩
  · have : L = [] := List.eq_nil_of_length_eq_zero hn
    subst this
    exact seg_nil w
  · refine ⟨_, cap, rfl, hnc, hcm, by simp, fun j hj => ⟨g, 0, rfl, ?_⟩⟩
    have := h.cellAt j (by omega)
    rw [Nat.zero_add, this]
    simp [BV, hj]

theorem Own.nil (w : World) (B : Nat) : Own w B (.slice none 0 0) [] := World.ownsRow_nil w B 5 1
theorem Own.mono {w : World} {B B' : Nat} {v : Value} {L : List UInt8} (h : Own w B v L) (hB : B' ≤ B) : Own w B' v L := by
  refine ⟨h.1, ?_⟩
  rcases h.2 with h2 | ⟨g, cap, cur, h1, hb, h3⟩
  · exact .inl h2
  · exact .inr ⟨g, cap, cur, h1, by omega, h3⟩
theorem Own.grown {w w' : World} {B : Nat} {v : Value} {L : List UInt8} (h : Own w B v L) (hg : w.grownBy w' none) : Own w' B v L := h.kept hg (by cases v.ownBlock <;> simp)
theorem Own.same {w w' : World} {B : Nat} {v : Value} {L : List UInt8} (h : Own w B v L) (hs : ∀ k, v.ownBlock = some k → w'.heap[k]? = w.heap[k]?) : Own w' B v L := by
  refine ⟨h.1, ?_⟩
  rcases h.2 with h2 | ⟨g, cap, cur, rfl, hb, hg, h3⟩
  · exact .inl h2
  · exact .inr ⟨g, cap, cur, rfl, hb, (hs g rfl).trans hg, h3⟩
theorem Own.alloc {w : World} {B : Nat} {v : Value} {L : List UInt8} (h : Own w B v L) (o : Obj) : Own (w.alloc o) B v L := World.ownsRow.alloc h o
theorem Own.lt {w : World} {B : Nat} {v : Value} {L : List UInt8} (h : Own w B v L) : ∀ k, v.ownBlock = some k → B ≤ k ∧ k < w.heap.size := fun k hk => World.ownsRow.lt h k hk
theorem own_empty (w : World) : Own (w.alloc (.cells #[] 5)) w.heap.size (.slice (some ⟨w.heap.size, 0, none⟩) 0 0) [] := World.ownsRow_made (base := w.heap.size) (e := 5) (size := 1) w #[] 0 (Nat.le_refl _) (Nat.zero_le _) rfl
theorem Own.shape {w : World} {B : Nat} {v : Value} {L : List UInt8} (h : Own w B v L) : (v = .slice none 0 0 ∧ L = []) ∨ ∃ g cap, v = .slice (some ⟨g, 0, none⟩) L.length cap ∧ B ≤ g ∧ g < w.heap.size := by
  rcases h.2 with ⟨rfl, hn⟩ | ⟨g, cap, cur, rfl, hb, hg, _⟩
  · exact .inl ⟨rfl, List.eq_nil_of_length_eq_zero hn⟩
  · exact .inr ⟨g, cap, rfl, hb, (Array.getElem?_eq_some_iff.1 hg).1⟩
/-- A beginning of a row of one's own is one too. -/
theorem Own.take {w : World} {B : Nat} {ao : Option Addr} {cap : Nat} {L : List UInt8} (h : Own w B (.slice ao L.length cap) L) (n : Nat) (hn : n ≤ L.length) : Own w B (.slice ao n cap) (L.take n) := by
  refine ⟨by simp [BV], ?_⟩
  have hl : (L.take n).length = n := by simp [hn]
  rcases h.2 with ⟨he, h0⟩ | ⟨g, c, cur, he, hb, hg, h1, h2, h3, h4⟩
  · simp at he
    obtain ⟨rfl, h00, rfl⟩ := he
    have e0 : n = 0 := by omega
    subst e0
    exact .inl ⟨rfl, by simp⟩
  · simp at he
    obtain ⟨rfl, rfl⟩ := he
    refine .inr ⟨g, cap, cur, by rw [hl], hb, hg, by rw [hl]; omega, h2, h3, ?_⟩
    rw [hl, BV_take, ← h4, List.take_take]
    congr 1
    omega
/-- A block of another type is another one. -/
theorem Own.other {w : World} {B : Nat} {v : Value} {L : List UInt8} {b t : Nat} {c : Array Value} (h : Own w B v L) (hb : Blk w b t c) (ht : t ≠ 5) : v.ownBlock ≠ some b := by
  rcases h.2 with ⟨rfl, _⟩ | ⟨g, cap, cur, rfl, _, hg, _⟩
  · simp [Value.ownBlock]
  · intro e
    simp [Value.ownBlock] at e
    subst e
    unfold Blk at hb
    rw [hg] at hb
    simp at hb
    exact ht hb.2.symm

theorem seg_take {w : World} {ao : Option Addr} {cap : Nat} {L : List UInt8} (m : Nat) (hm : m ≤ L.length) (h : Seg w (.slice ao L.length cap) L) : Seg w (.slice ao m cap) (L.take m) := by
  obtain ⟨ao', cap', hv, h1, h2, h3, h4⟩ := h
  simp at hv; obtain ⟨rfl, rfl⟩ := hv
  refine ⟨ao, cap, by simp [hm], by simp; omega, h2, h3, fun j hj => ?_⟩
  simp at hj
  obtain ⟨b, off, e, hc⟩ := h4 j (by omega)
  exact ⟨b, off, e, by simpa using hc⟩

theorem seg_drop {w : World} {ao : Option Addr} {cap : Nat} {L : List UInt8} (m : Nat) (hm : m ≤ L.length) (h : Seg w (.slice ao L.length cap) L) : Seg w (.slice (Option.map (fun x => x.add m) ao) (L.length - m) (cap - m)) (L.drop m) := by
  obtain ⟨ao', cap', hv, h1, h2, h3, h4⟩ := h
  simp at hv; obtain ⟨rfl, rfl⟩ := hv
  refine ⟨Option.map (fun x => x.add m) ao, cap - m, by simp, by simp; omega, by omega, fun h => by simp at h; have := h3 h; omega, fun j hj => ?_⟩
  simp at hj
  obtain ⟨b, off, e, hc⟩ := h4 (m + j) (by omega)
  refine ⟨b, off + m, ?_, by rw [Nat.add_assoc]; simpa using hc⟩
  rw [e]; simp only [Option.map_some, Addr.add]
  by_cases hz : m = 0
  · subst hz; simp
  · simp [hz]

theorem seg_drop_all {w : World} {ao : Option Addr} {cap : Nat} {L : List UInt8} (m : Nat) (hm : m ≤ L.length) (hc : cap = m) (h : Seg w (.slice ao L.length cap) L) : Seg w (.slice ao (L.length - m) 0) (L.drop m) := by
  obtain ⟨ao', cap', hv, h1, h2, h3, h4⟩ := h
  simp at hv; obtain ⟨rfl, rfl⟩ := hv
  have : L.length = m := by omega
  refine ⟨ao, 0, by simp, by simp; omega, by omega, fun _ => rfl, fun j hj => ?_⟩
  simp at hj; omega

/-- All but the blocks of F is as it was. -/
structure Fr (w w' : World) (F : Nat → Prop) : Prop where
  os : w'.os = w.os
  tape : w'.tape = w.tape
  output : w'.output = w.output
  size : w.heap.size ≤ w'.heap.size
  block : ∀ k, k < w.heap.size → ¬ F k → w'.heap[k]? = w.heap[k]?

/-- What was written lies in F; what F has become is F and new blocks. -/
structure Aft (w : World) (F : Nat → Prop) (w' : World) (F' : Nat → Prop) : Prop where
  fr : Fr w w' F
  sub : ∀ k, F' k → F k ∨ w.heap.size ≤ k

theorem Fr.of {w w' : World} {r : Option Nat} {F : Nat → Prop} (h : w.grownBy w' r) (hr : ∀ k, r = some k → F k) : Fr w w' F :=
  ⟨h.os, h.tape, h.output, h.size, fun k hk hn => h.block k hk (fun e => hn (hr k e.symm))⟩
theorem Fr.grown {w w' : World} {F : Nat → Prop} (h : Fr w w' F) (hF : ∀ k, F k → w.heap.size ≤ k) : w.grownBy w' none :=
  ⟨h.os, h.tape, h.output, h.size, fun k hk _ => h.block k hk (fun e => by have := hF k e; omega)⟩
theorem Fr.trans {a b c : World} {F G : Nat → Prop} (h : Fr a b F) (k : Fr b c G) (hG : ∀ i, G i → F i ∨ a.heap.size ≤ i) : Fr a c F :=
  ⟨k.os.trans h.os, k.tape.trans h.tape, k.output.trans h.output, Nat.le_trans h.size k.size, fun i hi hn => (k.block i (Nat.lt_of_lt_of_le hi h.size) (fun e => by rcases hG i e with h1 | h1; exact hn h1; omega)).trans (h.block i hi hn)⟩
theorem Fr.mono {w w' : World} {F G : Nat → Prop} (h : Fr w w' F) (hs : ∀ k, F k → G k) : Fr w w' G := ⟨h.os, h.tape, h.output, h.size, fun k hk hn => h.block k hk (fun e => hn (hs k e))⟩
/-- A world in which no block has turned. -/
theorem Fr.after {a b c : World} {F : Nat → Prop} (h : a.grownBy b none) (k : Fr b c F) (_hF : ∀ i, F i → i < a.heap.size ∨ a.heap.size ≤ i) : Fr a c F :=
  ⟨k.os.trans h.os, k.tape.trans h.tape, k.output.trans h.output, Nat.le_trans h.size k.size, fun i hi hn => (k.block i (Nat.lt_of_lt_of_le hi h.size) hn).trans (h.block i hi (by simp))⟩
theorem Fr.same {w w' : World} {F G : Nat → Prop} (h : Fr w w' F) (hl : ∀ k, G k → k < w.heap.size) (hd : ∀ k, G k → ¬ F k) : ∀ k, G k → w'.heap[k]? = w.heap[k]? := fun k hk => h.block k (hl k hk) (hd k hk)
theorem grown_same {w w' : World} {G : Nat → Prop} (h : w.grownBy w' none) (hl : ∀ k, G k → k < w.heap.size) : ∀ k, G k → w'.heap[k]? = w.heap[k]? := fun k hk => h.block k (hl k hk) (by simp)
theorem Aft.disj {w w' : World} {F F' G : Nat → Prop} (h : Aft w F w' F') (hl : ∀ k, G k → k < w.heap.size) (hd : ∀ k, F k → ¬ G k) : ∀ k, F' k → ¬ G k := fun k hk hg => by
  rcases h.sub k hk with h1 | h1
  · exact hd k h1 hg
  · have := hl k hg; omega
theorem Aft.trans {a b c : World} {F G H : Nat → Prop} (h : Aft a F b G) (k : Aft b G c H) : Aft a F c H :=
  ⟨h.fr.trans k.fr h.sub, fun i hi => by
    rcases k.sub i hi with h1 | h1
    · exact h.sub i h1
    · exact .inr (Nat.le_trans h.fr.size h1)⟩

theorem Try.info5 : (Try.prog.info? 5).map (fun i => (i.zero, i.size, i.bytes)) = some (some (.int .u8 0), 1, 1) := by kernel_rfl

theorem seg_news {w : World} {ad : Addr} {n cap : Nat} {L : List UInt8} (h : Seg w (.slice (some ad) n cap) L) : n = L.length ∧ ∀ j u, (BV L)[j]? = some u → w.cell? (ad.add j) = some u := by
  obtain ⟨ao, cap', hv, h1, h2, h3, h4⟩ := h
  simp at hv; obtain ⟨rfl, rfl, rfl⟩ := hv
  refine ⟨rfl, fun j u hj => ?_⟩
  have hjl : j < L.length := by
    have := (List.getElem?_eq_some_iff.1 hj).1
    simpa [BV] using this
  obtain ⟨b, off, e, hc⟩ := h4 j hjl
  simp at e; subst e
  have e2 : (⟨b, off, none⟩ : Addr).add j = ⟨b, off + j, none⟩ := by
    unfold Addr.add; by_cases hz : j = 0
    · subst hz; simp
    · simp [hz]
  rw [e2, hc]
  simp [BV, hjl] at hj
  rw [hj]

end Go.Proofs.Ytignmnmhigncjaa.Disk
