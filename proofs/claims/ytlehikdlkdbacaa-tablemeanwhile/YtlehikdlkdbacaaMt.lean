/-
  Tables that are changed while their rows are gone over: what stands between two rounds.
-/
import Derived.Test.YtlehikdlkdbacaaGo
import Derived.Test.YtlehikdlkdbacaaSf
import Derived.Test.YtlehikdlkdbacaaF
import Derived.Test.YtlehikdlkdbacaaBe
namespace Go.Proofs.Ytlehikdlkdbacaa
open Go.RowKit Disk

theorem Tn.tb {n0 : Nat} {w w' : World} (h : Tn n0 w w') {q : Nat} {l : List PRow} (hq : Tb w q l) : Tb w' q l := by
  obtain ⟨v, h1, ps, h2, h3⟩ := hq
  refine ⟨v, h.blk h1, ps, ⟨h2.1, fun j x y => ?_⟩, h.vec h3⟩
  obtain ⟨k, u, g1, g2, g3⟩ := h2.2 j x y
  exact ⟨k, u, h.blk g1, h.own g2, h.own g3⟩
theorem Tn.trws {n0 : Nat} {w w' : World} (h : Tn n0 w w') {B : Nat} {v : Value} {l : List PRow} (hq : TRws w B v l) : TRws w' B v l := by
  obtain ⟨ks, h2, h3⟩ := hq
  refine ⟨ks, owns_same h2 fun k hk => ?_, ⟨h3.1, fun j x y => ?_⟩⟩
  · rcases h2.2 with ⟨rfl, _⟩ | ⟨g2, cap, cur, rfl, _, hg2, _⟩
    · simp [Value.ownBlock] at hk
    · simp [Value.ownBlock] at hk
      subst hk
      exact h.block g2 (Array.getElem?_eq_some_iff.1 hg2).1 (.inr ⟨_, _, _, hg2⟩)
  · obtain ⟨o1, o2⟩ := h3.2 j x y
    exact ⟨h.own o1, h.own o2⟩
theorem Tn.dt {n0 : Nat} {w w' : World} (h : Tn n0 w w') {q : Nat} {l : List PRow} (hq : Dt w q l) : Dt w' q l := by
  obtain ⟨v, h1, h2⟩ := hq
  exact ⟨v, h.blk h1, h.trws h2⟩
theorem Gr2.trws {a b : Nat} {w w' : World} (h : Gr2 a b w w') (ht : Two w a b) {B : Nat} {v : Value} {l : List PRow} (hq : TRws w B v l) : TRws w' B v l := by
  obtain ⟨ks, h2, h3⟩ := hq
  refine ⟨ks, owns_same h2 fun k hk => ?_, ⟨h3.1, fun j x y => ?_⟩⟩
  · rcases h2.2 with ⟨rfl, _⟩ | ⟨g2, cap, cur, rfl, _, hg2, _⟩
    · simp [Value.ownBlock] at hk
    · simp [Value.ownBlock] at hk
      subst hk
      exact h.kind ht hg2 (by decide) (by decide)
  · obtain ⟨o1, o2⟩ := h3.2 j x y
    exact ⟨h.own ht o1, h.own ht o2⟩
/-- A table beside a block of another kind that is changed. -/
theorem Tb.off {w w' : World} {b : Nat} {l : List PRow} (h : Tb w b l) {g t : Nat} {c : Array Value} (hg : w.grownBy w' (some g)) (hb : Blk w g t c) (h68 : t ≠ 68) (h45 : t ≠ 45) (h5 : t ≠ 5) (hc : ∀ (j p : Nat), c[j]? ≠ some (ptr p)) : Tb w' b l := by
  obtain ⟨v, h1, ps, h2, h3⟩ := h
  refine ⟨v, h1.grown hg (fun e => ?_), ps, h2.off hg hb h45 h5, h3.cells fun q j u hu hx => ?_⟩
  · simp at e
    subst e
    unfold Blk at h1 hb
    rw [h1] at hb
    simp at hb
    exact h68 hb.2.symm
  · simp [PTR] at hu
    obtain ⟨p, _, rfl⟩ := hu
    refine hg.cell hx (fun e => ?_)
    simp at e
    subst e
    rw [hb.cell] at hx
    exact hc j p hx

/-- All but the blocks of G is as it was. -/
def Sk (G : Nat → Prop) (A B : World) : Prop := A.heap.size ≤ B.heap.size ∧ ∀ i, i < A.heap.size → ¬ G i → B.heap[i]? = A.heap[i]?
theorem Sk.trans {G : Nat → Prop} {A B C : World} (h : Sk G A B) (k : Sk G B C) : Sk G A C := ⟨Nat.le_trans h.1 k.1, fun i hi hG => (k.2 i (Nat.lt_of_lt_of_le hi h.1) hG).trans (h.2 i hi hG)⟩
theorem sk_none {G : Nat → Prop} {A B : World} (h : A.grownBy B none) : Sk G A B := ⟨h.size, fun i hi _ => h.block i hi (by simp)⟩
theorem sk_some {G : Nat → Prop} {A B : World} {g : Nat} (h : A.grownBy B (some g)) (hg : G g) : Sk G A B := ⟨h.size, fun i hi hG => h.block i hi (fun e => hG (by simp at e; subst e; exact hg))⟩

/-- Both tables and what the call holds of its own. -/
structure MS (w : World) (b4 b7 b11 b12 tb db : Nat) (D : Bool) (u wv : Value) (l : List PRow) (k : Nat) (la ld : List PRow) (A : World) : Prop where
  p4 : Blk A b4 22 #[u]
  p5 : Blk A (b4 + 1) 4 #[.bool D]
  p6 : Blk A (b4 + 2) 4 #[.bool false]
  p7 : Blk A b7 26 #[.pointer (some ⟨tb, 0, none⟩)]
  p8 : Blk A (b7 + 1) 27 #[.pointer (some ⟨db, 0, none⟩)]
  p11 : Blk A b11 22 #[wv]
  p12 : Blk A b12 3 #[.int .i64 (k : Int)]
  tab : Tb A tb la
  doc : Dt A db ld
  want : TRws A 0 wv l
  grown : w.grownBy A none
  lo : w.heap.size ≤ tb ∧ w.heap.size ≤ db ∧ w.heap.size ≤ b12
section
variable {w : World} {b4 b7 b11 b12 tb db : Nat} {D : Bool} {u wv : Value} {l : List PRow} {k : Nat} {la ld : List PRow} {A B : World}
theorem MS.two (h : MS w b4 b7 b11 b12 tb db D u wv l k la ld A) : Two A tb db := two_of h.tab h.doc
theorem MS.tn {n0 : Nat} (h : MS w b4 b7 b11 b12 tb db D u wv l k la ld A) (ht : Tn n0 A B) (hn : w.heap.size ≤ n0) : MS w b4 b7 b11 b12 tb db D u wv l k la ld B :=
  ⟨ht.blk h.p4, ht.blk h.p5, ht.blk h.p6, ht.blk h.p7, ht.blk h.p8, ht.blk h.p11, ht.blk h.p12, ht.tb h.tab, ht.dt h.doc, ht.trws h.want, ht.after h.grown hn, h.lo⟩
theorem MS.more (h : MS w b4 b7 b11 b12 tb db D u wv l k la ld A) (hg : A.grownBy B none) : MS w b4 b7 b11 b12 tb db D u wv l k la ld B :=
  ⟨h.p4.grown hg (by simp), h.p5.grown hg (by simp), h.p6.grown hg (by simp), h.p7.grown hg (by simp), h.p8.grown hg (by simp), h.p11.grown hg (by simp), h.p12.grown hg (by simp), h.tab.grown hg, h.doc.grown hg, h.want.grown hg, grown_trans h.grown hg, h.lo⟩
theorem MS.gr2 (h : MS w b4 b7 b11 b12 tb db D u wv l k la ld A) (hg : Gr2 tb db A B) {la' ld' : List PRow} (ht : Tb B tb la') (hd : Dt B db ld') : MS w b4 b7 b11 b12 tb db D u wv l k la' ld' B := by
  have h2 := h.two
  exact ⟨h.p4.same (hg.kind h2 h.p4 (by decide) (by decide)), h.p5.same (hg.kind h2 h.p5 (by decide) (by decide)), h.p6.same (hg.kind h2 h.p6 (by decide) (by decide)), h.p7.same (hg.kind h2 h.p7 (by decide) (by decide)), h.p8.same (hg.kind h2 h.p8 (by decide) (by decide)), h.p11.same (hg.kind h2 h.p11 (by decide) (by decide)), h.p12.same (hg.kind h2 h.p12 (by decide) (by decide)), ht, hd, hg.trws h2 h.want, hg.new h.grown h.lo.1 h.lo.2.1, h.lo⟩
theorem MS.fst (h : MS w b4 b7 b11 b12 tb db D u wv l k la ld A) (hg : A.grownBy B (some tb)) {la' : List PRow} (ht : Tb B tb la') : MS w b4 b7 b11 b12 tb db D u wv l k la' ld B := by
  obtain ⟨_, _, _, hb⟩ := h.two.1
  exact h.gr2 (gr2_fst hg) ht (h.doc.off hg hb (by decide) (by decide) (by decide))
theorem MS.snd (h : MS w b4 b7 b11 b12 tb db D u wv l k la ld A) (hg : A.grownBy B (some db)) {ld' : List PRow} (hd : Dt B db ld') : MS w b4 b7 b11 b12 tb db D u wv l k la ld' B := by
  obtain ⟨_, _, _, hb⟩ := h.two.2
  exact h.gr2 (gr2_snd hg) (h.tab.off hg hb (by decide) (by decide) (by decide) (fun j p => by rcases j with _ | j <;> simp [ptr])) hd
theorem MS.next (h : MS w b4 b7 b11 b12 tb db D u wv l k la ld A) : MS w b4 b7 b11 b12 tb db D u wv l (k + 1) la ld (A.setCell ⟨b12, 0, none⟩ (.int .i64 ((k : Int) + 1))) := by
  have hg := grown_setCell A b12 0 (.int .i64 ((k : Int) + 1))
  have ne : ∀ {q t : Nat} {c : Array Value}, Blk A q t c → t ≠ 3 → (some b12 : Option Nat) ≠ some q := fun {q t c} hb ht e => by
    simp at e
    subst e
    have h12 := h.p12
    unfold Blk at hb h12
    rw [hb] at h12
    simp at h12
    exact ht h12.2
  refine ⟨h.p4.grown hg (ne h.p4 (by decide)), h.p5.grown hg (ne h.p5 (by decide)), h.p6.grown hg (ne h.p6 (by decide)), h.p7.grown hg (ne h.p7 (by decide)), h.p8.grown hg (ne h.p8 (by decide)), h.p11.grown hg (ne h.p11 (by decide)), ?_, h.tab.off hg h.p12 (by decide) (by decide) (by decide) (fun j p => by rcases j with _ | j <;> simp [ptr]), h.doc.off hg h.p12 (by decide) (by decide) (by decide), h.want.off hg h.p12 (by decide) (by decide), grown_new h.grown hg (fun x hx => by simp at hx; have := h.lo.2.2; omega), h.lo⟩
  have := h.p12.store 0 (.int .i64 ((k : Int) + 1))
  simpa using this
end
theorem span_nil (l : List PRow) : spanE l [] [] = l.length := by simp [spanE]
theorem putA_good {l : List PRow} (h : Good l) (hz : l.length < 1000000) (k v : Bs) : Good (putA l k v) ∧ (putA l k v).length ≤ l.length + 1 := by
  unfold putA
  split
  · rename_i hk
    exact ⟨good_put h hk hz, by rw [put_len]; omega⟩
  · exact ⟨h, by omega⟩
theorem delA_good {l : List PRow} (h : Good l) (k : Bs) : Good (delA l k) ∧ (delA l k).length ≤ l.length := by
  unfold delA
  split
  · exact ⟨good_del h k, by rw [del_len]; omega⟩
  · exact ⟨h, by omega⟩
end Go.Proofs.Ytlehikdlkdbacaa
