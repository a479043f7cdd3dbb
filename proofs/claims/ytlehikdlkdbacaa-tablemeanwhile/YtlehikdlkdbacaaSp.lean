/-
  What was told is written over.
-/
import Derived.Test.YtlehikdlkdbacaaZ
namespace Go.Proofs.Ytlehikdlkdbacaa
open Go.RowKit Disk

/-- A slice of n bytes of one's own, in a block of G, whatever they are. -/
def OwnX (w : World) (G : Nat → Prop) (v : Value) (n : Nat) : Prop := (v = .slice none 0 0 ∧ n = 0) ∨ ∃ g cap cur, v = .slice (some ⟨g, 0, none⟩) n cap ∧ G g ∧ Blk w g 5 cur ∧ n ≤ cur.size ∧ n ≤ 9223372036854775807
theorem ownx_of {w : World} {B : Nat} {G : Nat → Prop} {v : Value} {L : Bs} (h : Disk.Own w B v L) (hG : ∀ g, v.ownBlock = some g → G g) : OwnX w G v L.length := by
  rcases h.2 with ⟨e, h0⟩ | ⟨g, cap, cur, e, hb, hg, h1, h2, h3, h4⟩
  · exact .inl ⟨e, h0⟩
  · refine .inr ⟨g, cap, cur, e, hG g (by rw [e]; rfl), hg, ?_, ?_⟩
    · have := congrArg List.length h4
      simp [BV] at this
      omega
    · unfold maxLen at h2
      omega
theorem OwnX.mono {w : World} {G G' : Nat → Prop} {v : Value} {n : Nat} (h : OwnX w G v n) (hG : ∀ k, G k → G' k) : OwnX w G' v n := by
  rcases h with h | ⟨g, cap, cur, e, hb, r⟩
  · exact .inl h
  · exact .inr ⟨g, cap, cur, e, hG _ hb, r⟩
theorem OwnX.grown {w w' : World} {G : Nat → Prop} {v : Value} {n : Nat} (h : OwnX w G v n) (hg : w.grownBy w' none) : OwnX w' G v n := by
  rcases h with h | ⟨g, cap, cur, e, hb, hbk, r⟩
  · exact .inl h
  · exact .inr ⟨g, cap, cur, e, hb, hbk.grown hg (by simp), r⟩

/-- Bytes in blocks of G were written over. -/
structure Wr (G : Nat → Prop) (w w' : World) : Prop where
  os : w'.os = w.os
  tape : w'.tape = w.tape
  output : w'.output = w.output
  size : w'.heap.size = w.heap.size
  low : ∀ k, ¬ G k → w'.heap[k]? = w.heap[k]?
  other : ∀ k, (∀ c, ¬ Blk w k 5 c) → w'.heap[k]? = w.heap[k]?
  bytes : ∀ k c, Blk w k 5 c → ∃ c', Blk w' k 5 c' ∧ c'.size = c.size
theorem Wr.refl (G : Nat → Prop) (w : World) : Wr G w w := ⟨rfl, rfl, rfl, rfl, fun _ _ => rfl, fun _ _ => rfl, fun _ c h => ⟨c, h, rfl⟩⟩
theorem Wr.trans {G : Nat → Prop} {a b c : World} (h : Wr G a b) (k : Wr G b c) : Wr G a c :=
  ⟨k.os.trans h.os, k.tape.trans h.tape, k.output.trans h.output, k.size.trans h.size, fun i hi => (k.low i hi).trans (h.low i hi), fun i hi => by
    refine (k.other i fun c hc => ?_).trans (h.other i hi)
    have := h.other i hi
    unfold Blk at hc
    rw [this] at hc
    exact hi c hc, fun i x hx => by
    obtain ⟨y, hy, e1⟩ := h.bytes i x hx
    obtain ⟨z, hz, e2⟩ := k.bytes i y hy
    exact ⟨z, hz, e2.trans e1⟩⟩
theorem Wr.mono {G G' : Nat → Prop} {a b : World} (h : Wr G a b) (hG : ∀ k, G k → G' k) : Wr G' a b := ⟨h.os, h.tape, h.output, h.size, fun i hi => h.low i (fun hg => hi (hG i hg)), h.other, h.bytes⟩
theorem Wr.store {G : Nat → Prop} {w : World} {g : Nat} {c : Array Value} (hb : Blk w g 5 c) (hB : G g) (j : Nat) (v : Value) : Wr G w (w.setCell ⟨g, j, none⟩ v) := by
  refine ⟨rfl, rfl, rfl, by simp [World.setCell], fun k hk => heap_setCell_other w ⟨g, j, none⟩ k v (fun e => hk (by simp at e; rw [e]; exact hB)), fun k hk => heap_setCell_other w ⟨g, j, none⟩ k v (fun e => ?_), fun k x hx => ?_⟩
  · simp at e
    subst e
    exact hk c hb
  · by_cases e : k = g
    · subst e
      refine ⟨_, hb.store j v, ?_⟩
      unfold Blk at hb hx
      rw [hb] at hx
      simp at hx
      subst hx
      simp
    · exact ⟨x, hx.same (heap_setCell_other w ⟨g, j, none⟩ k v (fun e2 => e (by simpa using e2))), rfl⟩
theorem Wr.after {G : Nat → Prop} {a w w' : World} (h : Wr G w w') (ha : a.grownBy w none) (hG : ∀ k, G k → a.heap.size ≤ k) : a.grownBy w' none :=
  ⟨h.os.trans ha.os, h.tape.trans ha.tape, h.output.trans ha.output, by rw [h.size]; exact ha.size, fun k hk _ => (h.low k (fun hg => by have := hG k hg; omega)).trans (ha.block k hk (by simp))⟩
theorem Wr.blk {G : Nat → Prop} {w w' : World} (h : Wr G w w') {b t : Nat} {c : Array Value} (hb : Blk w b t c) (ht : t ≠ 5) : Blk w' b t c := by
  refine hb.same (h.other b fun x hx => ?_)
  unfold Blk at hb hx
  rw [hb] at hx
  simp at hx
  exact ht hx.2
theorem OwnX.wr {G G' : Nat → Prop} {w w' : World} {v : Value} {n : Nat} (h : OwnX w G v n) (hw : Wr G' w w') : OwnX w' G v n := by
  rcases h with h | ⟨g, cap, cur, e, hb, hbk, r1, r2⟩
  · exact .inl h
  · obtain ⟨c', h1, h2⟩ := hw.bytes g cur hbk
    exact .inr ⟨g, cap, c', e, hb, h1, by omega, r2⟩

set_option maxRecDepth 100000 in
set_option maxHeartbeats 4000000 in
theorem spoil33 (bl n : Nat) (B : Nat → Prop) (cs : List Value) (ns : List Nat) (hn : cs.length = n) (hnn : ns.length = n) (hn6 : n ≤ 1000) (w : World) (hb : Blk w bl 30 cs.toArray) (ho : ∀ j (h : j < cs.length) (h' : j < ns.length), OwnX w B cs[j] ns[j]) :
    Calls Try.prog 33 #[.slice (some ⟨bl, 0, none⟩) n n] w fun e w' => e = .returned (.tuple #[]) ∧ Wr B w w' := by
  have HB : Hid (Blk w bl 30 cs.toArray ∧ cs.length = n ∧ ns.length = n) := ⟨hb, hn, hnn⟩
  have HO : Hid (∀ j (h : j < cs.length) (h' : j < ns.length), OwnX w B cs[j] ns[j]) := ho
  clear hb hn hnn ho
  go_enter Try.func33, Try.ntmps33
  go_wp2_with fail
  go_loopw [2] (fun i wr => ∃ (k : Nat), k ≤ n ∧ i = .int .i64 (k : Int) ∧ Wr B w wr) (fun i _ => n - (intOf i).toNat)
  case atStart => exact ⟨0, Nat.zero_le _, rfl, Wr.refl _ _⟩
  case round =>
    obtain ⟨k, hk, rfl, hwr⟩ := hrel
    have HR : Hid (Wr B w wr) := hwr
    clear hwr
    rcases Nat.lt_or_ge k n with hlt | hge
    · have hkc : k < cs.length := by rw [HB.out.2.1]; exact hlt
      have hkn : k < ns.length := by rw [HB.out.2.2]; exact hlt
      have HX : Hid (OwnX w B cs[k] ns[k]) := HO.out k hkc hkn
      obtain ⟨m, hm⟩ : ∃ m, ns[k] = m := ⟨_, rfl⟩
      obtain ⟨u, hu⟩ : ∃ u, cs[k] = u := ⟨_, rfl⟩
      rw [hm, hu] at HX
      have HC : Hid (∀ y, Wr B w y → y.cell? ⟨bl, k, none⟩ = some u) := fun y hy => by
        rw [(hy.blk HB.out.1 (by decide)).cell, ← hu]
        simp [hkc]
      have i0 : (0 : Int) ≤ (k : Int) := by omega
      have i1 : (k : Int) < (n : Int) := by omega
      obtain ⟨au, cu, eu⟩ : ∃ a c, u = .slice a m c := by
        rcases HX.out with ⟨e, h0⟩ | ⟨g, cap, cur, e, _⟩
        · exact ⟨none, 0, by rw [e, h0]⟩
        · exact ⟨_, _, e⟩
      subst eu
      have hm63 : m ≤ 9223372036854775807 := by
        rcases HX.out with ⟨_, h0⟩ | ⟨_, _, _, _, _, _, _, h⟩ <;> omega
      clear hm hu hkc hkn
      go_upto_region 3 with fail
      go_wp2_with fail
      go_loopw [3] (fun j w2 => ∃ (q : Nat), q ≤ m ∧ j = .int .i64 (q : Int) ∧ Wr B w w2) (fun j _ => m - (intOf j).toNat)
      case atStart => exact ⟨0, Nat.zero_le _, rfl, HR.out⟩
      case round =>
        obtain ⟨q, hq, rfl, hwr⟩ := hrel
        have HR2 : Hid (Wr B w wr) := hwr
        have c0 := HC.out wr hwr
        clear hwr
        rcases Nat.lt_or_ge q m with hlt2 | hge2
        · have hx := HX.out.wr HR2.out
          rcases hx with ⟨e, h0⟩ | ⟨g, cap, cur, e, hB, hbk, hsz, _⟩
          · omega
          · simp at e
            obtain ⟨rfl, rfl⟩ := e
            have d0 := hbk.cell q
            have f0 := hbk.free q
            rw [Array.getElem?_eq_getElem (by omega)] at d0
            have HS : Hid (Wr B w (wr.setCell ⟨g, q, none⟩ (.int .u8 90))) := HR2.out.trans (Wr.store hbk hB q _)
            obtain ⟨oldv, hold⟩ : ∃ x, cur[q]'(by omega) = x := ⟨_, rfl⟩
            rw [hold] at d0
            have j0 : (0 : Int) ≤ (q : Int) := by omega
            have j1 : (q : Int) < (m : Int) := by omega
            clear hbk hB hsz hold
            go_wp2_with fail
            go_roundw
            case rel => exact ⟨q + 1, by omega, by go_num, HS.out⟩
            case measure => simp [intOf]; omega
        · have e : q = m := by omega
          subst e
          go_wp2_with fail
          go_roundw
          case rel => exact ⟨k + 1, by omega, by go_num, HR2.out⟩
          case measure => simp [intOf]; omega
    · have e : k = n := by omega
      subst e
      go_wp2_with fail
      go_end0
      exact ⟨rfl, HR.out⟩
end Go.Proofs.Ytlehikdlkdbacaa
