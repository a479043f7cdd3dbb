/-
  Copies that are cut at their capacity; Next, Behind, Meet: the program's, the document's.
-/
import Derived.Test.YtahpkgglkibikaaC
import Derived.ArgAppend
namespace Go.Proofs.Ytahpkgglkibikaa
open Go.RowKit Disk

/-- A row of the call's own from its beginning on, cut at its length or not. -/
def Cut (w : World) (B : Nat) (v : Value) (L : List UInt8) : Prop :=
  Disk.Own w B v L ∨ ∃ g cap, v = .slice (some ⟨g, 0, none⟩) L.length L.length ∧ Disk.Own w B (.slice (some ⟨g, 0, none⟩) L.length cap) L

theorem Cut.seg {w : World} {B : Nat} {v : Value} {L : List UInt8} (h : Cut w B v L) : Seg w v L := by
  rcases h with h | ⟨g, cap, rfl, h⟩
  · exact h.seg
  · obtain ⟨ao, c, hv, h1, h2, h3, h4⟩ := h.seg
    simp at hv
    obtain ⟨rfl, rfl⟩ := hv
    exact ⟨_, _, rfl, Nat.le_refl _, by omega, by simp, h4⟩
theorem Cut.lt {w : World} {B : Nat} {v : Value} {L : List UInt8} (h : Cut w B v L) : ∀ k, v.ownBlock = some k → B ≤ k ∧ k < w.heap.size := by
  rcases h with h | ⟨g, cap, rfl, h⟩
  · exact h.lt
  · exact fun k hk => h.lt k hk
theorem Cut.same {w w' : World} {B : Nat} {v : Value} {L : List UInt8} (h : Cut w B v L) (hs : ∀ k, v.ownBlock = some k → w'.heap[k]? = w.heap[k]?) : Cut w' B v L := by
  rcases h with h | ⟨g, cap, rfl, h⟩
  · exact .inl (h.same hs)
  · exact .inr ⟨g, cap, rfl, h.same fun k hk => hs k hk⟩
theorem Cut.grown {w w' : World} {B : Nat} {v : Value} {L : List UInt8} (h : Cut w B v L) (hg : w.grownBy w' none) : Cut w' B v L :=
  h.same fun k hk => hg.block k (h.lt k hk).2 (by simp)
theorem Cut.mono {w : World} {B B' : Nat} {v : Value} {L : List UInt8} (h : Cut w B v L) (hB : B' ≤ B) : Cut w B' v L := by
  rcases h with h | ⟨g, cap, rfl, h⟩
  · exact .inl (h.mono hB)
  · exact .inr ⟨g, cap, rfl, h.mono hB⟩
theorem cut_of {w : World} {B : Nat} {ao : Option Addr} {n cap : Nat} {L : List UInt8} (h : Disk.Own w B (.slice ao n cap) L) : Cut w B (.slice ao n n) L := by
  rcases h.shape with ⟨e, rfl⟩ | ⟨g, c, e, _⟩
  · simp at e
    obtain ⟨rfl, rfl, rfl⟩ := e
    exact .inl h
  · simp at e
    obtain ⟨rfl, rfl, rfl⟩ := e
    exact .inr ⟨g, cap, rfl, h⟩

theorem own_cap {w : World} {B : Nat} {ao : Option Addr} {n cap : Nat} {L : List UInt8} (h : Disk.Own w B (.slice ao n cap) L) : n = L.length ∧ n ≤ cap ∧ cap ≤ 9223372036854775807 := by
  rcases h.2 with ⟨e, h0⟩ | ⟨g, c, cur, e, _, _, h1, h2, _⟩
  · simp at e
    obtain ⟨rfl, rfl, rfl⟩ := e
    exact ⟨h0.symm, by omega, by omega⟩
  · simp at e
    obtain ⟨rfl, rfl, rfl⟩ := e
    unfold maxLen at h2
    exact ⟨rfl, h1, by omega⟩

set_option maxRecDepth 100000 in
set_option maxHeartbeats 400000 in
theorem copied31 (v u : Value) (L M : List UInt8) (w : World) (hs : Seg w v L) (hu : Seg w u M) (hL : L.length + M.length ≤ 140737488355328) :
    Calls Try.prog 31 #[v, u] w fun e w' => ∃ x, e = .returned x ∧ Cut w' w.heap.size x (L ++ M) ∧ w.grownBy w' none := by
  obtain ⟨ao, n, cap, rfl, hn, hlen, HS⟩ := seg_open hs
  obtain ⟨bo, m, cb, rfl, hm, hlem, HU⟩ := seg_open hu
  have HL : Hid _ := hL
  clear hs hu hL hn hm
  go_enter Try.func31, Try.ntmps31
  go_wp2_with (at_builtin; refine app22 _ rfl _ _ rfl w.heap.size _ [] _ L rfl rfl (Own.nil _ _) HS.out ?c0 ?c1 ?_)
  case c0 => have := HL.out; simp; omega
  case c1 => omega
  intro v1 w1 hown hg hl
  have F : Hid (Disk.Own w1 w.heap.size v1 L ∧ w.grownBy w1 none) := And.intro hown hg
  clear hown hg hl
  go_wp2_with (at_builtin; refine app22 _ rfl _ _ rfl w.heap.size _ L _ M rfl rfl F.out.1 (HU.out.grown F.out.2) ?c0 ?c1 ?_)
  case c0 => exact HL.out
  case c1 => exact F.out.2.size
  intro v2 w2 hown hg hl
  have g2 := grown_new F.out.2 hg (fun x hx => (F.out.1.lt x hx).1)
  obtain ⟨ao2, c2, e2⟩ := hown.seg.shape
  subst e2
  obtain ⟨h1, h2, h3⟩ := own_cap hown
  obtain ⟨n2, hn2⟩ : ∃ n, (L ++ M).length = n := ⟨_, rfl⟩
  rw [hn2] at hown h2 ⊢
  have F2 : Hid (Disk.Own w2 w.heap.size (.slice ao2 n2 c2) (L ++ M) ∧ w.grownBy w2 none) := And.intro hown g2
  have i1 : (n2 : Int) ≤ (c2 : Int) := by omega
  have i2 : (n2 : Int) ≤ 9223372036854775807 := by omega
  clear hown hg hl g2 h1 hn2
  go_wp2_with fail
  go_simp
  go_wp2_with fail
  go_ret
  exact ⟨_, rfl, cut_of F2.out.1, F2.out.2⟩
end Go.Proofs.Ytahpkgglkibikaa
