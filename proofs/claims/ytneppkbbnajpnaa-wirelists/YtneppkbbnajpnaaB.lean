/-
  The form of bytes: wire's and the document's.
-/
import Derived.Test.YtneppkbbnajpnaaU
namespace Go.Proofs.Ytneppkbbnajpnaa
open Go.RowKit

def bytesForm (L : List UInt8) : List UInt8 := numForm L.length ++ L

theorem segs_lit (w : World) (xs : Array Value) (Ls : List (List UInt8)) (_hl : xs.size = Ls.length) (hb : Ls.length ≤ 9223372036854775807) (h : ∀ j (hj : j < Ls.length), ∃ x, xs[j]? = some x ∧ Seg w x Ls[j]) :
    Segs (w.alloc (.cells xs 23)) (.slice (some ⟨w.heap.size, 0, none⟩) Ls.length Ls.length) Ls := by
  refine ⟨_, _, rfl, hb, fun j hj => ?_⟩
  obtain ⟨x, hx, hs⟩ := h j hj
  refine ⟨w.heap.size, 0, x, rfl, ?_, seg_alloc hs _⟩
  rw [cell_of_row _ _ _ _ _ _ (heap_alloc_new w _)]
  simpa using hx

theorem segs_two {w : World} {x y : Value} {L M : List UInt8} (hx : Seg w x L) (hy : Seg w y M) : Segs (w.alloc (.cells #[x, y] 23)) (.slice (some ⟨w.heap.size, 0, none⟩) 2 2) [L, M] :=
  segs_lit w #[x, y] [L, M] rfl (by simp) fun j hj => match j, hj with
    | 0, _ => ⟨x, rfl, hx⟩
    | 1, _ => ⟨y, rfl, hy⟩
    | j + 2, h => absurd h (by simp)

set_option maxHeartbeats 400000 in
theorem bytes8 (v : Value) (L : List UInt8) (w : World) (hs : Seg w v L) (hsz : L.length ≤ 140737488355318) : Calls Try.prog 8 #[v] w (FormPost (bytesForm L) w) := by
  have HS : Hid (Seg w v L) := hs
  have HZ : Hid (L.length ≤ 140737488355318) := hsz
  have hlen := hs.len
  obtain ⟨ao, cap, rfl⟩ := hs.shape
  clear hs hsz
  go_enter Try.func8, Try.ntmps8
  go_wp2_with fail
  refine (number9_int _ L.length rfl ?_ _).mono ?_
  · have := HZ.out; omega
  rintro e w1 ⟨u, rfl, hu, hg⟩
  have F1 : Hid (Own w1 w.heap.size u (numForm L.length) ∧ w.grownBy w1 none) := ⟨hu, hg⟩
  obtain ⟨ao1, cap1, rfl⟩ := hu.seg.shape
  clear hu hg
  go_wp2_with fail
  refine (join10 _ [numForm L.length, L] _ (segs_two F1.out.1.seg (Seg.grown HS.out F1.out.2)) ?_).mono ?_
  · have := HZ.out
    have := numForm_len10 L.length (by omega)
    simp; omega
  rintro e w2 ⟨u2, rfl, hu2, hg2⟩
  have F2 : Hid (Own w2 w.heap.size u2 (bytesForm L) ∧ w.grownBy w2 none) := by
    have hsz := F1.out.2.size
    refine ⟨?_, grown_trans (grown_trans F1.out.2 (World.grownBy_alloc _ _ _)) hg2⟩
    have e : [numForm L.length, L].flatten = bytesForm L := by simp [bytesForm]
    rw [e] at hu2
    exact hu2.mono (by simp; omega)
  clear hu2 hg2
  go_wp2_with fail
  go_ret
  exact ⟨_, rfl, F2.out⟩

set_option maxHeartbeats 400000 in
theorem bytes11 (v : Value) (L : List UInt8) (w : World) (hs : Seg w v L) (hsz : L.length ≤ 140737488355318) : Calls Try.prog 11 #[v] w (FormPost (bytesForm L) w) := by
  have HS : Hid (Seg w v L) := hs
  have HZ : Hid (L.length ≤ 140737488355318) := hsz
  have hlen := hs.len
  obtain ⟨ao, cap, rfl⟩ := hs.shape
  clear hs hsz
  go_enter Try.func11, Try.ntmps11
  go_wp2_with fail
  refine (number12_int _ L.length rfl ?_ _).mono ?_
  · have := HZ.out; omega
  rintro e w1 ⟨u, rfl, hu, hg⟩
  have F1 : Hid (Own w1 w.heap.size u (numForm L.length) ∧ w.grownBy w1 none) := ⟨hu, hg⟩
  have hsz := hg.size
  clear hu hg
  go_wp2_with (at_builtin; refine app23 _ rfl _ _ rfl w.heap.size _ (numForm L.length) _ L rfl rfl F1.out.1 (Seg.grown HS.out F1.out.2) ?c1 ?c2 ?_)
  case c1 =>
    have := HZ.out
    have := numForm_len10 L.length (by omega)
    omega
  case c2 => omega
  intro v' w2 hown' hg'
  have F : Hid _ := And.intro hown' (grown_new F1.out.2 hg' (Own.lt F1.out.1))
  clear hown' hg'
  go_wp2_with fail
  go_ret
  exact ⟨_, rfl, F.out⟩
end Go.Proofs.Ytneppkbbnajpnaa
