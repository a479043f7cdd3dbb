/-
  NamesKinds' walk.
-/
import Derived.Test.YtahpkgglkibikaaZ
import Derived.Test.YtahpkgglkibikaaK
import Derived.Test.YtahpkgglkibikaaL
namespace Go.Proofs.Ytahpkgglkibikaa
open Go.RowKit Disk

theorem lent_more {w w' : World} {B : Nat} {v : Value} {L : List UInt8} (h : Lent w B v L) (g : w.grownBy w' none) : Lent w' B v L :=
  h.same fun k hk => g.block k (h.lt k hk).2 (by simp)

theorem read_len (s : List UInt8) : (readL s).length ≤ s.length := by
  unfold readL
  split
  · rename_i h
    have h1 := (body_len (ld s)).1
    rw [h.2.2] at h1
    exact h1
  · simp

set_option maxRecDepth 100000 in
set_option maxHeartbeats 4000000 in
theorem kinds3 (b : Value) (L s : List UInt8) (w : World) (hb : Seg w b L) (hL : L.length ≤ 1048576) (hs : s.length ≤ 1048576) :
    Calls Try.prog 3 #[b, Str s] w fun e w' => e = .returned (.bool true) ∧ w.grownBy w' none := by
  have H0 : Hid (Seg w b L ∧ L.length ≤ 1048576 ∧ s.length ≤ 1048576) := ⟨hb, hL, hs⟩
  clear hb hL hs
  obtain ⟨S, hS⟩ : ∃ S, Str s = S := ⟨_, rfl⟩
  have HS : Hid (Str s = S) := hS
  rw [hS]
  clear hS
  go_enter Try.func3, Try.ntmps3
  go_wp2_with fail
  refine (lent6 _ L _ H0.out.1 (by have := H0.out.2.1; omega)).mono ?_
  rintro e w1 ⟨m, rfl, n1, g1⟩
  have H1 : Hid (Lent w1 w.heap.size m L ∧ w.grownBy w1 none) := ⟨n1, g1⟩
  clear n1 g1
  go_wp2_with fail
  rw [← HS.out]
  refine (read7 s _ (by have := H0.out.2.2; omega)).mono ?_
  rintro e w2 ⟨r, rfl, c2, g2⟩
  rw [HS.out]
  obtain ⟨E, hE⟩ : ∃ E, readE s = E := ⟨_, rfl⟩
  have HE : Hid (readE s = E) := hE
  rw [hE]
  have H2 : Hid (Cut w2 w1.heap.size r (readL s) ∧ w1.grownBy w2 none) := ⟨c2, g2⟩
  clear c2 g2 hE
  go_wp2_with fail
  rw [← HS.out]
  refine (read8 s _ (by have := H0.out.2.2; omega)).mono ?_
  rintro e w3 ⟨wt, rfl, c3, g3⟩
  rw [HS.out, HE.out]
  have H3 : Hid (Seg w3 wt (readL s) ∧ w2.grownBy w3 none) := ⟨c3, g3⟩
  clear c3 g3
  go_wp2_with fail
  rw [← HS.out]
  refine (table9 s _ (by have := H0.out.2.2; omega)).mono ?_
  rintro e w4 ⟨rfl, hw⟩
  rw [hw, HS.out]
  clear hw
  obtain ⟨tb, htb⟩ : ∃ tb, tabB s = tb := ⟨_, rfl⟩
  have HTB : Hid (tabB s = tb) := htb
  rw [htb]
  clear htb
  go_wp2_with fail
  rw [← HS.out]
  refine (table10 s _ (by have := H0.out.2.2; omega)).mono ?_
  rintro e w4 ⟨rfl, hw⟩
  rw [hw, HS.out, HTB.out]
  clear hw
  have H4 : Hid (Lent w3 w.heap.size m L ∧ Seg w3 b L ∧ Cut w3 w1.heap.size r (readL s) ∧ w.grownBy w3 none ∧ w1.grownBy w3 none) := by
    have g := grown_trans H2.out.2 H3.out.2
    exact ⟨lent_more H1.out.1 g, H0.out.1.grown (grown_trans H1.out.2 g), H2.out.1.grown H3.out.2, grown_trans H1.out.2 g, g⟩
  obtain ⟨kb, hkb⟩ : ∃ kb, keyB L = kb := ⟨_, rfl⟩
  have HKB : Hid (keyB L = kb) := hkb
  clear hkb
  go_wp2_with fail
  refine (key11 _ L _ H4.out.1.seg).mono ?_
  rintro e w4 ⟨rfl, hw⟩
  rw [hw, HKB.out]
  clear hw
  go_wp2_with fail
  refine (key12 _ L _ H4.out.2.1).mono ?_
  rintro e w4 ⟨rfl, hw⟩
  rw [hw, HKB.out]
  clear hw
  obtain ⟨vb, hvb⟩ : ∃ vb, valueB L = vb := ⟨_, rfl⟩
  have HVB : Hid (valueB L = vb) := hvb
  clear hvb
  go_wp2_with fail
  refine (value13 _ L _ H4.out.1.seg).mono ?_
  rintro e w4 ⟨rfl, hw⟩
  rw [hw, HVB.out]
  clear hw
  go_wp2_with fail
  refine (value14 _ L _ H4.out.2.1).mono ?_
  rintro e w4 ⟨rfl, hw⟩
  rw [hw, HVB.out]
  clear hw
  obtain ⟨T, hT⟩ : ∃ T : ByteArray, ⟨(txt L).toArray⟩ = T := ⟨_, rfl⟩
  have HT : Hid (Str (txt L) = .string T) := by rw [← hT]; rfl
  clear hT
  go_wp2_with fail
  refine (text15 _ L _ H4.out.1.seg (by have := H0.out.2.1; omega)).mono ?_
  rintro e w5 ⟨rfl, g5⟩
  rw [HT.out]
  have H5 : Hid (w3.grownBy w5 none) := g5
  clear g5
  go_wp2_with fail
  refine (text16 _ L _ (H4.out.2.1.grown H5.out) (by have := H0.out.2.1; omega)).mono ?_
  rintro e w6 ⟨rfl, g6⟩
  rw [HT.out]
  have H6 : Hid (w3.grownBy w6 none) := grown_trans H5.out g6
  clear g6 H5
  have cv1 := seg_str (H4.out.2.2.1.seg.grown H6.out)
  have cv2 := seg_str (H3.out.1.grown H6.out)
  generalize (⟨(readL s).toArray⟩ : ByteArray) = X1 at cv1 cv2
  go_wp2_with fail
  refine (num17 _ _).mono ?_
  rintro e w7 ⟨rfl, hw⟩
  rw [hw]
  clear hw cv1 cv2
  go_wp2_with fail
  refine (left18 _ _ _ L _ (lent_more H4.out.1 H6.out) (H4.out.2.1.grown H6.out) (by have := H0.out.2.1; omega)).mono ?_
  rintro e w7 ⟨rfl, q7, hq7⟩
  have H7 : Hid (w3.grownBy w7 none) := by rw [hq7]; exact grown_trans H6.out (grown_drewN _ _ _)
  clear hq7 H6
  go_wp2_with fail
  refine (spoil19 _ _ _ _ (H4.out.2.2.1.grown H7.out) (Nat.le_trans H4.out.2.2.2.2.size H7.out.size) (by have := read_len s; have := H0.out.2.2; omega)).mono ?_
  rintro e w8 ⟨rfl, g8⟩
  have H8 : Hid (Lent w8 w.heap.size m L ∧ Seg w8 b L ∧ w.grownBy w8 none) := by
    have gg : w1.grownBy w8 none := grown_new (grown_trans H4.out.2.2.2.2 H7.out) g8 (fun x hx => (H2.out.1.lt x hx).1)
    exact ⟨lent_more H1.out.1 gg, H0.out.1.grown (grown_trans H1.out.2 gg), grown_trans H1.out.2 gg⟩
  clear g8
  go_wp2_with fail
  refine (text15 _ L _ H8.out.1.seg (by have := H0.out.2.1; omega)).mono ?_
  rintro e w9 ⟨rfl, g9⟩
  have H9 : Hid (w8.grownBy w9 none) := g9
  clear g9
  obtain ⟨V, hV⟩ : ∃ V, Str (txt L) = V := ⟨_, rfl⟩
  have HV : Hid (Str (txt L) = V) := hV
  rw [hV]
  clear hV
  go_wp2_with fail
  rw [← HV.out]
  refine (read7 (txt L) _ (by have := txt_len L; have := H0.out.2.1; omega)).mono ?_
  rw [(read_txt L).1, (read_txt L).2]
  rintro e w10 ⟨bk, rfl, c10, g10⟩
  have H10 : Hid (Seg w10 bk L ∧ Seg w10 b L ∧ w.grownBy w10 none) := by
    have g := grown_trans H9.out g10
    exact ⟨c10.seg, H8.out.2.1.grown g, grown_trans H8.out.2.2 g⟩
  clear c10 g10
  rw [HV.out]
  have cv1 := seg_str H10.out.1
  have cv2 := seg_str H10.out.2.1
  generalize (⟨L.toArray⟩ : ByteArray) = X1 at cv1 cv2
  go_wp2_with fail
  refine (num17 _ _).mono ?_
  rintro e w11 ⟨rfl, hw⟩
  rw [hw]
  clear hw cv1 cv2
  go_wp2_with fail
  refine (known20 _).mono ?_
  rintro e w12 ⟨rfl, g12⟩
  have H12 : Hid (w.grownBy w12 none) := grown_trans H10.out.2.2 g12
  clear g12
  go_wp2_with fail
  go_ret
  exact ⟨rfl, H12.out⟩
end Go.Proofs.Ytahpkgglkibikaa
