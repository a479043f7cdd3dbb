/-
  Rows of texts; some of the chapter's rows (known).
-/
import Derived.Test.YtlehikdlkdbacaaE
import Derived.Lib.SlBytesConst
import Derived.Lib.ConvBytes
namespace Go.Proofs.Ytlehikdlkdbacaa
open Go.RowKit Disk
open Names (cmpL keyB valueB)

theorem bytes_grown (w : World) (s : ByteArray) : w.grownBy (Lib.bytesWorld w 5 s) none := by
  refine ⟨rfl, rfl, rfl, by rw [Lib.bytesWorld_size]; omega, fun k hk _ => Lib.bytesWorld_at_old w 5 s k hk⟩
theorem bytes_seg (w : World) (L : List UInt8) (hL : L.length ≤ 9223372036854775807) : Seg (Lib.bytesWorld w 5 ⟨L.toArray⟩) (.slice (some ⟨w.heap.size, 0, none⟩) L.length (grownCap w L.length 0 5)) L := by
  refine ⟨_, _, rfl, grownCap_ge _ _ _ _, grownCap_le_maxLen _ _ _ _ (by unfold maxLen; omega), by simp, fun j hj => ⟨_, 0, rfl, ?_⟩⟩
  rw [Nat.zero_add, Lib.bytesWorld_cell _ _ _ _ (by simpa [ByteArray.size] using hj)]
  simp [hj]
theorem conv30 (w : World) (L : List UInt8) (hL : L.length ≤ 9223372036854775807) : ∃ w' c, (convert 9 30 (.string ⟨L.toArray⟩)).run Try.prog w = .ok (.slice (some ⟨w.heap.size, 0, none⟩) L.length c) w' ∧ Hid (Seg w' (.slice (some ⟨w.heap.size, 0, none⟩) L.length c) L ∧ w.grownBy w' none) :=
  ⟨_, _, Lib.run_convert_string_bytes w 9 30 5 ⟨L.toArray⟩ Try.underlying9 Try.underlying30 Try.underlying5, bytes_seg w L hL, bytes_grown w _⟩

theorem num21 (k : Int) (w : World) : Calls Try.prog 21 #[.int .i64 k] w fun e w' => e = .returned (.int .i64 k) ∧ w' = w := by
  go_enter Try.func21, Try.ntmps21
  go_wp2_with fail
  go_ret
  exact ⟨rfl, rfl⟩

set_option maxRecDepth 100000 in
set_option maxHeartbeats 4000000 in
theorem row28 (K V : Bs) (hK : K.length ≤ 100) (hV : V.length ≤ 100) (w : World) : Calls Try.prog 28 #[.string ⟨K.toArray⟩, .string ⟨V.toArray⟩] w fun e w' => ∃ f n c g m d, e = .returned (.agg #[.slice f n c, .slice g m d]) ∧ Seg w' (.slice f n c) K ∧ Seg w' (.slice g m d) V ∧ w.grownBy w' none := by
  go_enter Try.func28, Try.ntmps28
  obtain ⟨w1, hw1, H1⟩ := al w #[.slice none 0 0, .slice none 0 0] 45
  obtain ⟨w2, c2, cv2, H2⟩ := conv30 w1 K (by omega)
  obtain ⟨w3, c3, cv3, H3⟩ := conv30 w2 V (by omega)
  obtain ⟨nk, hnk⟩ : ∃ n, K.length = n := ⟨_, rfl⟩
  obtain ⟨nv, hnv⟩ : ∃ n, V.length = n := ⟨_, rfl⟩
  obtain ⟨X, hX⟩ : ∃ X, (⟨K.toArray⟩ : ByteArray) = X := ⟨_, rfl⟩
  obtain ⟨Y, hY⟩ : ∃ X, (⟨V.toArray⟩ : ByteArray) = X := ⟨_, rfl⟩
  obtain ⟨b2, hb2⟩ : ∃ b, w1.heap.size = b := ⟨_, rfl⟩
  obtain ⟨b3, hb3⟩ : ∃ b, w2.heap.size = b := ⟨_, rfl⟩
  rw [hnk, hX] at cv2
  rw [hnv, hY] at cv3
  rw [hb2] at cv2 H2
  rw [hb3] at cv3 H3
  rw [hnk] at H2
  rw [hnv] at H3
  rw [hX, hY]
  have hb1 := (H1.out.1.grown H2.out.2 (by simp)).grown H3.out.2 (by simp)
  have f0 := hb1.free 0
  have f1 := hb1.free 1
  have q0 := hb1.cell 0
  have q1 := hb1.cell 1
  simp at q0 q1
  clear hnk hnv hX hY hb2 hb3
  go_upto_region 1 with fail
  clear hw1
  go_wp2_with fail
  obtain ⟨w4, hw4⟩ : ∃ w4, (w3.setCell ⟨w.heap.size, 0, none⟩ (.slice (some ⟨b2, 0, none⟩) nk c2)).setCell ⟨w.heap.size, 1, none⟩ (.slice (some ⟨b3, 0, none⟩) nv c3) = w4 := ⟨_, rfl⟩
  have g34 : w3.grownBy w4 (some w.heap.size) := by rw [← hw4]; exact grown_trans (grown_setCell _ _ _ _) (grown_setCell _ _ _ _)
  have hb4 : Blk w4 w.heap.size 45 #[.slice (some ⟨b2, 0, none⟩) nk c2, .slice (some ⟨b3, 0, none⟩) nv c3] := by rw [← hw4]; exact (hb1.store 0 _).store 1 _
  rw [hw4]
  have q0 := hb4.cell 0
  have q1 := hb4.cell 1
  simp at q0 q1
  have hc : ∀ b j (x : Int), w3.cell? ⟨b, j, none⟩ = some (.int .u8 x) → w4.cell? ⟨b, j, none⟩ = some (.int .u8 x) := fun b j x hx => by
    have hne : b ≠ w.heap.size := fun e => by
      subst e
      rw [hb1.cell j] at hx
      rcases j with _ | _ | j <;> simp at hx
    exact g34.cell hx (by simp; omega)
  exact bodyPost_ret (v := .agg #[.slice (some ⟨b2, 0, none⟩) nk c2, .slice (some ⟨b3, 0, none⟩) nv c3]) (by simp [results, Try.results28, go_sem, q0, q1]) rfl ⟨_, _, _, _, _, _, rfl, (H2.out.1.grown H3.out.2).of_cells hc, H3.out.1.of_cells hc, grown_new (grown_trans (grown_trans H1.out.2.1 H2.out.2) H3.out.2) g34 (fun x hx => by simp at hx; omega)⟩

/-- Two rows laid side by side. -/
theorem rws_two {w : World} {f g f2 g2 : Option Addr} {n m n2 m2 c d c2 d2 : Nat} {K V K2 V2 : Bs} (w1 : World) (hb : Blk w1 w.heap.size 45 #[.slice f n c, .slice g m d, .slice f2 n2 c2, .slice g2 m2 d2]) (h1 : Seg w1 (.slice f n c) K) (h2 : Seg w1 (.slice g m d) V) (h3 : Seg w1 (.slice f2 n2 c2) K2) (h4 : Seg w1 (.slice g2 m2 d2) V2) :
    Rws w1 (.slice (some ⟨w.heap.size, 0, none⟩) 2 2) [(K, V), (K2, V2)] := by
  refine ⟨[(.slice f n c, .slice g m d), (.slice f2 n2 c2, .slice g2 m2 d2)], ⟨rfl, fun j a b => ?_⟩, _, 2, rfl, Nat.le_refl _, by unfold maxLen; omega, by simp, rfl, fun j u hj => ⟨_, 0, rfl, ?_⟩⟩
  · rcases j with _ | _ | j
    · exact ⟨h1, h2⟩
    · exact ⟨h3, h4⟩
    · simp at a; omega
  · rw [hb.cell, Nat.zero_add]
    simpa [rcells] using hj

theorem lit30 (w : World) (C : Array Value) (n : Nat) (L : List UInt8) (h : C.size = n) (hx : C.toList = BV L) (hl : L.length = n) (hz : L.length ≤ 9223372036854775807) :
    ∃ w', (convert 30 30 (.slice (some ⟨w.heap.size, 0, none⟩) n n)).run Try.prog (w.alloc (.cells C 5)) = .ok (.slice (some ⟨w.heap.size, 0, none⟩) n n) w' ∧ Hid (Seg w' (.slice (some ⟨w.heap.size, 0, none⟩) n n) L ∧ w.grownBy w' none) := by
  refine ⟨w.alloc (.cells C 5 (n, n + 1)), ?_, ?_, World.grownBy_alloc _ _ _⟩
  · subst h
    exact Go.Lib.run_convert_bytes_const w 30 5 C _ _ Try.underlying30 Try.underlying5
  · subst hl
    exact seg_lit w C _ L hx hz

def L0 : List PRow := [([97], [49]), ([98], [50])]
def L1 : List PRow := [([97], [51, 51]), ([98], [50])]
theorem good_two (a b : UInt8) (u v : Bs) (h : a < b) (hu : u.length ≤ 256) (hv : v.length ≤ 256) : Good [([a], u), ([b], v)] := by
  refine ⟨?_, ?_, by simp⟩
  · intro i j hi hj hij
    simp at hi hj
    have h1 : i = 0 := by omega
    have h2 : j = 1 := by omega
    subst h1 h2
    have h3 : a.toNat < b.toNat := UInt8.lt_iff_toNat_lt.1 h
    simp [cmpL, h3]
  · intro r hr
    simp at hr
    rcases hr with rfl | rfl <;> simp [okP, keyB, valueB, hu, hv]
theorem good_L0 : Good L0 := good_two 97 98 _ _ (by decide) (by decide) (by decide)
theorem good_L1 : Good L1 := good_two 97 98 _ _ (by decide) (by decide) (by decide)
theorem bad_two : ¬ Good [([98], [49]), ([97], [50])] := fun h => by
  have := h.1 0 1 (by simp) (by simp) (by omega)
  revert this
  decide

set_option maxRecDepth 100000 in
set_option maxHeartbeats 8000000 in
theorem known8 (w : World) : Calls Try.prog 8 #[] w fun e w' => e = .returned (.bool true) ∧ w.grownBy w' none := by
  go_enter Try.func8, Try.ntmps8
  go_wp2_with fail
  refine (row28 [97] [49] (by simp) (by simp) w).mono ?_
  rintro e w1 ⟨f1, n1, c1, g1, m1, d1, rfl, k1, v1, gr1⟩
  have H1 : Hid (Seg w1 (.slice f1 n1 c1) [97] ∧ Seg w1 (.slice g1 m1 d1) [49] ∧ w.grownBy w1 none) := ⟨k1, v1, gr1⟩
  clear k1 v1 gr1
  go_wp2_with fail
  refine (row28 [98] [50] (by simp) (by simp) w1).mono ?_
  rintro e w2 ⟨f2, n2, c2, g2, m2, d2, rfl, k1, v1, gr1⟩
  have H2 : Hid (Seg w2 (.slice f2 n2 c2) [98] ∧ Seg w2 (.slice g2 m2 d2) [50] ∧ w1.grownBy w2 none) := ⟨k1, v1, gr1⟩
  clear k1 v1 gr1
  go_wp2_with fail
  obtain ⟨w3, hw3, H3⟩ := al w2 #[.slice f1 n1 c1, .slice g1 m1 d1, .slice f2 n2 c2, .slice g2 m2 d2] 45
  rw [hw3]
  clear hw3
  have HV : Hid (Rws w3 (.slice (some ⟨w2.heap.size, 0, none⟩) 2 2) L0) := rws_two w3 H3.out.1 ((H1.out.1.grown H2.out.2.2).grown H3.out.2.1) ((H1.out.2.1.grown H2.out.2.2).grown H3.out.2.1) (H2.out.1.grown H3.out.2.1) (H2.out.2.1.grown H3.out.2.1)
  refine (new22 _ L0 (by simp [L0]) w3 HV.out).mono ?_
  rintro e w4 (⟨_, b, rfl, hb, ht, g4⟩ | ⟨hn, _⟩)
  · have HB : Hid (w.heap.size ≤ b) := by
      have := (grown_trans H1.out.2.2 (grown_trans H2.out.2.2 H3.out.2.1)).size
      exact Nat.le_trans this hb
    have H4 : Hid (Tb w4 b L0 ∧ w.grownBy w4 none) := ⟨ht, grown_trans (grown_trans H1.out.2.2 (grown_trans H2.out.2.2 H3.out.2.1)) g4⟩
    clear hb ht g4 HV H3 H2 H1
    go_wp2_with fail
    refine (row28 [98] [49] (by simp) (by simp) w4).mono ?_
    rintro e w1 ⟨f1, n1, c1, g1, m1, d1, rfl, k1, v1, gr1⟩
    have H1 : Hid (Seg w1 (.slice f1 n1 c1) [98] ∧ Seg w1 (.slice g1 m1 d1) [49] ∧ w4.grownBy w1 none) := ⟨k1, v1, gr1⟩
    clear k1 v1 gr1
    go_wp2_with fail
    refine (row28 [97] [50] (by simp) (by simp) w1).mono ?_
    rintro e w2 ⟨f2, n2, c2, g2, m2, d2, rfl, k1, v1, gr1⟩
    have H2 : Hid (Seg w2 (.slice f2 n2 c2) [97] ∧ Seg w2 (.slice g2 m2 d2) [50] ∧ w1.grownBy w2 none) := ⟨k1, v1, gr1⟩
    clear k1 v1 gr1
    go_wp2_with fail
    obtain ⟨w3, hw3, H3⟩ := al w2 #[.slice f1 n1 c1, .slice g1 m1 d1, .slice f2 n2 c2, .slice g2 m2 d2] 45
    rw [hw3]
    clear hw3
    have HV : Hid (Rws w3 (.slice (some ⟨w2.heap.size, 0, none⟩) 2 2) [([98], [49]), ([97], [50])]) := rws_two w3 H3.out.1 ((H1.out.1.grown H2.out.2.2).grown H3.out.2.1) ((H1.out.2.1.grown H2.out.2.2).grown H3.out.2.1) (H2.out.1.grown H3.out.2.1) (H2.out.2.1.grown H3.out.2.1)
    refine (new22 _ _ (by simp) w3 HV.out).mono ?_
    rintro e w5 (⟨hgd, _⟩ | ⟨_, rfl, g5⟩)
    · exact absurd hgd bad_two
    have H5 : Hid (Tb w5 b L0 ∧ w.grownBy w5 none) := by
      have gg := grown_trans (grown_trans H1.out.2.2 (grown_trans H2.out.2.2 H3.out.2.1)) g5
      exact ⟨H4.out.1.grown gg, grown_trans H4.out.2 gg⟩
    clear g5 HV H3 H2 H1 H4
    obtain ⟨w6, cv6, h6⟩ := lit30 w5 #[.int .u8 97] 1 [97] rfl rfl rfl (by simp)
    obtain ⟨w7, cv7, h7⟩ := lit30 w6 #[.int .u8 51, .int .u8 51] 2 [51, 51] rfl rfl rfl (by simp)
    go_wp2_with (go_at_call 21; refine (num21 _ _).mono ?_; rintro e wx ⟨rfl, hx⟩; rw [hx]; clear hx)
    refine (put17 b _ _ L0 [97] [51, 51] good_L0.1 good_L0.2.2 w7 ((H5.out.1.grown h6.out.2).grown h7.out.2) (h6.out.1.grown h7.out.2) h7.out.1).mono ?_
    rintro e w8 ⟨rfl, ht8, g8⟩
    rw [show putB L0 [97] [51, 51] = true from by decide, show putC [97] [51, 51] = 0 from by decide]
    rw [show putA L0 [97] [51, 51] = L1 from by decide] at ht8
    have H8 : Hid (Tb w8 b L1 ∧ w.grownBy w8 none) := ⟨ht8, grown_new (grown_trans H5.out.2 (grown_trans h6.out.2 h7.out.2)) g8 (fun x hx => by simp at hx; have := HB.out; omega)⟩
    clear ht8 g8 h6 h7 cv6 cv7 H5
    obtain ⟨w9, cv9, h9⟩ := lit30 w8 #[.int .u8 97] 1 [97] rfl rfl rfl (by simp)
    go_wp2_with fail
    refine (get27 b _ L1 [97] good_L1.1 good_L1.2.2 (fun r hr => (okP_len (good_L1.2.1 r hr)).2.2) w9 (H8.out.1.grown h9.out.2) h9.out.1).mono ?_
    rintro e w10 ⟨x10, rfl, o10, g10⟩
    rw [show getC L1 [97] = 0 from by decide]
    rw [show gotL L1 [97] = [51, 51] from by decide] at o10
    have H10 : Hid (Tb w10 b L1 ∧ w.grownBy w10 none ∧ Seg w10 x10 [51, 51]) := ⟨(H8.out.1.grown h9.out.2).grown g10, grown_trans H8.out.2 (grown_trans h9.out.2 g10), o10.seg⟩
    clear o10 g10 h9 cv9 H8
    obtain ⟨w11, cv11, h11⟩ := lit30 w10 #[.int .u8 120] 1 [120] rfl rfl rfl (by simp)
    go_wp2_with fail
    refine (get27 b _ L1 [120] good_L1.1 good_L1.2.2 (fun r hr => (okP_len (good_L1.2.1 r hr)).2.2) w11 (H10.out.1.grown h11.out.2) h11.out.1).mono ?_
    rintro e w12 ⟨x12, rfl, o12, g12⟩
    rw [show getC L1 [120] = 5 from by decide]
    have H12 : Hid (Tb w12 b L1 ∧ w.grownBy w12 none ∧ Seg w12 x10 [51, 51]) := by
      have gg := grown_trans h11.out.2 g12
      exact ⟨H10.out.1.grown gg, grown_trans H10.out.2.1 gg, H10.out.2.2.grown gg⟩
    clear o12 g12 h11 cv11 H10
    have cs := seg_str H12.out.2.2
    have cs2 : ∀ m, (convert 30 9 x10).run Try.prog (w12.drewN m) = .ok (.string ⟨[51, 51].toArray⟩) (w12.drewN m) := fun m => seg_str (H12.out.2.2.grown (grown_drewN _ _ _))
    go_wp2_with (first | (go_at_call 21; refine (num21 _ _).mono ?_; rintro e wx ⟨rfl, hx⟩; rw [hx]; clear hx) | (go_at_call 23; refine (len23g _ true L1 w12 H12.out.1.tl).mono ?_; rintro e wx ⟨rfl, hx⟩; rw [hx, show ((L1.length : Nat) : Int) = 2 from rfl]; clear hx))
    refine (size30 _ true L1 good_L1 w12 H12.out.1.tl).mono ?_
    rintro e w13 ⟨rfl, m13, hw13⟩
    rw [hw13, show ((sizeL L1 : Nat) : Int) = 5 from rfl]
    clear hw13
    have cs3 := cs2 m13
    have H14 : Hid (Tb (w12.drewN m13) b L1 ∧ w.grownBy (w12.drewN m13) none) := ⟨H12.out.1.grown (grown_drewN _ _ _), grown_trans H12.out.2.1 (grown_drewN _ _ _)⟩
    generalize w12.drewN m13 = w14 at H14 cs3 ⊢
    clear cs cs2 H12
    obtain ⟨w15, cv15, h15⟩ := lit30 w14 #[.int .u8 122] 1 [122] rfl rfl rfl (by simp)
    go_wp2_with (first | (go_at_call 21; refine (num21 _ _).mono ?_; rintro e wx ⟨rfl, hx⟩; rw [hx]; clear hx))
    refine (rank25 _ true _ L1 [122] good_L1.1 good_L1.2.2 w15 (H14.out.1.grown h15.out.2).tl h15.out.1).mono ?_
    rintro e w16 ⟨rfl, g16⟩
    rw [show ((rankL L1 [122] : Nat) : Int) = 2 from by decide]
    have H16 : Hid (Tb w16 b L1 ∧ w.grownBy w16 none) := ⟨(H14.out.1.grown h15.out.2).grown g16, grown_trans H14.out.2 (grown_trans h15.out.2 g16)⟩
    clear g16 cv15 h15 H14 cs3
    obtain ⟨w17, cv17, h17⟩ := lit30 w16 #[.int .u8 98] 1 [98] rfl rfl rfl (by simp)
    go_wp2_with fail
    refine (scan24 _ true _ _ 9 L1 [98] [] good_L1 w17 (H16.out.1.grown h17.out.2).tl h17.out.1 (seg_nil _)).mono ?_
    rintro e w18 ⟨v18, rfl, t18, g18⟩
    rw [show scanL L1 [98] [] 9 = [([98], [50])] from by decide] at t18
    obtain ⟨a18, n18, c18, rfl, hn18, _, _, _⟩ := rws_open t18.rws
    have hn1 : n18 = 1 := by simpa using hn18.symm
    subst hn1
    have H18 : Hid (w.grownBy w18 none) := grown_trans H16.out.2 (grown_trans h17.out.2 g18)
    clear t18 hn18 g18 h17 cv17 H16
    go_wp2_with fail
    go_ret
    exact ⟨rfl, H18.out⟩
  · exact absurd good_L0 hn
end Go.Proofs.Ytlehikdlkdbacaa
