/-
  WireWrites' walk.
-/
import Derived.Test.YtneppkbbnajpnaaK
import Derived.Test.YtneppkbbnajpnaaG
import Derived.Test.YtneppkbbnajpnaaJ
import Derived.Deep.RegionHeld3
import Derived.Deep.DrawnRows
import Derived.Deep.QuietTactic
import Derived.BigQuiet
import Derived.Deep.DeepCutAuto
namespace Go.Proofs.Ytneppkbbnajpnaa
open Go.RowKit
attribute [local go_sem ↓] Go.wp_at_zero Go.wp_at_succ

theorem grown_via {a b W c : World} {r : Option Nat} (G : a.grownBy b r) (hW : b.grownBy W r) (g : W.grownBy c r) : a.grownBy c r := grown_trans G (grown_trans hW g)
theorem grown_drewN (w : World) (q : Nat) (r : Option Nat) : w.grownBy (w.drewN q) r := ⟨rfl, rfl, rfl, Nat.le_refl _, fun _ _ _ => rfl⟩

theorem wrap_i64 (x : Int) (h1 : -9223372036854775808 ≤ x) (h2 : x ≤ 9223372036854775807) : IntKind.i64.wrap x = x := by
  simp only [IntKind.wrap, IntKind.bits, IntKind.signed]
  simp
  omega

theorem str_append (L M : List UInt8) : (⟨L.toArray⟩ : ByteArray) ++ (⟨M.toArray⟩ : ByteArray) = ⟨(L ++ M).toArray⟩ := by
  apply ByteArray.ext
  rw [ByteArray.data_append]
  simp

theorem str_add (L M : List UInt8) (wk : World) (h : L.length + M.length ≤ 9223372036854775807) : (Op.stringOp .add ⟨L.toArray⟩ ⟨M.toArray⟩).run Try.prog wk = .ok (.string ⟨(L ++ M).toArray⟩) wk := by
  have h1 := run_string_add_sum (P := Try.prog) (w := wk) ⟨L.toArray⟩ ⟨M.toArray⟩ (by simpa [ByteArray.size] using h)
  rw [str_append] at h1
  exact h1

theorem seg_mid {w : World} {ao : Option Addr} {cap : Nat} {L : List UInt8} (k m : Nat) (hm : k + m ≤ L.length) (h : Seg w (.slice ao L.length cap) L) : Seg w (.slice (Option.map (fun x => x.add k) ao) m (cap - k)) ((L.drop k).take m) := by
  have h1 := seg_drop k (by omega) h
  have e : L.length - k = (L.drop k).length := by simp
  rw [e] at h1
  exact seg_take m (by simp; omega) h1

theorem seg_mid_end {w : World} {ao : Option Addr} {cap : Nat} {L : List UInt8} (k : Nat) (hm : k ≤ L.length) (hc : cap = k) (h : Seg w (.slice ao L.length cap) L) : Seg w (.slice ao 0 0) [] := by
  have h1 := seg_drop_all k hm hc h
  have h2 := h.shape
  obtain ⟨ao', cap', hv, h3, _⟩ := h
  simp at hv
  have e : L.length = k := by omega
  have e2 : L.drop k = [] := List.drop_eq_nil_of_le (by omega)
  rw [e2] at h1
  rw [show L.length - k = 0 by omega] at h1
  exact h1

/-- The row of v is the call's own, among the blocks from lo on, below hi. -/
def Mine (w : World) (lo hi : Nat) (v : Value) (L : List UInt8) : Prop := Own w lo v L ∧ ∀ k, v.ownBlock = some k → k < hi

theorem Mine.of {w : World} {lo : Nat} {v : Value} {L : List UInt8} (h : Own w lo v L) : Mine w lo w.heap.size v L := ⟨h, fun k hk => (World.ownsRow.lt h k hk).2⟩
theorem Mine.grown {w w' : World} {lo hi : Nat} {v : Value} {L : List UInt8} (h : Mine w lo hi v L) (hg : w.grownBy w' none) : Mine w' lo hi v L := ⟨h.1.grown hg, h.2⟩
theorem Mine.apart {w w' : World} {lo hi lo' hi' : Nat} {v u : Value} {L M : List UInt8} (h : Mine w lo hi v L) (hu : Mine w lo' hi' u M) (hg : w.grownBy w' u.ownBlock) (hd : hi ≤ lo' ∨ hi' ≤ lo) : Mine w' lo hi v L := by
  refine ⟨h.1.kept hg ?_, h.2⟩
  cases hv : v.ownBlock with
  | none => exact .inl rfl
  | some k =>
    right
    intro e
    have h1 := h.2 k hv
    have h2 := h.1.lt k hv
    have h3 := hu.2 k e.symm
    have h4 := hu.1.lt k e.symm
    omega
theorem Mine.frame {w0 w w' : World} {lo hi : Nat} {u : Value} {M : List UInt8} (hu : Mine w lo hi u M) (h0 : w0.grownBy w none) (hg : w.grownBy w' u.ownBlock) (hl : w0.heap.size ≤ lo) : w0.grownBy w' none :=
  grown_new h0 hg (by intro x hx; have := hu.1.lt x hx; omega)

set_option maxRecDepth 100000 in
set_option maxHeartbeats 4000000 in
theorem writes3 (N : Nat) (S : Int) (F : Bool) (tb v : Value) (T : List UInt8) (Ls : List (List UInt8)) (w : World) (hN : N < 2 ^ 64) (hS1 : -9223372036854775808 ≤ S) (hS2 : S ≤ 9223372036854775807)
    (hT : Seg w tb T) (hL : Segs w v Ls) (hTz : T.length ≤ 1048576) (hLz : Ls.flatten.length ≤ 1048576) :
    Calls Try.prog 3 #[.agg #[.int .u64 N, .int .i64 S, .bool F, tb], v] w fun e w' => e = .returned (.bool true) ∧ w.grownBy w' none := by
  obtain ⟨w0, hw0⟩ : ∃ w0, w0 = w.alloc (.cells #[.int .u64 N, .int .i64 S, .bool F, tb] 25) := ⟨_, rfl⟩
  have c0 : w0.cell? ⟨w.heap.size, 0, none⟩ = some (.int .u64 N) := by rw [hw0]; simp
  have c1 : w0.cell? ⟨w.heap.size, 1, none⟩ = some (.int .i64 S) := by rw [hw0]; simp
  have c2 : w0.cell? ⟨w.heap.size, 2, none⟩ = some (.bool F) := by rw [hw0]; simp
  have c3 : w0.cell? ⟨w.heap.size, 3, none⟩ = some tb := by rw [hw0]; simp
  have HT : Hid (Seg w0 tb T) := by rw [hw0]; exact seg_alloc hT _
  have HL : Hid (Segs w0 v Ls) := by rw [hw0]; exact hL.grown (World.grownBy_alloc _ _ _)
  have HG : Hid (w.grownBy w0 none) := by rw [hw0]; exact World.grownBy_alloc _ _ _
  have HN : Hid (N < 2 ^ 64) := hN
  have HS : Hid (-9223372036854775808 ≤ S ∧ S ≤ 9223372036854775807) := ⟨hS1, hS2⟩
  have HZ : Hid (T.length ≤ 1048576 ∧ Ls.flatten.length ≤ 1048576) := ⟨hTz, hLz⟩
  obtain ⟨aoT, capT, rfl⟩ := hT.shape
  have HT1 : Hid (Seg w (.slice aoT T.length capT) T) := hT
  have HB0 : Hid (w.heap.size < w0.heap.size) := World.block_lt_of_cell? w0 _ c0
  have HW : Hid _ := hw0
  clear hT hL hN hS1 hS2 hLz hw0
  go_enter Try.func3, Try.ntmps3
  go_wp2_with (first | (at_builtin; refine app23 _ rfl (.const (.slice none 0 0)) (.tmp 16) rfl (w.heap.size + 1) _ [] _ T rfl rfl (Own.nil _ _) (by exact seg_alloc HT1.out _) (by simp; omega) (by simp) ?_; intro v1 w1 o1 g1) | (at_builtin; refine app23 _ rfl (.tmp 17) (.tmp 18) rfl (w.heap.size + 1) _ T _ [119] rfl rfl (by exact Own.alloc o1 _) (seg_one _ _ _ rfl) (by simp; omega) (by have := g1.size; simp at this ⊢; omega) ?_; intro v2 w2 o2 g2))
  have S2 : Hid (Own w2 w0.heap.size v2 (T ++ [119]) ∧ w0.grownBy w2 none) := by
    have e : w0.heap.size = w.heap.size + 1 := by rw [HW.out]; simp
    have h1 : w0.grownBy w1 none := by rw [HW.out]; exact grown_weak g1 none
    rw [e]
    exact ⟨o2, grown_new (grown_trans h1 (World.grownBy_alloc _ _ _)) g2 (by intro x hx; have := o1.lt x hx; omega)⟩
  clear g2 o2 g1 o1
  obtain ⟨g, cap, rfl, hg⟩ : ∃ g cap, v2 = .slice (some ⟨g, 0, none⟩) (T.length + 1) cap ∧ w0.heap.size ≤ g ∧ g < w2.heap.size := by
    rcases S2.out.1.shape with ⟨_, h⟩ | ⟨g, cap, h, h2⟩
    · simp at h
    · exact ⟨g, cap, by rw [h]; simp, h2⟩
  have hcap : T.length + 1 ≤ cap ∧ cap ≤ 9223372036854775807 := by
    obtain ⟨ao', cap', hv, h1, h2, _⟩ := S2.out.1.seg
    simp at hv h1; unfold maxLen at h2; omega
  obtain ⟨hcap1, hcap2⟩ := hcap
  have ic1 : ((T.length : Nat) : Int) ≤ (cap : Int) := by omega
  have d20 := S2.out.2.cell c0 (by simp)
  have d21 := S2.out.2.cell c1 (by simp)
  have d22 := S2.out.2.cell c2 (by simp)
  have d23 := S2.out.2.cell c3 (by simp)
  have HO : Hid (Seg w2 (.slice (some ⟨g, 0, none⟩) T.length cap) T) := by
    have h := S2.out.1.seg
    have e : T.length + 1 = (T ++ [119]).length := by simp
    rw [e] at h
    have h2 := seg_take T.length (by simp) h
    rw [List.take_left] at h2
    exact h2
  have G2 : w0.grownBy w2 none := S2.out.2
  go_region_held3 (fun w' => w'.cell? ⟨w.heap.size, 0, none⟩ = some (.int .u64 N) ∧ w'.cell? ⟨w.heap.size, 1, none⟩ = some (.int .i64 S) ∧ w'.cell? ⟨w.heap.size, 2, none⟩ = some (.bool F) ∧ w'.cell? ⟨w.heap.size, 3, none⟩ = some (.slice aoT T.length capT)) (first | exact ⟨d40, d41, d42, d43⟩ | exact ⟨d30, d31, d32, d33⟩ | go_keep)
    (first | (go_at_call 8; refine (bytes8 _ T w2.drew (by exact Seg.grown HO.out (grown_drew _ _)) (by omega)).mono ?_; rintro e w3 ⟨r3, rfl, o3, g3⟩; have G3 : w0.grownBy w3 none := grown_via G2 (by first | exact grown_refl _ _ | exact grown_drew _ _) g3; have d30 := G3.cell c0 (by simp); have d31 := G3.cell c1 (by simp); have d32 := G3.cell c2 (by simp); have d33 := G3.cell c3 (by simp)) | (go_at_call 8; refine (bytes8 _ T w3 (by exact Seg.grown (Seg.grown HO.out (grown_drew _ _)) g3) (by omega)).mono ?_; rintro e w4 ⟨r4, rfl, o4, g4⟩; have G4 : w0.grownBy w4 none := grown_via G3 (by first | exact grown_refl _ _ | exact grown_drew _ _) g4; have d40 := G4.cell c0 (by simp); have d41 := G4.cell c1 (by simp); have d42 := G4.cell c2 (by simp); have d43 := G4.cell c3 (by simp)))
  have S4 : Hid (w0.heap.size ≤ w2.heap.size ∧ w2.heap.size ≤ w3.heap.size ∧ w3.heap.size ≤ w4.heap.size ∧ Mine w4 w0.heap.size w2.heap.size (.slice (some ⟨g, 0, none⟩) (T.length + 1) cap) (T ++ [119]) ∧ Mine w4 w2.heap.size w3.heap.size r3 (bytesForm T) ∧ Mine w4 w3.heap.size w4.heap.size r4 (bytesForm T)) := by
    have gg : w2.grownBy w3 none := grown_trans (grown_drew _ _) g3
    exact ⟨S2.out.2.size, gg.size, g4.size, ((Mine.of S2.out.1).grown gg).grown g4, (Mine.of o3).grown g4, Mine.of o4⟩
  clear d30 d31 d32 d33 d40 d41 d42 d43 d20 d21 d22 d23 o3 o4 g3 g4 G3 S2 HO G2
  have d50 := G4.cell c0 (by simp)
  have d51 := G4.cell c1 (by simp)
  have d52 := G4.cell c2 (by simp)
  have d53 := G4.cell c3 (by simp)
  go_wp2_with fail
  go_region_held3 (fun w' => w'.cell? ⟨w.heap.size, 0, none⟩ = some (.int .u64 N) ∧ w'.cell? ⟨w.heap.size, 1, none⟩ = some (.int .i64 S) ∧ w'.cell? ⟨w.heap.size, 2, none⟩ = some (.bool F) ∧ w'.cell? ⟨w.heap.size, 3, none⟩ = some (.slice aoT T.length capT)) (first | exact ⟨d60, d61, d62, d63⟩ | exact ⟨d50, d51, d52, d53⟩ | go_keep)
    (first | (go_at_call 9; refine (number9_int _ N rfl HN.out w4.drew).mono ?_; rintro e w5 ⟨r5, rfl, o5, g5⟩; have G5 : w0.grownBy w5 none := grown_via G4 (by first | exact grown_refl _ _ | exact grown_drew _ _) g5; have d50 := G5.cell c0 (by simp); have d51 := G5.cell c1 (by simp); have d52 := G5.cell c2 (by simp); have d53 := G5.cell c3 (by simp)) | (go_at_call 9; refine (number9_int _ N rfl HN.out w5).mono ?_; rintro e w6 ⟨r6, rfl, o6, g6⟩; have G6 : w0.grownBy w6 none := grown_via G5 (by first | exact grown_refl _ _ | exact grown_drew _ _) g6; have d60 := G6.cell c0 (by simp); have d61 := G6.cell c1 (by simp); have d62 := G6.cell c2 (by simp); have d63 := G6.cell c3 (by simp)))
  have S6 : Hid (w0.heap.size ≤ w2.heap.size ∧ w2.heap.size ≤ w3.heap.size ∧ w3.heap.size ≤ w4.heap.size ∧ w4.heap.size ≤ w5.heap.size ∧ w5.heap.size ≤ w6.heap.size ∧ Mine w6 w0.heap.size w2.heap.size (.slice (some ⟨g, 0, none⟩) (T.length + 1) cap) (T ++ [119]) ∧ Mine w6 w2.heap.size w3.heap.size r3 (bytesForm T) ∧ Mine w6 w3.heap.size w4.heap.size r4 (bytesForm T) ∧ Mine w6 w4.heap.size w5.heap.size r5 (numForm N) ∧ Mine w6 w5.heap.size w6.heap.size r6 (numForm N)) := by
    obtain ⟨h1, h2, h3, h4, h5, h6⟩ := S4.out
    have gg : w4.grownBy w5 none := grown_trans (grown_drew _ _) g5
    exact ⟨h1, h2, h3, gg.size, g6.size, (h4.grown gg).grown g6, (h5.grown gg).grown g6, (h6.grown gg).grown g6, (Mine.of o5).grown g6, Mine.of o6⟩
  have HG6 : Hid (w0.grownBy w6 none) := G6
  clear d50 d51 d52 d53 d60 d61 d62 d63 o5 o6 g5 g6 G4 G5 G6 S4
  have HLs : Hid (Segs w6 v Ls) := HL.out.grown HG6.out
  obtain ⟨aoL, capL, rfl, hlenL, h4L⟩ := HLs.out
  have H4 : Hid _ := h4L
  clear h4L
  go_wp2_with fail
  go_loopw [10, 11] (fun x i wr => ∃ k : Nat, k ≤ Ls.length ∧ i = .int .i64 k ∧ Own wr w6.heap.size x (Ls.take k).flatten ∧ w6.grownBy wr none) (fun _ i _ => Ls.length - (intOf i).toNat)
  case atStart => exact ⟨0, by omega, rfl, by simpa using Own.nil _ _, grown_refl _ _⟩
  case round =>
    obtain ⟨k, hk, rfl, hown, hgr⟩ := hrel
    by_cases hlt : k < Ls.length
    · obtain ⟨b, off, x, rfl, hc, hx⟩ := H4.out k hlt
      have hcr : wr.cell? ⟨b, off + k, none⟩ = some x := hgr.cell hc (by simp)
      have HX : Hid (Seg wr x Ls[k]) := hx.grown hgr
      obtain ⟨ao2, cap2, rfl⟩ := hx.shape
      have hle : (Ls.take k).flatten.length + Ls[k].length ≤ Ls.flatten.length := by
        have := flatten_take_le Ls (k + 1)
        rw [flatten_take_succ Ls k hlt, List.length_append] at this; exact this
      have hsz := hgr.size
      have HLE : Hid _ := hle
      clear hc hx hle
      obtain ⟨M, hM⟩ : ∃ M, Ls[k] = M := ⟨_, rfl⟩
      obtain ⟨A, hA⟩ : ∃ A, (Ls.take k).flatten = A := ⟨_, rfl⟩
      have HTk : Hid ((Ls.take (k + 1)).flatten = A ++ M) := by rw [← hM, ← hA]; exact flatten_take_succ Ls k hlt
      rw [hM] at HX HLE hcr
      rw [hA] at hown HLE
      clear hM hA
      go_wp2_with (at_builtin; refine app23 _ rfl _ _ rfl w6.heap.size _ A _ M rfl rfl hown HX.out ?c1 ?c2 ?_)
      case c1 => have := HLE.out; have := HZ.out; omega
      case c2 => omega
      intro v' w7 hown' hg'
      have F7 : Hid _ := And.intro hown' (grown_new hgr hg' hown.lt)
      clear hown' hg' hgr hown hcr
      go_wp2_with fail
      obtain ⟨h1, h2⟩ := F7.out
      go_roundw
      case rel => exact ⟨k + 1, by omega, by go_num, by rw [HTk.out]; exact h1, h2⟩
      case measure => simp [intOf]; omega
    · rw [List.take_of_length_le (by omega)] at hown
      have S7 : Hid (Own wr w6.heap.size u10 Ls.flatten ∧ w6.grownBy wr none) := And.intro hown hgr
      clear hown hgr
      go_wp2_with fail
      refine (join10 _ Ls _ (HLs.out.grown S7.out.2) (by have := HZ.out; omega)).mono ?_
      rintro e w8 ⟨r8, rfl, o8, g8⟩
      have S8 : Hid (w6.heap.size ≤ wr.heap.size ∧ wr.heap.size ≤ w8.heap.size ∧ Mine w8 w0.heap.size w2.heap.size (.slice (some ⟨g, 0, none⟩) (T.length + 1) cap) (T ++ [119]) ∧ Mine w8 w2.heap.size w3.heap.size r3 (bytesForm T) ∧ Mine w8 w3.heap.size w4.heap.size r4 (bytesForm T) ∧ Mine w8 w4.heap.size w5.heap.size r5 (numForm N) ∧ Mine w8 w5.heap.size w6.heap.size r6 (numForm N) ∧ Mine w8 w6.heap.size wr.heap.size u10 Ls.flatten ∧ Mine w8 wr.heap.size w8.heap.size r8 Ls.flatten ∧ w0.grownBy w8 none) := by
        obtain ⟨h1, h2, h3, h4, h5, h6, h7, h8, h9, h10⟩ := S6.out
        have gg := grown_trans S7.out.2 g8
        exact ⟨S7.out.2.size, g8.size, h6.grown gg, h7.grown gg, h8.grown gg, h9.grown gg, h10.grown gg, (Mine.of S7.out.1).grown g8, Mine.of o8, grown_trans HG6.out gg⟩
      clear o8 g8
      have HT8 : Hid (Seg w8 (.slice aoT T.length capT) T) := Seg.grown HT.out S8.out.2.2.2.2.2.2.2.2.2
      have KK : Hid (∀ wk, w8.grownBy wk none → wk.cell? ⟨w.heap.size, 0, none⟩ = some (.int .u64 N) ∧ wk.cell? ⟨w.heap.size, 1, none⟩ = some (.int .i64 S) ∧ wk.cell? ⟨w.heap.size, 2, none⟩ = some (.bool F) ∧ wk.cell? ⟨w.heap.size, 3, none⟩ = some (.slice aoT T.length capT) ∧ (convert 23 9 r3).run Try.prog wk = .ok (.string ⟨(bytesForm T).toArray⟩) wk ∧ (convert 23 9 r5).run Try.prog wk = .ok (.string ⟨(numForm N).toArray⟩) wk ∧ (convert 23 9 r8).run Try.prog wk = .ok (.string ⟨(Ls.flatten).toArray⟩) wk ∧ (convert 23 9 u10).run Try.prog wk = .ok (.string ⟨(Ls.flatten).toArray⟩) wk) := by
        intro wk hk
        obtain ⟨_, _, _, h4, _, h6, _, h8, h9, h10⟩ := S8.out
        have h0 := grown_trans h10 hk
        exact ⟨h0.cell c0 (by simp), h0.cell c1 (by simp), h0.cell c2 (by simp), h0.cell c3 (by simp), seg_str (h4.grown hk).1.seg, seg_str (h6.grown hk).1.seg, seg_str (h9.grown hk).1.seg, seg_str (h8.grown hk).1.seg⟩
      go_wp2_with fail
      go_cut [96] (fun x wc => x = .bool false ∧ w8.grownBy wc none)
      case first =>
        refine wp_region_noPanic ?_
        refine wp_region_grow (by kernel_rfl) ?_
        refine wpGrow_take (i := 0) (d := some 52) (v := ?_) rfl rfl (by kernel_rfl) (by kernel_rfl) (by kernel_rfl) (fun _ _ _ h => h) (by rfl) ?_ ?_
        rotate_left
        · intro wk hk
          go_simp
          try with_reducible rfl
        try simp only [Act.put, List.setIfInBounds_toArray, List.set_cons_zero, List.set_cons_succ]
        refine wpGrow_take (i := 1) (d := some 53) (v := ?_) rfl rfl (by kernel_rfl) (by kernel_rfl) (by kernel_rfl) (fun _ _ _ h => h) (by rfl) ?_ ?_
        rotate_left
        · intro wk hk
          obtain ⟨k0, k1, k2, k3, k4, k5, k6, k7⟩ := KK.out wk (grow_trans (grown_drew w8 none) hk)
          go_simp
          try with_reducible rfl
        try simp only [Act.put, List.setIfInBounds_toArray, List.set_cons_zero, List.set_cons_succ]
        refine wpGrow_take (i := 2) (d := some 54) (v := ?_) rfl rfl (by kernel_rfl) (by kernel_rfl) (by kernel_rfl) (fun _ _ _ h => h) (by rfl) ?_ ?_
        rotate_left
        · intro wk hk
          go_simp
          try with_reducible rfl
        try simp only [Act.put, List.setIfInBounds_toArray, List.set_cons_zero, List.set_cons_succ]
        refine wpGrow_take (i := 3) (d := some 55) (v := ?_) rfl rfl (by kernel_rfl) (by kernel_rfl) (by kernel_rfl) (fun _ _ _ h => h) (by rfl) ?_ ?_
        rotate_left
        · intro wk hk
          obtain ⟨k0, k1, k2, k3, k4, k5, k6, k7⟩ := KK.out wk (grow_trans (grown_drew w8 none) hk)
          go_simp
          try with_reducible rfl
        try simp only [Act.put, List.setIfInBounds_toArray, List.set_cons_zero, List.set_cons_succ]
        refine wpGrow_one (i := 4) rfl (by kernel_rfl) (by rfl) (fun K hK => ?_)
        go_simp
        refine (bytes11 _ T _ (Seg.grown HT8.out (grown_drew w8 none)) (by omega)).mono ?_
        rintro e w9 ⟨r9, rfl, o9, g9⟩
        go_wp2_with fail
        have G9 : w8.grownBy w9 none := grow_trans (grown_drew w8 none) g9
        refine hK.out _ _ g9 ?_
        clear hK K
        try simp only [Act.put, List.setIfInBounds_toArray, List.set_cons_zero, List.set_cons_succ]
        refine wpGrow_take (i := 5) (d := some 57) (v := ?_) rfl rfl (by kernel_rfl) (by kernel_rfl) (by kernel_rfl) (fun _ _ _ h => h) (by rfl) ?_ ?_
        rotate_left
        · intro wk hk
          have cx := seg_str (o9.grown hk).seg
          go_simp
          try with_reducible rfl
        try simp only [Act.put, List.setIfInBounds_toArray, List.set_cons_zero, List.set_cons_succ]
        refine wpGrow_take (i := 6) (d := some 58) (v := ?_) rfl rfl (by kernel_rfl) (by kernel_rfl) (by kernel_rfl) (fun _ _ _ h => h) (by rfl) ?_ ?_
        rotate_left
        · intro wk hk
          go_simp
          try with_reducible rfl
        try simp only [Act.put, List.setIfInBounds_toArray, List.set_cons_zero, List.set_cons_succ]
        refine wpGrow_take (i := 7) (d := some 59) (v := ?_) rfl rfl (by kernel_rfl) (by kernel_rfl) (by kernel_rfl) (fun _ _ _ h => h) (by rfl) ?_ ?_
        rotate_left
        · intro wk hk
          go_simp
          try with_reducible rfl
        try simp only [Act.put, List.setIfInBounds_toArray, List.set_cons_zero, List.set_cons_succ]
        refine wpGrow_take (i := 8) (d := some 60) (v := ?_) rfl rfl (by kernel_rfl) (by kernel_rfl) (by kernel_rfl) (fun _ _ _ h => h) (by rfl) ?_ ?_
        rotate_left
        · intro wk hk
          go_simp
          try with_reducible rfl
        try simp only [Act.put, List.setIfInBounds_toArray, List.set_cons_zero, List.set_cons_succ]
        refine wpGrow_take (i := 9) (d := some 61) (v := ?_) rfl rfl (by kernel_rfl) (by kernel_rfl) (by kernel_rfl) (fun _ _ _ h => h) (by rfl) ?_ ?_
        rotate_left
        · intro wk hk
          obtain ⟨k0, k1, k2, k3, k4, k5, k6, k7⟩ := KK.out wk (grow_trans G9 hk)
          go_simp
          try with_reducible rfl
        try simp only [Act.put, List.setIfInBounds_toArray, List.set_cons_zero, List.set_cons_succ]
        refine wpGrow_take (i := 10) (d := some 62) (v := ?_) rfl rfl (by kernel_rfl) (by kernel_rfl) (by kernel_rfl) (fun _ _ _ h => h) (by rfl) ?_ ?_
        rotate_left
        · intro wk hk
          go_simp
          try with_reducible rfl
        try simp only [Act.put, List.setIfInBounds_toArray, List.set_cons_zero, List.set_cons_succ]
        refine wpGrow_take (i := 11) (d := some 63) (v := ?_) rfl rfl (by kernel_rfl) (by kernel_rfl) (by kernel_rfl) (fun _ _ _ h => h) (by rfl) ?_ ?_
        rotate_left
        · intro wk hk
          obtain ⟨k0, k1, k2, k3, k4, k5, k6, k7⟩ := KK.out wk (grow_trans G9 hk)
          go_simp
          try with_reducible rfl
        try simp only [Act.put, List.setIfInBounds_toArray, List.set_cons_zero, List.set_cons_succ]
        refine wpGrow_one (i := 12) rfl (by kernel_rfl) (by rfl) (fun K hK => ?_)
        go_simp
        refine (number12_int _ N rfl HN.out _).mono ?_
        rintro e w10 ⟨r10, rfl, o10, g10⟩
        go_wp2_with fail
        have G10 : w8.grownBy w10 none := grow_trans G9 g10
        refine hK.out _ _ g10 ?_
        clear hK K
        try simp only [Act.put, List.setIfInBounds_toArray, List.set_cons_zero, List.set_cons_succ]
        refine wpGrow_take (i := 13) (d := some 65) (v := ?_) rfl rfl (by kernel_rfl) (by kernel_rfl) (by kernel_rfl) (fun _ _ _ h => h) (by rfl) ?_ ?_
        rotate_left
        · intro wk hk
          have cx := seg_str (o10.grown hk).seg
          go_simp
          try with_reducible rfl
        try simp only [Act.put, List.setIfInBounds_toArray, List.set_cons_zero, List.set_cons_succ]
        refine wpGrow_take (i := 14) (d := some 66) (v := ?_) rfl rfl (by kernel_rfl) (by kernel_rfl) (by kernel_rfl) (fun _ _ _ h => h) (by rfl) ?_ ?_
        rotate_left
        · intro wk hk
          go_simp
          try with_reducible rfl
        try simp only [Act.put, List.setIfInBounds_toArray, List.set_cons_zero, List.set_cons_succ]
        refine wpGrow_take (i := 15) (d := some 67) (v := ?_) rfl rfl (by kernel_rfl) (by kernel_rfl) (by kernel_rfl) (fun _ _ _ h => h) (by rfl) ?_ ?_
        rotate_left
        · intro wk hk
          go_simp
          try with_reducible rfl
        try simp only [Act.put, List.setIfInBounds_toArray, List.set_cons_zero, List.set_cons_succ]
        refine wpGrow_take (i := 16) (d := some 68) (v := ?_) rfl rfl (by kernel_rfl) (by kernel_rfl) (by kernel_rfl) (fun _ _ _ h => h) (by rfl) ?_ ?_
        rotate_left
        · intro wk hk
          go_simp
          try with_reducible rfl
        try simp only [Act.put, List.setIfInBounds_toArray, List.set_cons_zero, List.set_cons_succ]
        refine wpGrow_take (i := 17) (d := some 69) (v := ?_) rfl rfl (by kernel_rfl) (by kernel_rfl) (by kernel_rfl) (fun _ _ _ h => h) (by rfl) ?_ ?_
        rotate_left
        · intro wk hk
          go_simp
          try with_reducible rfl
        try simp only [Act.put, List.setIfInBounds_toArray, List.set_cons_zero, List.set_cons_succ]
        refine wpGrow_take (i := 18) (d := some 70) (v := ?_) rfl rfl (by kernel_rfl) (by kernel_rfl) (by kernel_rfl) (fun _ _ _ h => h) (by rfl) ?_ ?_
        rotate_left
        · intro wk hk
          obtain ⟨k0, k1, k2, k3, k4, k5, k6, k7⟩ := KK.out wk (grow_trans G10 hk)
          go_simp
          try with_reducible rfl
        try simp only [Act.put, List.setIfInBounds_toArray, List.set_cons_zero, List.set_cons_succ]
        refine wpGrow_take (i := 21) (d := some 73) (v := ?_) rfl rfl (by kernel_rfl) (by kernel_rfl) (by kernel_rfl) (fun _ _ _ h => h) (by rfl) ?_ ?_
        rotate_left
        · intro wk hk
          go_simp
          try with_reducible rfl
        try simp only [Act.put, List.setIfInBounds_toArray, List.set_cons_zero, List.set_cons_succ]
        refine wpGrow_take (i := 22) (d := some 74) (v := ?_) rfl rfl (by kernel_rfl) (by kernel_rfl) (by kernel_rfl) (fun _ _ _ h => h) (by rfl) ?_ ?_
        rotate_left
        · intro wk hk
          obtain ⟨k0, k1, k2, k3, k4, k5, k6, k7⟩ := KK.out wk (grow_trans G10 hk)
          go_simp
          try with_reducible rfl
        try simp only [Act.put, List.setIfInBounds_toArray, List.set_cons_zero, List.set_cons_succ]
        refine wpGrow_one (i := 19) rfl (by kernel_rfl) (by rfl) (fun K hK => ?_)
        go_simp
        refine (signed13 S HS.out.1 HS.out.2 _).mono ?_
        rintro e w11 ⟨r11, rfl, o11, g11⟩
        go_wp2_with fail
        have G11 : w8.grownBy w11 none := grow_trans G10 g11
        refine hK.out _ _ g11 ?_
        clear hK K
        try simp only [Act.put, List.setIfInBounds_toArray, List.set_cons_zero, List.set_cons_succ]
        refine wpGrow_take (i := 20) (d := some 72) (v := ?_) rfl rfl (by kernel_rfl) (by kernel_rfl) (by kernel_rfl) (fun _ _ _ h => h) (by rfl) ?_ ?_
        rotate_left
        · intro wk hk
          have cx := seg_str (o11.grown hk).seg
          go_simp
          try with_reducible rfl
        try simp only [Act.put, List.setIfInBounds_toArray, List.set_cons_zero, List.set_cons_succ]
        refine wpGrow_one (i := 23) rfl (by kernel_rfl) (by rfl) (fun K hK => ?_)
        go_simp
        refine (signed14 S HS.out.1 HS.out.2 _).mono ?_
        rintro e w12 ⟨r12, rfl, o12, g12⟩
        go_wp2_with fail
        have G12 : w8.grownBy w12 none := grow_trans G11 g12
        refine hK.out _ _ g12 ?_
        clear hK K
        try simp only [Act.put, List.setIfInBounds_toArray, List.set_cons_zero, List.set_cons_succ]
        refine wpGrow_take (i := 24) (d := some 76) (v := ?_) rfl rfl (by kernel_rfl) (by kernel_rfl) (by kernel_rfl) (fun _ _ _ h => h) (by rfl) ?_ ?_
        rotate_left
        · intro wk hk
          have cx := seg_str (o12.grown hk).seg
          go_simp
          try with_reducible rfl
        try simp only [Act.put, List.setIfInBounds_toArray, List.set_cons_zero, List.set_cons_succ]
        refine wpGrow_take (i := 25) (d := some 77) (v := ?_) rfl rfl (by kernel_rfl) (by kernel_rfl) (by kernel_rfl) (fun _ _ _ h => h) (by rfl) ?_ ?_
        rotate_left
        · intro wk hk
          go_simp
          try with_reducible rfl
        try simp only [Act.put, List.setIfInBounds_toArray, List.set_cons_zero, List.set_cons_succ]
        refine wpGrow_take (i := 26) (d := some 78) (v := ?_) rfl rfl (by kernel_rfl) (by kernel_rfl) (by kernel_rfl) (fun _ _ _ h => h) (by rfl) ?_ ?_
        rotate_left
        · intro wk hk
          go_simp
          try with_reducible rfl
        try simp only [Act.put, List.setIfInBounds_toArray, List.set_cons_zero, List.set_cons_succ]
        refine wpGrow_take (i := 27) (d := some 79) (v := ?_) rfl rfl (by kernel_rfl) (by kernel_rfl) (by kernel_rfl) (fun _ _ _ h => h) (by rfl) ?_ ?_
        rotate_left
        · intro wk hk
          go_simp
          try with_reducible rfl
        try simp only [Act.put, List.setIfInBounds_toArray, List.set_cons_zero, List.set_cons_succ]
        refine wpGrow_take (i := 28) (d := some 80) (v := ?_) rfl rfl (by kernel_rfl) (by kernel_rfl) (by kernel_rfl) (fun _ _ _ h => h) (by rfl) ?_ ?_
        rotate_left
        · intro wk hk
          go_simp
          try with_reducible rfl
        try simp only [Act.put, List.setIfInBounds_toArray, List.set_cons_zero, List.set_cons_succ]
        refine wpGrow_take (i := 29) (d := some 81) (v := ?_) rfl rfl (by kernel_rfl) (by kernel_rfl) (by kernel_rfl) (fun _ _ _ h => h) (by rfl) ?_ ?_
        rotate_left
        · intro wk hk
          obtain ⟨k0, k1, k2, k3, k4, k5, k6, k7⟩ := KK.out wk (grow_trans G12 hk)
          go_simp
          try with_reducible rfl
        try simp only [Act.put, List.setIfInBounds_toArray, List.set_cons_zero, List.set_cons_succ]
        refine wpGrow_take (i := 32) (d := some 84) (v := ?_) rfl rfl (by kernel_rfl) (by kernel_rfl) (by kernel_rfl) (fun _ _ _ h => h) (by rfl) ?_ ?_
        rotate_left
        · intro wk hk
          go_simp
          try with_reducible rfl
        try simp only [Act.put, List.setIfInBounds_toArray, List.set_cons_zero, List.set_cons_succ]
        refine wpGrow_take (i := 33) (d := some 85) (v := ?_) rfl rfl (by kernel_rfl) (by kernel_rfl) (by kernel_rfl) (fun _ _ _ h => h) (by rfl) ?_ ?_
        rotate_left
        · intro wk hk
          obtain ⟨k0, k1, k2, k3, k4, k5, k6, k7⟩ := KK.out wk (grow_trans G12 hk)
          go_simp
          try with_reducible rfl
        try simp only [Act.put, List.setIfInBounds_toArray, List.set_cons_zero, List.set_cons_succ]
        refine wpGrow_one (i := 30) rfl (by kernel_rfl) (by rfl) (fun K hK => ?_)
        go_simp
        refine (flag15 F _).mono ?_
        rintro e w13 ⟨r13, rfl, o13, g13⟩
        go_wp2_with fail
        have G13 : w8.grownBy w13 none := grow_trans G12 g13
        refine hK.out _ _ g13 ?_
        clear hK K
        try simp only [Act.put, List.setIfInBounds_toArray, List.set_cons_zero, List.set_cons_succ]
        refine wpGrow_take (i := 31) (d := some 83) (v := ?_) rfl rfl (by kernel_rfl) (by kernel_rfl) (by kernel_rfl) (fun _ _ _ h => h) (by rfl) ?_ ?_
        rotate_left
        · intro wk hk
          have cx := seg_str (o13.grown hk).seg
          go_simp
          try with_reducible rfl
        try simp only [Act.put, List.setIfInBounds_toArray, List.set_cons_zero, List.set_cons_succ]
        refine wpGrow_one (i := 34) rfl (by kernel_rfl) (by rfl) (fun K hK => ?_)
        go_simp
        refine (flag16 F _).mono ?_
        rintro e w14 ⟨r14, rfl, o14, g14⟩
        go_wp2_with fail
        have G14 : w8.grownBy w14 none := grow_trans G13 g14
        refine hK.out _ _ g14 ?_
        clear hK K
        try simp only [Act.put, List.setIfInBounds_toArray, List.set_cons_zero, List.set_cons_succ]
        refine wpGrow_take (i := 35) (d := some 87) (v := ?_) rfl rfl (by kernel_rfl) (by kernel_rfl) (by kernel_rfl) (fun _ _ _ h => h) (by rfl) ?_ ?_
        rotate_left
        · intro wk hk
          have cx := seg_str (o14.grown hk).seg
          go_simp
          try with_reducible rfl
        try simp only [Act.put, List.setIfInBounds_toArray, List.set_cons_zero, List.set_cons_succ]
        refine wpGrow_take (i := 36) (d := some 88) (v := ?_) rfl rfl (by kernel_rfl) (by kernel_rfl) (by kernel_rfl) (fun _ _ _ h => h) (by rfl) ?_ ?_
        rotate_left
        · intro wk hk
          go_simp
          try with_reducible rfl
        try simp only [Act.put, List.setIfInBounds_toArray, List.set_cons_zero, List.set_cons_succ]
        refine wpGrow_take (i := 37) (d := some 89) (v := ?_) rfl rfl (by kernel_rfl) (by kernel_rfl) (by kernel_rfl) (fun _ _ _ h => h) (by rfl) ?_ ?_
        rotate_left
        · intro wk hk
          go_simp
          try with_reducible rfl
        try simp only [Act.put, List.setIfInBounds_toArray, List.set_cons_zero, List.set_cons_succ]
        refine wpGrow_take (i := 38) (d := some 90) (v := ?_) rfl rfl (by kernel_rfl) (by kernel_rfl) (by kernel_rfl) (fun _ _ _ h => h) (by rfl) ?_ ?_
        rotate_left
        · intro wk hk
          go_simp
          try with_reducible rfl
        try simp only [Act.put, List.setIfInBounds_toArray, List.set_cons_zero, List.set_cons_succ]
        refine wpGrow_take (i := 39) (d := some 91) (v := ?_) rfl rfl (by kernel_rfl) (by kernel_rfl) (by kernel_rfl) (fun _ _ _ h => h) (by rfl) ?_ ?_
        rotate_left
        · intro wk hk
          go_simp
          try with_reducible rfl
        try simp only [Act.put, List.setIfInBounds_toArray, List.set_cons_zero, List.set_cons_succ]
        refine wpGrow_take (i := 40) (d := some 92) (v := ?_) rfl rfl (by kernel_rfl) (by kernel_rfl) (by kernel_rfl) (fun _ _ _ h => h) (by rfl) ?_ ?_
        rotate_left
        · intro wk hk
          obtain ⟨k0, k1, k2, k3, k4, k5, k6, k7⟩ := KK.out wk (grow_trans G14 hk)
          go_simp
          try with_reducible rfl
        try simp only [Act.put, List.setIfInBounds_toArray, List.set_cons_zero, List.set_cons_succ]
        refine wpGrow_take (i := 41) (d := some 93) (v := ?_) rfl rfl (by kernel_rfl) (by kernel_rfl) (by kernel_rfl) (fun _ _ _ h => h) (by rfl) ?_ ?_
        rotate_left
        · intro wk hk
          go_simp
          try with_reducible rfl
        try simp only [Act.put, List.setIfInBounds_toArray, List.set_cons_zero, List.set_cons_succ]
        refine wpGrow_take (i := 42) (d := some 94) (v := ?_) rfl rfl (by kernel_rfl) (by kernel_rfl) (by kernel_rfl) (fun _ _ _ h => h) (by rfl) ?_ ?_
        rotate_left
        · intro wk hk
          obtain ⟨k0, k1, k2, k3, k4, k5, k6, k7⟩ := KK.out wk (grow_trans G14 hk)
          go_simp
          try with_reducible rfl
        try simp only [Act.put, List.setIfInBounds_toArray, List.set_cons_zero, List.set_cons_succ]
        refine wpGrow_take (i := 43) (d := some 95) (v := ?_) rfl rfl (by kernel_rfl) (by kernel_rfl) (by kernel_rfl) (fun _ _ _ h => h) (by rfl) ?_ ?_
        rotate_left
        · intro wk hk
          go_simp
          try with_reducible rfl
        try simp only [Act.put, List.setIfInBounds_toArray, List.set_cons_zero, List.set_cons_succ]
        refine wpGrow_take (i := 44) (d := some 96) (v := ?_) rfl rfl (by kernel_rfl) (by kernel_rfl) (by kernel_rfl) (fun _ _ _ h => h) (by rfl) ?_ ?_
        rotate_left
        · intro wk hk
          go_simp
          try with_reducible rfl
        try simp only [Act.put, List.setIfInBounds_toArray, List.set_cons_zero, List.set_cons_succ]
        refine wpGrow_done (by kernel_rfl) ?_
        refine NoPanic.normal ?_
        go_wp2_with fail
        go_meet
        case rel => exact ⟨rfl, G14⟩
      case rest =>
        obtain ⟨hx, hgc⟩ := hcut
        subst hx
        obtain ⟨z1, z2, m1, m2, m3, m4, m5, m6, m7, m8⟩ := S8.out
        obtain ⟨y1, y2, y3, y4, y5, _⟩ := S6.out
        have S9 : Hid (Mine wc w0.heap.size w2.heap.size (.slice (some ⟨g, 0, none⟩) (T.length + 1) cap) (T ++ [119]) ∧ Mine wc w2.heap.size w3.heap.size r3 (bytesForm T) ∧ Mine wc w3.heap.size w4.heap.size r4 (bytesForm T) ∧ Mine wc w4.heap.size w5.heap.size r5 (numForm N) ∧ Mine wc w5.heap.size w6.heap.size r6 (numForm N) ∧ Mine wc w6.heap.size wr.heap.size u10 Ls.flatten ∧ Mine wc wr.heap.size w8.heap.size r8 Ls.flatten ∧ w0.grownBy wc none ∧ w8.heap.size ≤ wc.heap.size) :=
          ⟨m1.grown hgc, m2.grown hgc, m3.grown hgc, m4.grown hgc, m5.grown hgc, m6.grown hgc, m7.grown hgc, grown_trans m8 hgc, hgc.size⟩
        have hN10 : (numForm N).length ≤ 10 := numForm_len10 N HN.out
        have hT10 : (numForm T.length).length ≤ 10 := numForm_len10 T.length (by omega)
        have hbz : (bytesForm T).length ≤ 140737488355318 := by unfold bytesForm; simp only [List.length_append]; omega
        have hnz : (numForm N).length ≤ 140737488355318 := by omega
        have hlz : Ls.flatten.length ≤ 140737488355318 := by have := HZ.out; omega
        have HH : Hid (w0.heap.size ≤ w2.heap.size ∧ w2.heap.size ≤ w3.heap.size ∧ w3.heap.size ≤ w4.heap.size ∧ w4.heap.size ≤ w5.heap.size ∧ w5.heap.size ≤ w6.heap.size ∧ w6.heap.size ≤ wr.heap.size ∧ wr.heap.size ≤ w8.heap.size ∧ (bytesForm T).length ≤ 140737488355318 ∧ (numForm N).length ≤ 140737488355318 ∧ Ls.flatten.length ≤ 140737488355318) := ⟨y1, y2, y3, y4, y5, z1, z2, hbz, hnz, hlz⟩
        clear z1 z2 m1 m2 m3 m4 m5 m6 m7 m8 y1 y2 y3 y4 y5 hgc hN10 hT10 hbz hnz hlz S8 S6 S7 KK HT8
        go_wp2_with fail
        refine (spoil17 w2.heap.size r3 (bytesForm T) _ S9.out.2.1.1 ?_ ?_).mono ?_
        · have := HH.out; have := S9.out.2.2.2.2.2.2.2.2; omega
        · exact HH.out.2.2.2.2.2.2.2.1
        rintro e wa ⟨rfl, hga⟩
        have Sa : Hid (Mine wa w0.heap.size w2.heap.size (.slice (some ⟨g, 0, none⟩) (T.length + 1) cap) (T ++ [119]) ∧ Mine wa w3.heap.size w4.heap.size r4 (bytesForm T) ∧ Mine wa w4.heap.size w5.heap.size r5 (numForm N) ∧ Mine wa w5.heap.size w6.heap.size r6 (numForm N) ∧ Mine wa w6.heap.size wr.heap.size u10 Ls.flatten ∧ Mine wa wr.heap.size w8.heap.size r8 Ls.flatten ∧ w0.grownBy wa none ∧ w8.heap.size ≤ wa.heap.size) := by
          obtain ⟨m1, m2, m3, m4, m5, m6, m7, m8, m9⟩ := S9.out
          have hh := HH.out
          exact ⟨m1.apart m2 hga (by omega), m3.apart m2 hga (by omega), m4.apart m2 hga (by omega), m5.apart m2 hga (by omega), m6.apart m2 hga (by omega), m7.apart m2 hga (by omega), m2.frame m8 hga (by omega), Nat.le_trans m9 hga.size⟩
        clear hga S9
        go_wp2_with fail
        refine (spoil17 w4.heap.size r5 (numForm N) _ Sa.out.2.2.1.1 ?_ ?_).mono ?_
        · have := HH.out; have := Sa.out.2.2.2.2.2.2.2; omega
        · exact HH.out.2.2.2.2.2.2.2.2.1
        rintro e wb ⟨rfl, hgb⟩
        have Sb : Hid (Mine wb w0.heap.size w2.heap.size (.slice (some ⟨g, 0, none⟩) (T.length + 1) cap) (T ++ [119]) ∧ Mine wb w3.heap.size w4.heap.size r4 (bytesForm T) ∧ Mine wb w5.heap.size w6.heap.size r6 (numForm N) ∧ Mine wb w6.heap.size wr.heap.size u10 Ls.flatten ∧ Mine wb wr.heap.size w8.heap.size r8 Ls.flatten ∧ w0.grownBy wb none ∧ w8.heap.size ≤ wb.heap.size) := by
          obtain ⟨m1, m3, m4, m5, m6, m7, m8, m9⟩ := Sa.out
          have hh := HH.out
          exact ⟨m1.apart m4 hgb (by omega), m3.apart m4 hgb (by omega), m5.apart m4 hgb (by omega), m6.apart m4 hgb (by omega), m7.apart m4 hgb (by omega), m4.frame m8 hgb (by omega), Nat.le_trans m9 hgb.size⟩
        clear hgb Sa
        go_wp2_with fail
        refine (spoil17 wr.heap.size r8 Ls.flatten _ Sb.out.2.2.2.2.1.1 ?_ ?_).mono ?_
        · have := HH.out; have := Sb.out.2.2.2.2.2.2; omega
        · exact HH.out.2.2.2.2.2.2.2.2.2
        rintro e ws ⟨rfl, hgs⟩
        have Ss : Hid (Mine ws w0.heap.size w2.heap.size (.slice (some ⟨g, 0, none⟩) (T.length + 1) cap) (T ++ [119]) ∧ Mine ws w3.heap.size w4.heap.size r4 (bytesForm T) ∧ Mine ws w5.heap.size w6.heap.size r6 (numForm N) ∧ Mine ws w6.heap.size wr.heap.size u10 Ls.flatten ∧ w0.grownBy ws none) := by
          obtain ⟨m1, m3, m5, m6, m7, m8, m9⟩ := Sb.out
          have hh := HH.out
          exact ⟨m1.apart m7 hgs (by omega), m3.apart m7 hgs (by omega), m5.apart m7 hgs (by omega), m6.apart m7 hgs (by omega), m7.frame m8 hgs (by omega)⟩
        clear hgs Sb
        have HLw : Hid (Segs ws (.slice aoL Ls.length capL) Ls) := HL.out.grown Ss.out.2.2.2.2
        obtain ⟨aoA, capA, hu10⟩ := Ss.out.2.2.2.1.1.seg.shape
        obtain ⟨tot, htot⟩ : ∃ tot, Ls.flatten.length = tot := ⟨_, rfl⟩
        rw [htot] at hu10
        subst hu10
        have HTot : Hid (Ls.flatten.length = tot) := htot
        have htotz : tot ≤ 1048576 := by rw [← htot]; exact HZ.out.2
        have hcA : tot ≤ capA ∧ capA ≤ 9223372036854775807 := by
          obtain ⟨ao', cap', hv, h1, h2, _⟩ := Ss.out.2.2.2.1.1.seg
          simp at hv; unfold maxLen at h2; omega
        obtain ⟨hcA1, hcA2⟩ := hcA
        clear htot
        go_wp2_with fail
        go_loopw [13, 14] (fun i q wq => ∃ j K : Nat, j ≤ Ls.length ∧ i = .int .i64 j ∧ q = .int .i64 K ∧ K ≤ tot ∧ Hid ((Ls.take j).flatten.length = K) ∧ ws.grownBy wq none) (fun i _ _ => Ls.length - (intOf i).toNat)
        case atStart => exact ⟨0, 0, by omega, rfl, rfl, by omega, rfl, grown_refl _ _⟩
        case round =>
          obtain ⟨j, K, hj, rfl, rfl, hKt, HK, hgq⟩ := hrel
          by_cases hlt2 : j < Ls.length
          · have HLq := HLw.out.grown hgq
            obtain ⟨ao', cap', hv, _, h4q⟩ := HLq
            simp at hv
            obtain ⟨rfl, rfl⟩ := hv
            obtain ⟨b, off, x, rfl, hcr, hx⟩ := h4q j hlt2
            obtain ⟨ao2, cap2, hxs⟩ := hx.shape
            obtain ⟨M, hM⟩ : ∃ M, Ls[j] = M := ⟨_, rfl⟩
            rw [hM] at hxs hx
            subst hxs
            have hKM : K + M.length ≤ tot := by
              have h1 := flatten_take_le Ls (j + 1)
              rw [flatten_take_succ Ls j hlt2, List.length_append, HK.out, HTot.out, hM] at h1
              exact h1
            have cvl : ∀ q, (convert 23 9 (.slice ao2 M.length cap2)).run Try.prog (wr.drewN q) = .ok (.string ⟨M.toArray⟩) (wr.drewN q) := fun q => seg_str (hx.grown (grown_drewN _ q none))
            have SA : Hid (Seg wr (.slice aoA tot capA) Ls.flatten) := (Ss.out.2.2.2.1.1.seg).grown hgq
            have i1 : (K : Int) + (M.length : Int) ≤ (capA : Int) := by omega
            have i2 : (K : Int) ≤ (K : Int) + (M.length : Int) := by omega
            have i3 : (j : Int) < (Ls.length : Int) := by omega
            have hmid : ((Ls.flatten).drop K).take M.length = M := by
              have e : Ls.flatten = (Ls.take j).flatten ++ (M ++ (Ls.drop (j + 1)).flatten) := by
                rw [← hM, ← List.append_assoc, ← flatten_take_succ Ls j hlt2, ← List.flatten_append, List.take_append_drop]
              rw [e, ← HK.out]; simp
            have hwr : IntKind.i64.wrap ((K : Int) + (M.length : Int)) = (K : Int) + (M.length : Int) := wrap_i64 _ (by omega) (by omega)
            have hKs : Hid ((Ls.take (j + 1)).flatten.length = K + M.length) := by
              unfold Hid; rw [flatten_take_succ Ls j hlt2, List.length_append, HK.out, hM]
            by_cases hck : capA = K
            · have hM0 : M = [] := List.eq_nil_of_length_eq_zero (by omega)
              subst hM0
              have hwk : IntKind.i64.wrap (K : Int) = (K : Int) := wrap_i64 _ (by omega) (by omega)
              have ik1 : (K : Int) ≤ (capA : Int) := by omega
              have cvl0 : ∀ q, (convert 23 9 (.slice ao2 0 cap2)).run Try.prog (wr.drewN q) = .ok (.string ⟨#[]⟩) (wr.drewN q) := cvl
              clear hwr cvl
              have cva : ∀ q, (convert 23 9 (.slice aoA 0 0)).run Try.prog (wr.drewN q) = .ok (.string ⟨#[]⟩) (wr.drewN q) := fun q => by
                have h := SA.out
                rw [← HTot.out] at h
                exact seg_str (L := []) ((seg_mid_end K (by rw [HTot.out]; omega) hck h).grown (grown_drewN _ q none))
              go_wp2_with fail
              go_quiet (fail)
              have F20 : Hid (ws.grownBy (wr.drewN nq) none) := grown_trans hgq (grown_drewN _ _ _)
              have hcq : (wr.drewN nq).cell? ⟨b, off + j, none⟩ = some (.slice ao2 0 cap2) := hcr
              clear cva hgq hcr hx SA h4q
              go_wp2_with fail
              go_roundw
              case rel => exact ⟨j + 1, K, by omega, by go_num, by first | go_num | rw [hwk], by omega, hKs, F20.out⟩
              case measure => simp [intOf]; omega
            · have cva : ∀ q, (convert 23 9 (.slice (Option.map (fun x => x.add K) aoA) M.length (capA - K))).run Try.prog (wr.drewN q) = .ok (.string ⟨M.toArray⟩) (wr.drewN q) := fun q => by
                have h := SA.out
                rw [← HTot.out] at h
                have h2 := seg_mid K M.length (by rw [HTot.out]; omega) h
                rw [hmid] at h2
                exact seg_str (h2.grown (grown_drewN _ q none))
              clear hmid
              go_wp2_with fail
              go_quiet (fail)
              have F20 : Hid (ws.grownBy (wr.drewN nq) none) := grown_trans hgq (grown_drewN _ _ _)
              have hcq : (wr.drewN nq).cell? ⟨b, off + j, none⟩ = some (.slice ao2 M.length cap2) := hcr
              clear cva hgq hcr hx SA h4q
              go_wp2_with fail
              go_roundw
              case rel => exact ⟨j + 1, K + M.length, by omega, by go_num, by first | go_num | (rw [hwr]; go_num), by omega, hKs, F20.out⟩
              case measure => simp [intOf]; omega
          · have HTE : Hid (Seg wr (.slice aoT T.length capT) T) := Seg.grown HT.out (grown_trans Ss.out.2.2.2.2 hgq)
            have KE : Hid (∀ wk, wr.grownBy wk none → wk.cell? ⟨w.heap.size, 0, none⟩ = some (.int .u64 N) ∧ wk.cell? ⟨w.heap.size, 1, none⟩ = some (.int .i64 S) ∧ wk.cell? ⟨w.heap.size, 2, none⟩ = some (.bool F) ∧ wk.cell? ⟨w.heap.size, 3, none⟩ = some (.slice aoT T.length capT) ∧ (convert 23 9 r4).run Try.prog wk = .ok (.string ⟨(bytesForm T).toArray⟩) wk ∧ (convert 23 9 r6).run Try.prog wk = .ok (.string ⟨(numForm N).toArray⟩) wk ∧ (convert 23 9 (.slice (some ⟨g, 0, none⟩) (T.length + 1) cap)).run Try.prog wk = .ok (.string ⟨(T ++ [119]).toArray⟩) wk ∧ (convert 23 9 (.slice aoT T.length capT)).run Try.prog wk = .ok (.string ⟨(T).toArray⟩) wk) := by
              intro wk hk
              obtain ⟨h1, h2, h3, h4, h5⟩ := Ss.out
              have gk := grown_trans hgq hk
              have h0 := grown_trans h5 gk
              exact ⟨h0.cell c0 (by simp), h0.cell c1 (by simp), h0.cell c2 (by simp), h0.cell c3 (by simp), seg_str (h2.grown gk).1.seg, seg_str (h3.grown gk).1.seg, seg_str (h1.grown gk).1.seg, seg_str (HTE.out.grown hk)⟩
            have SF : Hid (w.grownBy wr none) := grown_trans HG.out (grown_trans Ss.out.2.2.2.2 hgq)
            clear hgq
            go_wp2_with fail
            refine wp_region_noPanic ?_
            refine wp_region_grow (by kernel_rfl) ?_
            refine wpGrow_take (i := 0) (d := some 133) (v := ?_) rfl rfl (by kernel_rfl) (by kernel_rfl) (by kernel_rfl) (fun _ _ _ h => h) (by rfl) ?_ ?_
            rotate_left
            · intro wk hk
              go_simp
              try with_reducible rfl
            try simp only [Act.put, List.setIfInBounds_toArray, List.set_cons_zero, List.set_cons_succ]
            refine wpGrow_take (i := 1) (d := some 134) (v := ?_) rfl rfl (by kernel_rfl) (by kernel_rfl) (by kernel_rfl) (fun _ _ _ h => h) (by rfl) ?_ ?_
            rotate_left
            · intro wk hk
              obtain ⟨k0, k1, k2, k3, k4, k5, k6, k7⟩ := KE.out wk (grow_trans (grown_drew wr none) hk)
              go_simp
              try with_reducible rfl
            try simp only [Act.put, List.setIfInBounds_toArray, List.set_cons_zero, List.set_cons_succ]
            refine wpGrow_take (i := 2) (d := some 135) (v := ?_) rfl rfl (by kernel_rfl) (by kernel_rfl) (by kernel_rfl) (fun _ _ _ h => h) (by rfl) ?_ ?_
            rotate_left
            · intro wk hk
              go_simp
              try with_reducible rfl
            try simp only [Act.put, List.setIfInBounds_toArray, List.set_cons_zero, List.set_cons_succ]
            refine wpGrow_take (i := 3) (d := some 136) (v := ?_) rfl rfl (by kernel_rfl) (by kernel_rfl) (by kernel_rfl) (fun _ _ _ h => h) (by rfl) ?_ ?_
            rotate_left
            · intro wk hk
              obtain ⟨k0, k1, k2, k3, k4, k5, k6, k7⟩ := KE.out wk (grow_trans (grown_drew wr none) hk)
              go_simp
              try with_reducible rfl
            try simp only [Act.put, List.setIfInBounds_toArray, List.set_cons_zero, List.set_cons_succ]
            refine wpGrow_one (i := 4) rfl (by kernel_rfl) (by rfl) (fun K hK => ?_)
            go_simp
            refine (bytes11 _ T _ (Seg.grown HTE.out (grown_drew wr none)) (by omega)).mono ?_
            rintro e w20 ⟨r20, rfl, o20, g20⟩
            go_wp2_with fail
            have G20 : wr.grownBy w20 none := grow_trans (grown_drew wr none) g20
            refine hK.out _ _ g20 ?_
            clear hK K
            try simp only [Act.put, List.setIfInBounds_toArray, List.set_cons_zero, List.set_cons_succ]
            refine wpGrow_take (i := 5) (d := some 138) (v := ?_) rfl rfl (by kernel_rfl) (by kernel_rfl) (by kernel_rfl) (fun _ _ _ h => h) (by rfl) ?_ ?_
            rotate_left
            · intro wk hk
              have cx := seg_str (o20.grown hk).seg
              go_simp
              try with_reducible rfl
            try simp only [Act.put, List.setIfInBounds_toArray, List.set_cons_zero, List.set_cons_succ]
            refine wpGrow_take (i := 6) (d := some 139) (v := ?_) rfl rfl (by kernel_rfl) (by kernel_rfl) (by kernel_rfl) (fun _ _ _ h => h) (by rfl) ?_ ?_
            rotate_left
            · intro wk hk
              go_simp
              try with_reducible rfl
            try simp only [Act.put, List.setIfInBounds_toArray, List.set_cons_zero, List.set_cons_succ]
            refine wpGrow_take (i := 7) (d := some 140) (v := ?_) rfl rfl (by kernel_rfl) (by kernel_rfl) (by kernel_rfl) (fun _ _ _ h => h) (by rfl) ?_ ?_
            rotate_left
            · intro wk hk
              go_simp
              try with_reducible rfl
            try simp only [Act.put, List.setIfInBounds_toArray, List.set_cons_zero, List.set_cons_succ]
            refine wpGrow_take (i := 8) (d := some 141) (v := ?_) rfl rfl (by kernel_rfl) (by kernel_rfl) (by kernel_rfl) (fun _ _ _ h => h) (by rfl) ?_ ?_
            rotate_left
            · intro wk hk
              go_simp
              try with_reducible rfl
            try simp only [Act.put, List.setIfInBounds_toArray, List.set_cons_zero, List.set_cons_succ]
            refine wpGrow_take (i := 9) (d := some 142) (v := ?_) rfl rfl (by kernel_rfl) (by kernel_rfl) (by kernel_rfl) (fun _ _ _ h => h) (by rfl) ?_ ?_
            rotate_left
            · intro wk hk
              obtain ⟨k0, k1, k2, k3, k4, k5, k6, k7⟩ := KE.out wk (grow_trans G20 hk)
              go_simp
              try with_reducible rfl
            try simp only [Act.put, List.setIfInBounds_toArray, List.set_cons_zero, List.set_cons_succ]
            refine wpGrow_take (i := 10) (d := some 143) (v := ?_) rfl rfl (by kernel_rfl) (by kernel_rfl) (by kernel_rfl) (fun _ _ _ h => h) (by rfl) ?_ ?_
            rotate_left
            · intro wk hk
              go_simp
              try with_reducible rfl
            try simp only [Act.put, List.setIfInBounds_toArray, List.set_cons_zero, List.set_cons_succ]
            refine wpGrow_take (i := 11) (d := some 144) (v := ?_) rfl rfl (by kernel_rfl) (by kernel_rfl) (by kernel_rfl) (fun _ _ _ h => h) (by rfl) ?_ ?_
            rotate_left
            · intro wk hk
              obtain ⟨k0, k1, k2, k3, k4, k5, k6, k7⟩ := KE.out wk (grow_trans G20 hk)
              go_simp
              try with_reducible rfl
            try simp only [Act.put, List.setIfInBounds_toArray, List.set_cons_zero, List.set_cons_succ]
            refine wpGrow_one (i := 12) rfl (by kernel_rfl) (by rfl) (fun K hK => ?_)
            go_simp
            refine (number12_int _ N rfl HN.out _).mono ?_
            rintro e w21 ⟨r21, rfl, o21, g21⟩
            go_wp2_with fail
            have G21 : wr.grownBy w21 none := grow_trans G20 g21
            refine hK.out _ _ g21 ?_
            clear hK K
            try simp only [Act.put, List.setIfInBounds_toArray, List.set_cons_zero, List.set_cons_succ]
            refine wpGrow_take (i := 13) (d := some 146) (v := ?_) rfl rfl (by kernel_rfl) (by kernel_rfl) (by kernel_rfl) (fun _ _ _ h => h) (by rfl) ?_ ?_
            rotate_left
            · intro wk hk
              have cx := seg_str (o21.grown hk).seg
              go_simp
              try with_reducible rfl
            try simp only [Act.put, List.setIfInBounds_toArray, List.set_cons_zero, List.set_cons_succ]
            refine wpGrow_take (i := 14) (d := some 147) (v := ?_) rfl rfl (by kernel_rfl) (by kernel_rfl) (by kernel_rfl) (fun _ _ _ h => h) (by rfl) ?_ ?_
            rotate_left
            · intro wk hk
              go_simp
              try with_reducible rfl
            try simp only [Act.put, List.setIfInBounds_toArray, List.set_cons_zero, List.set_cons_succ]
            refine wpGrow_take (i := 15) (d := some 148) (v := ?_) rfl rfl (by kernel_rfl) (by kernel_rfl) (by kernel_rfl) (fun _ _ _ h => h) (by rfl) ?_ ?_
            rotate_left
            · intro wk hk
              go_simp
              try with_reducible rfl
            try simp only [Act.put, List.setIfInBounds_toArray, List.set_cons_zero, List.set_cons_succ]
            refine wpGrow_take (i := 16) (d := some 149) (v := ?_) rfl rfl (by kernel_rfl) (by kernel_rfl) (by kernel_rfl) (fun _ _ _ h => h) (by rfl) ?_ ?_
            rotate_left
            · intro wk hk
              go_simp
              try with_reducible rfl
            try simp only [Act.put, List.setIfInBounds_toArray, List.set_cons_zero, List.set_cons_succ]
            refine wpGrow_take (i := 17) (d := some 150) (v := ?_) rfl rfl (by kernel_rfl) (by kernel_rfl) (by kernel_rfl) (fun _ _ _ h => h) (by rfl) ?_ ?_
            rotate_left
            · intro wk hk
              go_simp
              try with_reducible rfl
            try simp only [Act.put, List.setIfInBounds_toArray, List.set_cons_zero, List.set_cons_succ]
            refine wpGrow_take (i := 18) (d := some 151) (v := ?_) rfl rfl (by kernel_rfl) (by kernel_rfl) (by kernel_rfl) (fun _ _ _ h => h) (by rfl) ?_ ?_
            rotate_left
            · intro wk hk
              obtain ⟨k0, k1, k2, k3, k4, k5, k6, k7⟩ := KE.out wk (grow_trans G21 hk)
              go_simp
              try with_reducible rfl
            try simp only [Act.put, List.setIfInBounds_toArray, List.set_cons_zero, List.set_cons_succ]
            refine wpGrow_take (i := 19) (d := some 152) (v := ?_) rfl rfl (by kernel_rfl) (by kernel_rfl) (by kernel_rfl) (fun _ _ _ h => h) (by rfl) ?_ ?_
            rotate_left
            · intro wk hk
              go_simp
              try with_reducible rfl
            try simp only [Act.put, List.setIfInBounds_toArray, List.set_cons_zero, List.set_cons_succ]
            refine wpGrow_take (i := 20) (d := some 153) (v := ?_) rfl rfl (by kernel_rfl) (by kernel_rfl) (by kernel_rfl) (fun _ _ _ h => h) (by rfl) ?_ ?_
            rotate_left
            · intro wk hk
              obtain ⟨k0, k1, k2, k3, k4, k5, k6, k7⟩ := KE.out wk (grow_trans G21 hk)
              go_simp
              try with_reducible rfl
            try simp only [Act.put, List.setIfInBounds_toArray, List.set_cons_zero, List.set_cons_succ]
            refine wpGrow_take (i := 21) (d := some 154) (v := ?_) rfl rfl (by kernel_rfl) (by kernel_rfl) (by kernel_rfl) (fun _ _ _ h => h) (by rfl) ?_ ?_
            rotate_left
            · intro wk hk
              obtain ⟨k0, k1, k2, k3, k4, k5, k6, k7⟩ := KE.out wk (grow_trans G21 hk)
              go_simp
              try with_reducible rfl
            try simp only [Act.put, List.setIfInBounds_toArray, List.set_cons_zero, List.set_cons_succ]
            refine wpGrow_take (i := 22) (d := some 155) (v := ?_) rfl rfl (by kernel_rfl) (by kernel_rfl) (by kernel_rfl) (fun _ _ _ h => h) (by rfl) ?_ ?_
            rotate_left
            · intro wk hk
              have sa : (Op.stringOp .add ⟨T.toArray⟩ ⟨#[119]⟩).run Try.prog wk = .ok (.string ⟨(T ++ [119]).toArray⟩) wk := str_add T [119] wk (by simp; omega)
              go_simp
              try with_reducible rfl
            try simp only [Act.put, List.setIfInBounds_toArray, List.set_cons_zero, List.set_cons_succ]
            refine wpGrow_take (i := 23) (d := some 156) (v := ?_) rfl rfl (by kernel_rfl) (by kernel_rfl) (by kernel_rfl) (fun _ _ _ h => h) (by rfl) ?_ ?_
            rotate_left
            · intro wk hk
              go_simp
              try with_reducible rfl
            try simp only [Act.put, List.setIfInBounds_toArray, List.set_cons_zero, List.set_cons_succ]
            refine wpGrow_take (i := 24) (d := some 157) (v := ?_) rfl rfl (by kernel_rfl) (by kernel_rfl) (by kernel_rfl) (fun _ _ _ h => h) (by rfl) ?_ ?_
            rotate_left
            · intro wk hk
              go_simp
              try with_reducible rfl
            try simp only [Act.put, List.setIfInBounds_toArray, List.set_cons_zero, List.set_cons_succ]
            refine wpGrow_take (i := 25) (d := some 158) (v := ?_) rfl rfl (by kernel_rfl) (by kernel_rfl) (by kernel_rfl) (fun _ _ _ h => h) (by rfl) ?_ ?_
            rotate_left
            · intro wk hk
              go_simp
              try with_reducible rfl
            try simp only [Act.put, List.setIfInBounds_toArray, List.set_cons_zero, List.set_cons_succ]
            refine wpGrow_one (i := 26) rfl (by kernel_rfl) (by rfl) (fun K hK => ?_)
            go_simp
            refine (known18 _).mono ?_
            rintro e w22 ⟨rfl, g22⟩
            go_wp2_with fail
            have G22 : wr.grownBy w22 none := grow_trans G21 g22
            refine hK.out _ _ g22 ?_
            clear hK K
            try simp only [Act.put, List.setIfInBounds_toArray, List.set_cons_zero, List.set_cons_succ]
            refine wpGrow_take (i := 27) (d := some 160) (v := ?_) rfl rfl (by kernel_rfl) (by kernel_rfl) (by kernel_rfl) (fun _ _ _ h => h) (by rfl) ?_ ?_
            rotate_left
            · intro wk hk
              go_simp
              try with_reducible rfl
            try simp only [Act.put, List.setIfInBounds_toArray, List.set_cons_zero, List.set_cons_succ]
            refine wpGrow_take (i := 28) (d := some 4) (v := ?_) rfl rfl (by kernel_rfl) (by kernel_rfl) (by kernel_rfl) (fun _ _ _ h => h) (by rfl) ?_ ?_
            rotate_left
            · intro wk hk
              go_simp
              try with_reducible rfl
            try simp only [Act.put, List.setIfInBounds_toArray, List.set_cons_zero, List.set_cons_succ]
            refine wpGrow_done (by kernel_rfl) ?_
            refine NoPanic.normal ?_
            go_wp2_with fail
            go_ret
            exact ⟨rfl, grown_trans SF.out G22⟩
end Go.Proofs.Ytneppkbbnajpnaa
