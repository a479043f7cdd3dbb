/-
  WireBack's walk.
-/
import Derived.Test.YtneppkbbnajpnaaK
import Derived.Test.YtneppkbbnajpnaaQ
import Derived.Deep.RegionHeld3
import Derived.Deep.DrawnRows
import Derived.Deep.QuietTactic
import Derived.BigQuiet
namespace Go.Proofs.Ytneppkbbnajpnaa
open Go.RowKit
attribute [local go_sem ↓] Go.wp_at_zero Go.wp_at_succ

theorem grown_via {a b W c : World} {r : Option Nat} (G : a.grownBy b r) (hW : b.grownBy W r) (g : W.grownBy c r) : a.grownBy c r := grown_trans G (grown_trans hW g)

theorem segs_four {w : World} {x y z u : Value} {L M N O : List UInt8} (hx : Seg w x L) (hy : Seg w y M) (hz : Seg w z N) (hu : Seg w u O) : Segs (w.alloc (.cells #[x, y, z, u] 23)) (.slice (some ⟨w.heap.size, 0, none⟩) 4 4) [L, M, N, O] :=
  segs_lit w #[x, y, z, u] [L, M, N, O] rfl (by simp) fun j hj => match j, hj with
    | 0, _ => ⟨x, rfl, hx⟩
    | 1, _ => ⟨y, rfl, hy⟩
    | 2, _ => ⟨z, rfl, hz⟩
    | 3, _ => ⟨u, rfl, hu⟩
    | j + 4, h => absurd h (by simp)

theorem wrap_i64 (x : Int) (h1 : -9223372036854775808 ≤ x) (h2 : x ≤ 9223372036854775807) : IntKind.i64.wrap x = x := by
  simp only [IntKind.wrap, IntKind.bits, IntKind.signed]
  simp
  omega

theorem grown_drewN (w : World) (q : Nat) (r : Option Nat) : w.grownBy (w.drewN q) r := ⟨rfl, rfl, rfl, Nat.le_refl _, fun _ _ _ => rfl⟩

/-- What joins the four forms. -/
def fourForm (N : Nat) (S : Int) (T : List UInt8) (F : Bool) : List UInt8 := numForm N ++ (numForm (foldZ S) ++ (bytesForm T ++ flagForm F))

theorem four_flat (N : Nat) (S : Int) (T : List UInt8) (F : Bool) : [numForm N, numForm (foldZ S), bytesForm T, flagForm F].flatten = fourForm N S T F := by simp [fourForm]

theorem flagForm_len (F : Bool) : (flagForm F).length = 1 := by cases F <;> rfl

theorem four_len (N : Nat) (S : Int) (T : List UInt8) (F : Bool) (hN : N < 2 ^ 64) (hS : -9223372036854775808 ≤ S ∧ S ≤ 9223372036854775807) (hT : T.length ≤ 140737488351232) : (fourForm N S T F).length ≤ 140737488351263 := by
  have h1 := numForm_len10 N hN
  have h2 := numForm_len10 (foldZ S) (foldZ_lt S hS.1 hS.2)
  have h3 := numForm_len10 T.length (by omega)
  have h4 := flagForm_len F
  simp only [fourForm, bytesForm, List.length_append]
  omega

set_option maxRecDepth 100000 in
set_option maxHeartbeats 4000000 in
theorem back5 (N : Nat) (S : Int) (F : Bool) (tb b : Value) (T L : List UInt8) (w : World) (hN : N < 2 ^ 64) (hS1 : -9223372036854775808 ≤ S) (hS2 : S ≤ 9223372036854775807)
    (hT : Seg w tb T) (hb : Seg w b L) (hTz : T.length ≤ 140737488351232) (hLz : L.length ≤ 140737488351232) :
    Calls Try.prog 5 #[.agg #[.int .u64 N, .int .i64 S, .bool F, tb], b] w fun e w' => e = .returned (.bool true) ∧ w.grownBy w' none := by
  obtain ⟨w0, hw0⟩ : ∃ w0, w0 = w.alloc (.cells #[.int .u64 N, .int .i64 S, .bool F, tb] 25) := ⟨_, rfl⟩
  have c0 : w0.cell? ⟨w.heap.size, 0, none⟩ = some (.int .u64 N) := by rw [hw0]; simp
  have c1 : w0.cell? ⟨w.heap.size, 1, none⟩ = some (.int .i64 S) := by rw [hw0]; simp
  have c2 : w0.cell? ⟨w.heap.size, 2, none⟩ = some (.bool F) := by rw [hw0]; simp
  have c3 : w0.cell? ⟨w.heap.size, 3, none⟩ = some tb := by rw [hw0]; simp
  have HT : Hid (Seg w0 tb T) := by rw [hw0]; exact seg_alloc hT _
  have HB : Hid (Seg w0 b L) := by rw [hw0]; exact seg_alloc hb _
  have HG : Hid (w.grownBy w0 none) := by rw [hw0]; exact World.grownBy_alloc _ _ _
  have HN : Hid (N < 2 ^ 64) := hN
  have HS : Hid (-9223372036854775808 ≤ S ∧ S ≤ 9223372036854775807) := ⟨hS1, hS2⟩
  have HZ : Hid (T.length ≤ 140737488351232 ∧ L.length ≤ 140737488351232) := ⟨hTz, hLz⟩
  obtain ⟨aoT, capT, rfl⟩ := hT.shape
  obtain ⟨aoL, capL, rfl⟩ := hb.shape
  clear hT hb hN hS1 hS2 hTz hLz
  go_enter Try.func5, Try.ntmps5
  go_wp2_with fail
  rw [← hw0]
  clear hw0
  go_region_held3 (fun w' => w'.cell? ⟨w.heap.size, 0, none⟩ = some (.int .u64 N) ∧ w'.cell? ⟨w.heap.size, 1, none⟩ = some (.int .i64 S) ∧ w'.cell? ⟨w.heap.size, 2, none⟩ = some (.bool F) ∧ w'.cell? ⟨w.heap.size, 3, none⟩ = some (.slice aoT T.length capT)) (first | exact ⟨d50, d51, d52, d53⟩ | exact ⟨d40, d41, d42, d43⟩ | exact ⟨d30, d31, d32, d33⟩ | exact ⟨d20, d21, d22, d23⟩ | exact ⟨d10, d11, d12, d13⟩ | go_keep)
    (first | (go_at_call 9; refine (number9_int _ N rfl HN.out _).mono ?_; rintro e w1 ⟨u1, rfl, o1, g1⟩; have G1 : w0.grownBy w1 none := grown_via (grown_refl w0 none) (by first | exact grown_refl _ _ | exact grown_drew _ _) g1; have d10 := G1.cell c0 (by simp); have d11 := G1.cell c1 (by simp); have d12 := G1.cell c2 (by simp); have d13 := G1.cell c3 (by simp); obtain ⟨a1, k1, rfl⟩ := o1.seg.shape) | (go_at_call 13; refine (signed13 S HS.out.1 HS.out.2 _).mono ?_; rintro e w2 ⟨u2, rfl, o2, g2⟩; have G2 : w0.grownBy w2 none := grown_via G1 (by first | exact grown_refl _ _ | exact grown_drew _ _) g2; have d20 := G2.cell c0 (by simp); have d21 := G2.cell c1 (by simp); have d22 := G2.cell c2 (by simp); have d23 := G2.cell c3 (by simp); obtain ⟨a2, k2, rfl⟩ := o2.seg.shape) | (go_at_call 8; refine (bytes8 _ T _ (by exact Seg.grown HT.out (by first | exact G2 | exact grown_trans G2 (grown_drew _ _))) (by have := HZ.out; omega)).mono ?_; rintro e w3 ⟨u3, rfl, o3, g3⟩; have G3 : w0.grownBy w3 none := grown_via G2 (by first | exact grown_refl _ _ | exact grown_drew _ _) g3; have d30 := G3.cell c0 (by simp); have d31 := G3.cell c1 (by simp); have d32 := G3.cell c2 (by simp); have d33 := G3.cell c3 (by simp); obtain ⟨a3, k3, rfl⟩ := o3.seg.shape) | (go_at_call 15; refine (flag15 F _).mono ?_; rintro e w4 ⟨u4, rfl, o4, g4⟩; have G4 : w0.grownBy w4 none := grown_via G3 (by first | exact grown_refl _ _ | exact grown_drew _ _) g4; have d40 := G4.cell c0 (by simp); have d41 := G4.cell c1 (by simp); have d42 := G4.cell c2 (by simp); have d43 := G4.cell c3 (by simp); obtain ⟨a4, k4, rfl⟩ := o4.seg.shape) | (go_at_call 10; refine (join10 _ [numForm N, numForm (foldZ S), bytesForm T, flagForm F] _ (by exact segs_four ((o1.grown (grown_trans g2 (grown_trans g3 g4))).seg) ((o2.grown (grown_trans g3 g4)).seg) ((o3.grown g4).seg) o4.seg) (by rw [four_flat]; have := four_len N S T F HN.out HS.out HZ.out.1; omega)).mono ?_; rintro e w5 ⟨u5, rfl, o5, g5⟩; have G5 : w0.grownBy w5 none := grown_via G4 (World.grownBy_alloc _ _ _) g5; have d50 := G5.cell c0 (by simp); have d51 := G5.cell c1 (by simp); have d52 := G5.cell c2 (by simp); have d53 := G5.cell c3 (by simp)))
  rw [four_flat] at o5
  have S5 : Hid (Seg w5 u5 (fourForm N S T F) ∧ w0.grownBy w5 none) := ⟨o5.seg, G5⟩
  clear o5 G5 g5 o4 G4 g4 o3 G3 g3 o2 G2 g2 o1 G1 g1 d10 d11 d12 d13 d20 d21 d22 d23 d30 d31 d32 d33 d40 d41 d42 d43 d50 d51 d52 d53
  have HF : Hid ((fourForm N S T F).length ≤ 140737488355328) := by have := four_len N S T F HN.out HS.out HZ.out.1; unfold Hid; omega
  have HB0 : Hid (w.heap.size < w0.heap.size) := World.block_lt_of_cell? w0 _ c0
  go_wp2_with fail
  refine (open19 _ _ _ S5.out.1 HF.out).mono ?_
  rintro e w6 ⟨b1, rfl, hb1, hr6, hg6⟩
  have S6 : Hid (w0.heap.size ≤ b1 ∧ Rd w6 b1 (fourForm N S T F) ∧ w0.grownBy w6 none) := ⟨Nat.le_trans S5.out.2.size hb1, hr6, grown_trans S5.out.2 hg6⟩
  clear hb1 hr6 hg6 S5
  go_wp2_with fail
  refine (number25 b1 _ _ S6.out.2.1).mono ?_
  rw [fourForm, rdNum_form N HN.out]
  rintro e w7 ⟨rfl, hr, hg⟩
  have S7 : Hid (w0.heap.size ≤ b1 ∧ Rd w7 b1 (numForm (foldZ S) ++ (bytesForm T ++ flagForm F)) ∧ w0.grownBy w7 none) := ⟨S6.out.1, hr, grown_new S6.out.2.2 hg (by intro x hx; have := S6.out.1; simp at hx; omega)⟩
  clear hr hg S6
  go_wp2_with fail
  refine (signed26 b1 _ _ S7.out.2.1).mono ?_
  rw [rdNum_form (foldZ S) (foldZ_lt S HS.out.1 HS.out.2), unfold_fold]
  rintro e w8 ⟨rfl, hr, hg⟩
  have S8 : Hid (w0.heap.size ≤ b1 ∧ Rd w8 b1 (bytesForm T ++ flagForm F) ∧ w0.grownBy w8 none) := ⟨S7.out.1, hr, grown_new S7.out.2.2 hg (by intro x hx; have := S7.out.1; simp at hx; omega)⟩
  clear hr hg S7
  have d0 := S8.out.2.2.cell c0 (by simp)
  have d1 := S8.out.2.2.cell c1 (by simp)
  have d2 := S8.out.2.2.cell c2 (by simp)
  have d3 := S8.out.2.2.cell c3 (by simp)
  go_wp2_with fail
  refine (bytes27 b1 _ _ _ S8.out.2.1 ?_ ?_).mono ?_
  · have := HZ.out; omega
  · have := HF.out; simp only [fourForm, List.length_append] at this ⊢; omega
  rw [rdBytes_form T _ _ (by have := HZ.out; omega) (Int.le_refl _)]
  rintro e w9 ⟨v9, rfl, ho, hr, hg⟩
  have S9 : Hid (w0.heap.size ≤ b1 ∧ Rd w9 b1 (flagForm F) ∧ w0.grownBy w9 none ∧ Own w9 w0.heap.size v9 T) := ⟨S8.out.1, hr, grown_new S8.out.2.2 hg (by intro x hx; have := S8.out.1; simp at hx; omega), ho.mono S8.out.2.2.size⟩
  clear ho hr hg S8 d0 d1 d2 d3
  go_wp2_with fail
  refine (flag28 b1 _ _ S9.out.2.1).mono ?_
  rw [rdFlag_form]
  rintro e w10 ⟨rfl, hr, hg⟩
  have S10 : Hid (w0.heap.size ≤ b1 ∧ Rd w10 b1 [] ∧ w0.grownBy w10 none ∧ Own w10 w0.heap.size v9 T) := ⟨S9.out.1, hr, grown_new S9.out.2.2.1 hg (by intro x hx; have := S9.out.1; simp at hx; omega), S9.out.2.2.2.grownRd S9.out.2.1 hg⟩
  clear hr hg S9
  have d0 := S10.out.2.2.1.cell c0 (by simp)
  have d1 := S10.out.2.2.1.cell c1 (by simp)
  have d2 := S10.out.2.2.1.cell c2 (by simp)
  have d3 := S10.out.2.2.1.cell c3 (by simp)
  have cv := seg_str S10.out.2.2.2.seg
  have cv2 := seg_str (Seg.grown HT.out S10.out.2.2.1)
  go_wp2_with fail
  refine (num_any _ _).mono ?_
  rintro e wx ⟨rfl, he⟩; subst he
  go_wp2_with fail
  refine (num_any _ _).mono ?_
  rintro e wx ⟨rfl, he⟩; subst he
  go_wp2_with fail
  refine (num_any _ _).mono ?_
  rintro e wx ⟨rfl, he⟩; subst he
  go_wp2_with fail
  refine (num_any _ _).mono ?_
  rintro e wx ⟨rfl, he⟩; subst he
  go_wp2_with fail
  refine (end24 b1 [] _ S10.out.2.1).mono ?_
  rintro e wx ⟨rfl, he⟩; subst he
  rw [if_pos rfl]
  go_wp2_with fail
  refine (num_any _ _).mono ?_
  rintro e wx ⟨rfl, he⟩; subst he
  clear cv cv2 d0 d1 d2 d3
  go_wp2_with fail
  refine (open19 _ L _ (Seg.grown HB.out S10.out.2.2.1) (by have := HZ.out; omega)).mono ?_
  rintro e w11 ⟨b2, rfl, hb2, hr, hg⟩
  have S11 : Hid (w0.heap.size ≤ b2 ∧ Rd w11 b2 L ∧ w0.grownBy w11 none) := ⟨Nat.le_trans S10.out.2.2.1.size hb2, hr, grown_trans S10.out.2.2.1 hg⟩
  clear hb2 hr hg S10
  go_wp2_with fail
  refine (bytes27 b2 L _ _ S11.out.2.1 ?_ ?_).mono ?_
  · have := HZ.out; omega
  · have := HZ.out; omega
  rcases rdBytes_cases L (L.length : Int) (by omega) with ⟨h1, h2, h3⟩ | ⟨y, rest, h1, h2, h3⟩
  · obtain ⟨er, her⟩ : ∃ er, (rdBytes L (L.length : Int)).2.1 = er := ⟨_, rfl⟩
    rw [h1, h3, her]
    rw [her] at h2
    rintro e w12 ⟨v12, rfl, ho, hr, hg⟩
    have S12 : Hid (Rd w12 b2 L ∧ w0.grownBy w12 none) := ⟨hr, grown_new S11.out.2.2 hg (by intro x hx; have := S11.out.1; simp at hx; omega)⟩
    have n0 : (er == 0) = false := by simp; omega
    have n2 : 2 < er := by omega
    clear ho hr hg S11 h1 h2 h3 her
    go_wp2_with fail
    refine (num_any _ _).mono ?_
    rintro e wx ⟨rfl, he⟩; subst he
    go_wp2_with fail
    refine (num_any _ _).mono ?_
    rintro e wx ⟨rfl, he⟩; subst he
    go_wp2_with fail
    refine (left21 b2 L _ S12.out.1).mono ?_
    rintro e wx ⟨rfl, he⟩; subst he
    go_wp2_with fail
    refine (known18 _).mono ?_
    rintro e w13 ⟨rfl, hg⟩
    have S13 : Hid (w.grownBy w13 none) := grown_trans HG.out (grown_trans S12.out.2 hg)
    clear hg S12
    go_wp2_with fail
    go_ret
    exact ⟨rfl, S13.out⟩
  · rw [h1]
    rintro e w12 ⟨v12, rfl, ho, hr, hg⟩
    have S12 : Hid (Rd w12 b2 rest ∧ w0.grownBy w12 none ∧ Own w12 w0.heap.size v12 y) := ⟨hr, grown_new S11.out.2.2 hg (by intro x hx; have := S11.out.1; simp at hx; omega), ho.mono S11.out.2.2.size⟩
    have H2 : Hid _ := h2
    have H3 : Hid _ := h3
    clear ho hr hg S11 h1 h2 h3
    go_wp2_with fail
    refine (num_any _ _).mono ?_
    rintro e wx ⟨rfl, he⟩; subst he
    go_wp2_with fail
    refine (bytes8 _ y _ S12.out.2.2.seg ?_).mono ?_
    · have := HZ.out; have := H3.out; omega
    rintro e w13 ⟨v13, rfl, ho, hg⟩
    have S13 : Hid (Rd w13 b2 rest ∧ w0.grownBy w13 none ∧ Own w13 w0.heap.size v13 (bytesForm y)) := ⟨S12.out.1.grown hg, grown_trans S12.out.2.1 hg, ho.mono S12.out.2.1.size⟩
    clear ho hg S12
    obtain ⟨ao, cap, rfl⟩ := S13.out.2.2.seg.shape
    obtain ⟨m, hm⟩ : ∃ m, (bytesForm y).length = m := ⟨_, rfl⟩
    have hL : L.length = m + rest.length := by rw [← hm]; have := congrArg List.length H2.out; simpa using this
    have hcap : L.length ≤ capL := by
      obtain ⟨ao', cap', hv, h1, _⟩ := HB.out
      simp at hv; omega
    have hLmax := Seg.len HB.out
    have g1 : ((m : Int) != IntKind.i64.wrap ((L.length : Int) - (rest.length : Int))) = false := by
      rw [wrap_i64 _ (by omega) (by omega), show (L.length : Int) - (rest.length : Int) = m by omega]; simp
    have cvs : ∀ q, (convert 23 9 (.slice ao m cap)).run Try.prog (w13.drewN q) = .ok (.string ⟨(bytesForm y).toArray⟩) (w13.drewN q) := fun q => by
      rw [← hm]; exact seg_str (S13.out.2.2.seg.grown (grown_drewN w13 q none))
    have cvb : ∀ q, (convert 23 9 (.slice aoL m capL)).run Try.prog (w13.drewN q) = .ok (.string ⟨(bytesForm y).toArray⟩) (w13.drewN q) := fun q => by
      have h := seg_str ((seg_take m (by omega) (Seg.grown HB.out S13.out.2.1)).grown (grown_drewN w13 q none))
      have e : L.take m = bytesForm y := by rw [H2.out, ← hm]; simp
      rw [e] at h; exact h
    have m1 : (m : Int) ≤ (capL : Int) := by omega
    have mL : m ≤ L.length := by omega
    have m0 : 0 < m := by rw [← hm]; have := numForm_pos y.length; unfold bytesForm; simp; omega
    rw [hm]
    have HM : Hid _ := hm
    have HL : Hid _ := hL
    clear hm hL
    go_wp2_with fail
    go_quiet ((go_at_call 21; exact Calls.quiet_of_same (left21 b2 rest _ (by exact (S13.out.1.grown (grown_drewN w13 _ none))))))
    have S14 : Hid (w0.grownBy (w13.drewN nq) none ∧ Own (w13.drewN nq) w0.heap.size (.slice ao m cap) (bytesForm y)) := by
      refine ⟨grown_trans S13.out.2.1 (grown_drewN _ _ _), ?_⟩
      have h := S13.out.2.2
      rw [HM.out] at h
      exact h.grown (grown_drewN _ _ _)
    obtain ⟨wd, hwd⟩ : ∃ wd, w13.drewN nq = wd := ⟨_, rfl⟩
    rw [hwd] at S14 ⊢
    have mc : m ≤ cap := by
      obtain ⟨ao', cap', hv, h1, _⟩ := S14.out.2.seg
      simp at hv; have := HM.out; omega
    clear hwd cvs cvb g1 S13
    go_wp2_with fail
    refine (open19 _ ((bytesForm y).take (m - 1)) _ ?_ ?_).mono ?_
    · have h := S14.out.2.seg
      have e := HM.out
      rw [← e] at h
      have h2 := seg_take (m - 1) (by omega) h
      have e3 : ((m : Int) - 1).toNat = m - 1 := by omega
      first | exact h2 | (rw [e3]; exact h2)
    · have := HZ.out; simp; omega
    rintro e w15 ⟨b3, rfl, hb3, hr, hg⟩
    have S15 : Hid (w0.heap.size ≤ b3 ∧ Rd w15 b3 ((bytesForm y).take (m - 1)) ∧ w0.grownBy w15 none) := ⟨Nat.le_trans S14.out.1.size hb3, hr, grown_trans S14.out.1 hg⟩
    clear hb3 hr hg S14
    go_wp2_with fail
    refine (bytes27 b3 _ _ _ S15.out.2.1 ?_ ?_).mono ?_
    · omega
    · have := HZ.out; simp; omega
    have hyl : y.length < 2 ^ 64 := by have := H3.out; omega
    have hsh := rdBytes_short y (L.length : Int) hyl H3.out
    rw [HM.out] at hsh
    rw [hsh]
    clear hsh hyl
    rintro e w16 ⟨v16, rfl, ho, hr, hg⟩
    have S16 : Hid (w0.grownBy w16 none) := grown_new S15.out.2.2 hg (by intro x hx; have := S15.out.1; simp at hx; omega)
    clear ho hr hg S15
    go_wp2_with fail
    refine (num_any _ _).mono ?_
    rintro e wx ⟨rfl, he⟩; subst he
    go_wp2_with fail
    refine (known18 _).mono ?_
    rintro e w17 ⟨rfl, hg⟩
    have S17 : Hid (w.grownBy w17 none) := grown_trans HG.out (grown_trans S16.out hg)
    clear hg S16
    go_wp2_with fail
    go_ret
    exact ⟨rfl, S17.out⟩
end Go.Proofs.Ytneppkbbnajpnaa
