/-
  Meet of the document.
-/
import Derived.Test.YtahpkgglkibikaaD
import Derived.Deep.DeepCutAuto
namespace Go.Proofs.Ytahpkgglkibikaa
open Go.RowKit Disk

def Four (w : World) (a b c d : Value) (F T G U : List UInt8) : Prop := Seg w a F ∧ Seg w b T ∧ Seg w c G ∧ Seg w d U
theorem Four.drewN {w : World} {a b c d : Value} {F T G U : List UInt8} (h : Four w a b c d F T G U) (m : Nat) : Four (w.drewN m) a b c d F T G U :=
  ⟨seg_drewN h.1 m, seg_drewN h.2.1 m, seg_drewN h.2.2.1 m, seg_drewN h.2.2.2 m⟩

/-- Two rows that were made and read so. -/
def TwoS (w w' : World) (x y : Value) (X Y : List UInt8) : Prop := Seg w' x X ∧ Seg w' y Y ∧ w.grownBy w' none

theorem twoS_of {w w1 w2 w3 : World} {x y : Value} {F T G U A Z : List UInt8} (hA : laterL F G = A) (hZ : earlyL T U = Z) (he : endB Z A = true) (h1 : Disk.Own w2 w1.heap.size x A) (g1 : w.grownBy w1 none) (g2 : w1.grownBy w2 none) (h3 : Disk.Own w3 w2.heap.size y Z) (g3 : w2.grownBy w3 none) :
    meetB F T G U = true ∧ TwoS w w3 x y (meetA F T G U) (meetZ F T G U) := by
  have e : meetB F T G U = true := by rw [meet_doc, hA, hZ]; exact he
  refine ⟨e, ?_⟩
  unfold meetA meetZ
  rw [e, if_pos rfl, if_pos rfl, hA, hZ]
  exact ⟨(h1.grown g3).seg, h3.seg, grown_trans (grown_trans g1 g2) g3⟩
theorem twoS_none {w w1 : World} {F T G U A Z : List UInt8} (hA : laterL F G = A) (hZ : earlyL T U = Z) (he : endB Z A = false) (g1 : w.grownBy w1 none) :
    meetB F T G U = false ∧ TwoS w w1 (.slice none 0 0) (.slice none 0 0) (meetA F T G U) (meetZ F T G U) := by
  have e : meetB F T G U = false := by rw [meet_doc, hA, hZ]; exact he
  refine ⟨e, ?_⟩
  unfold meetA meetZ
  rw [e]
  exact ⟨seg_nil _, seg_nil _, g1⟩

set_option maxRecDepth 100000 in
set_option maxHeartbeats 1000000 in
theorem meet25 (a b c d : Value) (F T G U : List UInt8) (w : World) (ha : Seg w a F) (hb : Seg w b T) (hc : Seg w c G) (hd : Seg w d U)
    (lF : F.length ≤ 140737488355328) (lT : T.length ≤ 140737488355328) (lG : G.length ≤ 140737488355328) (lU : U.length ≤ 140737488355328) :
    Calls Try.prog 25 #[a, b, c, d] w fun e w' => ∃ x y, e = .returned (.tuple #[x, y, .bool (meetB F T G U)]) ∧ TwoS w w' x y (meetA F T G U) (meetZ F T G U) := by
  obtain ⟨bo, nb, cb, rfl, hnb, lb, HB⟩ := seg_open hb
  obtain ⟨d_o, nd, cd, rfl, hnd, ld, HD⟩ := seg_open hd
  have HA : Hid (Four w a (.slice bo nb cb) c (.slice d_o nd cd) F T G U) := ⟨ha, hb, hc, hd⟩
  have HL : Hid (F.length ≤ 140737488355328 ∧ T.length ≤ 140737488355328 ∧ G.length ≤ 140737488355328 ∧ U.length ≤ 140737488355328 ∧ T.length = nb ∧ U.length = nd) := ⟨lF, lT, lG, lU, hnb, hnd⟩
  clear ha hb hc hd lF lT lG lU HB HD hnb hnd
  obtain ⟨c1, hc1⟩ : ∃ c1 : Bool, decide (0 < cmpL G F) = c1 := ⟨_, rfl⟩
  have HC1 : Hid (decide (0 < cmpL G F) = c1) := hc1
  clear hc1
  go_enter Try.func25, Try.ntmps25
  go_upto_if 18 with (first | (go_at_call 27; refine (cmp27 _ _ G F _ HA.out.2.2.1 HA.out.1).mono ?_; rintro e w1 ⟨rfl, hm1⟩))
  have H1 : Hid (Four w1 a (.slice bo nb cb) c (.slice d_o nd cd) F T G U ∧ w.grownBy w1 none) := by
    obtain ⟨m1, hm1⟩ := hm1
    rw [hm1]
    exact ⟨HA.out.drewN m1, grown_drewN _ _ _⟩
  clear hm1
  have e18 : decide (cmpL G F > 0) = c1 := HC1.out
  try rw [e18]
  clear e18
  go_cut [11] (fun x wc => Seg w1 x (laterL F G) ∧ wc = w1)
  case first =>
    have hd := later_doc F G
    cases c1 with
    | true =>
      have : 0 < cmpL G F := of_decide_eq_true HC1.out
      rw [if_pos this] at hd
      have HS : Hid (Seg w1 c (laterL F G)) := by rw [hd]; exact H1.out.1.2.2.1
      clear hd this
      go_wp2_with fail
      go_meet
      case rel => exact ⟨HS.out, rfl⟩
    | false =>
      have : ¬ 0 < cmpL G F := of_decide_eq_false HC1.out
      rw [if_neg this] at hd
      have HS : Hid (Seg w1 a (laterL F G)) := by rw [hd]; exact H1.out.1.1
      clear hd this
      go_wp2_with fail
      go_meet
      case rel => exact ⟨HS.out, rfl⟩
  case rest =>
  obtain ⟨hx, hwc⟩ := hcut
  rw [hwc]
  clear hwc
  have HX : Hid (Seg w1 u11 (laterL F G)) := hx
  clear hx
  obtain ⟨c2, hc2⟩ : ∃ c2 : Bool, decide (T.length = 0 ∨ (0 < U.length ∧ cmpL U T < 0)) = c2 := ⟨_, rfl⟩
  have HC2 : Hid (decide (T.length = 0 ∨ (0 < U.length ∧ cmpL U T < 0)) = c2) := hc2
  clear hc2
  go_upto_region 4 with fail
  go_cut [33] (fun x wc => x = .bool c2 ∧ ∃ m, wc = w1.drewN m)
  case first =>
    have hd := HC2.out
    rw [HL.out.2.2.2.2.1, HL.out.2.2.2.2.2] at hd
    by_cases z1 : nb = 0
    · have e : c2 = true := by rw [← hd]; exact decide_eq_true (.inl z1)
      subst e; subst z1
      clear hd
      go_wp2_with fail
      go_meet
      case rel => exact ⟨rfl, 0, rfl⟩
    · have i1 : ¬ (nb : Int) = 0 := by omega
      by_cases z2 : nd = 0
      · have e : c2 = false := by rw [← hd]; exact decide_eq_false (by omega)
        subst e; subst z2
        clear hd
        go_wp2_with fail
        go_meet
        case rel => exact ⟨by first | rfl | simp [z1], 0, rfl⟩
      · have i2 : (0 : Int) < (nd : Int) := by omega
        have e : decide (cmpL U T < 0) = c2 := by
          rw [← hd]
          exact decide_eq_decide.2 ⟨fun h => .inr ⟨by omega, h⟩, fun h => by omega⟩
        clear hd
        go_wp2_with (first | (go_at_call 27; refine (cmp27 _ _ U T _ H1.out.1.2.2.2 H1.out.1.2.1).mono ?_; rintro e w2 ⟨rfl, hm2⟩; have HM : Hid _ := hm2; clear hm2))
        go_meet
        case rel => exact ⟨by first | rfl | (rw [← e]; simp [z1]), HM.out⟩
  case rest =>
  obtain ⟨rfl, m2, hwc⟩ := hcut
  have H2 : Hid (Four wc a (.slice bo nb cb) c (.slice d_o nd cd) F T G U ∧ Seg wc u11 (laterL F G) ∧ w.grownBy wc none) := by
    rw [hwc]
    exact ⟨H1.out.1.drewN m2, seg_drewN HX.out m2, grown_trans H1.out.2 (grown_drewN _ _ _)⟩
  clear hwc
  generalize wc = W2 at H2 ⊢
  go_upto_if 33 with fail
  go_cut [12] (fun x wd => Seg W2 x (earlyL T U) ∧ wd = W2)
  case first =>
    have hd := early_doc T U
    cases c2 with
    | true =>
      rw [if_pos (of_decide_eq_true HC2.out)] at hd
      have HS : Hid (Seg W2 (.slice d_o nd cd) (earlyL T U)) := by rw [hd]; exact H2.out.1.2.2.2
      clear hd
      go_wp2_with fail
      go_meet
      case rel => exact ⟨HS.out, rfl⟩
    | false =>
      rw [if_neg (of_decide_eq_false HC2.out)] at hd
      have HS : Hid (Seg W2 (.slice bo nb cb) (earlyL T U)) := by rw [hd]; exact H2.out.1.2.1
      clear hd
      go_wp2_with fail
      go_meet
      case rel => exact ⟨HS.out, rfl⟩
  case rest =>
  obtain ⟨hy, hwd⟩ := hcut
  rw [hwd]
  clear hwd
  obtain ⟨eo, ne, ce, rfl, hne, le, HE⟩ := seg_open hy
  have HN : Hid ((earlyL T U).length = ne) := hne
  have HLL : Hid ((laterL F G).length ≤ 140737488355328 ∧ (earlyL T U).length ≤ 140737488355328) := ⟨later_len _ _ _ HL.out.1 HL.out.2.2.1, early_len _ _ _ HL.out.2.1 HL.out.2.2.2.1⟩
  clear hy hne
  by_cases z : ne = 0
  · subst z
    go_wp2_with (at_builtin; refine app22 _ rfl _ _ rfl W2.heap.size _ [] _ (laterL F G) rfl rfl (Own.nil _ _) H2.out.2.1 ?c0 (Nat.le_refl _) ?_)
    case c0 => have := HLL.out.1; simp; omega
    intro v1 wa hown hg hl
    have HP : Hid (Disk.Own wa W2.heap.size v1 (laterL F G) ∧ W2.grownBy wa none) := ⟨by simpa using hown, hg⟩
    clear hown hg hl
    go_wp2_with (at_builtin; refine app22 _ rfl _ _ rfl wa.heap.size _ [] _ (earlyL T U) rfl rfl (Own.nil _ _) (Seg.grown HE.out HP.out.2) ?c0 (Nat.le_refl _) ?_)
    case c0 => have := HLL.out.2; simp; omega
    intro v2 wb hown hg hl
    have HQ : Hid (Disk.Own wb wa.heap.size v2 (earlyL T U) ∧ wa.grownBy wb none) := ⟨by simpa using hown, hg⟩
    clear hown hg hl
    go_wp2_with fail
    obtain ⟨q1, q2⟩ := twoS_of (F := F) (G := G) (T := T) (U := U) rfl rfl (by simp [endB, HN.out]) HP.out.1 H2.out.2.2 HP.out.2 HQ.out.1 HQ.out.2
    refine bodyPost_ret (v := .tuple #[v1, v2, .bool true]) (by simp [results, Try.results25]) rfl ?_
    exact ⟨_, _, by rw [q1], q2⟩
  · have i1 : (0 : Int) < (ne : Int) := by omega
    have i2 : 0 < ne := by omega
    obtain ⟨r9, hr9⟩ : ∃ r, cmpL (laterL F G) (earlyL T U) = r := ⟨_, rfl⟩
    have HR9 : Hid (cmpL (laterL F G) (earlyL T U) = r9) := hr9
    clear hr9
    go_wp2_with fail
    refine (cmp27 _ _ _ _ _ H2.out.2.1 HE.out).mono ?_
    rintro e w9 ⟨rfl, m9, hm9⟩
    rw [HR9.out]
    have H9 : Hid (Seg w9 u11 (laterL F G) ∧ Seg w9 (.slice eo ne ce) (earlyL T U) ∧ w.grownBy w9 none) := by
      rw [hm9]
      exact ⟨seg_drewN H2.out.2.1 m9, seg_drewN HE.out m9, grown_trans H2.out.2.2 (grown_drewN _ _ _)⟩
    clear hm9
    by_cases c9 : 0 ≤ r9
    · go_wp2_with fail
      obtain ⟨q1, q2⟩ := twoS_none (F := F) (G := G) (T := T) (U := U) rfl rfl (by unfold endB; rw [HN.out, HR9.out, decide_eq_false z, decide_eq_false (by omega)]; rfl) H9.out.2.2
      refine bodyPost_ret (v := .tuple #[.slice none 0 0, .slice none 0 0, .bool false]) (by simp [results, Try.results25]) rfl ?_
      exact ⟨_, _, by rw [q1], q2⟩
    · have c9n : r9 < 0 := by omega
      go_wp2_with (at_builtin; refine app22 _ rfl _ _ rfl w9.heap.size _ [] _ (laterL F G) rfl rfl (Own.nil _ _) H9.out.1 ?c0 (Nat.le_refl _) ?_)
      case c0 => have := HLL.out.1; simp; omega
      intro v1 wa hown hg hl
      have HP : Hid (Disk.Own wa w9.heap.size v1 (laterL F G) ∧ w9.grownBy wa none) := ⟨by simpa using hown, hg⟩
      clear hown hg hl
      go_wp2_with (at_builtin; refine app22 _ rfl _ _ rfl wa.heap.size _ [] _ (earlyL T U) rfl rfl (Own.nil _ _) (Seg.grown H9.out.2.1 HP.out.2) ?c0 (Nat.le_refl _) ?_)
      case c0 => have := HLL.out.2; simp; omega
      intro v2 wb hown hg hl
      have HQ : Hid (Disk.Own wb wa.heap.size v2 (earlyL T U) ∧ wa.grownBy wb none) := ⟨by simpa using hown, hg⟩
      clear hown hg hl
      go_wp2_with fail
      obtain ⟨q1, q2⟩ := twoS_of (F := F) (G := G) (T := T) (U := U) rfl rfl (by unfold endB; rw [HR9.out, decide_eq_true c9n, Bool.or_true]) HP.out.1 H9.out.2.2 HP.out.2 HQ.out.1 HQ.out.2
      refine bodyPost_ret (v := .tuple #[v1, v2, .bool true]) (by simp [results, Try.results25]) rfl ?_
      exact ⟨_, _, by rw [q1], q2⟩
end Go.Proofs.Ytahpkgglkibikaa
