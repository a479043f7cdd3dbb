/-
  NamesOrder's walk.
-/
import Derived.Test.YtahpkgglkibikaaK
import Derived.Deep.DeepCutAuto
namespace Go.Proofs.Ytahpkgglkibikaa
open Go.RowKit Disk

theorem cmp26q (a b : Value) (A B : List UInt8) (w : World) (n : Nat) (ha : Seg w a A) (hb : Seg w b B) :
    Calls Try.prog 26 #[a, b] (w.drewN n) fun e w'' => e = .returned (.int .i64 (cmpL A B)) ∧ ∃ m, w'' = w.drewN m :=
  Calls.quiet_of (cmp26 a b A B _ (seg_drewN ha n) (seg_drewN hb n))

/-- Five slices of bytes. -/
structure Five (w : World) (k a b c d : Value) (K A B C D : List UInt8) : Prop where
  k : Seg w k K
  a : Seg w a A
  b : Seg w b B
  c : Seg w c C
  d : Seg w d D
theorem Five.grown {w w' : World} {k a b c d : Value} {K A B C D : List UInt8} (h : Five w k a b c d K A B C D) (g : w.grownBy w' none) : Five w' k a b c d K A B C D :=
  ⟨h.k.grown g, h.a.grown g, h.b.grown g, h.c.grown g, h.d.grown g⟩

theorem seg_cap {w : World} {ao : Option Addr} {n cap : Nat} {L : List UInt8} (h : Seg w (.slice ao n cap) L) : n ≤ cap ∧ cap ≤ 9223372036854775807 := by
  obtain ⟨ao', cap', hv, h1, h2, h3, h4⟩ := h
  simp at hv
  obtain ⟨_, rfl, rfl⟩ := hv
  unfold maxLen at h2
  exact ⟨by omega, by omega⟩

theorem beq_lists {A B : List UInt8} (h : A ≠ B) : ((⟨A.toArray⟩ : ByteArray).toList == (⟨B.toArray⟩ : ByteArray).toList) = false := by
  rw [ByteArray.toList_mk, ByteArray.toList_mk, beq_eq_false_iff_ne]
  exact h

set_option maxRecDepth 100000 in
set_option maxHeartbeats 4000000 in
theorem order5 (k a b c d : Value) (K A B C D : List UInt8) (w : World) (h : Five w k a b c d K A B C D)
    (lK : K.length ≤ 140737488355317) (lA : A.length ≤ 140737488355317) (lB : B.length ≤ 140737488355317) (lC : C.length ≤ 140737488355317) (lD : D.length ≤ 140737488355317) :
    Calls Try.prog 5 #[.agg #[k, a, b, c, d]] w fun e w' => e = .returned (.bool true) ∧ w.grownBy w' none := by
  have HL : Hid (K.length ≤ 140737488355317 ∧ A.length ≤ 140737488355317 ∧ B.length ≤ 140737488355317 ∧ C.length ≤ 140737488355317 ∧ D.length ≤ 140737488355317) := ⟨lK, lA, lB, lC, lD⟩
  obtain ⟨ko, nk, ck, rfl, hnk, llk, HK⟩ := seg_open h.k
  obtain ⟨ao, na, ca, rfl, hna, lla, HA⟩ := seg_open h.a
  have hck := seg_cap HK.out
  have H0 : Hid (Five w (.slice ko nk ck) (.slice ao na ca) b c d K A B C D ∧ K.length = nk ∧ A.length = na) := ⟨h, hnk, hna⟩
  clear h lK lA lB lC lD HK HA hnk hna
  go_enter Try.func5, Try.ntmps5
  go_wp2_with fail
  refine (known20 _).mono ?_
  rintro e w1 ⟨rfl, g1⟩
  have hblk : Blk w1 w.heap.size 37 #[.slice ko nk ck, .slice ao na ca, b, c, d] := Blk.grown (heap_alloc_new _ _) g1 (by simp)
  have x0 := hblk.cell 0
  have x1 := hblk.cell 1
  have x2 := hblk.cell 2
  have x3 := hblk.cell 3
  have x4 := hblk.cell 4
  simp at x0 x1 x2 x3 x4
  have H1 : Hid (Five w1 (.slice ko nk ck) (.slice ao na ca) b c d K A B C D ∧ w.grownBy w1 none) := by
    have g := grown_trans (World.grownBy_alloc w (.cells #[.slice ko nk ck, .slice ao na ca, b, c, d] 37) none) g1
    exact ⟨H0.out.1.grown g, g⟩
  clear g1 hblk
  go_wp2_with fail
  go_quiet (fail)
  clear x0 x1 x2 x3 x4
  have H2 : Hid (Five (w1.drewN nq) (.slice ko nk ck) (.slice ao na ca) b c d K A B C D ∧ w.grownBy (w1.drewN nq) none) := ⟨H1.out.1.grown (grown_drewN _ _ _), grown_trans H1.out.2 (grown_drewN _ _ _)⟩
  generalize w1.drewN nq = w2 at H2 ⊢
  go_upto_region 4 with fail
  go_cut [65] (fun x wc => x = .bool false ∧ ∃ m, wc = w2.drewN m)
  case first =>
    have sa := H2.out.1.a
    have sb := H2.out.1.b
    have sc := H2.out.1.c
    have cva : ∀ q, (convert 22 9 (.slice ao na ca)).run Try.prog (w2.drewN q) = .ok (.string ⟨A.toArray⟩) (w2.drewN q) := fun q => seg_str (seg_drewN sa q)
    have cvb : ∀ q, (convert 22 9 b).run Try.prog (w2.drewN q) = .ok (.string ⟨B.toArray⟩) (w2.drewN q) := fun q => seg_str (seg_drewN sb q)
    have hfl := cmp_flip B A
    have hbq : cmpL A B ≠ 0 → ((⟨A.toArray⟩ : ByteArray).toList == (⟨B.toArray⟩ : ByteArray).toList) = false := fun hn => beq_lists (fun e => hn (by rw [e]; exact cmp_self B))
    have hbe : cmpL A B = 0 → ((⟨A.toArray⟩ : ByteArray).toList == (⟨B.toArray⟩ : ByteArray).toList) = true := fun hz => by rw [cmp_zero hz]; simp
    obtain ⟨X, hX⟩ : ∃ X, (⟨A.toArray⟩ : ByteArray) = X := ⟨_, rfl⟩
    obtain ⟨Y, hY⟩ : ∃ Y, (⟨B.toArray⟩ : ByteArray) = Y := ⟨_, rfl⟩
    rw [hX] at cva hbq hbe
    rw [hY] at cvb hbq hbe
    have htr := fun h1 h2 => cmp_trans (A := A) (B := B) (C := C) h1 h2
    have wm1 : IntKind.i64.wrap (-1) = -1 := by decide
    have wz0 : IntKind.i64.wrap 0 = 0 := by decide
    have wp1 : IntKind.i64.wrap 1 = 1 := by decide
    clear hX hY
    rcases cmp_range A B with hr | hr | hr
    · have hq := hbq (by omega)
      have hr2 : cmpL B A = 1 := by omega
      by_cases h2 : cmpL B C ≤ 0
      · have h3 : ¬ 0 < cmpL A C := by have := htr (by omega) h2; omega
        clear hbq hbe hfl htr
        go_wp2_with fail
        go_quiet ((go_at_call 26; exact cmp26q _ _ _ _ _ _ (by assumption) (by assumption)))
        go_wp2_with fail
        go_meet
        case rel => exact ⟨by first | rfl | simp [h3], _, rfl⟩
      · have hr3 : cmpL B C = 1 := by rcases cmp_range B C with e | e | e <;> omega
        clear hbq hbe hfl htr h2
        go_wp2_with fail
        go_quiet ((go_at_call 26; exact cmp26q _ _ _ _ _ _ (by assumption) (by assumption)))
        go_wp2_with fail
        go_meet
        case rel => exact ⟨by first | rfl | simp [hr, hr2, hq, hr3], _, rfl⟩
    · have hq := hbe (by omega)
      have hr2 : cmpL B A = 0 := by omega
      by_cases h2 : cmpL B C ≤ 0
      · have h3 : ¬ 0 < cmpL A C := by have := htr (by omega) h2; omega
        clear hbq hbe hfl htr
        go_wp2_with fail
        go_quiet ((go_at_call 26; exact cmp26q _ _ _ _ _ _ (by assumption) (by assumption)))
        go_wp2_with fail
        go_meet
        case rel => exact ⟨by first | rfl | simp [h3], _, rfl⟩
      · have hr3 : cmpL B C = 1 := by rcases cmp_range B C with e | e | e <;> omega
        clear hbq hbe hfl htr h2
        go_wp2_with fail
        go_quiet ((go_at_call 26; exact cmp26q _ _ _ _ _ _ (by assumption) (by assumption)))
        go_wp2_with fail
        go_meet
        case rel => exact ⟨by first | rfl | simp [hr, hr2, hq, hr3], _, rfl⟩
    · have hq := hbq (by omega)
      have hr2 : cmpL B A = -1 := by omega
      clear hbq hbe hfl htr
      go_wp2_with fail
      go_quiet ((go_at_call 26; exact cmp26q _ _ _ _ _ _ (by assumption) (by assumption)))
      go_wp2_with fail
      go_meet
      case rel => exact ⟨by first | rfl | simp [hr, hr2, hq], _, rfl⟩
  case rest =>
  obtain ⟨rfl, m4, hwc⟩ := hcut
  have H3 : Hid (Five wc (.slice ko nk ck) (.slice ao na ca) b c d K A B C D ∧ w.grownBy wc none) := by
    rw [hwc]
    exact ⟨H2.out.1.grown (grown_drewN _ _ _), grown_trans H2.out.2 (grown_drewN _ _ _)⟩
  clear hwc H2 H1
  generalize wc = w3 at H3 ⊢
  go_wp2_with fail
  refine (next21 _ K _ H3.out.1.k (by have := HL.out.1; omega)).mono ?_
  rintro e w4 ⟨nx, rfl, cn, gn⟩
  have H4 : Hid (Five w4 (.slice ko nk ck) (.slice ao na ca) b c d K A B C D ∧ Seg w4 nx (K ++ [0]) ∧ w.grownBy w4 none) := ⟨H3.out.1.grown gn, cn.seg, grown_trans H3.out.2 gn⟩
  clear cn gn H3
  go_upto_region 7 with fail
  go_cut [83] (fun x wc => x = .bool false ∧ ∃ m, wc = w4.drewN m)
  case first =>
    go_wp2_with fail
    refine (cmp26 _ _ K (K ++ [0]) _ H4.out.1.k H4.out.2.1).mono ?_
    rintro e w5 ⟨rfl, m5, hm5⟩
    rw [next_above]
    have H5 : Hid (w5 = w4.drewN m5) := hm5
    clear hm5
    go_wp2_with fail
    refine (cmp26 _ _ K A _ (by rw [H5.out]; exact seg_drewN H4.out.1.k _) (by rw [H5.out]; exact seg_drewN H4.out.1.a _)).mono ?_
    rintro e w6 ⟨rfl, m6, hm6⟩
    have H6 : Hid (w6 = w4.drewN (m5 + m6)) := by rw [hm6, H5.out, World.drewN_drewN]; exact rfl
    clear hm6
    by_cases hka : cmpL K A < 0
    · have hn := next_least hka
      obtain ⟨r3, hr3⟩ : ∃ r, cmpL A (K ++ [0]) = r := ⟨_, rfl⟩
      rw [hr3] at hn
      have HR3 : Hid (cmpL A (K ++ [0]) = r3) := hr3
      clear hr3
      go_wp2_with fail
      refine (cmp26 _ _ A (K ++ [0]) _ (by rw [H6.out]; exact seg_drewN H4.out.1.a _) (by rw [H6.out]; exact seg_drewN H4.out.2.1 _)).mono ?_
      rintro e w7 ⟨rfl, m7, hm7⟩
      rw [HR3.out]
      have H7 : Hid (w7 = w4.drewN (m5 + m6 + m7)) := by rw [hm7, H6.out, World.drewN_drewN]; exact rfl
      clear hm7
      go_wp2_with fail
      go_meet
      case rel => exact ⟨by first | rfl | simp [hn], _, H7.out⟩
    · go_wp2_with fail
      go_meet
      case rel => exact ⟨by first | rfl | simp [hka], _, H6.out⟩
  case rest =>
  obtain ⟨rfl, m4, hwc⟩ := hcut
  have H5 : Hid (Five wc (.slice ko nk ck) (.slice ao na ca) b c d K A B C D ∧ w.grownBy wc none) := by
    rw [hwc]
    exact ⟨H4.out.1.grown (grown_drewN _ _ _), grown_trans H4.out.2.2 (grown_drewN _ _ _)⟩
  clear hwc H4
  generalize wc = w5 at H5 ⊢
  go_wp2_with fail
  refine (behind22 _ A _ H5.out.1.a (by have := HL.out.2.1; omega)).mono ?_
  rintro e w6 ⟨tt, rfl, ct, gt⟩
  have H6 : Hid (Five w6 (.slice ko nk ck) (.slice ao na ca) b c d K A B C D ∧ Seg w6 tt (behindL A) ∧ w.grownBy w6 none) := ⟨H5.out.1.grown gt, ct.seg, grown_trans H5.out.2 gt⟩
  clear ct gt H5
  obtain ⟨bg, hbg⟩ : ∃ bg : Bool, decide (K.take A.length = A) = bg := ⟨_, rfl⟩
  have HBG : Hid (decide (K.take A.length = A) = bg) := hbg
  clear hbg
  obtain ⟨ok, hok⟩ : ∃ ok : Bool, behindB A = ok := ⟨_, rfl⟩
  have HOK : Hid (behindB A = ok) := hok
  rw [hok]
  clear hok
  go_upto_region 10 with fail
  go_cut [11] (fun x wc => x = .bool bg ∧ ∃ m, wc = w6.drewN m)
  case first =>
    by_cases hle : na ≤ nk
    · have i1 : (na : Int) ≤ (nk : Int) := by omega
      have i2 : (na : Int) ≤ (ck : Int) := by omega
      have i3 : (0 : Int) ≤ (na : Int) := by omega
      have sk : Seg w6 (.slice ko na ck) (K.take na) := seg_take na (by rw [H0.out.2.1]; exact hle) (by rw [H0.out.2.1]; exact H6.out.1.k : Seg w6 (.slice ko K.length ck) K)
      have cvk : ∀ q, (convert 22 9 (.slice ko na ck)).run Try.prog (w6.drewN q) = .ok (.string ⟨(K.take na).toArray⟩) (w6.drewN q) := fun q => seg_str (seg_drewN sk q)
      have cva : ∀ q, (convert 22 9 (.slice ao na ca)).run Try.prog (w6.drewN q) = .ok (.string ⟨A.toArray⟩) (w6.drewN q) := fun q => seg_str (seg_drewN H6.out.1.a q)
      have hq : ((⟨(K.take na).toArray⟩ : ByteArray).toList == (⟨A.toArray⟩ : ByteArray).toList) = bg := by
        rw [ByteArray.toList_mk, ByteArray.toList_mk, ← HBG.out, H0.out.2.2]
        rw [Bool.eq_iff_iff]
        simp
      obtain ⟨X, hX⟩ : ∃ X, (⟨(K.take na).toArray⟩ : ByteArray) = X := ⟨_, rfl⟩
      obtain ⟨Y, hY⟩ : ∃ Y, (⟨A.toArray⟩ : ByteArray) = Y := ⟨_, rfl⟩
      rw [hX] at cvk hq
      rw [hY] at cva hq
      clear hX hY sk
      go_wp2_with fail
      go_quiet (fail)
      go_wp2_with fail
      go_meet
      case rel => exact ⟨by first | rfl | simp [hq], _, rfl⟩
    · have i1 : ¬ (na : Int) ≤ (nk : Int) := by omega
      have e : bg = false := by
        rw [← HBG.out]
        refine decide_eq_false (fun e => ?_)
        have h1 := congrArg List.length e
        rw [List.length_take, H0.out.2.1, H0.out.2.2] at h1
        omega
      subst e
      go_wp2_with fail
      go_quiet (fail)
      go_wp2_with fail
      go_meet
      case rel => exact ⟨by first | rfl | simp, _, rfl⟩
  case rest =>
  obtain ⟨rfl, m6, hwc⟩ := hcut
  have H7 : Hid (Five wc (.slice ko nk ck) (.slice ao na ca) b c d K A B C D ∧ Seg wc tt (behindL A) ∧ w.grownBy wc none) := by
    rw [hwc]
    exact ⟨H6.out.1.grown (grown_drewN _ _ _), seg_drewN H6.out.2.1 _, grown_trans H6.out.2.2 (grown_drewN _ _ _)⟩
  clear hwc H6
  generalize wc = w7 at H7 ⊢
  go_upto_region 11 with fail
  go_cut [128] (fun x wc => x = .bool false ∧ ∃ m, wc = w7.drewN m)
  case first =>
    cases ok with
    | true =>
      have ht : trim A ≠ [] := of_decide_eq_true HOK.out
      have e : inB K A (behindL A) = bg := by
        rw [← HBG.out, Bool.eq_iff_iff]
        have hb := behind_begins A K ht
        have hn : ¬ (behindL A).length = 0 := fun e => bump_ne ht (List.eq_nil_of_length_eq_zero e)
        unfold begins at hb
        simp only [inB, Bool.and_eq_true, Bool.or_eq_true, decide_eq_true_eq, hn, false_or]
        exact hb
      have HI : Hid (inB K A (behindL A) = bg) := e
      clear ht e
      go_wp2_with fail
      refine (in28 _ _ _ K A (behindL A) _ H7.out.1.k H7.out.1.a H7.out.2.1).mono ?_
      rintro e w8 ⟨rfl, m8, hm8⟩
      rw [HI.out]
      have H8 : Hid (w8 = w7.drewN m8) := hm8
      clear hm8
      go_wp2_with fail
      go_meet
      case rel => exact ⟨by first | rfl | simp, _, H8.out⟩
    | false =>
      have ht : trim A = [] := Classical.byContradiction fun h => by have := of_decide_eq_false HOK.out; exact this h
      have e : inB K A [] = bg := by
        rw [← HBG.out, Bool.eq_iff_iff]
        have hb := full_begins A K ht
        unfold begins at hb
        simp only [inB, List.length_nil, decide_true, Bool.true_or, Bool.and_true, decide_eq_true_eq]
        exact hb
      have HI : Hid (inB K A [] = bg) := e
      clear ht e
      go_wp2_with fail
      refine (in28 _ _ _ K A [] _ H7.out.1.k H7.out.1.a (seg_nil _)).mono ?_
      rintro e w8 ⟨rfl, m8, hm8⟩
      rw [HI.out]
      have H8 : Hid (w8 = w7.drewN m8) := hm8
      clear hm8
      go_wp2_with fail
      go_meet
      case rel => exact ⟨by first | rfl | simp, _, H8.out⟩
  case rest =>
  obtain ⟨rfl, m7, hwc⟩ := hcut
  have H8 : Hid (Five wc (.slice ko nk ck) (.slice ao na ca) b c d K A B C D ∧ w.grownBy wc none) := by
    rw [hwc]
    exact ⟨H7.out.1.grown (grown_drewN _ _ _), grown_trans H7.out.2.2 (grown_drewN _ _ _)⟩
  clear hwc H7
  generalize wc = w8 at H8 ⊢
  go_wp2_with fail
  refine (meet24 _ _ _ _ A B C D _ H8.out.1.a H8.out.1.b H8.out.1.c H8.out.1.d (by have := HL.out.2.1; omega) (by have := HL.out.2.2.1; omega) (by have := HL.out.2.2.2.1; omega) (by have := HL.out.2.2.2.2; omega)).mono ?_
  rintro e w9 ⟨x, y, rfl, t1, t2, t3, t4⟩
  obtain ⟨sm, hsm⟩ : ∃ sm : Bool, meetB A B C D = sm := ⟨_, rfl⟩
  have HSM : Hid (meetB A B C D = sm) := hsm
  rw [hsm]
  have H9 : Hid (Five w9 (.slice ko nk ck) (.slice ao na ca) b c d K A B C D ∧ Seg w9 x (meetA A B C D) ∧ Seg w9 y (meetZ A B C D) ∧ w.grownBy w9 none) := ⟨H8.out.1.grown t4, t1.seg, t2.seg, grown_trans H8.out.2 t4⟩
  clear t1 t2 t3 t4 hsm H8
  obtain ⟨bo, hbo⟩ : ∃ bo : Bool, (inB K A B && inB K C D) = bo := ⟨_, rfl⟩
  have HBO : Hid ((inB K A B && inB K C D) = bo) := hbo
  clear hbo
  go_upto_region 14 with fail
  go_cut [15] (fun x wc => x = .bool bo ∧ ∃ m, wc = w9.drewN m)
  case first =>
    go_wp2_with fail
    refine (in28 _ _ _ K A B _ H9.out.1.k H9.out.1.a H9.out.1.b).mono ?_
    rintro e wx ⟨rfl, mx, hmx⟩
    have HX : Hid (wx = w9.drewN mx) := hmx
    clear hmx
    obtain ⟨p1, hp1⟩ : ∃ p : Bool, inB K A B = p := ⟨_, rfl⟩
    have hbb := HBO.out
    rw [hp1] at hbb ⊢
    clear hp1
    cases p1 with
    | false =>
      have e : bo = false := by rw [← hbb]; rfl
      subst e
      clear hbb
      go_wp2_with fail
      go_meet
      case rel => exact ⟨rfl, _, HX.out⟩
    | true =>
      have e : inB K C D = bo := by rw [← hbb, Bool.true_and]
      have HI : Hid (inB K C D = bo) := e
      clear e hbb
      go_wp2_with fail
      refine (in28 _ _ _ K C D _ (by rw [HX.out]; exact seg_drewN H9.out.1.k _) (by rw [HX.out]; exact seg_drewN H9.out.1.c _) (by rw [HX.out]; exact seg_drewN H9.out.1.d _)).mono ?_
      rintro e wy ⟨rfl, my, hmy⟩
      rw [HI.out]
      have HY : Hid (wy = w9.drewN (mx + my)) := by rw [hmy, HX.out, World.drewN_drewN]; exact rfl
      clear hmy
      go_wp2_with fail
      go_meet
      case rel => exact ⟨by first | rfl | simp, _, HY.out⟩
  case rest =>
  obtain ⟨rfl, m9, hwc⟩ := hcut
  have H10 : Hid (Five wc (.slice ko nk ck) (.slice ao na ca) b c d K A B C D ∧ Seg wc x (meetA A B C D) ∧ Seg wc y (meetZ A B C D) ∧ w.grownBy wc none) := by
    rw [hwc]
    exact ⟨H9.out.1.grown (grown_drewN _ _ _), seg_drewN H9.out.2.1 _, seg_drewN H9.out.2.2.1 _, grown_trans H9.out.2.2.2 (grown_drewN _ _ _)⟩
  clear hwc H9
  generalize wc = w10 at H10 ⊢
  have hmi := meet_in K A B C D
  rw [HBO.out] at hmi
  cases sm with
  | true =>
    have e : inB K (meetA A B C D) (meetZ A B C D) = bo := by
      unfold meetA meetZ
      rw [HSM.out, if_pos rfl, if_pos rfl]
      exact hmi
    have HI : Hid (inB K (meetA A B C D) (meetZ A B C D) = bo) := e
    clear e hmi
    go_wp2_with fail
    refine (in28 _ _ _ K _ _ _ H10.out.1.k H10.out.2.1 H10.out.2.2.1).mono ?_
    rintro e w11 ⟨rfl, m11, hm11⟩
    rw [HI.out]
    have H11 : Hid (w.grownBy w11 none) := by rw [hm11]; exact grown_trans H10.out.2.2.2 (grown_drewN _ _ _)
    clear hm11
    go_wp2_with fail
    go_ret
    exact ⟨by first | rfl | simp, H11.out⟩
  | false =>
    have e : bo = false := by
      cases bo with
      | false => rfl
      | true =>
        have h1 := in_self hmi
        have h2 := HSM.out
        unfold meetB at h2
        rw [h1] at h2
        exact h2
    subst e
    clear hmi
    go_wp2_with fail
    go_ret
    exact ⟨by first | rfl | simp, H10.out.2.2.2⟩
end Go.Proofs.Ytahpkgglkibikaa
