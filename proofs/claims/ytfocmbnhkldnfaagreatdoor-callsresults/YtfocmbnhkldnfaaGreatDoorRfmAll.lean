/-
  Texts of Rfm, put together.
-/
import Derived.Test.YtfocmbnhkldnfaaGreatDoorF
import Derived.Test.YtfocmbnhkldnfaaGreatDoorPe
import Derived.Test.YtfocmbnhkldnfaaGreatDoorAl
import Derived.Test.YtfocmbnhkldnfaaGreatDoorRslAll
import Derived.Test.YtfocmbnhkldnfaaGreatDoorE
/-
  A row's form; a list of rows'.
-/
namespace Go.Proofs.YtfocmbnhkldnfaaGreatDoor
open Go.RowKit Disk
open Names (Str)

theorem rowForm_len {r : PRow} (h : mayRow r = true) : (rowForm r).length ≤ 532 := by
  simp only [mayRow, Bool.and_eq_true] at h
  have h1 := key_len h.1
  have h2 : r.2.length ≤ 256 := by simpa [Names.valueB] using h.2
  have h3 := bytesForm_len r.1 (by omega)
  have h4 := bytesForm_len r.2 (by omega)
  unfold rowForm
  rw [List.length_append]
  omega

set_option maxRecDepth 100000 in
set_option maxHeartbeats 8000000 in
theorem rowform150 (x y : Value) (r : PRow) (w : World) (hx : Seg w x r.1) (hy : Seg w y r.2) : Calls Tryz.prog 150 #[.agg #[x, y]] w (FormOr (mayRow r) (rowForm r) 2 w) := by
  obtain ⟨ax, nx, cx, rfl, _, _, _⟩ := Names.seg_open hx
  obtain ⟨ay, ny, cy, rfl, _, _, _⟩ := Names.seg_open hy
  have HS : Hid (∀ z : World, w.grownBy z none → Seg z (.slice ax nx cx) r.1 ∧ Seg z (.slice ay ny cy) r.2) := fun z hz => ⟨hx.grown hz, hy.grown hz⟩
  clear hx hy
  go_enter Tryz.func150, Tryz.ntmps150
  go_upto_region 1 with fail
  have hb := heap_alloc_new w (.cells #[.slice ax nx cx, .slice ay ny cy] 56)
  have hg1 := World.grownBy_alloc w (.cells #[.slice ax nx cx, .slice ay ny cy] 56) none
  generalize w.alloc (.cells #[.slice ax nx cx, .slice ay ny cy] 56) = w1 at hb hg1 ⊢
  have HB : Hid (Blk w1 w.heap.size 56 #[.slice ax nx cx, .slice ay ny cy] ∧ w.grownBy w1 none) := ⟨hb, hg1⟩
  have c0 := HB.out.1.cell 0
  have c1 := HB.out.1.cell 1
  clear hb hg1
  cases hkb : Names.keyB r.1 with
  | false =>
    have HM : Hid (mayRow r = false) := by simp [mayRow, hkb, Hid]
    go_wp2_with (first | (go_at_call 161; refine (Names.key11 _ r.1 _ (HS.out _ HB.out.2).1).mono ?_; rintro e w4 ⟨rfl, hw4⟩; rw [hw4, hkb]; clear hw4) | (go_at_call 55; refine (sure_no _ _).mono ?_; rintro e w5 ⟨rfl, hw5⟩; rw [hw5]; clear hw5; unfold Pan))
    exact ⟨rfl, .inr ⟨HM.out, rfl, HB.out.2⟩⟩
  | true =>
    cases hvb : Names.valueB r.2 with
    | false =>
      have HM : Hid (mayRow r = false) := by simp [mayRow, hvb, Hid]
      go_wp2_with (first | (go_at_call 161; refine (Names.key11 _ r.1 _ (HS.out _ HB.out.2).1).mono ?_; rintro e w4 ⟨rfl, hw4⟩; rw [hw4, hkb]; clear hw4) | (go_at_call 147; refine (Names.value13 _ r.2 _ (HS.out _ HB.out.2).2).mono ?_; rintro e w4 ⟨rfl, hw4⟩; rw [hw4, hvb]; clear hw4) | (go_at_call 55; refine (sure_no _ _).mono ?_; rintro e w5 ⟨rfl, hw5⟩; rw [hw5]; clear hw5; unfold Pan))
      exact ⟨rfl, .inr ⟨HM.out, rfl, HB.out.2⟩⟩
    | true =>
      have HM : Hid (mayRow r = true ∧ r.1.length ≤ 64 ∧ r.2.length ≤ 256) := ⟨by simp [mayRow, hkb, hvb], key_len hkb, by simpa [Names.valueB] using hvb⟩
      go_wp2_with (first | (go_at_call 161; refine (Names.key11 _ r.1 _ (HS.out _ HB.out.2).1).mono ?_; rintro e w4 ⟨rfl, hw4⟩; rw [hw4, hkb]; clear hw4) | (go_at_call 147; refine (Names.value13 _ r.2 _ (HS.out _ HB.out.2).2).mono ?_; rintro e w4 ⟨rfl, hw4⟩; rw [hw4, hvb]; clear hw4) | (go_at_call 55; refine (sure_yes _ _).mono ?_; rintro e w5 ⟨rfl, hw5⟩; rw [hw5]; clear hw5))
      clear c0 c1 hkb hvb
      have HC : Hid (∀ z : World, w1.grownBy z none → z.cell? ⟨w.heap.size, 0, none⟩ = some (.slice ax nx cx) ∧ z.cell? ⟨w.heap.size, 1, none⟩ = some (.slice ay ny cy)) := fun z hz => ⟨(HB.out.1.grown hz (by simp)).cell 0, (HB.out.1.grown hz (by simp)).cell 1⟩
      refine wp_region_noPanic ?_
      refine wp_region_hold 1000 (fun z => w1.grownBy z none) (by kernel_rfl) ?_
      have G0 : Hid (w1.grownBy w1.drew none) := grown_drew _ _
      generalize w1.drew = wd at G0 ⊢
      refine wt (i := 0) (G0.out) rfl rfl (fun wk hk => by obtain ⟨z0, z1⟩ := HC.out wk hk; go_simp; try rfl) ?_
      try simp only [pN]
      refine wt (i := 1) (G0.out) rfl rfl (fun wk hk => by obtain ⟨z0, z1⟩ := HC.out wk hk; go_simp; try rfl) ?_
      try simp only [pN]
      refine wt (i := 3) (G0.out) rfl rfl (fun wk hk => by obtain ⟨z0, z1⟩ := HC.out wk hk; go_simp; try rfl) ?_
      try simp only [pN]
      refine wt (i := 4) (G0.out) rfl rfl (fun wk hk => by obtain ⟨z0, z1⟩ := HC.out wk hk; go_simp; try rfl) ?_
      try simp only [pN]
      refine wpHold_one (i := 2) rfl (by kernel_rfl) (by rfl) (fun K hK => ?_)
      go_wp2_with (go_at_call 121; refine (Wire.bytes8 _ r.1 _ (HS.out _ (grown_trans HB.out.2 G0.out)).1 (by have := HM.out.2.1; omega)).mono ?_)
      rintro e w2 ⟨u1, rfl, ho1, hg2⟩
      have H2 : Hid (Own w2 w.heap.size u1 (bytesForm r.1) ∧ w1.grownBy w2 none) := ⟨own_mono_trans ho1 (grown_refl _ _) (Nat.le_trans HB.out.2.size G0.out.size), grown_trans G0.out hg2⟩
      clear ho1 hg2
      go_wp2_with fail
      refine hK.out _ _ (fun _ => H2.out.2) ?_
      clear hK K
      try simp only [pN]
      refine wpHold_one (i := 5) rfl (by kernel_rfl) (by rfl) (fun K hK => ?_)
      go_wp2_with (go_at_call 121; refine (Wire.bytes8 _ r.2 _ (HS.out _ (grown_trans HB.out.2 H2.out.2)).2 (by have := HM.out.2.2; omega)).mono ?_)
      rintro e w3 ⟨u2, rfl, ho2, hg3⟩
      have H3 : Hid (Own w3 w.heap.size u1 (bytesForm r.1) ∧ Own w3 w.heap.size u2 (bytesForm r.2) ∧ w1.grownBy w3 none) := ⟨H2.out.1.grown hg3, own_mono_trans ho2 (grown_refl _ _) (Nat.le_trans HB.out.2.size H2.out.2.size), grown_trans H2.out.2 hg3⟩
      clear ho2 hg3
      obtain ⟨x1, n1, y1, e1⟩ := slice_of H3.out.1
      obtain ⟨x2, n2, y2, e2⟩ := slice_of H3.out.2.1
      subst e1 e2
      go_wp2_with fail
      refine hK.out _ _ (fun _ => H3.out.2.2) ?_
      clear hK K
      try simp only [pN]
      refine wpHold_one (i := 6) rfl (by kernel_rfl) (by rfl) (fun K hK => ?_)
      go_wp2_with fail
      refine hK.out _ _ (fun _ => grown_trans H3.out.2.2 (World.grownBy_alloc _ _ none)) ?_
      clear hK K
      try simp only [pN]
      refine wpHold_one (i := 7) rfl (by kernel_rfl) (by rfl) (fun K hK => ?_)
      go_wp2_with (go_at_call 104; refine (Wire.join10 _ [bytesForm r.1, bytesForm r.2] _ (Wire.segs_two H3.out.1.seg H3.out.2.1.seg) ?g0).mono ?_)
      case g0 =>
        have h2 := bytesForm_len r.1 (by have := HM.out.2.1; omega)
        have h3 := bytesForm_len r.2 (by have := HM.out.2.2; omega)
        have := HM.out.2
        simp; omega
      rintro e w6 ⟨u4, rfl, ho6, hg6⟩
      have H6 : Hid (Own w6 w.heap.size u4 (rowForm r) ∧ w1.grownBy w6 none) := by
        refine ⟨?_, grown_trans H3.out.2.2 (grown_trans (World.grownBy_alloc _ _ none) hg6)⟩
        have := own_mono_trans (w := w) ho6 (grown_refl _ _) (by have := HB.out.2.size; have := H3.out.2.2.size; simp; omega)
        simpa [rowForm] using this
      clear ho6 hg6
      obtain ⟨x4, n4, y4, e4⟩ := slice_of H6.out.1
      subst e4
      go_wp2_with fail
      refine hK.out _ _ (fun _ => H6.out.2) ?_
      clear hK K
      try simp only [pN]
      refine wt (i := 8) (H6.out.2) rfl rfl (fun wk hk => by obtain ⟨z0, z1⟩ := HC.out wk hk; go_simp; try rfl) ?_
      try simp only [pN]
      refine wpHold_done (by kernel_rfl) ?_
      refine (‹∀ (a : Act) (w : World), Code.wp Tryz.prog _ _ a w → _› _ _ ?_)
      go_wp2_with fail
      go_ret
      exact .inl ⟨HM.out.1, _, rfl, H6.out.1, grown_trans HB.out.2 H6.out.2⟩

theorem nePutRow (w : World) : (binOp .eql 184 (.func (.func 150) #[] #[]) .nilFunc).run Tryz.prog w = .ok (.bool false) w := by kernel_rfl
theorem formsRow_len : ∀ {l : List PRow}, l.all mayRow = true → (l.flatMap rowForm).length ≤ 532 * l.length
  | [], _ => by simp
  | x :: l, h => by
    simp only [List.all_cons, Bool.and_eq_true] at h
    have h1 := rowForm_len h.1
    have h2 := formsRow_len h.2
    simp only [List.flatMap_cons, List.length_append, List.length_cons]
    omega

set_option maxRecDepth 100000 in
set_option maxHeartbeats 4000000 in
theorem put189 (v : Value) (l : List PRow) (w : World) (hv : Rws w v l) (hz : l.length ≤ 64) :
    Calls Tryz.prog 189 #[v, .func (.func 150) #[] #[]] w fun e w' => (l.all mayRow = true ∧ ∃ u, e = .returned (.tuple #[u, .int .i64 0]) ∧ Own w' w.heap.size u (listForm rowForm l) ∧ w.grownBy w' none) ∨ (l.all mayRow = false ∧ e = Pan 2 ∧ w.grownBy w' none) := by
  obtain ⟨ao, n, cap, rfl, hn, hn2, HV⟩ := rws_open hv
  have HN : Hid (l.length = n) := hn
  have q1 := nePutRow
  have hn16 : n ≤ 64 := by omega
  have wu : IntKind.u64.wrap (n : Int) = (n : Int) := by rw [IntKind.wrap_u64]; omega
  clear hv hn hn2 hz
  go_enter Tryz.func189, Tryz.ntmps189
  go_wp2_with (go_at_call 103; refine (Wire.number9_int _ n rfl (by omega) w).mono ?_)
  rintro e w1 ⟨r1, rfl, o1, g1⟩
  have S1 : Hid (Own w1 w.heap.size r1 (Wire.numForm n) ∧ w.grownBy w1 none) := ⟨o1, g1⟩
  clear o1 g1
  go_wp2_with fail
  go_loopw [6, 17] (fun x i wr => ∃ k : Nat, k ≤ n ∧ i = .int .i64 k ∧ Own wr w.heap.size x (Wire.numForm n ++ (l.take k).flatMap rowForm) ∧ w.grownBy wr none ∧ (l.take k).all mayRow = true) (fun _ i _ => n - (intOf i).toNat)
  case atStart => exact ⟨0, by omega, rfl, by simpa using S1.out.1, S1.out.2, by simp⟩
  case round =>
    obtain ⟨k, hk, rfl, hown, hg, hall⟩ := hrel
    by_cases hlt : k < n
    · have hkl : k < l.length := by rw [HN.out]; omega
      obtain ⟨b1, off, kk, x, rfl, h1⟩ := rws_at (HV.out.grown hg) k hkl
      have HE : Hid _ := flatMap_take rowForm l k hkl
      have HA : Hid _ := all_take mayRow l k hkl
      have HF : Hid _ := all_false mayRow l k hkl
      have HL : Hid ((Wire.numForm n ++ (l.take k).flatMap rowForm).length ≤ 2000000) := by
        have h1 := formsRow_len hall
        have h2 := Wire.numForm_len10 n (by omega)
        rw [List.length_take] at h1
        unfold Hid
        rw [List.length_append]; omega
      obtain ⟨o, ho⟩ : ∃ o, o = l[k] := ⟨_, rfl⟩
      rw [← ho] at h1 HE HA HF
      obtain ⟨a0, a1, s0, s1⟩ := h1
      obtain ⟨ax, nx, cx, rfl, _, _, _⟩ := Names.seg_open s0
      obtain ⟨ay, ny, cy, rfl, _, _, _⟩ := Names.seg_open s1
      have i1 : (0 : Int) ≤ (k : Int) := by omega
      have i2 : (k : Int) < (n : Int) := by omega
      have HO : Hid (Own wr w.heap.size u6 (Wire.numForm n ++ (l.take k).flatMap rowForm) ∧ w.grownBy wr none ∧ (l.take k).all mayRow = true) := ⟨hown, hg, hall⟩
      have HS : Hid _ := And.intro s0 s1
      clear ho hown hg hall s0 s1 hkl
      go_wp2_with (go_at_call 150; refine (rowform150 _ _ o _ (HS.out.1.grown (World.grownBy_alloc _ _ none)) (HS.out.2.grown (World.grownBy_alloc _ _ none))).mono ?_)
      rintro e w2 (⟨hok, u, rfl, ho2, hg2⟩ | ⟨hno, rfl, hg2⟩)
      · have S3 : Hid (Own w2 w.heap.size u6 (Wire.numForm n ++ (l.take k).flatMap rowForm) ∧ w.grownBy w2 none ∧ Own w2 w.heap.size u (rowForm o)) := by
          have g3 : wr.grownBy w2 none := grown_trans (World.grownBy_alloc _ _ none) hg2
          refine ⟨HO.out.1.grown g3, grown_trans HO.out.2.1 g3, ho2.mono ?_⟩
          have := HO.out.2.1.size
          simp; omega
        have HB : Hid ((Wire.numForm n ++ (l.take k).flatMap rowForm).length + (rowForm o).length ≤ 140737488355328) := by
          have := rowForm_len hok
          have := HL.out
          unfold Hid; omega
        have HK : Hid (mayRow o = true) := hok
        clear ho2 hg2 hok
        go_wp2_with (at_builtin; refine app22 _ rfl (.tmp 21) (.tmp 24) rfl w.heap.size _ _ _ _ rfl rfl S3.out.1 S3.out.2.2.seg HB.out S3.out.2.1.size ?_; intro v3 w3 o3 g3 l3)
        have S4 : Hid (Own w3 w.heap.size v3 (Wire.numForm n ++ (l.take (k + 1)).flatMap rowForm) ∧ w.grownBy w3 none) := by
          refine ⟨by rw [HE.out, ← List.append_assoc]; exact o3, grown_new S3.out.2.1 g3 (fun x hx => (S3.out.1.lt x hx).1)⟩
        clear o3 g3 l3 S3
        go_wp2_with fail
        go_roundw
        case rel => exact ⟨k + 1, by omega, by go_num, S4.out.1, S4.out.2, by rw [HA.out, HO.out.2.2, HK.out]; rfl⟩
        case measure => simp [intOf]; omega
      · unfold Pan
        go_wp2_with fail
        exact ⟨rfl, .inr ⟨HF.out hno, rfl, grown_trans HO.out.2.1 (grown_trans (World.grownBy_alloc _ _ none) hg2)⟩⟩
    · have e : k = n := by omega
      subst e
      rw [List.take_of_length_le (by rw [HN.out]; omega)] at hown hall
      have S2 : Hid (Own wr w.heap.size u6 (listForm rowForm l) ∧ w.grownBy wr none ∧ l.all mayRow = true) := ⟨by unfold listForm; rw [HN.out]; exact hown, hg, hall⟩
      clear hown hg hall
      go_wp2_with fail
      go_ret2
      exact .inl ⟨S2.out.2.2, _, rfl, S2.out.1, S2.out.2.1⟩

set_option maxRecDepth 100000 in
set_option maxHeartbeats 1000000 in
theorem forms149 (v : Value) (l : List PRow) (w : World) (hv : Rws w v l) (hz : l.length ≤ 64) :
    Calls Tryz.prog 149 #[v, .func (.func 150) #[] #[]] w (FormOr (l.all mayRow) (listForm rowForm l) 2 w) := by
  have HV : Hid (Rws w v l) := hv
  go_enter Tryz.func149, Tryz.ntmps149
  go_wp2_with (go_at_call 189; refine (put189 _ l _ HV.out hz).mono ?_)
  rintro e w1 (⟨hok, u, rfl, ho, hg⟩ | ⟨hno, rfl, hg⟩)
  · have HO : Hid (Own w1 w.heap.size u (listForm rowForm l) ∧ w.grownBy w1 none ∧ l.all mayRow = true) := ⟨ho, hg, hok⟩
    clear ho hg hok
    go_wp2_with (go_at_call 55; refine (sure_yes _ _).mono ?_; rintro e w2 ⟨rfl, hw2⟩; rw [hw2]; clear hw2)
    go_ret
    exact .inl ⟨HO.out.2.2, _, rfl, HO.out.1, HO.out.2.1⟩
  · have HO : Hid (l.all mayRow = false ∧ w.grownBy w1 none) := ⟨hno, hg⟩
    clear hno hg
    unfold Pan
    go_wp2_with fail
    exact ⟨rfl, .inr ⟨HO.out.1, rfl, HO.out.2⟩⟩

end Go.Proofs.YtfocmbnhkldnfaaGreatDoor
/-
  An out's form; a list of outs'.
-/
namespace Go.Proofs.YtfocmbnhkldnfaaGreatDoor
open Go.RowKit Disk
open Names (Str)

theorem outForm_len {o : POut} (h : mayOut o = true) : (outForm o).length ≤ 34400 := by
  simp only [mayOut, Bool.and_eq_true, decide_eq_true_eq] at h
  have h2 : o.value.length ≤ 256 := by simpa [Names.valueB] using h.1.1.1
  have h3 := bytesForm_len o.value (by omega)
  have h4 := formsRow_len h.2
  have h5 := Wire.numForm_len10 o.rows.length (by omega)
  have h6 : (flagForm o.has).length = 1 := by cases o.has <;> rfl
  unfold outForm listForm
  simp only [List.length_append]
  omega

set_option maxRecDepth 100000 in
set_option maxHeartbeats 8000000 in
theorem outform106 (x y : Value) (o : POut) (w : World) (hs : OutSeg w x y o) : Calls Tryz.prog 106 #[.agg #[.bool o.has, x, y]] w (FormOr (mayOut o) (outForm o) 2 w) := by
  obtain ⟨ax, nx, cx, rfl, _, _, _⟩ := Names.seg_open hs.value
  obtain ⟨ay, ny, cy, rfl, hny, _, _⟩ := rws_open hs.rows
  have HS : Hid (∀ z : World, w.grownBy z none → OutSeg z (.slice ax nx cx) (.slice ay ny cy) o) := fun z hz => hs.grown hz
  have HN : Hid (o.rows.length = ny) := hny
  clear hs hny
  go_enter Tryz.func106, Tryz.ntmps106
  go_upto_region 1 with fail
  have hb := heap_alloc_new w (.cells #[.bool o.has, .slice ax nx cx, .slice ay ny cy] 54)
  have hg1 := World.grownBy_alloc w (.cells #[.bool o.has, .slice ax nx cx, .slice ay ny cy] 54) none
  generalize w.alloc (.cells #[.bool o.has, .slice ax nx cx, .slice ay ny cy] 54) = w1 at hb hg1 ⊢
  have HB : Hid (Blk w1 w.heap.size 54 #[.bool o.has, .slice ax nx cx, .slice ay ny cy] ∧ w.grownBy w1 none) := ⟨hb, hg1⟩
  have c0 := HB.out.1.cell 0
  have c1 := HB.out.1.cell 1
  have c2 := HB.out.1.cell 2
  clear hb hg1
  cases hvb : Names.valueB o.value with
  | false =>
    have HM : Hid (mayOut o = false) := by simp [mayOut, hvb, Hid]
    go_wp2_with (first | (go_at_call 147; refine (Names.value13 _ o.value _ (HS.out _ HB.out.2).value).mono ?_; rintro e w4 ⟨rfl, hw4⟩; rw [hw4, hvb]; clear hw4) | (go_at_call 55; refine (sure_no _ _).mono ?_; rintro e w5 ⟨rfl, hw5⟩; rw [hw5]; clear hw5; unfold Pan))
    exact ⟨rfl, .inr ⟨HM.out, rfl, HB.out.2⟩⟩
  | true =>
    by_cases h64 : ny ≤ 64
    · have i64 : (ny : Int) ≤ 64 := by omega
      go_wp2_with (first | (go_at_call 147; refine (Names.value13 _ o.value _ (HS.out _ HB.out.2).value).mono ?_; rintro e w4 ⟨rfl, hw4⟩; rw [hw4, hvb]; clear hw4) | (go_at_call 148; refine (rising148 _ o.rows _ (HS.out _ HB.out.2).rows).mono ?_))
      rintro e w2 ⟨rfl, g2⟩
      cases hrb : riseB o.rows with
      | false =>
        have HM : Hid (mayOut o = false ∧ w.grownBy w2 none) := ⟨by simp [mayOut, hrb], grown_trans HB.out.2 g2⟩
        clear g2
        go_wp2_with (go_at_call 55; refine (sure_no _ _).mono ?_; rintro e w5 ⟨rfl, hw5⟩; rw [hw5]; clear hw5; unfold Pan)
        exact ⟨rfl, .inr ⟨HM.out.1, rfl, HM.out.2⟩⟩
      | true =>
        have HM : Hid (mayOut o = o.rows.all mayRow ∧ o.value.length ≤ 256 ∧ o.rows.length ≤ 64) := ⟨by simp [mayOut, hrb, hvb, HN.out, h64], by simpa [Names.valueB] using hvb, by rw [HN.out]; exact h64⟩
        have HG : Hid (w1.grownBy w2 none) := g2
        clear g2
        go_wp2_with (go_at_call 55; refine (sure_yes _ _).mono ?_; rintro e w5 ⟨rfl, hw5⟩; rw [hw5]; clear hw5)
        clear c0 c1 c2 hvb hrb i64
        have HC : Hid (∀ z : World, w1.grownBy z none → z.cell? ⟨w.heap.size, 0, none⟩ = some (.bool o.has) ∧ z.cell? ⟨w.heap.size, 1, none⟩ = some (.slice ax nx cx) ∧ z.cell? ⟨w.heap.size, 2, none⟩ = some (.slice ay ny cy)) := fun z hz => ⟨(HB.out.1.grown hz (by simp)).cell 0, (HB.out.1.grown hz (by simp)).cell 1, (HB.out.1.grown hz (by simp)).cell 2⟩
        refine wp_region_hold 1000 (fun z => w1.grownBy z none) (by kernel_rfl) ?_
        have G0 : Hid (w1.grownBy w2.drew none) := grown_trans HG.out (grown_drew _ _)
        generalize w2.drew = wd at G0 ⊢
        refine wt (i := 0) (G0.out) rfl rfl (fun wk hk => by obtain ⟨z0, z1, z2⟩ := HC.out wk hk; go_simp; try rfl) ?_
        try simp only [pN]
        refine wt (i := 1) (G0.out) rfl rfl (fun wk hk => by obtain ⟨z0, z1, z2⟩ := HC.out wk hk; go_simp; try rfl) ?_
        try simp only [pN]
        refine wt (i := 3) (G0.out) rfl rfl (fun wk hk => by obtain ⟨z0, z1, z2⟩ := HC.out wk hk; go_simp; try rfl) ?_
        try simp only [pN]
        refine wt (i := 4) (G0.out) rfl rfl (fun wk hk => by obtain ⟨z0, z1, z2⟩ := HC.out wk hk; go_simp; try rfl) ?_
        try simp only [pN]
        refine wt (i := 6) (G0.out) rfl rfl (fun wk hk => by obtain ⟨z0, z1, z2⟩ := HC.out wk hk; go_simp; try rfl) ?_
        try simp only [pN]
        refine wt (i := 7) (G0.out) rfl rfl (fun wk hk => by obtain ⟨z0, z1, z2⟩ := HC.out wk hk; go_simp; try rfl) ?_
        try simp only [pN]
        refine wpHold_one (i := 2) rfl (by kernel_rfl) (by rfl) (fun K hK => ?_)
        go_wp2_with (go_at_call 122; refine (Wire.flag15 _ _).mono ?_)
        rintro e v2 ⟨u1, rfl, ho1, hg2⟩
        have H2 : Hid (Own v2 w.heap.size u1 (flagForm o.has) ∧ w1.grownBy v2 none) := ⟨own_mono_trans ho1 (grown_refl _ _) (Nat.le_trans HB.out.2.size G0.out.size), grown_trans G0.out hg2⟩
        clear ho1 hg2
        go_wp2_with fail
        refine hK.out _ _ (fun _ => H2.out.2) ?_
        clear hK K
        try simp only [pN]
        refine wpHold_one (i := 5) rfl (by kernel_rfl) (by rfl) (fun K hK => ?_)
        go_wp2_with (go_at_call 121; refine (Wire.bytes8 _ o.value _ (HS.out _ (grown_trans HB.out.2 H2.out.2)).value (by have := HM.out.2.1; omega)).mono ?_)
        rintro e v3 ⟨u2, rfl, ho2, hg3⟩
        have H3 : Hid (Own v3 w.heap.size u1 (flagForm o.has) ∧ Own v3 w.heap.size u2 (bytesForm o.value) ∧ w1.grownBy v3 none) := ⟨H2.out.1.grown hg3, own_mono_trans ho2 (grown_refl _ _) (Nat.le_trans HB.out.2.size H2.out.2.size), grown_trans H2.out.2 hg3⟩
        clear ho2 hg3
        go_wp2_with fail
        refine hK.out _ _ (fun _ => H3.out.2.2) ?_
        clear hK K
        try simp only [pN]
        refine wpHold_one (i := 8) rfl (by kernel_rfl) (by rfl) (fun K hK => ?_)
        go_wp2_with (go_at_call 149; refine (forms149 _ o.rows _ (HS.out _ (grown_trans HB.out.2 H3.out.2.2)).rows HM.out.2.2).mono ?_)
        rintro e v4 (⟨hall, u3, rfl, ho3, hg4⟩ | ⟨hall, rfl, hg4⟩)
        rotate_left
        · have HX : Hid (mayOut o = false ∧ w.grownBy v4 none) := ⟨by rw [HM.out.1]; exact hall, grown_trans HB.out.2 (grown_trans H3.out.2.2 hg4)⟩
          clear hall hg4
          unfold Pan
          go_wp2_with fail
          exact ⟨rfl, .inr ⟨HX.out.1, rfl, HX.out.2⟩⟩
        have H4 : Hid (Own v4 w.heap.size u1 (flagForm o.has) ∧ Own v4 w.heap.size u2 (bytesForm o.value) ∧ Own v4 w.heap.size u3 (listForm rowForm o.rows) ∧ w1.grownBy v4 none ∧ o.rows.all mayRow = true) := ⟨H3.out.1.grown hg4, H3.out.2.1.grown hg4, own_mono_trans ho3 (grown_refl _ _) (Nat.le_trans HB.out.2.size H3.out.2.2.size), grown_trans H3.out.2.2 hg4, hall⟩
        clear ho3 hg4 hall
        obtain ⟨x1, n1, y1, e1⟩ := slice_of H4.out.1
        obtain ⟨x2, n2, y2, e2⟩ := slice_of H4.out.2.1
        obtain ⟨x3, n3, y3, e3⟩ := slice_of H4.out.2.2.1
        subst e1 e2 e3
        go_wp2_with fail
        refine hK.out _ _ (fun _ => H4.out.2.2.2.1) ?_
        clear hK K
        try simp only [pN]
        refine wpHold_one (i := 9) rfl (by kernel_rfl) (by rfl) (fun K hK => ?_)
        go_wp2_with fail
        refine hK.out _ _ (fun _ => grown_trans H4.out.2.2.2.1 (World.grownBy_alloc _ _ none)) ?_
        clear hK K
        try simp only [pN]
        refine wpHold_one (i := 10) rfl (by kernel_rfl) (by rfl) (fun K hK => ?_)
        go_wp2_with (go_at_call 104; refine (Wire.join10 _ [flagForm o.has, bytesForm o.value, listForm rowForm o.rows] _ (segs_three H4.out.1.seg H4.out.2.1.seg H4.out.2.2.1.seg) ?g0).mono ?_)
        case g0 =>
          have hm : mayOut o = true := by rw [HM.out.1]; exact H4.out.2.2.2.2
          have := outForm_len hm
          unfold outForm at this
          simp at this ⊢
          omega
        rintro e w6 ⟨u4, rfl, ho6, hg6⟩
        have H6 : Hid (Own w6 w.heap.size u4 (outForm o) ∧ w1.grownBy w6 none ∧ mayOut o = true) := by
          refine ⟨?_, grown_trans H4.out.2.2.2.1 (grown_trans (World.grownBy_alloc _ _ none) hg6), by rw [HM.out.1]; exact H4.out.2.2.2.2⟩
          have := own_mono_trans (w := w) ho6 (grown_refl _ _) (by have := HB.out.2.size; have := H4.out.2.2.2.1.size; simp; omega)
          simpa [outForm] using this
        clear ho6 hg6
        obtain ⟨x4, n4, y4, e4⟩ := slice_of H6.out.1
        subst e4
        go_wp2_with fail
        refine hK.out _ _ (fun _ => H6.out.2.1) ?_
        clear hK K
        try simp only [pN]
        refine wt (i := 11) (H6.out.2.1) rfl rfl (fun wk hk => by obtain ⟨z0, z1, z2⟩ := HC.out wk hk; go_simp; try rfl) ?_
        try simp only [pN]
        refine wpHold_done (by kernel_rfl) ?_
        refine (‹∀ (a : Act) (w : World), Code.wp Tryz.prog _ _ a w → _› _ _ ?_)
        go_wp2_with fail
        go_ret
        exact .inl ⟨H6.out.2.2, _, rfl, H6.out.1, grown_trans HB.out.2 H6.out.2.1⟩
    · have i64 : ¬ (ny : Int) ≤ 64 := by omega
      have i65 : ((ny : Int) ≤ 64) = False := eq_false i64
      have HM : Hid (mayOut o = false) := by simp [mayOut, HN.out, h64, Hid]
      go_wp2_with (first | (go_at_call 147; refine (Names.value13 _ o.value _ (HS.out _ HB.out.2).value).mono ?_; rintro e w4 ⟨rfl, hw4⟩; rw [hw4, hvb]; clear hw4) | (go_at_call 55; refine (sure_no _ _).mono ?_; rintro e w5 ⟨rfl, hw5⟩; rw [hw5]; clear hw5; unfold Pan))
      exact ⟨rfl, .inr ⟨HM.out, rfl, HB.out.2⟩⟩

theorem nePutOut (w : World) : (binOp .eql 146 (.func (.func 106) #[] #[]) .nilFunc).run Tryz.prog w = .ok (.bool false) w := by kernel_rfl
theorem formsOut_len : ∀ {l : List POut}, l.all mayOut = true → (l.flatMap outForm).length ≤ 34400 * l.length
  | [], _ => by simp
  | x :: l, h => by
    simp only [List.all_cons, Bool.and_eq_true] at h
    have h1 := outForm_len h.1
    have h2 := formsOut_len h.2
    simp only [List.flatMap_cons, List.length_append, List.length_cons]
    omega

set_option maxRecDepth 100000 in
set_option maxHeartbeats 4000000 in
theorem put146 (v : Value) (l : List POut) (w : World) (hv : Outs w v l) (hz : l.length ≤ 16) :
    Calls Tryz.prog 146 #[v, .func (.func 106) #[] #[]] w fun e w' => (l.all mayOut = true ∧ ∃ u, e = .returned (.tuple #[u, .int .i64 0]) ∧ Own w' w.heap.size u (listForm outForm l) ∧ w.grownBy w' none) ∨ (l.all mayOut = false ∧ e = Pan 2 ∧ w.grownBy w' none) := by
  obtain ⟨ao, n, cap, rfl, hn, hn2, HV⟩ := outs_open hv
  have HN : Hid (l.length = n) := hn
  have q1 := nePutOut
  have hn16 : n ≤ 16 := by omega
  have wu : IntKind.u64.wrap (n : Int) = (n : Int) := by rw [IntKind.wrap_u64]; omega
  clear hv hn hn2 hz
  go_enter Tryz.func146, Tryz.ntmps146
  go_wp2_with (go_at_call 103; refine (Wire.number9_int _ n rfl (by omega) w).mono ?_)
  rintro e w1 ⟨r1, rfl, o1, g1⟩
  have S1 : Hid (Own w1 w.heap.size r1 (Wire.numForm n) ∧ w.grownBy w1 none) := ⟨o1, g1⟩
  clear o1 g1
  go_wp2_with fail
  go_loopw [6, 17] (fun x i wr => ∃ k : Nat, k ≤ n ∧ i = .int .i64 k ∧ Own wr w.heap.size x (Wire.numForm n ++ (l.take k).flatMap outForm) ∧ w.grownBy wr none ∧ (l.take k).all mayOut = true) (fun _ i _ => n - (intOf i).toNat)
  case atStart => exact ⟨0, by omega, rfl, by simpa using S1.out.1, S1.out.2, by simp⟩
  case round =>
    obtain ⟨k, hk, rfl, hown, hg, hall⟩ := hrel
    by_cases hlt : k < n
    · have hkl : k < l.length := by rw [HN.out]; omega
      obtain ⟨b1, off, kk, x, rfl, h1, s1⟩ := outs_at (HV.out.grown hg) k hkl
      have HE : Hid _ := flatMap_take outForm l k hkl
      have HA : Hid _ := all_take mayOut l k hkl
      have HF : Hid _ := all_false mayOut l k hkl
      have HL : Hid ((Wire.numForm n ++ (l.take k).flatMap outForm).length ≤ 2000000) := by
        have h1 := formsOut_len hall
        have h2 := Wire.numForm_len10 n (by omega)
        rw [List.length_take] at h1
        unfold Hid
        rw [List.length_append]; omega
      obtain ⟨o, ho⟩ : ∃ o, o = l[k] := ⟨_, rfl⟩
      rw [← ho] at h1 s1 HE HA HF
      obtain ⟨_, _, _, _, rfl, rfl⟩ := s1.shapes
      obtain ⟨a0, a1, a2⟩ := h1
      have i1 : (0 : Int) ≤ (k : Int) := by omega
      have i2 : (k : Int) < (n : Int) := by omega
      have HO : Hid (Own wr w.heap.size u6 (Wire.numForm n ++ (l.take k).flatMap outForm) ∧ w.grownBy wr none ∧ (l.take k).all mayOut = true) := ⟨hown, hg, hall⟩
      have HS : Hid _ := s1
      clear ho hown hg hall s1 hkl
      go_wp2_with (go_at_call 106; refine (outform106 _ _ o _ (OutSeg.grown HS.out (World.grownBy_alloc _ _ none))).mono ?_)
      rintro e w2 (⟨hok, u, rfl, ho2, hg2⟩ | ⟨hno, rfl, hg2⟩)
      · have S3 : Hid (Own w2 w.heap.size u6 (Wire.numForm n ++ (l.take k).flatMap outForm) ∧ w.grownBy w2 none ∧ Own w2 w.heap.size u (outForm o)) := by
          have g3 : wr.grownBy w2 none := grown_trans (World.grownBy_alloc _ _ none) hg2
          refine ⟨HO.out.1.grown g3, grown_trans HO.out.2.1 g3, ho2.mono ?_⟩
          have := HO.out.2.1.size
          simp; omega
        have HB : Hid ((Wire.numForm n ++ (l.take k).flatMap outForm).length + (outForm o).length ≤ 140737488355328) := by
          have := outForm_len hok
          have := HL.out
          unfold Hid; omega
        have HK : Hid (mayOut o = true) := hok
        clear ho2 hg2 hok
        go_wp2_with (at_builtin; refine app22 _ rfl (.tmp 21) (.tmp 24) rfl w.heap.size _ _ _ _ rfl rfl S3.out.1 S3.out.2.2.seg HB.out S3.out.2.1.size ?_; intro v3 w3 o3 g3 l3)
        have S4 : Hid (Own w3 w.heap.size v3 (Wire.numForm n ++ (l.take (k + 1)).flatMap outForm) ∧ w.grownBy w3 none) := by
          refine ⟨by rw [HE.out, ← List.append_assoc]; exact o3, grown_new S3.out.2.1 g3 (fun x hx => (S3.out.1.lt x hx).1)⟩
        clear o3 g3 l3 S3
        go_wp2_with fail
        go_roundw
        case rel => exact ⟨k + 1, by omega, by go_num, S4.out.1, S4.out.2, by rw [HA.out, HO.out.2.2, HK.out]; rfl⟩
        case measure => simp [intOf]; omega
      · unfold Pan
        go_wp2_with fail
        exact ⟨rfl, .inr ⟨HF.out hno, rfl, grown_trans HO.out.2.1 (grown_trans (World.grownBy_alloc _ _ none) hg2)⟩⟩
    · have e : k = n := by omega
      subst e
      rw [List.take_of_length_le (by rw [HN.out]; omega)] at hown hall
      have S2 : Hid (Own wr w.heap.size u6 (listForm outForm l) ∧ w.grownBy wr none ∧ l.all mayOut = true) := ⟨by unfold listForm; rw [HN.out]; exact hown, hg, hall⟩
      clear hown hg hall
      go_wp2_with fail
      go_ret2
      exact .inl ⟨S2.out.2.2, _, rfl, S2.out.1, S2.out.2.1⟩

set_option maxRecDepth 100000 in
set_option maxHeartbeats 1000000 in
theorem forms105 (v : Value) (l : List POut) (w : World) (hv : Outs w v l) (hz : l.length ≤ 16) :
    Calls Tryz.prog 105 #[v, .func (.func 106) #[] #[]] w (FormOr (l.all mayOut) (listForm outForm l) 2 w) := by
  have HV : Hid (Outs w v l) := hv
  go_enter Tryz.func105, Tryz.ntmps105
  go_wp2_with (go_at_call 146; refine (put146 _ l _ HV.out hz).mono ?_)
  rintro e w1 (⟨hok, u, rfl, ho, hg⟩ | ⟨hno, rfl, hg⟩)
  · have HO : Hid (Own w1 w.heap.size u (listForm outForm l) ∧ w.grownBy w1 none ∧ l.all mayOut = true) := ⟨ho, hg, hok⟩
    clear ho hg hok
    go_wp2_with (go_at_call 55; refine (sure_yes _ _).mono ?_; rintro e w2 ⟨rfl, hw2⟩; rw [hw2]; clear hw2)
    go_ret
    exact .inl ⟨HO.out.2.2, _, rfl, HO.out.1, HO.out.2.1⟩
  · have HO : Hid (l.all mayOut = false ∧ w.grownBy w1 none) := ⟨hno, hg⟩
    clear hno hg
    unfold Pan
    go_wp2_with fail
    exact ⟨rfl, .inr ⟨HO.out.1, rfl, HO.out.2⟩⟩

end Go.Proofs.YtfocmbnhkldnfaaGreatDoor
/-
  A result's form: Result.
-/
namespace Go.Proofs.YtfocmbnhkldnfaaGreatDoor
open Go.RowKit Disk
open Names (Str)

theorem listOut_len {l : List POut} (h : l.all mayOut = true) (hl : l.length ≤ 16) : (listForm outForm l).length ≤ 600000 := by
  have h1 := formsOut_len h
  have h2 := Wire.numForm_len10 l.length (by omega)
  unfold listForm
  rw [List.length_append]
  omega

set_option maxRecDepth 100000 in
set_option maxHeartbeats 8000000 in
theorem form59_none (pl : Int) (v : Value) (l : List POut) (w : World) (hv : Outs w v l) :
    Calls Tryz.prog 59 #[.agg #[.int .i64 0, .int .i64 pl, v]] w (FormOr (mayRes ⟨0, pl, l⟩) (resForm ⟨0, pl, l⟩) 2 w) := by
  obtain ⟨ao, n, cap, rfl, hn, hn2, HV⟩ := outs_open hv
  have HN : Hid (l.length = n) := hn
  clear hv hn
  go_enter Tryz.func59, Tryz.ntmps59
  go_wp2_with (go_at_call 103; refine (Wire.number9_int _ 0 rfl (by decide) _).mono ?_)
  rintro e w1 ⟨u1, rfl, ho1, hg1⟩
  have ho1' : Own w1 _ u1 _ := ho1
  have hb : Blk w1 w.heap.size 51 _ := Blk.grown (heap_alloc_new w _) hg1 (by simp)
  have c0 := hb.cell 0
  have c1 := hb.cell 1
  have c2 := hb.cell 2
  obtain ⟨x1, n1, y1, rfl⟩ := slice_of ho1'
  have H1 : Hid (Own w1 w.heap.size (.slice x1 n1 y1) (Wire.numForm 0) ∧ w.grownBy w1 none) := ⟨ho1'.mono (by simp), grown_trans (World.grownBy_alloc _ _ none) hg1⟩
  clear ho1 ho1' hg1 hb
  by_cases hp : pl = 0
  · subst hp
    by_cases h1 : 1 ≤ n
    · have i1 : (1 : Int) ≤ (n : Int) := by omega
      by_cases h16 : n ≤ 16
      · have i2 : (n : Int) ≤ 16 := by omega
        go_wp2_with (first | (go_at_call 55; refine (sure_yes _ _).mono ?_; rintro e w2 ⟨rfl, hw2⟩; rw [hw2]; clear hw2) | (go_at_call 105; refine (forms105 _ l _ (HV.out.grown H1.out.2) (by rw [HN.out]; exact h16)).mono ?_))
        rintro e w2 (⟨hall, u2, rfl, ho2, hg2⟩ | ⟨hall, rfl, hg2⟩)
        · have H2 : Hid (Own w2 w.heap.size (.slice x1 n1 y1) (Wire.numForm 0) ∧ Own w2 w.heap.size u2 (listForm outForm l) ∧ w.grownBy w2 none ∧ l.all mayOut = true) := ⟨H1.out.1.grown hg2, ho2.mono H1.out.2.size, grown_trans H1.out.2 hg2, hall⟩
          clear ho2 hg2 hall
          obtain ⟨x2, n2, y2, rfl⟩ := slice_of H2.out.2.1
          go_wp2_with (go_at_call 104; refine (Wire.join10 _ _ _ (Wire.segs_two H2.out.1.seg H2.out.2.1.seg) ?g1).mono ?_)
          case g1 =>
            have q1 := listOut_len H2.out.2.2.2 (by rw [HN.out]; exact h16)
            have q2 := Wire.numForm_len10 0 (by decide)
            simp; omega
          rintro e w3 ⟨u3, rfl, ho3, hg3⟩
          have H3 : Hid (Own w3 w.heap.size u3 (resForm ⟨0, 0, l⟩) ∧ w.grownBy w3 none ∧ mayRes ⟨0, 0, l⟩ = true) := by
            refine ⟨?_, grown_trans H2.out.2.2.1 (grown_trans (World.grownBy_alloc _ _ none) hg3), ?_⟩
            · have := own_mono_trans (w := w) ho3 (grown_refl _ _) (by have := H2.out.2.2.1.size; simp; omega)
              simpa [resForm] using this
            · simp only [mayRes, if_true, Bool.and_eq_true, decide_eq_true_eq]
              exact ⟨⟨⟨trivial, by rw [HN.out]; exact h1⟩, by rw [HN.out]; exact h16⟩, H2.out.2.2.2⟩
          clear ho3 hg3
          go_wp2_with fail
          go_ret
          exact .inl ⟨H3.out.2.2, _, rfl, H3.out.1, H3.out.2.1⟩
        · have HX : Hid (mayRes ⟨0, 0, l⟩ = false ∧ w.grownBy w2 none) := ⟨by simp [mayRes, hall], grown_trans H1.out.2 hg2⟩
          clear hall hg2
          unfold Pan
          go_wp2_with fail
          exact ⟨rfl, .inr ⟨HX.out.1, rfl, HX.out.2⟩⟩
      · have i2 : ¬ (n : Int) ≤ 16 := by omega
        have i3 : ((n : Int) ≤ 16) = False := eq_false i2
        have HX : Hid (mayRes ⟨0, 0, l⟩ = false) := by simp [mayRes, HN.out, h16, Hid]
        go_wp2_with (first | (go_at_call 55; refine (sure_no _ _).mono ?_; rintro e w2 ⟨rfl, hw2⟩; rw [hw2]; clear hw2; unfold Pan))
        exact ⟨rfl, .inr ⟨HX.out, rfl, H1.out.2⟩⟩
    · have i1 : ((1 : Int) ≤ (n : Int)) = False := eq_false (by omega)
      have HX : Hid (mayRes ⟨0, 0, l⟩ = false) := by
        have : l = [] := List.eq_nil_of_length_eq_zero (by rw [HN.out]; omega)
        simp [mayRes, this, Hid]
      have hn0 : n = 0 := by omega
      subst hn0
      go_wp2_with (first | (go_at_call 55; refine (sure_no _ _).mono ?_; rintro e w2 ⟨rfl, hw2⟩; rw [hw2]; clear hw2; unfold Pan))
      exact ⟨rfl, .inr ⟨HX.out, rfl, H1.out.2⟩⟩
  · have HX : Hid (mayRes ⟨0, pl, l⟩ = false) := by simp [mayRes, hp, Hid]
    go_wp2_with (first | (go_at_call 55; refine (sure_no _ _).mono ?_; rintro e w2 ⟨rfl, hw2⟩; rw [hw2]; clear hw2; unfold Pan))
    exact ⟨rfl, .inr ⟨HX.out, rfl, H1.out.2⟩⟩

set_option maxRecDepth 100000 in
set_option maxHeartbeats 8000000 in
theorem form59_why (ab pl : Int) (v : Value) (l : List POut) (w : World) (ha : ab = 1 ∨ ab = 2 ∨ ab = 3) (hv : Outs w v l) :
    Calls Tryz.prog 59 #[.agg #[.int .i64 ab, .int .i64 pl, v]] w (FormOr (mayRes ⟨ab, pl, l⟩) (resForm ⟨ab, pl, l⟩) 2 w) := by
  obtain ⟨ao, n, cap, rfl, hn, hn2, HV⟩ := outs_open hv
  have HN : Hid (l.length = n ∧ ab ≠ 0 ∧ 1 ≤ ab ∧ ab ≤ 3) := ⟨hn, by omega, by omega, by omega⟩
  obtain ⟨m, hm⟩ : ∃ m : Nat, m = ab.toNat := ⟨_, rfl⟩
  have hm2 : ab = (m : Int) := by omega
  have HM : Hid (m < 10 ∧ ab = (m : Int) ∧ m = ab.toNat) := ⟨by omega, hm2, hm⟩
  clear hm hm2 hv hn
  by_cases hok : 0 ≤ pl ∧ pl < 16 ∧ n = 0
  · obtain ⟨h0, h1, rfl⟩ := hok
    have wu : IntKind.u64.wrap pl = pl := by rw [IntKind.wrap_u64]; omega
    have HX : Hid (mayRes ⟨ab, pl, l⟩ = true) := by
      simp only [mayRes, if_neg HN.out.2.1, Bool.and_eq_true, decide_eq_true_eq]
      exact ⟨⟨⟨⟨HN.out.2.2.1, HN.out.2.2.2⟩, h0⟩, h1⟩, HN.out.1⟩
    have HR : Hid (resForm ⟨ab, pl, l⟩ = Wire.numForm m ++ Wire.numForm pl.toNat) := by simp [resForm, HN.out.2.1, HM.out.2.2, Hid]
    obtain ⟨M, hM⟩ : ∃ M, mayRes ⟨ab, pl, l⟩ = M := ⟨_, rfl⟩
    obtain ⟨F, hF⟩ : ∃ M, resForm ⟨ab, pl, l⟩ = M := ⟨_, rfl⟩
    rw [hM, hF]
    rw [hM] at HX
    rw [hF] at HR
    clear hM hF
    rcases ha with rfl | rfl | rfl
    all_goals (
      go_enter Tryz.func59, Tryz.ntmps59
      go_wp2_with (go_at_call 103; refine (Wire.number9_int _ m (by first | exact HM.out.2.1 | (have := HM.out.2.1; simp [IntKind.wrap_u64]; omega)) (by have := HM.out.1; omega) _).mono ?_)
      rintro e w1 ⟨u1, rfl, ho1, hg1⟩
      have ho1' : Own w1 _ u1 _ := ho1
      have hb : Blk w1 w.heap.size 51 _ := Blk.grown (heap_alloc_new w _) hg1 (by simp)
      have c0 := hb.cell 0
      have c1 := hb.cell 1
      have c2 := hb.cell 2
      obtain ⟨x1, n1, y1, rfl⟩ := slice_of ho1'
      have H1 : Hid (Own w1 w.heap.size (.slice x1 n1 y1) (Wire.numForm m) ∧ w.grownBy w1 none) := ⟨ho1'.mono (by simp), grown_trans (World.grownBy_alloc _ _ none) hg1⟩
      clear ho1 ho1' hg1 hb
      go_wp2_with (first | (go_at_call 55; refine (sure_yes _ _).mono ?_; rintro e w2 ⟨rfl, hw2⟩; rw [hw2]; clear hw2) | (go_at_call 103; refine (Wire.number9_int _ pl.toNat (by first | omega | (rw [wu]; omega)) (by omega) _).mono ?_))
      rintro e w2 ⟨u2, rfl, ho2, hg2⟩
      have ho2' : Own w2 _ u2 _ := ho2
      obtain ⟨x2, n2, y2, rfl⟩ := slice_of ho2'
      have H2 : Hid (Own w2 w.heap.size (.slice x1 n1 y1) (Wire.numForm m) ∧ Own w2 w.heap.size (.slice x2 n2 y2) (Wire.numForm pl.toNat) ∧ w.grownBy w2 none) := ⟨H1.out.1.grown hg2, ho2'.mono H1.out.2.size, grown_trans H1.out.2 hg2⟩
      clear ho2 ho2' hg2
      go_wp2_with (go_at_call 104; refine (Wire.join10 _ _ _ (Wire.segs_two H2.out.1.seg H2.out.2.1.seg) ?g1).mono ?_)
      case g1 =>
        have q1 := Wire.numForm_len10 pl.toNat (by omega)
        have q2 := Wire.numForm_len10 m (by have := HM.out.1; omega)
        simp; omega
      rintro e w3 ⟨u3, rfl, ho3, hg3⟩
      have H3 : Hid (Own w3 w.heap.size u3 F ∧ w.grownBy w3 none) := by
        refine ⟨?_, grown_trans H2.out.2.2 (grown_trans (World.grownBy_alloc _ _ none) hg3)⟩
        have := own_mono_trans (w := w) ho3 (grown_refl _ _) (by have := H2.out.2.2.size; simp; omega)
        rw [HR.out]
        simpa using this
      clear ho3 hg3
      go_wp2_with fail
      go_ret
      exact .inl ⟨HX.out, _, rfl, H3.out.1, H3.out.2⟩)
  · have HX : Hid (mayRes ⟨ab, pl, l⟩ = false) := by
      cases hm : mayRes ⟨ab, pl, l⟩ with
      | false => rfl
      | true =>
        simp only [mayRes, if_neg HN.out.2.1, Bool.and_eq_true, decide_eq_true_eq] at hm
        exact absurd ⟨hm.1.1.2, hm.1.2, by rw [← HN.out.1]; exact hm.2⟩ hok
    obtain ⟨M, hM⟩ : ∃ M, mayRes ⟨ab, pl, l⟩ = M := ⟨_, rfl⟩
    obtain ⟨F, hF⟩ : ∃ M, resForm ⟨ab, pl, l⟩ = M := ⟨_, rfl⟩
    rw [hM, hF]
    rw [hM] at HX
    clear hM hF
    have hcase : (pl < 0) ∨ (0 ≤ pl ∧ 16 ≤ pl) ∨ (0 ≤ pl ∧ pl < 16 ∧ n ≠ 0) := by omega
    clear hok
    rcases ha with rfl | rfl | rfl
    all_goals (
      rcases hcase with h | ⟨h, h'⟩ | ⟨h, h', h''⟩
      · have i0 : ((0 : Int) ≤ pl) = False := eq_false (by omega)
        go_enter Tryz.func59, Tryz.ntmps59
        go_wp2_with (go_at_call 103; refine (Wire.number9_int _ m (by first | exact HM.out.2.1 | (have := HM.out.2.1; simp [IntKind.wrap_u64]; omega)) (by have := HM.out.1; omega) _).mono ?_)
        rintro e w1 ⟨u1, rfl, ho1, hg1⟩
        have hb : Blk w1 w.heap.size 51 _ := Blk.grown (heap_alloc_new w _) hg1 (by simp)
        have c0 := hb.cell 0
        have c1 := hb.cell 1
        have c2 := hb.cell 2
        have H1 : Hid (w.grownBy w1 none) := grown_trans (World.grownBy_alloc _ _ none) hg1
        clear ho1 hg1 hb
        go_wp2_with (first | (go_at_call 55; refine (sure_no _ _).mono ?_; rintro e w2 ⟨rfl, hw2⟩; rw [hw2]; clear hw2; unfold Pan))
        exact ⟨rfl, .inr ⟨HX.out, rfl, H1.out⟩⟩
      · have i0 : (pl < (16 : Int)) = False := eq_false (by omega)
        go_enter Tryz.func59, Tryz.ntmps59
        go_wp2_with (go_at_call 103; refine (Wire.number9_int _ m (by first | exact HM.out.2.1 | (have := HM.out.2.1; simp [IntKind.wrap_u64]; omega)) (by have := HM.out.1; omega) _).mono ?_)
        rintro e w1 ⟨u1, rfl, ho1, hg1⟩
        have hb : Blk w1 w.heap.size 51 _ := Blk.grown (heap_alloc_new w _) hg1 (by simp)
        have c0 := hb.cell 0
        have c1 := hb.cell 1
        have c2 := hb.cell 2
        have H1 : Hid (w.grownBy w1 none) := grown_trans (World.grownBy_alloc _ _ none) hg1
        clear ho1 hg1 hb
        go_wp2_with (first | (go_at_call 55; refine (sure_no _ _).mono ?_; rintro e w2 ⟨rfl, hw2⟩; rw [hw2]; clear hw2; unfold Pan))
        exact ⟨rfl, .inr ⟨HX.out, rfl, H1.out⟩⟩
      · have i0 : ((n : Int) == 0) = false := by simp; omega
        have i2 : (n == 0) = false := by simp; omega
        have i3 : (n = 0) = False := eq_false h''
        clear h''
        go_enter Tryz.func59, Tryz.ntmps59
        go_wp2_with (go_at_call 103; refine (Wire.number9_int _ m (by first | exact HM.out.2.1 | (have := HM.out.2.1; simp [IntKind.wrap_u64]; omega)) (by have := HM.out.1; omega) _).mono ?_)
        rintro e w1 ⟨u1, rfl, ho1, hg1⟩
        have hb : Blk w1 w.heap.size 51 _ := Blk.grown (heap_alloc_new w _) hg1 (by simp)
        have c0 := hb.cell 0
        have c1 := hb.cell 1
        have c2 := hb.cell 2
        have H1 : Hid (w.grownBy w1 none) := grown_trans (World.grownBy_alloc _ _ none) hg1
        clear ho1 hg1 hb
        go_wp2_with (first | (go_at_call 55; refine (sure_no _ _).mono ?_; rintro e w2 ⟨rfl, hw2⟩; rw [hw2]; clear hw2; unfold Pan))
        exact ⟨rfl, .inr ⟨HX.out, rfl, H1.out⟩⟩)

set_option maxRecDepth 100000 in
set_option maxHeartbeats 8000000 in
theorem form59_no (ab pl : Int) (v : Value) (l : List POut) (w : World) (h0 : ¬ ab = 0) (h1 : ¬ ab = 1) (h2 : ¬ ab = 2) (h3 : ¬ ab = 3) (hv : Outs w v l) :
    Calls Tryz.prog 59 #[.agg #[.int .i64 ab, .int .i64 pl, v]] w (FormOr (mayRes ⟨ab, pl, l⟩) (resForm ⟨ab, pl, l⟩) 2 w) := by
  obtain ⟨ao, n, cap, rfl, hn, hn2, HV⟩ := outs_open hv
  have HX : Hid (mayRes ⟨ab, pl, l⟩ = false) := by
    cases hm : mayRes ⟨ab, pl, l⟩ with
    | false => rfl
    | true =>
      simp only [mayRes, if_neg h0, Bool.and_eq_true, decide_eq_true_eq] at hm
      omega
  obtain ⟨m, hm⟩ : ∃ m : Nat, IntKind.u64.wrap ab = (m : Int) ∧ m < 2 ^ 64 := by
    refine ⟨(IntKind.u64.wrap ab).toNat, ?_⟩
    rw [IntKind.wrap_u64]
    omega
  have HM : Hid (IntKind.u64.wrap ab = (m : Int) ∧ m < 2 ^ 64) := hm
  clear hm hv hn
  go_enter Tryz.func59, Tryz.ntmps59
  go_wp2_with (go_at_call 103; refine (Wire.number9_int _ m HM.out.1 HM.out.2 _).mono ?_)
  rintro e w1 ⟨u1, rfl, ho1, hg1⟩
  have hb : Blk w1 w.heap.size 51 _ := Blk.grown (heap_alloc_new w _) hg1 (by simp)
  have c0 := hb.cell 0
  have c1 := hb.cell 1
  have c2 := hb.cell 2
  have H1 : Hid (w.grownBy w1 none) := grown_trans (World.grownBy_alloc _ _ none) hg1
  clear ho1 hg1 hb
  go_wp2_with fail
  exact ⟨rfl, .inr ⟨HX.out, rfl, H1.out⟩⟩

/-- The form of a result, or it is given up. -/
theorem form59 (v : Value) (r : PRes) (w : World) (hv : Outs w v r.outs) : Calls Tryz.prog 59 #[.agg #[.int .i64 r.abort, .int .i64 r.place, v]] w (FormOr (mayRes r) (resForm r) 2 w) := by
  obtain ⟨ab, pl, l⟩ := r
  by_cases h0 : ab = 0
  · subst h0
    exact form59_none pl v l w hv
  · by_cases h1 : ab = 1 ∨ ab = 2 ∨ ab = 3
    · exact form59_why ab pl v l w h1 hv
    · exact form59_no ab pl v l w h0 (by omega) (by omega) (by omega) hv

set_option maxRecDepth 100000 in
set_option maxHeartbeats 4000000 in
theorem result58 (b : Nat) (v : Value) (r : PRes) (w : World) (hv : Outs w v r.outs) (hb : Blk w b 51 #[.int .i64 r.abort, .int .i64 r.place, v]) :
    Calls Tryz.prog 58 #[.pointer (some ⟨b, 0, none⟩)] w (Within w (fun u w' => mayRes r = true ∧ Own w' w.heap.size u (resForm r)) (fun c _ => mayRes r = false ∧ c = 2)) := by
  obtain ⟨ao, n, cap, rfl, hn, hn2, HV⟩ := outs_open hv
  have c0 := hb.cell 0
  have c1 := hb.cell 1
  have c2 := hb.cell 2
  clear hb hv hn
  go_enter Tryz.func58, Tryz.ntmps58
  go_wp2_with (go_at_call 59; refine (form59 _ r _ HV.out).mono ?_)
  rintro e w1 (⟨hm, u, rfl, ho, hg⟩ | ⟨hm, rfl, hg⟩)
  · have H : Hid (mayRes r = true ∧ Own w1 w.heap.size u (resForm r) ∧ w.grownBy w1 none) := ⟨hm, ho, hg⟩
    clear hm ho hg
    go_wp2_with fail
    go_ret
    exact .inl ⟨_, rfl, ⟨H.out.1, H.out.2.1⟩, H.out.2.2⟩
  · have H : Hid (mayRes r = false ∧ w.grownBy w1 none) := ⟨hm, hg⟩
    clear hm hg
    unfold Pan
    go_wp2_with fail
    exact ⟨rfl, .inr ⟨2, rfl, ⟨H.out.1, rfl⟩, H.out.2⟩⟩

/-- Result: the form, or an error. -/
def ResPost (r : PRes) (w : World) (e : Ending) (w' : World) : Prop := (mayRes r = true ∧ ∃ u, e = .returned (.tuple #[u, .int .i64 0]) ∧ Own w' w.heap.size u (resForm r) ∧ w.grownBy w' none) ∨ (mayRes r = false ∧ e = .returned (.tuple #[.slice none 0 0, .int .i64 2]) ∧ w.grownBy w' none)

set_option maxRecDepth 100000 in
set_option maxHeartbeats 4000000 in
theorem result27 (v : Value) (r : PRes) (w : World) (hv : Outs w v r.outs) : Calls Tryz.prog 27 #[.agg #[.int .i64 r.abort, .int .i64 r.place, v]] w (ResPost r w) := by
  obtain ⟨ao, n, cap, rfl, hn, hn2, HV⟩ := outs_open hv
  have hmf : ∀ (fn : Fn) (first cap : Array Value) (w : World), (Instr.makeFunc fn first cap).run Tryz.prog w = .ok (.func fn first cap) w := fun _ _ _ _ => rfl
  have hin := result58 w.heap.size (.slice ao n cap) r ((w.alloc (.cells #[.int .i64 r.abort, .int .i64 r.place, .slice ao n cap] 51)).alloc (.cells #[.int .i64 0] 30)) (hv.grown (grown_trans (World.grownBy_alloc _ _ none) (World.grownBy_alloc _ _ none))) (Blk.grown (heap_alloc_new w _) (World.grownBy_alloc _ _ none) (by simp))
  have HF : Hid _ := face57_58 _ _ _ _ hin
  clear hin hv hn
  go_enter Tryz.func27, Tryz.ntmps27
  go_wp2_with (go_at_call 57; refine Calls.mono HF.out ?_)
  rintro e w1 ⟨(⟨u, w2, rfl, ⟨hm, ho⟩, hl⟩ | ⟨c, w2, rfl, ⟨hm, rfl⟩, hl⟩), hg⟩
  · have HO : Hid (mayRes r = true ∧ Own w1 w.heap.size u (resForm r) ∧ w.grownBy w1 none) := ⟨hm, own_later (ho.mono (B' := w.heap.size) (by simp; omega)) hl, grown_trans (World.grownBy_alloc _ _ none) hg⟩
    clear hm ho hl hg HF
    go_wp2_with fail
    go_ret2
    exact .inl ⟨HO.out.1, _, rfl, HO.out.2.1, HO.out.2.2⟩
  · have HO : Hid (mayRes r = false ∧ w.grownBy w1 none) := ⟨hm, grown_trans (World.grownBy_alloc _ _ none) hg⟩
    clear hm hl hg HF
    go_wp2_with fail
    go_ret2
    exact .inr ⟨HO.out.1, rfl, HO.out.2⟩
end Go.Proofs.YtfocmbnhkldnfaaGreatDoor
