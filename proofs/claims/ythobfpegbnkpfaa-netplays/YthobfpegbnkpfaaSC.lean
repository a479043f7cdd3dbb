/-
  Things taken, lost, sent once more; what is on the way copied.
-/
import Derived.Test.YthobfpegbnkpfaaSB
import Derived.Test.YthobfpegbnkpfaaNb
namespace Go.Proofs.Ythobfpegbnkpfaa.S
open Go.RowKit Disk

theorem utW : Try.prog.underlying 56 = some (.slice 59) := by kernel_rfl
theorem szP (w : World) : (sizeOf 59).run Try.prog w = .ok 1 w := by kernel_rfl
theorem zvP (w : World) : (zeroValue 59).run Try.prog w = .ok (.pointer none) w := by kernel_rfl
theorem eqlW : ∀ (w : World) (a : Option Addr) (n c n' c' : Nat), (binOp .eql 56 (.slice a n c) (.slice none n' c')).run Try.prog w = .ok (.bool a.isNone) w := fun w a n c n' c' => Lib.run_eql_slice_nil w 56 59 a n c n' c' utW

set_option maxRecDepth 100000 in
set_option maxHeartbeats 1000000 in
theorem clone_way (B : Nat) (v : Value) (q : List Pcl) (w : World) (h : Way w B v q) (hl : q.length ≤ 65536) : Calls Try.prog 42 #[v] w fun e w' => ∃ u, e = .returned u ∧ Way w' w.heap.size u q ∧ w.grownBy w' none := by
  have e1 := eqlW
  have HQ : Hid (Way w B v q ∧ q.length ≤ 65536) := ⟨h, hl⟩
  rcases h.row.shape with ⟨rfl, hq⟩ | ⟨g, cap, C, rfl, _⟩
  · rw [List.map_eq_nil_iff] at hq
    subst hq
    clear h
    go_enter Try.func42, Try.ntmps42
    go_wp2_with fail
    go_ret
    exact ⟨_, rfl, Way.nil _ _, grown_refl _ _⟩
  · clear h
    go_enter Try.func42, Try.ntmps42
    go_wp2_with (at_builtin; refine appR 56 59 8 _ rfl infoP rfl _ rfl _ _ rfl w.heap.size _ [] _ (q.map pv) rfl rfl (row_made 59 w) (HQ.out.1.row.rd.grown (World.grownBy_alloc _ _ _)) (pvs_one q) ?c0 ?c1 ?c2 ?_)
    case c0 => have := HQ.out.2; simp; omega
    case c1 => have := HQ.out.2; unfold maxLen; simp; omega
    case c2 => simp
    intro v' w1 hr hg hv
    have H1 : Hid (Way w1 w.heap.size v' q ∧ w.grownBy w1 none) := by
      have g1 : w.grownBy w1 none := grown_new (World.grownBy_alloc w _ none) hg (by intro x hx; simp [Value.ownBlock] at hx; omega)
      exact ⟨⟨hr, fun a ha => (HQ.out.1.par a ha).grown g1 (by simp)⟩, g1⟩
    clear hr hg hv
    go_wp2_with fail
    go_ret
    exact ⟨_, rfl, H1.out⟩

set_option maxRecDepth 100000 in
set_option maxHeartbeats 400000 in
theorem now_yes (b B : Nat) (v : Value) (q : List Pcl) (s : Int) (w : World) (h : Net w b B v q s) : Calls Try.prog 33 #[.pointer (some ⟨b, 0, none⟩)] w fun e w' => ∃ u, e = .returned u ∧ Way w' w.heap.size u q ∧ w.grownBy w' none := by
  have HN : Hid (Net w b B v q s) := h
  have c1 := h.blk.cell 1
  simp at c1
  clear h
  go_enter Try.func33, Try.ntmps33
  go_wp2_with fail
  refine (there_yes b _ _ true w HN.out.blk).mono ?_
  rintro e w1 ⟨rfl, rfl⟩
  go_wp2_with fail
  refine (clone_way B v q w1 HN.out.way HN.out.len).mono ?_
  rintro e w2 ⟨u, rfl, hw, hg⟩
  have H2 : Hid (Way w2 w1.heap.size u q ∧ w1.grownBy w2 none) := ⟨hw, hg⟩
  clear hw hg c1
  go_wp2_with fail
  go_ret
  exact ⟨u, rfl, H2.out⟩
set_option maxRecDepth 100000 in
set_option maxHeartbeats 400000 in
theorem now_no (x : Value) (w : World) (h : NoNet w x) : Calls Try.prog 33 #[x] w fun e w' => e = .returned (.slice none 0 0) ∧ w' = w := by
  have HN : Hid (NoNet w x) := h
  clear h
  go_enter Try.func33, Try.ntmps33
  go_wp2_with fail
  refine (there_no x w HN.out).mono ?_
  rintro e w1 ⟨rfl, rfl⟩
  go_wp2_with fail
  go_ret
  exact ⟨rfl, rfl⟩

theorem erase_eq (q : List Pcl) (i : Nat) : q.take i ++ q.drop (i + 1) = q.eraseIdx i := (List.eraseIdx_eq_take_drop_succ q i).symm

set_option maxRecDepth 100000 in
set_option maxHeartbeats 2000000 in
theorem delete_one (B g cap n i : Nat) (q : List Pcl) (w : World) (h : Way w B (.slice (some ⟨g, 0, none⟩) n cap) q) (hn : q.length = n) (hi : i < n) (hl : n ≤ 65536) : Calls Try.prog 32 #[.slice (some ⟨g, 0, none⟩) n cap, .int .i64 (i : Int), .int .i64 ((i : Int) + 1)] w fun e w' => e = .returned (.slice (some ⟨g, 0, none⟩) (n - 1) cap) ∧ Way w' B (.slice (some ⟨g, 0, none⟩) (n - 1) cap) (q.eraseIdx i) ∧ w.grownBy w' (some g) := by
  have hc1 := h.row.cap
  simp at hc1
  obtain ⟨i0, hi0, hz0, hz1, hz2⟩ := info_parts1 infoP
  obtain ⟨so, sc, hsv⟩ : ∃ so sc, sliced (some ⟨g, 0, none⟩) (i + 1) n cap 1 = .slice so (n - (i + 1)) sc := ⟨_, _, rfl⟩
  have hsl : ∀ wk, (Instr.slice 56 (.slice (some ⟨g, 0, none⟩) n cap) (some (.int .i64 ((i : Int) + 1))) none none).run Try.prog wk = .ok (.slice so (n - (i + 1)) sc) wk := fun wk => by
    rw [← hsv]
    exact run_sl 56 59 utW szP (some ⟨g, 0, none⟩) n cap (i + 1) (by omega) (by omega) wk
  have hso : ∃ A, so = some A := by
    simp only [sliced] at hsv
    by_cases hce : cap = i + 1
    · simp [hce] at hsv; exact ⟨_, hsv.1.symm⟩
    · simp [hce] at hsv; exact ⟨_, hsv.1.symm⟩
  obtain ⟨A, rfl⟩ := hso
  have HR : Hid (Row 59 w B (.slice (some ⟨g, 0, none⟩) i cap) ((q.take i).map pv) ∧ Rd w (.slice (some A) (n - (i + 1)) sc) ((q.drop (i + 1)).map pv) ∧ Way w B (.slice (some ⟨g, 0, none⟩) n cap) q ∧ q.length = n ∧ cap ≤ maxLen) := by
    refine ⟨?_, ?_, h, hn, hc1.2.2⟩
    · rw [List.map_take]
      exact h.row.take i (by simp; omega)
    · have := rd_rest (i + 1) (by simp; omega) h.row.rd
      rw [hsv, ← List.map_drop] at this
      exact this
  have hic : i ≤ cap := by omega
  have hnc : n ≤ cap := hc1.2.1
  have hin : (i : Int) + 1 ≤ (n : Int) := by omega
  have hn1 : Hid (n - 1 = i + (n - (i + 1))) := by unfold Hid; omega
  have hwi : IntKind.i64.wrap ((i : Int) + 1) = (i : Int) + 1 := by rw [IntKind.wrap_i64]; omega
  have ine : ¬ ((i : Int) = (i : Int) + 1) := by omega
  clear h hn hc1 hsv
  go_enter Try.func32, Try.ntmps32
  go_upto_region 5 with fail
  refine wp_region_hold 1000 (fun _ => True) (by kernel_rfl) ?_
  have HD : Hid (w.grownBy w.drew none) := grown_drew _ _
  generalize w.drew = wd at HD ⊢
  have J : Idx [0, 1, 2, 3, 4, 5] := trivial
  iterate 6 (refine tk J (trivial) rfl rfl (fun wk hk => by skip; go_simp; try rfl) ?_; replace J := J.tl; try simp only [Act.put, List.setIfInBounds_toArray, List.set_cons_zero, List.set_cons_succ])
  clear J
  refine wpHold_one (i := 6) rfl (by kernel_rfl) (by rfl) (fun K hK => ?_)
  refine wp_append_own_spare wd _ _ 56 rfl B 59 i0 1 utW hi0 hz1 g i cap ((q.take i).map pv) rfl ?d0 A (n - (i + 1)) sc ((q.drop (i + 1)).map pv) rfl ?d1 ?d2 (pvs_one _) ?d3 ?_
  case d0 =>
    have h1 := (HR.out.1.grown HD.out).own
    have h2 : ((q.take i).map pv).length = i := by have := HR.out.2.2.2.1; simp; omega
    rw [h2] at h1
    exact h1
  case d1 => have := HR.out.2.2.2.1; simp; omega
  case d2 =>
    intro j y hj
    obtain ⟨hjl, rfl⟩ := List.getElem?_eq_some_iff.1 hj
    obtain ⟨b, off, e1, hc⟩ := (HR.out.2.1.grown HD.out).at j hjl
    simp at e1
    subst e1
    rw [add_addr]
    exact hc
  case d3 => have := hn1.out; omega
  intro w1 hr1 hg1
  have H1 : Hid (Row 59 w1 B (.slice (some ⟨g, 0, none⟩) (n - 1) cap) ((q.eraseIdx i).map pv) ∧ w.grownBy w1 (some g) ∧ ((q.eraseIdx i).map pv).length = n - 1) := by
    have e1 : (q.eraseIdx i).map pv = (q.take i).map pv ++ (q.drop (i + 1)).map pv := by rw [← List.map_append, erase_eq]
    have e2 : ((q.eraseIdx i).map pv).length = n - 1 := by rw [List.length_map, List.length_eraseIdx_of_lt (by have := HR.out.2.2.2.1; omega)]; have := HR.out.2.2.2.1; omega
    refine ⟨⟨?_, pvs_one _⟩, grown_trans (grown_weak HD.out _) hg1, e2⟩
    rw [e2, e1, hn1.out]
    exact hr1
  clear hr1 hg1
  rw [← hn1.out]
  refine hK.out _ _ (fun _ => trivial) ?_
  clear hK K
  try simp only [Act.put, List.setIfInBounds_toArray, List.set_cons_zero, List.set_cons_succ]
  have J : Idx [7] := trivial
  iterate 1 (refine tk J (trivial) rfl rfl (fun wk hk => by skip; go_simp; try rfl) ?_; replace J := J.tl; try simp only [Act.put, List.setIfInBounds_toArray, List.set_cons_zero])
  clear J
  refine wpHold_done (by kernel_rfl) ?_
  refine (‹∀ (a : Act) (w : World), Code.wp Try.prog _ _ a w → _› _ _ ?_)
  obtain ⟨m, hm⟩ : ∃ m, n - 1 = m := ⟨_, rfl⟩
  rw [hm] at H1 ⊢
  have m1 : (m : Int) ≤ (n : Int) := by omega
  have m2 : m ≤ n := by omega
  have m3 : n - m = 1 := by omega
  have m4 : (cap = m) = False := eq_false (by omega)
  have m5 : (n : Int) ≤ (cap : Int) := by omega
  have hcl : ∀ ty, (Builtin.clear_ #[56] ty #[.slice (some ⟨g, m, none⟩) 1 (cap - m)]).run Try.prog w1 = .ok (.tuple #[]) (w1.setCells g m [.pointer none]) := fun ty =>
    Lib.run_clear_slice w1 56 59 ty (.pointer none) utW zvP rfl rfl g m 1 _ (by omega) (fun j hj => H1.out.1.there (m + j) (by omega)) (fun j hj => H1.out.1.free (m + j))
  have HE : Hid (Row 59 (w1.setCells g m [.pointer none]) B (.slice (some ⟨g, 0, none⟩) m cap) ((q.eraseIdx i).map pv) ∧ w.grownBy (w1.setCells g m [.pointer none]) (some g)) := by
    have h1 := H1.out.1
    have h2 := H1.out.2.2
    rw [← h2] at h1
    have h3 := h1.past [.pointer none] m (by omega)
    rw [h2] at h3
    exact ⟨h3, grown_trans H1.out.2.1 (setCells_grown g _ _ _)⟩
  have HM : Hid (n - 1 = m) := hm
  clear hm hsl hic hnc hin hwi ine
  go_wp2_with fail
  go_ret
  rw [HM.out]
  refine ⟨rfl, ⟨HE.out.1, fun a ha => ?_⟩, HE.out.2⟩
  have hb := HR.out.2.2.1.par a (List.mem_of_mem_eraseIdx ha)
  refine hb.grown HE.out.2 fun e => ?_
  simp at e
  obtain ⟨C, hC⟩ := HR.out.2.2.1.row.blk g rfl
  rw [e] at hC
  exact absurd (blk_type hb hC) (by decide)

/-- What Take does with a net. -/
def TakeP (w : World) (b B : Nat) (v : Value) (q : List Pcl) (s i : Int) (w' : World) : Prop := NetTo w b B v w' (if 0 ≤ i ∧ i.toNat < q.length then q.eraseIdx i.toNat else q) s
theorem atD_err (q : List Pcl) (i : Int) : ((atD q i).2 = 0 ∧ 0 ≤ i ∧ i.toNat < q.length) ∨ ((atD q i).2 = 5 ∧ ¬ (0 ≤ i ∧ i.toNat < q.length)) := by
  unfold atD
  by_cases h : 0 ≤ i ∧ i.toNat < q.length
  · rw [dif_pos h]; exact .inl ⟨rfl, h⟩
  · rw [dif_neg h]; exact .inr ⟨rfl, h⟩
theorem net_erase {w w1 w2 : World} {b B g cap m : Nat} {v : Value} {q : List Pcl} {s : Int} {i : Nat} (h : Net w b B v q s) (hv : v.ownBlock = some g) (hw : Way w1 B (.slice (some ⟨g, 0, none⟩) m cap) (q.eraseIdx i)) (h1 : w.grownBy w1 (some g)) (h2 : w1.grownBy w2 (some b)) (hb : Blk w2 b 58 #[.bool true, .slice (some ⟨g, 0, none⟩) m cap, .int .i64 s]) : NetTo w b B v w2 (q.eraseIdx i) s := by
  have hb1 : Blk w1 b 58 #[.bool true, v, .int .i64 s] := h.blk.grown h1 fun e => by
    simp at e
    obtain ⟨C, hC⟩ := h.way.row.blk g hv
    subst e
    exact absurd (blk_type h.blk hC) (by decide)
  refine ⟨_, ⟨hb, hw.same (fun k hk => ?_) (fun j c hc => ?_), ?_, h.asc.sublist (List.eraseIdx_sublist _ _), fun a ha => h.top a (List.mem_of_mem_eraseIdx ha), h.low⟩, ?_, ?_⟩
  · obtain ⟨C, hC⟩ := hw.row.blk k hk
    refine h2.block k hC.lt fun e => ?_
    simp at e
    subst e
    exact absurd (blk_type hC hb1) (by decide)
  · refine hc.grown h2 fun e => ?_
    simp at e
    subst e
    exact absurd (blk_type hc hb1) (by decide)
  · have := h.len
    have := List.length_eraseIdx_le q i
    omega
  · exact (Fr.of (F := FN b v) h1 (by intro k hk; simp at hk; subst hk; exact .inr hv)).trans (Fr.of (F := FN b v) h2 (by intro k hk; simp at hk; exact .inl hk.symm)) fun i hi => .inl hi
  · intro k hk
    simp [Value.ownBlock] at hk
    subst hk
    exact .inl hv

set_option maxRecDepth 100000 in
set_option maxHeartbeats 1000000 in
theorem take_yes (b B : Nat) (v : Value) (q : List Pcl) (s i : Int) (w : World) (h : Net w b B v q s) : Calls Try.prog 8 #[.pointer (some ⟨b, 0, none⟩), .int .i64 i] w fun e w' => e = .returned (.tuple #[Value.string (atD q i).1, .int .i64 (atD q i).2]) ∧ TakeP w b B v q s i w' := by
  have HN : Hid (Net w b B v q s) := h
  have c1 := h.blk.cell 1
  have f1 := h.blk.free 1
  simp at c1
  clear h
  go_enter Try.func8, Try.ntmps8
  go_wp2_with fail
  refine (at_yes b B v q s i w HN.out).mono ?_
  rintro e w1 ⟨rfl, rfl⟩
  have hdd := atD_err q i
  obtain ⟨x, hx⟩ : ∃ x, atD q i = x := ⟨_, rfl⟩
  rw [hx] at hdd ⊢
  obtain ⟨x, y⟩ := x
  have HX : Hid (atD q i = (x, y)) := hx
  rcases hdd with ⟨he, h0, h1⟩ | ⟨he, hno⟩
  · dsimp only at he ⊢
    subst he
    clear hx
    obtain ⟨j, rfl⟩ := Int.eq_ofNat_of_zero_le h0
    obtain ⟨n, hn⟩ : ∃ n, q.length = n := ⟨_, rfl⟩
    obtain ⟨g, cap, C, hsh⟩ : ∃ g cap C, v = .slice (some ⟨g, 0, none⟩) n cap ∧ Blk w1 g 59 C := by
      rcases HN.out.way.row.shape with ⟨_, e'⟩ | ⟨g, cap, C, e, _, hC, _⟩
      · rw [List.map_eq_nil_iff] at e'
        subst e'
        simp at h1
      · exact ⟨g, cap, C, by simpa [hn] using e, hC⟩
    obtain ⟨rfl, hC⟩ := hsh
    have HJ : Hid (q.length = n ∧ j < n) := ⟨hn, by rw [← hn]; simpa using h1⟩
    have wj : IntKind.i64.wrap ((j : Int) + 1) = (j : Int) + 1 := by have := HJ.out; have := HN.out.len; rw [IntKind.wrap_i64]; omega
    clear h0 h1 hn hC
    go_wp2_with fail
    refine (delete_one B g cap n j q w1 HN.out.way HJ.out.1 HJ.out.2 (by have := HN.out.len; have := HJ.out; omega)).mono ?_
    rintro e w2 ⟨rfl, hw2, hg2⟩
    have HW : Hid (Way w2 B (.slice (some ⟨g, 0, none⟩) (n - 1) cap) (q.eraseIdx j) ∧ w1.grownBy w2 (some g)) := ⟨hw2, hg2⟩
    have HB : Hid (Blk w2 b 58 #[.bool true, .slice (some ⟨g, 0, none⟩) n cap, .int .i64 s]) := HN.out.blk.grown hg2 fun e => by
      simp at e
      obtain ⟨C, hC⟩ := HN.out.way.row.blk g rfl
      subst e
      exact absurd (blk_type HN.out.blk hC) (by decide)
    clear hw2 hg2 c1 f1 wj
    have c1 := HB.out.cell 1
    have f1 := HB.out.free 1
    simp at c1
    go_wp2_with fail
    go_ret2
    rw [HX.out]
    refine ⟨rfl, ?_⟩
    unfold TakeP
    rw [if_pos ⟨by omega, by have := HJ.out; simpa using (show j < q.length by omega)⟩]
    exact net_erase HN.out rfl HW.out.1 HW.out.2 (grown_setCell _ _ _ _) (HB.out.store 1 _)
  · dsimp only at he ⊢
    subst he
    clear hx
    have HNO : Hid (¬ (0 ≤ i ∧ i.toNat < q.length)) := hno
    clear hno
    go_wp2_with fail
    go_ret2
    rw [HX.out]
    refine ⟨rfl, ?_⟩
    unfold TakeP
    rw [if_neg HNO.out]
    exact NetTo.refl HN.out
set_option maxRecDepth 100000 in
set_option maxHeartbeats 1000000 in
theorem lose_yes (b B : Nat) (v : Value) (q : List Pcl) (s i : Int) (w : World) (h : Net w b B v q s) : Calls Try.prog 9 #[.pointer (some ⟨b, 0, none⟩), .int .i64 i] w fun e w' => e = .returned (.int .i64 (atD q i).2) ∧ TakeP w b B v q s i w' := by
  have HN : Hid (Net w b B v q s) := h
  clear h
  go_enter Try.func9, Try.ntmps9
  go_wp2_with fail
  refine (take_yes b B v q s i w HN.out).mono ?_
  rintro e w1 ⟨rfl, ht⟩
  have HT : Hid (TakeP w b B v q s i w1) := ht
  clear ht
  obtain ⟨x, hx⟩ : ∃ x, atD q i = x := ⟨_, rfl⟩
  rw [hx]
  have HX : Hid (atD q i = x) := hx
  clear hx
  go_wp2_with fail
  go_ret
  rw [HX.out]
  exact ⟨rfl, HT.out⟩
set_option maxRecDepth 100000 in
set_option maxHeartbeats 1000000 in
theorem take_no (x : Value) (i : Int) (w : World) (h : NoNet w x) : Calls Try.prog 8 #[x, .int .i64 i] w fun e w' => e = .returned (.tuple #[Value.string (⟨#[]⟩ : ByteArray), .int .i64 1]) ∧ w' = w := by
  have HN : Hid (NoNet w x) := h
  clear h
  go_enter Try.func8, Try.ntmps8
  go_wp2_with fail
  refine (at_no x i w HN.out).mono ?_
  rintro e w1 ⟨rfl, rfl⟩
  go_wp2_with fail
  go_ret2
  exact ⟨rfl, rfl⟩
set_option maxRecDepth 100000 in
set_option maxHeartbeats 1000000 in
theorem lose_no (x : Value) (i : Int) (w : World) (h : NoNet w x) : Calls Try.prog 9 #[x, .int .i64 i] w fun e w' => e = .returned (.int .i64 1) ∧ w' = w := by
  have HN : Hid (NoNet w x) := h
  clear h
  go_enter Try.func9, Try.ntmps9
  go_wp2_with fail
  refine (take_no x i w HN.out).mono ?_
  rintro e w1 ⟨rfl, rfl⟩
  go_wp2_with fail
  go_ret
  exact ⟨rfl, rfl⟩

/-- What Twin does. -/
def TwinP (w : World) (b B : Nat) (v : Value) (q : List Pcl) (s i : Int) (e : Ending) (w' : World) : Prop :=
  (¬ (0 ≤ i ∧ i.toNat < q.length) ∧ e = .returned (.int .i64 5) ∧ w' = w) ∨ ((0 ≤ i ∧ i.toNat < q.length) ∧ 65536 ≤ q.length ∧ e = .returned (.int .i64 7) ∧ w.grownBy w' none) ∨
    (∃ a, 0 ≤ i ∧ q[i.toNat]? = some a ∧ q.length < 65536 ∧ e = .returned (.int .i64 0) ∧ ∃ r : List Pcl, r.map (·.t) = [a.t] ∧ NetTo w b B v w' (q ++ r) (s + 1))
set_option maxRecDepth 100000 in
set_option maxHeartbeats 1000000 in
theorem twin_yes (b B : Nat) (v : Value) (q : List Pcl) (s i : Int) (w : World) (h : Net w b B v q s) (hs : s ≤ 1000000000000) (hB : B ≤ w.heap.size) : Calls Try.prog 11 #[.pointer (some ⟨b, 0, none⟩), .int .i64 i] w (TwinP w b B v q s i) := by
  have HN : Hid (Net w b B v q s ∧ s ≤ 1000000000000 ∧ B ≤ w.heap.size) := ⟨h, hs, hB⟩
  clear h hs hB
  go_enter Try.func11, Try.ntmps11
  go_wp2_with fail
  refine (at_yes b B v q s i w HN.out.1).mono ?_
  rintro e w1 ⟨rfl, rfl⟩
  rcases atD_err q i with ⟨he, h0, h1⟩ | ⟨he, hno⟩
  · rw [he]
    obtain ⟨x, hx⟩ : ∃ x, (atD q i).1 = x := ⟨_, rfl⟩
    rw [hx]
    have HX : Hid (∃ a, q[i.toNat]? = some a ∧ a.t = x ∧ 0 ≤ i ∧ i.toNat < q.length) := by
      refine ⟨q[i.toNat]'h1, List.getElem?_eq_getElem h1, ?_, h0, h1⟩
      rw [← hx]
      unfold atD
      rw [dif_pos ⟨h0, h1⟩]
    clear he h0 h1 hx
    go_wp2_with fail
    obtain ⟨w2, hw2, H2⟩ := al1 w1 #[Value.string x] 9
    rw [hw2]
    obtain ⟨g, hg⟩ : ∃ g, w1.heap.size = g := ⟨_, rfl⟩
    rw [hg] at H2 ⊢
    clear hw2
    refine (send_yes b B v q s (.slice (some ⟨g, 0, none⟩) 1 1) [x] w2 (HN.out.1.grown H2.out.2.1) (rd_blk H2.out.1) ?_ HN.out.2.1 (Nat.le_trans HN.out.2.2 H2.out.2.1.size)).mono ?_
    · intro _ k hk
      simp [Value.ownBlock] at hk
      subst hk
      refine ⟨H2.out.1.lt, fun e => ?_⟩
      rcases e with e | e
      · have := HN.out.1.blk.lt
        omega
      · obtain ⟨C, hC⟩ := HN.out.1.way.row.blk _ e
        have := hC.lt
        omega
    · rintro e w3 hsp
      have HS : Hid (SendP w2 b B v q s [x] e w3) := hsp
      clear hsp
      obtain ⟨er, her⟩ : ∃ er, e = .returned (.int .i64 er) := by
        rcases HS.out with ⟨_, h, _⟩ | ⟨_, h, _⟩
        · exact ⟨_, h⟩
        · exact ⟨_, h⟩
      subst her
      go_wp2_with fail
      go_ret
      rcases HS.out with ⟨h1, h2, rfl⟩ | ⟨h1, h2, r, hr, hN⟩
      · obtain ⟨a, a1, a2, a3⟩ := HX.out
        refine .inr (.inl ⟨a3, ?_, h2, H2.out.2.1⟩)
        simp at h1
        omega
      · obtain ⟨a, a1, a2, a3⟩ := HX.out
        refine .inr (.inr ⟨a, a3.1, a1, ?_, h2, r, by rw [hr, a2], ?_⟩)
        · simp at h1
          omega
        · exact NetTo.trans (Fr.of H2.out.2.1 (by simp)) (fun k hk => .inl hk) hN
  · rw [he]
    have HNO : Hid (¬ (0 ≤ i ∧ i.toNat < q.length)) := hno
    clear he hno
    go_wp2_with fail
    go_ret
    exact .inl ⟨HNO.out, rfl, rfl⟩
end Go.Proofs.Ythobfpegbnkpfaa.S
