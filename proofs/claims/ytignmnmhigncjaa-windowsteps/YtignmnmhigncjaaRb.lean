/-
  The document's window: Give, Copy.
-/
import Derived.Test.YtignmnmhigncjaaRa
import Derived.Test.YtignmnmhigncjaaSC
namespace Go.Proofs.Ytignmnmhigncjaa
open Go.RowKit Disk

theorem rd_blk {w : World} {g t : Nat} {x : Value} (h : Blk w g t #[x]) : Rd w (.slice (some ⟨g, 0, none⟩) 1 1) [x] := ⟨_, 1, rfl, by simp, by unfold maxLen; omega, by simp, fun j hj => by
  simp at hj
  subst hj
  exact ⟨g, 0, rfl, h.cell 0⟩⟩
theorem info9 : (Try.prog.info? 9).map (fun i => (i.zero, i.size, i.bytes)) = some (some (.string ⟨#[]⟩), 1, 16) := by kernel_rfl
theorem info4 : (Try.prog.info? 4).map (fun i => (i.zero, i.size, i.bytes)) = some (some (.bool false), 1, 1) := by kernel_rfl
theorem strs_one (T : List ByteArray) : ∀ y ∈ T.map Value.string, y.oneCell' = true := by
  intro y hy
  obtain ⟨x, _, rfl⟩ := List.mem_map.1 hy
  rfl
theorem bools_one (K : List Bool) : ∀ y ∈ K.map Value.bool, y.oneCell' = true := by
  intro y hy
  obtain ⟨x, _, rfl⟩ := List.mem_map.1 hy
  rfl
/-- A row beside what is written: its block is of another type. -/
theorem row_but {e e' : Nat} {w w' : World} {v v' : Value} {xs ys : List Value} (h : Row e w 0 v xs) (h' : Row e' w 0 v' ys) (hg : w.grownBy w' v'.ownBlock) (hne : e ≠ e') : Row e w' 0 v xs := h.same fun k hk => hg.block k (h.lt k hk).2 fun e1 => by
  obtain ⟨C, hC⟩ := h.blk k hk
  obtain ⟨D, hD⟩ := h'.blk k e1.symm
  exact hne (blk_type hC hD)
theorem row_set {e t : Nat} {w : World} {b o : Nat} {c : Array Value} {x v : Value} {xs : List Value} (h : Row e w 0 v xs) (hb : Blk w b t c) (hne : e ≠ t) : Row e (w.setCell ⟨b, o, none⟩ x) 0 v xs := h.same fun k hk => (grown_setCell w b o x).block k (h.lt k hk).2 fun e1 => by
  simp at e1
  subst e1
  obtain ⟨C, hC⟩ := h.blk _ hk
  exact hne (blk_type hC hb)
theorem push_things {w w2 w3 : World} {b : Nat} {tv bv v3 : Value} {n : Nat} {T : List ByteArray} {K : List Bool} {x : ByteArray} (h : Rw w b tv bv n T K) (g2 : w.grownBy w2 none) (hr : Row 9 w3 0 v3 (T.map Value.string ++ [.string x])) (g3 : w2.grownBy w3 tv.ownBlock) :
    Blk (w3.setCell ⟨b, 1, none⟩ v3) b 33 #[.int .i64 (n : Nat), v3, bv] ∧ Row 9 (w3.setCell ⟨b, 1, none⟩ v3) 0 v3 (T.map Value.string ++ [.string x]) ∧ Row 4 (w3.setCell ⟨b, 1, none⟩ v3) 0 bv (K.map Value.bool) ∧ Fr w (w3.setCell ⟨b, 1, none⟩ v3) (FR b tv bv) := by
  have h2 := h.grown g2
  have hb3 : Blk w3 b 33 #[.int .i64 (n : Nat), tv, bv] := h2.blk.grown g3 fun e => by
    obtain ⟨C, hC⟩ := h2.things.blk b e
    exact absurd (blk_type hC h2.blk) (by decide)
  refine ⟨by simpa using hb3.store 1 v3, row_set hr hb3 (by decide), row_set (row_but h2.back h2.things g3 (by decide)) hb3 (by decide), ?_⟩
  exact ((Fr.of (F := FR b tv bv) g2 (by simp)).trans (Fr.of (F := FR b tv bv) g3 fun k hk => .inr (.inl hk)) fun i hi => .inl hi).trans (Fr.of (F := FR b tv bv) (grown_setCell w3 b 1 v3) fun k hk => .inl (by simpa using hk.symm)) fun i hi => .inl hi
theorem push_backs {w w4 w5 w6 : World} {b : Nat} {tv bv v3 v6 : Value} {n : Nat} {T : List ByteArray} {K : List Bool} {x : ByteArray} (h : Rw w b tv bv n T K) (hl : T.length < 800000) (hb : Blk w4 b 33 #[.int .i64 (n : Nat), v3, bv]) (ht : Row 9 w4 0 v3 (T.map Value.string ++ [.string x])) (hk : Row 4 w4 0 bv (K.map Value.bool)) (hf : Fr w w4 (FR b tv bv))
    (h3 : ∀ k, v3.ownBlock = some k → tv.ownBlock = some k ∨ w.heap.size ≤ k) (g5 : w4.grownBy w5 none) (hr : Row 4 w6 0 v6 (K.map Value.bool ++ [.bool false])) (g6 : w5.grownBy w6 bv.ownBlock) (h6 : ∀ k, v6.ownBlock = some k → bv.ownBlock = some k ∨ w5.heap.size ≤ k) :
    RTo w b tv bv n (zipL T K ++ [some x]) (w6.setCell ⟨b, 2, none⟩ v6) := by
  have hb5 := hb.grown g5 (by simp)
  have ht5 := ht.grown g5
  have hk5 := hk.grown g5
  have hb6 : Blk w6 b 33 #[.int .i64 (n : Nat), v3, bv] := hb5.grown g6 fun e => by
    obtain ⟨C, hC⟩ := hk5.blk b e
    exact absurd (blk_type hC hb5) (by decide)
  refine ⟨v3, v6, T ++ [x], K ++ [false], ⟨by simpa using hb6.store 2 v6, ?_, ?_, by simpa using h.same, by simp; omega⟩, zipL_push T K x h.same, ?_, ?_⟩
  · rw [List.map_append]
    exact row_set (row_but ht5 hk5 g6 (by decide)) hb6 (by decide)
  · rw [List.map_append]
    exact row_set hr hb6 (by decide)
  · exact ((hf.trans (Fr.of (F := FR b tv bv) g5 (by simp)) fun i hi => .inl hi).trans (Fr.of (F := FR b tv bv) g6 fun k hk => .inr (.inr hk)) fun i hi => .inl hi).trans (Fr.of (F := FR b tv bv) (grown_setCell w6 b 2 v6) fun k hk => .inl (by simpa using hk.symm)) fun i hi => .inl hi
  · rintro i (rfl | hi | hi)
    · exact .inl (.inl rfl)
    · rcases h3 i hi with e | e
      · exact .inl (.inr (.inl e))
      · exact .inr e
    · rcases h6 i hi with e | e
      · exact .inl (.inr (.inr e))
      · have := hf.size
        have := g5.size
        exact .inr (by omega)
theorem RTo.grown {w w1 w2 : World} {b : Nat} {tv bv : Value} {n : Nat} {L : List (Option ByteArray)} (h : RTo w b tv bv n L w1) (hg : w1.grownBy w2 none) : RTo w b tv bv n L w2 := by
  obtain ⟨tv', bv', T', K', h1, h2, h3, h4⟩ := h
  exact ⟨tv', bv', T', K', h1.grown hg, h2, h3.trans (Fr.of (F := FR b tv bv) hg (by simp)) fun i hi => .inl hi, h4⟩
theorem RTo.from {w w1 w2 : World} {b : Nat} {tv bv : Value} {n : Nat} {L : List (Option ByteArray)} (h : RTo w1 b tv bv n L w2) (hg : w.grownBy w1 none) : RTo w b tv bv n L w2 := by
  obtain ⟨tv', bv', T', K', h1, h2, h3, h4⟩ := h
  refine ⟨tv', bv', T', K', h1, h2, (Fr.of (F := FR b tv bv) hg (by simp)).trans h3 fun i hi => .inl hi, fun i hi => ?_⟩
  rcases h4 i hi with e | e
  · exact .inl e
  · exact .inr (Nat.le_trans hg.size e)

/-- What Give does. -/
def RGiveP (w : World) (b : Nat) (tv bv : Value) (n : Nat) (L : List (Option ByteArray)) (x : ByteArray) (e : Ending) (w' : World) : Prop :=
  (lead L + n ≤ L.length ∧ e = .returned (.tuple #[.int .i64 0, .int .i64 7]) ∧ RTo w b tv bv n L w') ∨
    (L.length < lead L + n ∧ e = .returned (.tuple #[.int .i64 (L.length + 1 : Nat), .int .i64 0]) ∧ RTo w b tv bv n (L ++ [some x]) w')

set_option maxRecDepth 100000 in
set_option maxHeartbeats 4000000 in
theorem rgive31 (b : Nat) (tv bv : Value) (n : Nat) (T : List ByteArray) (Ks : List Bool) (x : ByteArray) (w : World) (h : Rw w b tv bv n T Ks) (hl : T.length ≤ 700000) (hn : n ≤ 64) : Calls Try.prog 31 #[.pointer (some ⟨b, 0, none⟩), Value.string x] w (RGiveP w b tv bv n (zipL T Ks) x) := by
  obtain ⟨ta, tc, bo, bc, rfl, rfl⟩ := h.sl
  obtain ⟨ln, hln⟩ : ∃ ln, T.length = ln := ⟨_, rfl⟩
  obtain ⟨m, hm⟩ : ∃ m, lead (zipL T Ks) = m := ⟨_, rfl⟩
  have hlead := lead_le (zipL T Ks)
  rw [zipL_len h.same, hm] at hlead
  rw [hln] at h hl hlead ⊢
  have HN : Hid (Rw w b (.slice ta ln tc) (.slice bo ln bc) n T Ks ∧ T.length = ln ∧ ln ≤ 700000 ∧ n ≤ 64 ∧ lead (zipL T Ks) = m ∧ m ≤ ln ∧ (zipL T Ks).length = ln) := ⟨h, hln, hl, hn, hm, hlead, by rw [zipL_len h.same, hln]⟩
  have c0 := h.blk.cell 0
  have c1 := h.blk.cell 1
  simp at c0 c1
  have d1 : IntKind.i64.wrap ((ln : Int) + 1) = (ln : Int) + 1 := by rw [IntKind.wrap_i64]; omega
  have d2 : IntKind.i64.wrap ((ln : Int) + 1 - (m : Int)) = (ln : Int) + 1 - (m : Int) := by rw [IntKind.wrap_i64]; omega
  clear h hln hl hn hm hlead
  go_enter Try.func31, Try.ntmps31
  go_upto_region 1 with fail
  refine wp_region_noPanic ?_
  refine wp_region_hold 1000 (fun y => w.grownBy y none) (by kernel_rfl) ?_
  have HD : Hid (w.grownBy w.drew none) := grown_drew _ _
  generalize w.drew = wd at HD ⊢
  have J : Idx [0, 1, 2, 3, 4, 5, 6, 9, 10, 11, 12] := trivial
  iterate 11 (refine tk J (HD.out) rfl rfl (fun wk hk => by have k0 := hk.cell c0 (by simp); have k1 := hk.cell c1 (by simp); go_simp; try rfl) ?_; replace J := J.tl; try simp only [Act.put, List.setIfInBounds_toArray, List.set_cons_zero, List.set_cons_succ])
  clear J
  refine wpHold_one (i := 7) rfl (by kernel_rfl) (by rfl) (fun K hK => ?_)
  go_wp2_with fail
  refine (rmark13 b _ _ n T Ks wd (HN.out.1.grown HD.out)).mono ?_
  rintro e we ⟨rfl, rfl⟩
  rw [HN.out.2.2.2.2.1]
  go_wp2_with fail
  refine hK.out _ _ (fun _ => HD.out) ?_
  clear hK K
  try simp only [Act.put, List.setIfInBounds_toArray, List.set_cons_zero, List.set_cons_succ]
  have J : Idx [8, 13] := trivial
  iterate 2 (refine tk J (HD.out) rfl rfl (fun wk hk => by have k0 := hk.cell c0 (by simp); have k1 := hk.cell c1 (by simp); go_simp; try rfl) ?_; replace J := J.tl; try simp only [Act.put, List.setIfInBounds_toArray, List.set_cons_zero, List.set_cons_succ])
  clear J
  refine wpHold_done (by kernel_rfl) ?_
  refine (‹∀ (a : Act) (w : World), Code.wp Try.prog _ _ a w → _› _ _ ?_)
  clear c0 c1 d2
  by_cases hfull : m + n ≤ ln
  · have i1 : (n : Int) < (ln : Int) + 1 - (m : Int) := by omega
    have HP : Hid (RGiveP w b (.slice ta ln tc) (.slice bo ln bc) n (zipL T Ks) x (.returned (.tuple #[.int .i64 0, .int .i64 7])) we) := .inl ⟨by have := HN.out; omega, rfl, (RTo.refl HN.out.1).grown HD.out⟩
    clear hfull
    go_wp2_with fail
    go_ret2
    exact HP.out
  · have i1 : ¬ (n : Int) < (ln : Int) + 1 - (m : Int) := by omega
    have HF : Hid (ln < m + n) := by unfold Hid; omega
    have c1 := ((HN.out.1.grown HD.out).blk).cell 1
    simp at c1
    clear hfull
    go_upto_region 3 with fail
    obtain ⟨w2, hw2, H2⟩ := al1 we #[Value.string x] 9
    have HW2 : Hid (we.alloc (.cells #[Value.string x] 9) = w2) := hw2
    clear hw2
    go_wp2_with (at_builtin; rw [HW2.out]; refine appR 30 9 16 _ rfl info9 rfl w2 rfl _ _ rfl 0 (.slice ta ln tc) (T.map Value.string) (.slice (some ⟨we.heap.size, 0, none⟩) 1 1) [.string x] rfl rfl ((HN.out.1.grown HD.out).grown H2.out.2.1).things (rd_blk H2.out.1) (by intro y hy; simp at hy; subst hy; rfl) ?c0 ?c1 ?c2 ?_)
    case c0 => have := HN.out; simp; omega
    case c1 => have := HN.out; unfold maxLen; simp; omega
    intro v3 w3 hr3 hg3 hv3
    obtain ⟨qo, qc, e3⟩ := hr3.sl
    have el : (T.map Value.string ++ [Value.string x]).length = ln + 1 := by have := HN.out; simp; omega
    rw [el] at e3
    subst e3
    have hp := push_things HN.out.1 (grown_trans HD.out H2.out.2.1) hr3 hg3
    have c1' : w3.cell? ⟨b, 1, none⟩ = some (.slice ta ln tc) := by
      have hb := (((HN.out.1.grown HD.out).grown H2.out.2.1).blk.grown hg3 (fun e => by
        obtain ⟨C, hC⟩ := ((HN.out.1.grown HD.out).grown H2.out.2.1).things.blk b e
        exact absurd (blk_type hC ((HN.out.1.grown HD.out).grown H2.out.2.1).blk) (by decide))).cell 1
      simpa using hb
    have f1' : w3.frozen? ⟨b, 1, none⟩ = false := (((HN.out.1.grown HD.out).grown H2.out.2.1).blk.grown hg3 (fun e => by
        obtain ⟨C, hC⟩ := ((HN.out.1.grown HD.out).grown H2.out.2.1).things.blk b e
        exact absurd (blk_type hC ((HN.out.1.grown HD.out).grown H2.out.2.1).blk) (by decide))).free 1
    have H4 : Hid (Blk (w3.setCell ⟨b, 1, none⟩ (.slice qo (ln + 1) qc)) b 33 #[.int .i64 (n : Nat), .slice qo (ln + 1) qc, .slice bo ln bc] ∧ Row 9 (w3.setCell ⟨b, 1, none⟩ (.slice qo (ln + 1) qc)) 0 (.slice qo (ln + 1) qc) (T.map Value.string ++ [.string x]) ∧ Row 4 (w3.setCell ⟨b, 1, none⟩ (.slice qo (ln + 1) qc)) 0 (.slice bo ln bc) (Ks.map Value.bool) ∧ Fr w (w3.setCell ⟨b, 1, none⟩ (.slice qo (ln + 1) qc)) (FR b (.slice ta ln tc) (.slice bo ln bc)) ∧ (∀ k, (Value.slice qo (ln + 1) qc).ownBlock = some k → (Value.slice ta ln tc).ownBlock = some k ∨ w.heap.size ≤ k)) := by
      refine ⟨hp.1, hp.2.1, hp.2.2.1, hp.2.2.2, fun k hk => ?_⟩
      rcases hv3 k hk with e | e
      · exact .inl e
      · have := (grown_trans HD.out H2.out.2.1).size
        exact .inr (by omega)
    clear hr3 hg3 hv3 hp el c1 HW2 H2
    go_upto_region 4 with fail
    generalize w3.setCell ⟨b, 1, none⟩ (.slice qo (ln + 1) qc) = w4 at H4 ⊢
    clear c1' f1'
    have c2 := H4.out.1.cell 2
    simp at c2
    obtain ⟨w5, hw5, H5⟩ := al1 w4 #[.bool false] 4
    have HW5 : Hid (w4.alloc (.cells #[.bool false] 4) = w5) := hw5
    clear hw5
    go_wp2_with (at_builtin; rw [HW5.out]; refine appR 31 4 1 _ rfl info4 rfl w5 rfl _ _ rfl 0 (.slice bo ln bc) (Ks.map Value.bool) (.slice (some ⟨w4.heap.size, 0, none⟩) 1 1) [.bool false] rfl rfl (H4.out.2.2.1.grown H5.out.2.1) (rd_blk H5.out.1) (by intro y hy; simp at hy; subst hy; rfl) ?c3 ?c4 ?c5 ?_)
    case c3 => have := HN.out; have := this.1.same; simp; omega
    case c4 => have := HN.out; have := this.1.same; unfold maxLen; simp; omega
    case c5 => exact Nat.zero_le _
    intro v6 w6 hr6 hg6 hv6
    obtain ⟨ro, rc, e6⟩ := hr6.sl
    have el : (Ks.map Value.bool ++ [Value.bool false]).length = ln + 1 := by have := HN.out; have := this.1.same; simp; omega
    rw [el] at e6
    subst e6
    have hb6 := (H4.out.1.grown H5.out.2.1 (by simp)).grown hg6 (fun e => by
      obtain ⟨C, hC⟩ := (H4.out.2.2.1.grown H5.out.2.1).blk b e
      exact absurd (blk_type hC (H4.out.1.grown H5.out.2.1 (by simp))) (by decide))
    have c2' := hb6.cell 2
    have f2' := hb6.free 2
    simp at c2'
    have HR : Hid (RTo w b (.slice ta ln tc) (.slice bo ln bc) n (zipL T Ks ++ [some x]) (w6.setCell ⟨b, 2, none⟩ (.slice ro (ln + 1) rc))) := push_backs HN.out.1 (by have := HN.out; omega) H4.out.1 H4.out.2.1 H4.out.2.2.1 H4.out.2.2.2.1 H4.out.2.2.2.2 H5.out.2.1 hr6 hg6 hv6
    have c1 : (w6.setCell ⟨b, 2, none⟩ (.slice ro (ln + 1) rc)).cell? ⟨b, 1, none⟩ = some (.slice qo (ln + 1) qc) := by
      have := (hb6.store 2 (.slice ro (ln + 1) rc)).cell 1
      simpa using this
    clear hr6 hg6 hv6 el c2 HW5 H5 hb6
    go_upto_region 5 with fail
    generalize w6.setCell ⟨b, 2, none⟩ (.slice ro (ln + 1) rc) = w7 at HR c1 ⊢
    clear c2' f2'
    go_wp2_with fail
    go_ret2
    refine .inr ⟨by have := HN.out; have := HF.out; omega, ?_, HR.out⟩
    rw [HN.out.2.2.2.2.2.2]
    rfl

/-- What Copy makes. -/
def RCopyP (n : Nat) (L : List (Option ByteArray)) (w : World) (e : Ending) (w' : World) : Prop := ∃ b tv bv T Ks, e = .returned (.pointer (some ⟨b, 0, none⟩)) ∧ Rw w' b tv bv n T Ks ∧ zipL T Ks = L ∧ w.grownBy w' none ∧ ∀ i, FR b tv bv i → w.heap.size ≤ i
set_option maxRecDepth 100000 in
set_option maxHeartbeats 4000000 in
theorem rcopy10 (b : Nat) (tv bv : Value) (n : Nat) (T : List ByteArray) (Ks : List Bool) (w : World) (h : Rw w b tv bv n T Ks) : Calls Try.prog 10 #[.pointer (some ⟨b, 0, none⟩)] w (RCopyP n (zipL T Ks) w) := by
  have HN : Hid (Rw w b tv bv n T Ks) := h
  have c0 := h.blk.cell 0
  have c1 := h.blk.cell 1
  have c2 := h.blk.cell 2
  simp at c0 c1 c2
  clear h
  go_enter Try.func10, Try.ntmps10
  go_upto_region 1 with fail
  refine wp_region_noPanic ?_
  refine wp_region_hold 1000 (fun y => w.grownBy y none) (by kernel_rfl) ?_
  have HD : Hid (w.grownBy w.drew none) := grown_drew _ _
  generalize w.drew = wd at HD ⊢
  have J : Idx [0, 1, 2, 3, 4, 5, 6, 7, 9, 10, 11, 12] := trivial
  iterate 12 (refine tk J (HD.out) rfl rfl (fun wk hk => by have k0 := hk.cell c0 (by simp); have k1 := hk.cell c1 (by simp); have k2 := hk.cell c2 (by simp); go_simp; try rfl) ?_; replace J := J.tl; try simp only [Act.put, List.setIfInBounds_toArray, List.set_cons_zero, List.set_cons_succ])
  clear J
  refine wpHold_one (i := 8) rfl (by kernel_rfl) (by rfl) (fun K hK => ?_)
  refine appR_wp 30 9 16 _ rfl info9 rfl wd _ _ rfl wd.heap.size (.slice none 0 0) [] tv (T.map Value.string) rfl rfl (Row.nil _ _ _) (HN.out.things.grown HD.out).rd (strs_one T) ?c0 ?c1 ?c2 ?_
  case c0 => have := HN.out.long; simp; omega
  case c1 => have := HN.out.long; unfold maxLen; simp; omega
  case c2 => exact Nat.le_refl _
  intro v3 w3 hr3 hg3 hv3
  obtain ⟨q1, q2, e3⟩ := hr3.sl
  rw [show (([] : List Value) ++ T.map Value.string).length = T.length by simp] at e3
  subst e3
  have H3 : Hid (Row 9 w3 wd.heap.size _ (T.map Value.string) ∧ w.grownBy w3 none) := ⟨hr3, grown_trans HD.out hg3⟩
  clear hr3 hg3 hv3
  refine hK.out _ _ (fun _ => H3.out.2) ?_
  clear hK K
  try simp only [Act.put, List.setIfInBounds_toArray, List.set_cons_zero, List.set_cons_succ]
  refine wpHold_one (i := 13) rfl (by kernel_rfl) (by rfl) (fun K hK => ?_)
  refine appR_wp 31 4 1 _ rfl info4 rfl w3 _ _ rfl w3.heap.size (.slice none 0 0) [] bv (Ks.map Value.bool) rfl rfl (Row.nil _ _ _) (HN.out.back.grown H3.out.2).rd (bools_one Ks) ?c3 ?c4 ?c5 ?_
  case c3 => have := HN.out.long; have := HN.out.same; simp; omega
  case c4 => have := HN.out.long; have := HN.out.same; unfold maxLen; simp; omega
  case c5 => exact Nat.le_refl _
  intro v4 w4 hr4 hg4 hv4
  have hg4' : w3.grownBy w4 none := hg4
  obtain ⟨q3, q4, e4⟩ := hr4.sl
  rw [show (([] : List Value) ++ Ks.map Value.bool).length = Ks.length by simp] at e4
  subst e4
  have H4 : Hid (Row 9 w4 wd.heap.size _ (T.map Value.string) ∧ Row 4 w4 w3.heap.size _ (Ks.map Value.bool) ∧ w.grownBy w4 none) := ⟨H3.out.1.grown hg4', hr4, grown_trans H3.out.2 hg4'⟩
  clear hr4 hg4 hg4' hv4
  refine hK.out _ _ (fun _ => H4.out.2.2) ?_
  clear hK K
  try simp only [Act.put, List.setIfInBounds_toArray, List.set_cons_zero, List.set_cons_succ]
  have J : Idx [14] := trivial
  iterate 1 (refine tk J (H4.out.2.2) rfl rfl (fun wk hk => by have k0 := hk.cell c0 (by simp); have k1 := hk.cell c1 (by simp); have k2 := hk.cell c2 (by simp); go_simp; try rfl) ?_; replace J := J.tl; try simp only [Act.put, List.setIfInBounds_toArray, List.set_cons_zero, List.set_cons_succ])
  clear J
  refine wpHold_one (i := 15) rfl (by kernel_rfl) (by rfl) (fun K hK => ?_)
  obtain ⟨w5, hw5, H5⟩ := al1 w4 #[.int .i64 (n : Nat), .slice q1 T.length q2, .slice q3 Ks.length q4] 33
  obtain ⟨b5, hb5⟩ : ∃ x, w4.heap.size = x := ⟨_, rfl⟩
  rw [hb5] at H5
  have HW5 : Hid (w4.alloc (.cells #[.int .i64 (n : Nat), .slice q1 T.length q2, .slice q3 Ks.length q4] 33) = w5 ∧ w4.heap.size = b5) := ⟨hw5, hb5⟩
  clear hw5 hb5
  go_wp2_with fail
  rw [HW5.out.1, HW5.out.2]
  have H6 : Hid (Rw w5 b5 (.slice q1 T.length q2) (.slice q3 Ks.length q4) n T Ks ∧ w.grownBy w5 none ∧ ∀ i, FR b5 (.slice q1 T.length q2) (.slice q3 Ks.length q4) i → w.heap.size ≤ i) := by
    have s1 := HD.out.size
    have s2 := H3.out.2.size
    have s3 := H4.out.2.2.size
    have s4 := HW5.out.2
    refine ⟨⟨H5.out.1, (H4.out.1.grown H5.out.2.1).mono (Nat.zero_le _), (H4.out.2.1.grown H5.out.2.1).mono (Nat.zero_le _), HN.out.same, HN.out.long⟩, grown_trans H4.out.2.2 H5.out.2.1, ?_⟩
    rintro i (rfl | hi | hi)
    · omega
    · have := (H4.out.1.lt i hi).1
      omega
    · have := (H4.out.2.1.lt i hi).1
      omega
  clear HW5 H5
  refine hK.out _ _ (fun _ => H6.out.2.1) ?_
  clear hK K
  try simp only [Act.put, List.setIfInBounds_toArray, List.set_cons_zero, List.set_cons_succ]
  have J : Idx [16] := trivial
  iterate 1 (refine tk J (H6.out.2.1) rfl rfl (fun wk hk => by have k0 := hk.cell c0 (by simp); have k1 := hk.cell c1 (by simp); have k2 := hk.cell c2 (by simp); go_simp; try rfl) ?_; replace J := J.tl; try simp only [Act.put, List.setIfInBounds_toArray, List.set_cons_zero, List.set_cons_succ])
  clear J
  refine wpHold_done (by kernel_rfl) ?_
  refine (‹∀ (a : Act) (w : World), Code.wp Try.prog _ _ a w → _› _ _ ?_)
  clear c0 c1 c2
  go_wp2_with fail
  go_ret
  exact ⟨b5, _, _, T, Ks, rfl, H6.out.1, rfl, H6.out.2⟩
end Go.Proofs.Ytignmnmhigncjaa
