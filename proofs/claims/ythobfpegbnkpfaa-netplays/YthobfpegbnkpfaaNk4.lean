/-
  NetPlays: a step's switch, one kind.
-/
import Derived.Test.YthobfpegbnkpfaaNk
namespace Go.Proofs.Ythobfpegbnkpfaa
open Go.RowKit Disk S

set_option maxRecDepth 100000 in
set_option maxHeartbeats 8000000 in
theorem sw3_4 (a : Act) (w w7 : World) (b : Nat) (v0 : Value) (lo : Option Addr) (ql lc : Nat) (s : Int) (i : Nat) (v : Value) (q : List Pcl) (sb : Nat) (kd nn : Int) (uo : Option Addr) (un uc : Nat) (ts : List ByteArray) (th : Bool) (hk : kd = 4)
    (hS : S4 a v0 (.pointer (some ⟨b, 0, none⟩)) (.slice lo ql lc) (.int .i64 s) (.int .i64 (i : Nat)) (.pointer (some ⟨sb, 0, none⟩)) (.bool th) (.int .i64 kd)) (hq : Stp3 w w7 b lo ql lc s i v q sb kd nn uo un uc ts th) :
    sw3.wp Try.prog (Sw3 w b v0 i) a w7 := by
  have HQ : Hid (Stp3 w w7 b lo ql lc s i v q sb kd nn uo un uc ts th) := hq
  obtain ⟨t, rfl⟩ := hS.eq
  clear hS
  have c0 := hq.blk.cell 0
  have c1 := hq.blk.cell 1
  have c2 := hq.blk.cell 2
  simp at c0 c1 c2
  clear hq
  show Code.wp Try.prog sw3 _ _ _
  unfold sw3 rnd3
  dsimp only [Try.f3, Option.getD, cL, cR, cB, cW]
  subst hk
  have hcase : (∃ j : Nat, nn = (j : Int) ∧ j < ql ∧ th = true) ∨ (¬ (0 ≤ nn ∧ nn.toNat < q.length) ∧ th = false) := by
    have h1 := HQ.out.th
    have h2 := HQ.out.len
    by_cases h : 0 ≤ nn ∧ nn < (ql : Int)
    · exact .inl ⟨nn.toNat, by omega, by omega, by rw [← h1]; simp [h]⟩
    · exact .inr ⟨by omega, by rw [← h1]; simp [h]⟩
  rcases hcase with ⟨j, rfl, hj, rfl⟩ | ⟨hno, rfl⟩
  · obtain ⟨a, ha⟩ : ∃ a, q[j]? = some a := ⟨_, List.getElem?_eq_getElem (by have := HQ.out.len; omega)⟩
    have HA : Hid (q[j]? = some a ∧ atD q (j : Int) = (a.t, 0)) := by
      obtain ⟨h1, h2⟩ := List.getElem?_eq_some_iff.1 ha
      refine ⟨ha, ?_⟩
      unfold atD
      rw [dif_pos ⟨by omega, by simpa using h1⟩]
      simp only [Int.toNat_natCast, h2]
    clear ha
    have j1 : (j : Int) < (ql : Int) := by omega
    have j2 : (0 : Int) ≤ (j : Int) := by omega
    go_wp2_with fail
    refine (lose_yes b w.heap.size v q s j w7 HQ.out.ply.mine.net).mono ?_
    rintro e w8 ⟨rfl, hT⟩
    rw [HA.out.2]
    unfold TakeP at hT
    rw [if_pos ⟨by omega, by have := HQ.out.len; simpa [this] using hj⟩] at hT
    obtain ⟨v8, M8'⟩ := HQ.out.ply.mine.to hT
    have H8 : Hid (Mine w w8 b v8 (q.eraseIdx j) s ∧ Row 9 w8 w.heap.size (.slice lo ql lc) (tvs q) ∧ Blk w8 sb 27 #[.int .i64 4, .int .i64 (j : Int), .slice uo un uc] ∧ ∃ g, lo = some ⟨g, 0, none⟩ ∧ w8.cell? ⟨g, j, none⟩ = some (.string a.t)) := by
      have hr := HQ.out.ply.mine.row hT HQ.out.ply.row (by decide) (by decide)
      refine ⟨by simpa using M8', hr, HQ.out.ply.mine.other hT HQ.out.blk (by decide) (by decide), ?_⟩
      have hjl : j < (tvs q).length := by rw [tvs_len]; have := HQ.out.len; omega
      rcases hr.shape with ⟨e, e'⟩ | ⟨g, cp, C, e, _⟩
      · rw [e'] at hjl; simp at hjl
      · simp at e
        obtain ⟨rfl, _⟩ := e
        refine ⟨g, rfl, ?_⟩
        rw [hr.cell j hjl]
        have h2 := (List.getElem?_eq_some_iff.1 HA.out.1).2
        simp [tvs, h2]
    clear hT M8' c0 c1 c2
    have c0 := (H8.out.2.2.1).cell 0
    have c1 := (H8.out.2.2.1).cell 1
    have c2 := (H8.out.2.2.1).cell 2
    simp at c0 c1 c2
    obtain ⟨g, rfl, k1⟩ := H8.out.2.2.2
    have s5 : (a.t.toList != a.t.toList) = false := by simp
    have HRW : Hid (Row 9 w8 w.heap.size (.slice (some ⟨g, 0, none⟩) j lc) ((tvs q).take j) ∧ (tvs q).length = ql ∧ j < ql) := ⟨H8.out.2.1.take j (by rw [tvs_len]; have := HQ.out.len; omega), by rw [tvs_len]; exact HQ.out.len, hj⟩
    have hcap := H8.out.2.1.cap
    obtain ⟨ro, rc, hsv⟩ : ∃ so sc, sliced (some ⟨g, 0, none⟩) (j + 1) ql lc 1 = .slice so (ql - (j + 1)) sc := ⟨_, _, rfl⟩
    have hsl : ∀ wk, (Instr.slice 25 (.slice (some ⟨g, 0, none⟩) ql lc) (some (.int .i64 ((j : Int) + 1))) none none).run Try.prog wk = .ok (.slice ro (ql - (j + 1)) rc) wk := fun wk => by
      rw [← hsv]
      exact run_sl 25 9 ut25 sz9 (some ⟨g, 0, none⟩) ql lc (j + 1) (by omega) (by have := HQ.out.few; omega) wk
    have HRD : Hid (Rd w8 (.slice ro (ql - (j + 1)) rc) ((tvs q).drop (j + 1))) := by
      have := rd_rest (j + 1) (by rw [tvs_len]; have := HQ.out.len; omega) H8.out.2.1.rd
      rw [hsv] at this
      exact this
    have wj : IntKind.i64.wrap ((j : Int) + 1) = (j : Int) + 1 := by have := HQ.out.few; rw [IntKind.wrap_i64]; omega
    have jc : j ≤ lc := by have := hcap.2.1; omega
    have jq : j ≤ ql := by omega
    have jci : (j : Int) ≤ (lc : Int) := by omega
    clear hsv hcap
    go_upto_region 42 with fail
    clear k1 s5 c0 c1 c2
    refine wp_region_hold 1000 (fun y => Blk y sb 27 #[.int .i64 4, .int .i64 (j : Int), .slice uo un uc]) (by kernel_rfl) ?_
    have G0 : Hid (w8.grownBy w8.drew none ∧ Blk w8.drew sb 27 #[.int .i64 4, .int .i64 (j : Int), .slice uo un uc]) := ⟨grown_drew _ _, H8.out.2.2.1.grown (grown_drew _ none) (by simp)⟩
    generalize w8.drew = wd at G0 ⊢
    have J : Idx [0, 1, 2, 3, 5, 6, 7, 8, 9] := trivial
    iterate 9 (refine tk J (G0.out.2) rfl rfl (fun wk hk => by have k1 := hk.cell 1; simp at k1; go_simp; try rfl) ?_; replace J := J.tl; try simp only [Act.put, List.setIfInBounds_toArray, List.set_cons_zero, List.set_cons_succ])
    clear J
    refine wpHold_one (i := 4) rfl (by kernel_rfl) (by rfl) (fun K hK => ?_)
    refine appR_wp 25 9 16 _ rfl info9 rfl wd _ _ rfl wd.heap.size (.slice none 0 0) [] (.slice (some ⟨g, 0, none⟩) j lc) ((tvs q).take j) rfl rfl (Row.nil _ _ _) (HRW.out.1.rd.grown G0.out.1) (fun y hy => tvs_one q y (List.mem_of_mem_take hy)) ?d0 ?d1 (Nat.le_refl _) ?_
    case d0 => have := HRW.out.2; have := HQ.out.few; simp; omega
    case d1 => have := HRW.out.2; have := HQ.out.few; unfold maxLen; simp; omega
    intro v5 w5 hr5 hg5 hv5
    have hg5' : wd.grownBy w5 none := by simpa [Value.ownBlock] using hg5
    obtain ⟨g5, c5, rfl⟩ := hr5.sl
    have el5 : ([] ++ (tvs q).take j).length = j := by have := HRW.out.2; simp; omega
    rw [el5] at hr5 hv5 ⊢
    have HWL : Hid (wd.heap.size ≤ w5.heap.size) := hg5'.size
    have H5 : Hid (w8.grownBy w5 none ∧ Blk w5 sb 27 #[.int .i64 4, .int .i64 (j : Int), .slice uo un uc] ∧ Row 9 w5 wd.heap.size (.slice g5 j c5) ((tvs q).take j)) := ⟨grown_trans G0.out.1 hg5', G0.out.2.grown hg5' (by simp), by simpa using hr5⟩
    clear hr5 hg5 hv5 hg5' el5
    refine hK.out _ _ (fun _ => H5.out.2.1) ?_
    clear hK K
    try simp only [Act.put, List.setIfInBounds_toArray, List.set_cons_zero, List.set_cons_succ]
    refine wpHold_one (i := 10) rfl (by kernel_rfl) (by rfl) (fun K hK => ?_)
    refine appR_wp 25 9 16 _ rfl info9 rfl w5 _ _ rfl wd.heap.size (.slice g5 j c5) ((tvs q).take j) (.slice ro (ql - (j + 1)) rc) ((tvs q).drop (j + 1)) rfl rfl H5.out.2.2 (HRD.out.grown H5.out.1) (fun y hy => tvs_one q y (List.mem_of_mem_drop hy)) ?d2 ?d3 ?d4 ?_
    case d2 => have := HRW.out.2; have := HQ.out.few; simp; omega
    case d3 => have := HRW.out.2; have := HQ.out.few; unfold maxLen; simp; omega
    case d4 => exact (show wd.heap.size ≤ w5.heap.size by exact HWL.out)
    intro v6 w6 hr6 hg6 hv6
    have H6 : Hid (Blk w6 sb 27 #[.int .i64 4, .int .i64 (j : Int), .slice uo un uc]) := H5.out.2.1.grown hg6 fun e => by
      obtain ⟨D, hD⟩ := H5.out.2.2.blk sb e
      exact absurd (blk_type H5.out.2.1 hD) (by decide)
    have HZ : Hid (Ply w w6 b v6 s (i + 1) v8 (q.eraseIdx j)) := by
      have hbase : w.heap.size ≤ wd.heap.size := by have h1 := H8.out.1.gr.size; have h2 := G0.out.1.size; omega
      refine ⟨((H8.out.1.grown H5.out.1).but hg6 fun k hk => ?_), ?_, by have := HQ.out.ply.num; push_cast; omega⟩
      · obtain ⟨D, hD⟩ := H5.out.2.2.blk k hk
        exact ⟨by have := (H5.out.2.2.lt k hk).1; omega, 9, D, hD, by decide, by decide, by decide⟩
      · have e1 : tvs (q.eraseIdx j) = (tvs q).take j ++ (tvs q).drop (j + 1) := by
          unfold tvs
          rw [List.eraseIdx_eq_take_drop_succ, List.map_append, List.map_take, List.map_drop]
        rw [e1]
        exact hr6.mono hbase
    obtain ⟨l1, l2, rfl⟩ := HZ.out.sl
    obtain ⟨m4, hm4⟩ : ∃ m, (q.eraseIdx j).length = m := ⟨_, rfl⟩
    rw [hm4] at HZ ⊢
    clear hr6 hg6 hv6
    refine hK.out _ _ (fun _ => H6.out) ?_
    clear hK K
    try simp only [Act.put, List.setIfInBounds_toArray, List.set_cons_zero, List.set_cons_succ]
    have J : Idx [11] := trivial
    iterate 1 (refine tk J (H6.out) rfl rfl (fun wk hk => by have k1 := hk.cell 1; simp at k1; go_simp; try rfl) ?_; replace J := J.tl; try simp only [Act.put, List.setIfInBounds_toArray, List.set_cons_zero, List.set_cons_succ])
    clear J
    refine wpHold_done (by kernel_rfl) ?_
    exact ⟨_, _, _, _, ⟨rfl, rfl, rfl, rfl, rfl, rfl, rfl⟩, HZ.out⟩
  · have HNO : Hid (¬ (0 ≤ nn ∧ nn.toNat < q.length)) := hno
    have HA : Hid (atD q nn = (⟨#[]⟩, 5)) := by
      unfold atD Hid
      rw [dif_neg hno]
    clear hno
    go_wp2_with fail
    refine (lose_yes b w.heap.size v q s nn w7 HQ.out.ply.mine.net).mono ?_
    rintro e w8 ⟨rfl, hT⟩
    rw [HA.out]
    unfold TakeP at hT
    rw [if_neg HNO.out] at hT
    obtain ⟨v8, M8'⟩ := HQ.out.ply.mine.to hT
    have H8 : Hid (Ply w w8 b (.slice lo ql lc) s (i + 1) v8 q ∧ Blk w8 sb 27 #[.int .i64 4, .int .i64 nn, .slice uo un uc]) := ⟨⟨M8', HQ.out.ply.mine.row hT HQ.out.ply.row (by decide) (by decide), by have := HQ.out.ply.num; push_cast; omega⟩, HQ.out.ply.mine.other hT HQ.out.blk (by decide) (by decide)⟩
    clear hT M8' c0 c1 c2
    have c0 := (H8.out.2).cell 0
    have c1 := (H8.out.2).cell 1
    have c2 := (H8.out.2).cell 2
    simp at c0 c1 c2
    go_wp2_with fail
    exact ⟨_, _, _, _, ⟨rfl, rfl, rfl, rfl, rfl, rfl, rfl⟩, H8.out.1⟩
end Go.Proofs.Ythobfpegbnkpfaa
