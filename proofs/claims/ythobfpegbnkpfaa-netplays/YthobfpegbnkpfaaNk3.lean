/-
  NetPlays: a step's switch, one kind.
-/
import Derived.Test.YthobfpegbnkpfaaNk
namespace Go.Proofs.Ythobfpegbnkpfaa
open Go.RowKit Disk S

set_option maxRecDepth 100000 in
set_option maxHeartbeats 8000000 in
theorem sw3_3 (a : Act) (w w7 : World) (b : Nat) (v0 : Value) (lo : Option Addr) (ql lc : Nat) (s : Int) (i : Nat) (v : Value) (q : List Pcl) (sb : Nat) (kd nn : Int) (uo : Option Addr) (un uc : Nat) (ts : List ByteArray) (th : Bool) (hk : kd = 3)
    (hS : S4 a v0 (.pointer (some ⟨b, 0, none⟩)) (.slice lo ql lc) (.int .i64 s) (.int .i64 (i : Nat)) (.pointer (some ⟨sb, 0, none⟩)) (.bool th) (.int .i64 kd)) (hq : Stp3 w w7 b lo ql lc s i v q sb kd nn uo un uc ts th) :
    sw3.wp Try.prog (Sw3 w b v0 i) a w7 := by
  have HQ : Hid (Stp3 w w7 b lo ql lc s i v q sb kd nn uo un uc ts th) := hq
  obtain ⟨t, rfl⟩ := hS.eq
  clear hS
  have c0 := hq.blk.cell 0
  have c1 := hq.blk.cell 1
  have c2 := hq.blk.cell 2
  simp at c0 c1 c2
  clear hq
  show Code.wp Try.prog sw3 _ _ _
  unfold sw3 rnd3
  dsimp only [Try.f3, Option.getD, cL, cR, cB, cW]
  subst hk
  go_wp2_with fail
  refine (twin_yes b w.heap.size v q s nn w7 HQ.out.ply.mine.net (by have := HQ.out.top; omega) HQ.out.ply.mine.gr.size).mono ?_
  rintro e w8 (⟨hno, rfl, rfl⟩ | ⟨hin, hfull, rfl, hg⟩ | ⟨a, h0, ha, hlt, rfl, r, hr, hN⟩)
  · have hth : th = false := by
      have h1 := HQ.out.th
      have h2 := HQ.out.len
      rw [← h1]
      have h : ¬ (0 ≤ nn ∧ nn < (ql : Int)) := by omega
      simp [h]
    subst hth
    clear hno
    go_wp2_with fail
    exact ⟨_, _, _, _, ⟨rfl, rfl, rfl, rfl, rfl, rfl, rfl⟩, HQ.out.ply.more⟩
  · have hth : th = true := by
      have h1 := HQ.out.th
      have h2 := HQ.out.len
      rw [← h1]
      have h : (0 ≤ nn ∧ nn < (ql : Int)) := by omega
      simp [h]
    subst hth
    have H8 : Hid (w7.grownBy w8 none) := hg
    have j6 : (65536 : Int) ≤ (ql : Int) := by have := HQ.out.len; omega
    clear hin hfull hg c0 c1 c2
    have c0 := (HQ.out.blk.grown H8.out (by simp)).cell 0
    have c1 := (HQ.out.blk.grown H8.out (by simp)).cell 1
    have c2 := (HQ.out.blk.grown H8.out (by simp)).cell 2
    simp at c0 c1 c2
    go_wp2_with fail
    exact ⟨_, _, _, _, ⟨rfl, rfl, rfl, rfl, rfl, rfl, rfl⟩, (HQ.out.ply.grown H8.out).more⟩
  · have hjl : nn.toNat < q.length := (List.getElem?_eq_some_iff.1 ha).1
    have hth : th = true := by
      have h1 := HQ.out.th
      have h2 := HQ.out.len
      rw [← h1]
      have h : 0 ≤ nn ∧ nn < (ql : Int) := by omega
      simp [h]
    subst hth
    obtain ⟨j, rfl⟩ : ∃ j : Nat, nn = (j : Int) := ⟨nn.toNat, by omega⟩
    simp only [Int.toNat_natCast] at ha hjl
    obtain ⟨v8, M8⟩ := HQ.out.ply.mine.to hN
    have H8 : Hid (Mine w w8 b v8 (q ++ r) (s + 1) ∧ Row 9 w8 w.heap.size (.slice lo ql lc) (tvs q) ∧ Blk w8 sb 27 #[.int .i64 3, .int .i64 (j : Int), .slice uo un uc] ∧ r.map (·.t) = [a.t] ∧ ql < 65536 ∧ ∃ g, lo = some ⟨g, 0, none⟩ ∧ w8.cell? ⟨g, j, none⟩ = some (.string a.t)) := by
      have hr' := HQ.out.ply.mine.row hN HQ.out.ply.row (by decide) (by decide)
      refine ⟨M8, hr', HQ.out.ply.mine.other hN HQ.out.blk (by decide) (by decide), hr, by have := HQ.out.len; omega, ?_⟩
      have hjt : j < (tvs q).length := by rw [tvs_len]; exact hjl
      rcases hr'.shape with ⟨e, e'⟩ | ⟨g, cp, C, e, _⟩
      · rw [e'] at hjt; simp at hjt
      · simp at e
        obtain ⟨rfl, _⟩ := e
        refine ⟨g, rfl, ?_⟩
        rw [hr'.cell j hjt]
        have h2 := (List.getElem?_eq_some_iff.1 ha).2
        simp [tvs, h2]
    have j1 : (j : Int) < (ql : Int) := by have := HQ.out.len; omega
    have j2 : (0 : Int) ≤ (j : Int) := by omega
    have j4 : decide ((65536 : Int) ≤ (ql : Int)) = false := by have := H8.out.2.2.2.2.1; rw [decide_eq_false_iff_not]; omega
    clear h0 ha hlt hr hN M8 hjl c0 c1 c2
    obtain ⟨g, rfl, k1⟩ := H8.out.2.2.2.2.2
    have c0 := (H8.out.2.2.1).cell 0
    have c1 := (H8.out.2.2.1).cell 1
    have c2 := (H8.out.2.2.1).cell 2
    simp at c0 c1 c2
    obtain ⟨w9, hw9, H9⟩ := al1 w8 #[.string a.t] 9
    have HW9 : Hid (w8.alloc (.cells #[.string a.t] 9) = w9) := hw9
    obtain ⟨g9, hg9⟩ : ∃ x, w8.heap.size = x := ⟨_, rfl⟩
    have HG9 : Hid (w8.heap.size = g9) := hg9
    rw [hg9] at H9
    clear hw9 hg9
    go_wp2_with (at_builtin; rw [HW9.out, HG9.out]; refine appR 25 9 16 _ rfl info9 rfl w9 rfl _ _ rfl w.heap.size (.slice (some ⟨g, 0, none⟩) ql lc) (tvs q) (.slice (some ⟨g9, 0, none⟩) 1 1) [.string a.t] rfl rfl (H8.out.2.1.grown H9.out.2.1) (rd_blk H9.out.1) (strs_one [a.t]) ?d0 ?d1 (grown_trans H8.out.1.gr H9.out.2.1).size ?_)
    case d0 => have := H8.out.2.2.2.2.1; have := HQ.out.len; simp [tvs_len]; omega
    case d1 => have := H8.out.2.2.2.2.1; have := HQ.out.len; unfold maxLen; simp [tvs_len]; omega
    intro v4 w10 hr4 hg4 hv4
    have HZ : Hid (Ply w w10 b v4 (s + 1) (i + 1) v8 (q ++ r)) := by
      have hrow := H8.out.2.1.grown H9.out.2.1
      refine ⟨(H8.out.1.grown H9.out.2.1).but hg4 fun k hk => ?_, ?_, ?_⟩
      · obtain ⟨D, hD⟩ := hrow.blk k hk
        exact ⟨(hrow.lt k hk).1, 9, D, hD, by decide, by decide, by decide⟩
      · have e1 : tvs (q ++ r) = tvs q ++ [Value.string a.t] := by
          have h3 := congrArg (List.map Value.string) H8.out.2.2.2.1
          simp at h3
          simp [tvs, h3]
        rw [e1]
        exact hr4
      · have h1 := HQ.out.ply.num
        push_cast
        omega
    have wsu : IntKind.i64.wrap (s + 1) = s + 1 := by have := HQ.out.low; have := HQ.out.top; rw [IntKind.wrap_i64]; omega
    obtain ⟨l1, l2, rfl⟩ := HZ.out.sl
    obtain ⟨m4, hm4⟩ : ∃ m, (q ++ r).length = m := ⟨_, rfl⟩
    rw [hm4] at HZ ⊢
    clear hr4 hg4 hv4 hm4
    go_wp2_with fail
    exact ⟨_, _, _, _, ⟨rfl, rfl, rfl, rfl, rfl, rfl, rfl⟩, HZ.out⟩
end Go.Proofs.Ythobfpegbnkpfaa
