/-
  NetPlays: a step's switch, one kind.
-/
import Derived.Test.YthobfpegbnkpfaaNk
namespace Go.Proofs.Ythobfpegbnkpfaa
open Go.RowKit Disk S

set_option maxRecDepth 100000 in
set_option maxHeartbeats 8000000 in
theorem sw3_6 (a : Act) (w w7 : World) (b : Nat) (v0 : Value) (lo : Option Addr) (ql lc : Nat) (s : Int) (i : Nat) (v : Value) (q : List Pcl) (sb : Nat) (kd nn : Int) (uo : Option Addr) (un uc : Nat) (ts : List ByteArray) (th : Bool) (hk : kd = 6)
    (hS : S4 a v0 (.pointer (some ⟨b, 0, none⟩)) (.slice lo ql lc) (.int .i64 s) (.int .i64 (i : Nat)) (.pointer (some ⟨sb, 0, none⟩)) (.bool th) (.int .i64 kd)) (hq : Stp3 w w7 b lo ql lc s i v q sb kd nn uo un uc ts th) :
    sw3.wp Try.prog (Sw3 w b v0 i) a w7 := by
  have HQ : Hid (Stp3 w w7 b lo ql lc s i v q sb kd nn uo un uc ts th) := hq
  obtain ⟨t, rfl⟩ := hS.eq
  clear hS
  have c0 := hq.blk.cell 0
  have c1 := hq.blk.cell 1
  have c2 := hq.blk.cell 2
  simp at c0 c1 c2
  clear hq
  show Code.wp Try.prog sw3 _ _ _
  unfold sw3 rnd3
  dsimp only [Try.f3, Option.getD, cL, cR, cB, cW]
  subst hk
  have hcase : (∃ j : Nat, nn = (j : Int) ∧ j < ql ∧ th = true) ∨ (¬ (0 ≤ nn ∧ nn.toNat < q.length) ∧ th = false) := by
    have h1 := HQ.out.th
    have h2 := HQ.out.len
    by_cases h : 0 ≤ nn ∧ nn < (ql : Int)
    · exact .inl ⟨nn.toNat, by omega, by omega, by rw [← h1]; simp [h]⟩
    · exact .inr ⟨by omega, by rw [← h1]; simp [h]⟩
  rcases hcase with ⟨j, rfl, hj, rfl⟩ | ⟨hno, rfl⟩
  · obtain ⟨a, ha⟩ : ∃ a, q[j]? = some a := ⟨_, List.getElem?_eq_getElem (by have := HQ.out.len; omega)⟩
    have HA : Hid (q[j]? = some a ∧ atD q (j : Int) = (a.t, 0)) := by
      obtain ⟨h1, h2⟩ := List.getElem?_eq_some_iff.1 ha
      refine ⟨ha, ?_⟩
      unfold atD
      rw [dif_pos ⟨by omega, by simpa using h1⟩]
      simp only [Int.toNat_natCast, h2]
    clear ha
    have j1 : (j : Int) < (ql : Int) := by omega
    have j2 : (0 : Int) ≤ (j : Int) := by omega
    go_wp2_with fail
    refine (at_yes b w.heap.size v q s j w7 HQ.out.ply.mine.net).mono ?_
    rintro e w8 ⟨rfl, hT⟩
    rw [HA.out.2]
    subst hT
    have H8 : Hid (Ply w w8 b (.slice lo ql lc) s (i + 1) v q ∧ ∃ g, lo = some ⟨g, 0, none⟩ ∧ w8.cell? ⟨g, j, none⟩ = some (.string a.t)) := by
      have hr := HQ.out.ply.row
      refine ⟨HQ.out.ply.more, ?_⟩
      have hjl : j < (tvs q).length := by rw [tvs_len]; have := HQ.out.len; omega
      rcases hr.shape with ⟨e, e'⟩ | ⟨g, cp, C, e, _⟩
      · rw [e'] at hjl; simp at hjl
      · simp at e
        obtain ⟨rfl, _⟩ := e
        refine ⟨g, rfl, ?_⟩
        rw [hr.cell j hjl]
        have h2 := (List.getElem?_eq_some_iff.1 HA.out.1).2
        simp [tvs, h2]
    obtain ⟨g, rfl, k1⟩ := H8.out.2
    have s5 : (a.t.toList != a.t.toList) = false := by simp
    go_wp2_with fail
    exact ⟨_, _, _, _, ⟨rfl, rfl, rfl, rfl, rfl, rfl, rfl⟩, H8.out.1⟩
  · have HNO : Hid (¬ (0 ≤ nn ∧ nn.toNat < q.length)) := hno
    have HA : Hid (atD q nn = (⟨#[]⟩, 5)) := by
      unfold atD Hid
      rw [dif_neg hno]
    clear hno
    go_wp2_with fail
    refine (at_yes b w.heap.size v q s nn w7 HQ.out.ply.mine.net).mono ?_
    rintro e w8 ⟨rfl, hT⟩
    rw [HA.out]
    subst hT
    go_wp2_with fail
    exact ⟨_, _, _, _, ⟨rfl, rfl, rfl, rfl, rfl, rfl, rfl⟩, HQ.out.ply.more⟩
end Go.Proofs.Ythobfpegbnkpfaa
