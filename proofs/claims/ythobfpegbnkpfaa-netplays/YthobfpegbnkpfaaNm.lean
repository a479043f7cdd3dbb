/-
  NetPlays: the round's pieces.
-/
import Derived.Test.YthobfpegbnkpfaaNk
namespace Go.Proofs.Ythobfpegbnkpfaa
open Go.RowKit Disk S

noncomputable def bx3 : Code := cB (cL (cR rnd3))
noncomputable def c7 : Code := cL rnd3
noncomputable def c9 : Code := cL bx3
noncomputable def c10 : Code := cL (cR bx3)
noncomputable def c11 : Code := cL (cL (cR (cR bx3)))
noncomputable def c69 : Code := cR (cR (cR bx3))
noncomputable def c8 : Code := cR (cR rnd3)
theorem rnd3_eq : rnd3 = .seq c7 (.seq (.block 1 (.seq c9 (.seq c10 (.seq (.seq c11 sw3) c69)))) c8) := rfl
theorem f3_eq : Try.f3.body = some (.seq (cL (Try.f3.body.getD .skip)) (.seq (cL (cR (Try.f3.body.getD .skip))) (.seq (cL (cR (cR (Try.f3.body.getD .skip)))) (.seq (cL (cR (cR (cR (Try.f3.body.getD .skip))))) (.seq (cL (cR (cR (cR (cR (Try.f3.body.getD .skip)))))) (.seq (.seq (cL (cL (cR (cR (cR (cR (cR (Try.f3.body.getD .skip)))))))) (.block 0 (.loop rnd3))) (cR (cR (cR (cR (cR (cR (Try.f3.body.getD .skip))))))))))))) := rfl

/-- Where a piece ends: what holds behind it, and whether it may leave the loop. -/
def At3 (P : Act → World → Prop) : Exit → Act → World → Prop
  | .normal, a, w => P a w
  | _, _, _ => False
def Fore3 (w : World) (b : Nat) (v0 : Value) (lo : Option Addr) (ql lc : Nat) (s : Int) (i : Nat) (v : Value) (q : List Pcl) (a : Act) (w7 : World) : Prop := ∃ sb kd nn uo un uc ts th, S4 a v0 (.pointer (some ⟨b, 0, none⟩)) (.slice lo ql lc) (.int .i64 s) (.int .i64 (i : Nat)) (.pointer (some ⟨sb, 0, none⟩)) (.bool th) (.int .i64 kd) ∧ Stp3 w w7 b lo ql lc s i v q sb kd nn uo un uc ts th
def Same3 (w0 : World) (v0 x3 x4 x5 x6 : Value) (a : Act) (w : World) : Prop := w = w0 ∧ S3 a v0 x3 x4 x5 x6
def Head3 (w0 : World) (v0 x3 x4 x5 x6 : Value) (c : Prop) : Exit → Act → World → Prop
  | .normal, a, w => Same3 w0 v0 x3 x4 x5 x6 a w ∧ c
  | .exit k, a, w => Same3 w0 v0 x3 x4 x5 x6 a w ∧ k = 0
  | _, _, _ => False

set_option maxRecDepth 100000 in
set_option maxHeartbeats 8000000 in
theorem fore3 (a : Act) (w wr : World) (b : Nat) (so : Option Addr) (sn sc : Nat) (lo : Option Addr) (ql lc : Nat) (s : Int) (i : Nat) (v : Value) (q : List Pcl) (ss : List PSt)
    (hS : S3 a (.slice so sn sc) (.pointer (some ⟨b, 0, none⟩)) (.slice lo ql lc) (.int .i64 s) (.int .i64 (i : Nat))) (hp : Ply w wr b (.slice lo ql lc) s i v q) (hs : Stps w (.slice so sn sc) ss) (hn : ss.length = sn) (hi : i < sn) (hl : i < 400)
    (SW C : Code) (Q : Exit → Act → World → Prop) (hk : ∀ (Q' : Exit → Act → World → Prop) a w7, Fore3 w b (.slice so sn sc) lo ql lc s i v q a w7 → (∀ a w, C.wp Try.prog Q a w → Q' .normal a w) → SW.wp Try.prog Q' a w7) :
    (Code.seq c9 (Code.seq c10 (Code.seq (Code.seq c11 SW) C))).wp Try.prog Q a wr := by
  have HP : Hid (Ply w wr b (.slice lo ql lc) s i v q) := hp
  obtain ⟨t, rfl⟩ := hS.eq
  clear hS
  obtain ⟨sb0, off, u, rfl, d0, d1, d2, d3, d4⟩ := stps_at hs i (by omega)
  replace d0 := hp.mine.gr.cell d0 (by simp)
  replace d1 := hp.mine.gr.cell d1 (by simp)
  replace d2 := hp.mine.gr.cell d2 (by simp)
  obtain ⟨kd, hkd⟩ : ∃ k, ss[i].kind = k := ⟨_, rfl⟩
  obtain ⟨nn, hnn⟩ : ∃ k, ss[i].n = k := ⟨_, rfl⟩
  obtain ⟨ts, hts⟩ : ∃ k, ss[i].l = k := ⟨_, rfl⟩
  obtain ⟨uo, uc, rfl⟩ := d3.shape
  rw [hkd] at d0
  rw [hnn] at d1 d4
  rw [hts] at d3 d4 d2
  rw [List.length_map] at d2 d3
  obtain ⟨un, hun⟩ : ∃ k, ts.length = k := ⟨_, rfl⟩
  rw [hun] at d2 d3 d4
  have HD : Hid (Rd w (.slice uo un uc) (ts.map Value.string) ∧ ts.length = un ∧ un * 16 ≤ 140737488351232 ∧ -9223372036854775808 ≤ nn ∧ nn ≤ 9223372036854775807) := ⟨d3, hun, d4⟩
  have j1 : (i : Int) < (sn : Int) := by omega
  have j2 : (0 : Int) ≤ (i : Int) := by omega
  clear d3 d4 hun hts hnn hkd hs hn hp hi
  unfold c9 c10 c11 bx3 rnd3
  dsimp only [Try.f3, Option.getD, cL, cR, cB, cW]
  go_upto_region 10 with fail
  obtain ⟨w7, hw7, H7⟩ := al1 wr #[.int .i64 kd, .int .i64 nn, .slice uo un uc] 27
  obtain ⟨sb, hsb⟩ : ∃ x, wr.heap.size = x := ⟨_, rfl⟩
  have HB : Hid (w.heap.size ≤ sb) := by have := HP.out.mine.gr.size; unfold Hid; omega
  rw [hw7]
  rw [hsb] at H7 ⊢
  have HQ : Hid (q.length = ql) := by
    obtain ⟨ao, cap, e⟩ := HP.out.sl
    simp at e
    exact e.2.1.symm
  clear hw7 hsb d0 d1 d2
  have c0 := H7.out.1.cell 0
  have c1 := H7.out.1.cell 1
  simp at c0 c1
  have mk : ∀ th, decide (0 ≤ nn ∧ nn < (ql : Int)) = th → Stp3 w w7 b lo ql lc s i v q sb kd nn uo un uc ts th := fun th hth => by
    refine ⟨HP.out.grown H7.out.2.1, HD.out.1, H7.out.1, HB.out, HQ.out, ?_, ?_, ?_, HD.out.2.1, HD.out.2.2.1, hl, hth, HD.out.2.2.2.1, HD.out.2.2.2.2⟩
    · have h1 := HP.out.mine.net.len; have h2 := HQ.out; omega
    · exact HP.out.mine.net.low
    · have h1 := HP.out.num; omega
  have MK : Hid _ := mk
  clear mk
  by_cases z1 : 0 ≤ nn
  · by_cases z2 : nn < (ql : Int)
    · go_wp2_with fail
      refine hk _ _ _ ?_ ‹_›
      exact ⟨sb, kd, nn, uo, un, uc, ts, true, ⟨⟨rfl, rfl, rfl, rfl, rfl, rfl, rfl⟩, rfl, rfl, rfl⟩, MK.out _ (by simp [z1, z2])⟩
    · go_wp2_with fail
      refine hk _ _ _ ?_ ‹_›
      exact ⟨sb, kd, nn, uo, un, uc, ts, false, ⟨⟨rfl, rfl, rfl, rfl, rfl, rfl, rfl⟩, rfl, rfl, rfl⟩, MK.out _ (by simp; omega)⟩
  · go_wp2_with fail
    refine hk _ _ _ ?_ ‹_›
    exact ⟨sb, kd, nn, uo, un, uc, ts, false, ⟨⟨rfl, rfl, rfl, rfl, rfl, rfl, rfl⟩, rfl, rfl, rfl⟩, MK.out _ (by rw [decide_eq_false_iff_not]; omega)⟩

set_option maxRecDepth 100000 in
set_option maxHeartbeats 8000000 in
theorem back3 (a : Act) (w wr : World) (b : Nat) (v0 x4 : Value) (s : Int) (i : Nat) (v : Value) (q : List Pcl)
    (hS : S3 a v0 (.pointer (some ⟨b, 0, none⟩)) x4 (.int .i64 s) (.int .i64 (i : Nat))) (hp : Ply w wr b x4 s (i + 1) v q) :
    c69.wp Try.prog (At3 (Same3 wr v0 (.pointer (some ⟨b, 0, none⟩)) x4 (.int .i64 s) (.int .i64 (i : Nat)))) a wr := by
  have HP : Hid (Ply w wr b x4 s (i + 1) v q) := hp
  obtain ⟨t, rfl⟩ := hS.eq
  obtain ⟨ao, cap, rfl⟩ := hp.sl
  obtain ⟨ql, hql⟩ : ∃ n, q.length = n := ⟨_, rfl⟩
  have HL : Hid (q.length = ql) := hql
  rw [hql] at HP ⊢
  have n1 : ((ql : Int) != (ql : Int)) = false := by simp
  have n2 : (s != s) = false := by simp
  clear hS hp hql
  unfold c69 bx3 rnd3
  dsimp only [Try.f3, Option.getD, cL, cR, cB, cW]
  go_wp2_with fail
  refine HP.out.mine.len.mono ?_
  rintro e w1 ⟨rfl, rfl⟩
  rw [HL.out]
  go_wp2_with fail
  refine (sent_yes b _ _ _ _ _ HP.out.mine.net).mono ?_
  rintro e w2 ⟨rfl, rfl⟩
  go_wp2_with fail
  exact ⟨rfl, ⟨rfl, rfl, rfl, rfl, rfl, rfl, rfl⟩⟩

set_option maxRecDepth 100000 in
set_option maxHeartbeats 8000000 in
theorem inc3 (a : Act) (wr : World) (v0 x3 x4 x5 : Value) (i : Nat) (hi : i < 400)
    (hS : S3 a v0 x3 x4 x5 (.int .i64 (i : Nat))) :
    c8.wp Try.prog (At3 (Same3 wr v0 x3 x4 x5 (.int .i64 ((i + 1 : Nat) : Int)))) a wr := by
  obtain ⟨t, rfl⟩ := hS.eq
  clear hS
  have wi : IntKind.i64.wrap ((i : Int) + 1) = ((i + 1 : Nat) : Int) := by rw [IntKind.wrap_i64]; push_cast; omega
  unfold c8 rnd3
  dsimp only [Try.f3, Option.getD, cL, cR, cB, cW]
  go_wp2_with fail
  exact ⟨rfl, rfl, rfl, rfl, rfl, rfl, rfl, by first | rfl | (simp [sl]; done)⟩

set_option maxRecDepth 100000 in
set_option maxHeartbeats 8000000 in
theorem head3 (a : Act) (wr : World) (so : Option Addr) (sn sc : Nat) (x3 x4 x5 : Value) (i : Nat)
    (hS : S3 a (.slice so sn sc) x3 x4 x5 (.int .i64 (i : Nat))) :
    c7.wp Try.prog (Head3 wr (.slice so sn sc) x3 x4 x5 (.int .i64 (i : Nat)) (i < sn ∧ i < 400)) a wr := by
  obtain ⟨t, rfl⟩ := hS.eq
  clear hS
  unfold c7 rnd3
  dsimp only [Try.f3, Option.getD, cL, cR, cB, cW]
  by_cases z1 : i < sn
  · have j1 : (i : Int) < (sn : Int) := by omega
    by_cases z2 : i < 400
    · have j2 : (i : Int) < 400 := by omega
      go_wp2_with fail
      exact ⟨⟨rfl, ⟨rfl, rfl, rfl, rfl, rfl, rfl, rfl⟩⟩, z1, z2⟩
    · have j2 : decide ((i : Int) < 400) = false := by rw [decide_eq_false_iff_not]; omega
      go_wp2_with fail
      exact ⟨⟨rfl, ⟨rfl, rfl, rfl, rfl, rfl, rfl, rfl⟩⟩, rfl⟩
  · have j1 : ¬ (i : Int) < (sn : Int) := by omega
    go_wp2_with fail
    exact ⟨⟨rfl, ⟨rfl, rfl, rfl, rfl, rfl, rfl, rfl⟩⟩, rfl⟩
end Go.Proofs.Ythobfpegbnkpfaa
