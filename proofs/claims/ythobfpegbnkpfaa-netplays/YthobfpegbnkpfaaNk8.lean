/-
  NetPlays: a step's switch, one kind.
-/
import Derived.Test.YthobfpegbnkpfaaNk
namespace Go.Proofs.Ythobfpegbnkpfaa
open Go.RowKit Disk S

set_option maxRecDepth 100000 in
set_option maxHeartbeats 8000000 in
theorem sw3_8 (a : Act) (w w7 : World) (b : Nat) (v0 : Value) (lo : Option Addr) (ql lc : Nat) (s : Int) (i : Nat) (v : Value) (q : List Pcl) (sb : Nat) (kd nn : Int) (uo : Option Addr) (un uc : Nat) (ts : List ByteArray) (th : Bool) (hk : kd = 8)
    (hS : S4 a v0 (.pointer (some ⟨b, 0, none⟩)) (.slice lo ql lc) (.int .i64 s) (.int .i64 (i : Nat)) (.pointer (some ⟨sb, 0, none⟩)) (.bool th) (.int .i64 kd)) (hq : Stp3 w w7 b lo ql lc s i v q sb kd nn uo un uc ts th) :
    sw3.wp Try.prog (Sw3 w b v0 i) a w7 := by
  have HQ : Hid (Stp3 w w7 b lo ql lc s i v q sb kd nn uo un uc ts th) := hq
  obtain ⟨t, rfl⟩ := hS.eq
  clear hS
  have c0 := hq.blk.cell 0
  have c1 := hq.blk.cell 1
  have c2 := hq.blk.cell 2
  simp at c0 c1 c2
  clear hq
  show Code.wp Try.prog sw3 _ _ _
  unfold sw3 rnd3
  dsimp only [Try.f3, Option.getD, cL, cR, cB, cW]
  subst hk
  go_wp2_with fail
  refine (copy_yes b w.heap.size v q s w7 HQ.out.ply.mine.net).mono ?_
  rintro e w8 ⟨c, u, rfl, hc, hN, hg⟩
  have M8 : Hid (Mine w7 w8 c u q s) := ⟨hN, hg, hc⟩
  clear hN hg hc c0 c1 c2
  go_wp2_with fail
  obtain ⟨w9, hw9, H9⟩ := al1 w8 #[.string ⟨#[109, 111, 114, 101]⟩] 9
  obtain ⟨g9, hg9⟩ : ∃ x, w8.heap.size = x := ⟨_, rfl⟩
  rw [hw9]
  rw [hg9] at H9 ⊢
  clear hw9 hg9
  refine (send_yes c w7.heap.size u q s (.slice (some ⟨g9, 0, none⟩) 1 1) [⟨#[109, 111, 114, 101]⟩] w9 (M8.out.net.grown H9.out.2.1) (rd_blk H9.out.1) (fun _ k hk => ?_) (by have := HQ.out.top; omega) (grown_trans M8.out.gr H9.out.2.1).size).mono ?_
  · simp [Value.ownBlock] at hk
    subst hk
    exact (M8.out.grown H9.out.2.1).apart H9.out.1 (by decide) (by decide)
  have HL : Hid (q.length = ql ∧ ql ≤ 65536) := ⟨HQ.out.len, HQ.out.few⟩
  rintro e w10 (⟨h1, rfl, rfl⟩ | ⟨h1, rfl, r, hr, hT⟩)
  · have j3 : decide ((ql : Int) < 65536) = false := by have := HL.out; simp at h1; rw [decide_eq_false_iff_not]; omega
    have j4 : ((ql : Int) != (ql : Int) + 1) = true := by rw [bne_iff_ne]; omega
    have wq : IntKind.i64.wrap ((ql : Int) + 1) = (ql : Int) + 1 := by have := HL.out; rw [IntKind.wrap_i64]; omega
    clear h1
    go_wp2_with fail
    refine ((M8.out.grown H9.out.2.1).len).mono ?_
    rintro e w11 ⟨rfl, rfl⟩
    rw [HL.out.1]
    go_wp2_with fail
    refine (lose_yes c w7.heap.size u q s 0 _ (M8.out.grown H9.out.2.1).net).mono ?_
    rintro e w12 ⟨rfl, hT⟩
    obtain ⟨v12, M12⟩ := (M8.out.grown H9.out.2.1).to hT
    have H12 : Hid (w7.grownBy w12 none) := M12.gr
    clear hT M12
    go_wp2_with fail
    exact ⟨_, _, _, _, ⟨rfl, rfl, rfl, rfl, rfl, rfl, rfl⟩, (HQ.out.ply.grown H12.out).more⟩
  · obtain ⟨v10, M10'⟩ := (M8.out.grown H9.out.2.1).to hT
    have M10 : Hid (Mine w7 w10 c v10 (q ++ r) (s + (([⟨#[109, 111, 114, 101]⟩] : List ByteArray).length : Nat))) := M10'
    have HR : Hid ((q ++ r).length = ql + 1) := by
      have h2 := congrArg List.length hr
      have := HL.out
      unfold Hid
      simp at h2 ⊢
      omega
    have j5 : (((ql + 1 : Nat) : Int) != (ql : Int) + 1) = false := by simp
    have wq : IntKind.i64.wrap ((ql : Int) + 1) = (ql : Int) + 1 := by have := HL.out; rw [IntKind.wrap_i64]; omega
    clear h1 hr hT M10'
    go_wp2_with fail
    refine (M10.out.len).mono ?_
    rintro e w11 ⟨rfl, rfl⟩
    rw [HR.out]
    go_wp2_with fail
    refine (lose_yes c w7.heap.size v10 (q ++ r) _ 0 _ M10.out.net).mono ?_
    rintro e w12 ⟨rfl, hT⟩
    obtain ⟨v12, M12⟩ := M10.out.to hT
    have H12 : Hid (w7.grownBy w12 none) := M12.gr
    clear hT M12
    go_wp2_with fail
    exact ⟨_, _, _, _, ⟨rfl, rfl, rfl, rfl, rfl, rfl, rfl⟩, (HQ.out.ply.grown H12.out).more⟩
end Go.Proofs.Ythobfpegbnkpfaa
