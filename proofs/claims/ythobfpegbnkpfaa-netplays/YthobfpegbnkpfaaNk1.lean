/-
  NetPlays: a step's switch, one kind.
-/
import Derived.Test.YthobfpegbnkpfaaNk
namespace Go.Proofs.Ythobfpegbnkpfaa
open Go.RowKit Disk S

set_option maxRecDepth 100000 in
set_option maxHeartbeats 8000000 in
theorem sw3_1 (a : Act) (w w7 : World) (b : Nat) (v0 : Value) (lo : Option Addr) (ql lc : Nat) (s : Int) (i : Nat) (v : Value) (q : List Pcl) (sb : Nat) (kd nn : Int) (uo : Option Addr) (un uc : Nat) (ts : List ByteArray) (th : Bool) (hk : kd = 1)
    (hS : S4 a v0 (.pointer (some ⟨b, 0, none⟩)) (.slice lo ql lc) (.int .i64 s) (.int .i64 (i : Nat)) (.pointer (some ⟨sb, 0, none⟩)) (.bool th) (.int .i64 kd)) (hq : Stp3 w w7 b lo ql lc s i v q sb kd nn uo un uc ts th) :
    sw3.wp Try.prog (Sw3 w b v0 i) a w7 := by
  have HQ : Hid (Stp3 w w7 b lo ql lc s i v q sb kd nn uo un uc ts th) := hq
  obtain ⟨t, rfl⟩ := hS.eq
  clear hS
  have c0 := hq.blk.cell 0
  have c1 := hq.blk.cell 1
  have c2 := hq.blk.cell 2
  simp at c0 c1 c2
  clear hq
  show Code.wp Try.prog sw3 _ _ _
  unfold sw3 rnd3
  dsimp only [Try.f3, Option.getD, cL, cR, cB, cW]
  subst hk
  go_wp2_with (at_builtin; refine appR 25 9 16 _ rfl info9 rfl w7 rfl _ _ rfl w7.heap.size (.slice none 0 0) [] (.slice uo un uc) (ts.map Value.string) rfl rfl (Row.nil _ _ _) (HQ.out.rd.grown HQ.out.ply.mine.gr) (strs_one ts) ?c0 ?c1 (Nat.le_refl _) ?_)
  case c0 => have := HQ.out.tb; have := HQ.out.tl; simp; omega
  case c1 => have := HQ.out.tb; have := HQ.out.tl; unfold maxLen; simp; omega
  intro v9 w8 hr hg hv
  obtain ⟨g1, g2, rfl⟩ := hr.sl
  have hl0 : (ts.map Value.string).length = un := by simpa using HQ.out.tl
  rw [hl0] at hr hv ⊢
  have hgn : w7.grownBy w8 none := by simpa [Value.ownBlock] using hg
  have H8 : Hid (Row 9 w8 w7.heap.size (.slice g1 un g2) (ts.map Value.string) ∧ w7.grownBy w8 none) := ⟨by simpa using hr, hgn⟩
  clear hr hg hv hl0 hgn c0 c1 c2
  have c0 := (HQ.out.blk.grown H8.out.2 (by simp)).cell 0
  have c1 := (HQ.out.blk.grown H8.out.2 (by simp)).cell 1
  have c2 := (HQ.out.blk.grown H8.out.2 (by simp)).cell 2
  simp at c0 c1 c2
  go_wp2_with fail
  refine (send_yes b w.heap.size v q s (.slice g1 un g2) ts w8 (HQ.out.ply.mine.net.grown H8.out.2) H8.out.1.rd (fun _ k hk => ?_) (by have := HQ.out.top; omega) (grown_trans HQ.out.ply.mine.gr H8.out.2).size).mono ?_
  · obtain ⟨C, hC⟩ := H8.out.1.blk k hk
    exact (HQ.out.ply.mine.grown H8.out.2).apart hC (by decide) (by decide)
  have wsb : IntKind.i64.wrap (65536 - (ql : Int)) = 65536 - (ql : Int) := by have := HQ.out.few; rw [IntKind.wrap_i64]; omega
  rintro e w9 (⟨h1, rfl, rfl⟩ | ⟨h1, rfl, r, hr, hN⟩)
  · have i1 : 65536 - (ql : Int) < (un : Int) := by have := HQ.out.len; have := HQ.out.tl; omega
    go_wp2_with fail
    exact ⟨_, _, _, _, ⟨rfl, rfl, rfl, rfl, rfl, rfl, rfl⟩, (HQ.out.ply.grown H8.out.2).more⟩
  · have i1 : ¬ (65536 - (ql : Int) < (un : Int)) := by have := HQ.out.len; have := HQ.out.tl; omega
    obtain ⟨v3, M3⟩ := (HQ.out.ply.mine.grown H8.out.2).to hN
    have H9 : Hid (Mine w w9 b v3 (q ++ r) (s + (un : Int)) ∧ Row 9 w9 w.heap.size (.slice lo ql lc) (tvs q) ∧ Row 9 w9 w7.heap.size (.slice g1 un g2) (ts.map Value.string) ∧ Blk w9 sb 27 #[.int .i64 1, .int .i64 nn, .slice uo un uc] ∧ r.map (·.t) = ts ∧ ql + un ≤ 65536 ∧ w7.heap.size ≤ w9.heap.size) := by
      have m := HQ.out.ply.mine.grown H8.out.2
      have hsz : w8.heap.size ≤ w9.heap.size := by obtain ⟨_, _, hf, _⟩ := hN; exact hf.size
      rw [HQ.out.tl] at M3
      refine ⟨M3, m.row hN (HQ.out.ply.row.grown H8.out.2) (by decide) (by decide), m.row hN H8.out.1 (by decide) (by decide), m.other hN (HQ.out.blk.grown H8.out.2 (by simp)) (by decide) (by decide), hr, by have := HQ.out.len; have := HQ.out.tl; omega, Nat.le_trans H8.out.2.size hsz⟩
    clear hr hN M3 h1 c0 c1 c2
    have c0 := (H9.out.2.2.2.1).cell 0
    have c1 := (H9.out.2.2.2.1).cell 1
    have c2 := (H9.out.2.2.2.1).cell 2
    simp at c0 c1 c2
    go_wp2_with fail
    have hub : un ≤ 65536 := by have := H9.out.2.2.2.2.2.1; omega
    go_loopw [11] (fun x wz => ∃ k : Nat, x = .int .i64 (k : Nat) ∧ k ≤ un ∧ Hid (w9.grownBy wz (Value.slice g1 un g2).ownBlock ∧ ∃ xs, Row 9 wz w7.heap.size (.slice g1 un g2) xs ∧ xs.length = un)) (fun x _ => un - (intOf x).toNat)
    case atStart => exact ⟨0, rfl, Nat.zero_le _, grown_refl _ _, ts.map Value.string, H9.out.2.2.1, by simpa using HQ.out.tl⟩
    case round =>
      obtain ⟨k, rfl, hk, HI⟩ := hrel
      by_cases hlt : k < un
      · have j1 : (k : Int) < (un : Int) := by omega
        have j2 : (0 : Int) ≤ (k : Int) := by omega
        obtain ⟨xs, hx, hxl⟩ := HI.out.2
        obtain ⟨g, rfl⟩ : ∃ g, g1 = some ⟨g, 0, none⟩ := by
          rcases hx.shape with ⟨e, e'⟩ | ⟨g, cp, C, e, _⟩
          · subst e'; simp at hxl; omega
          · simp at e; exact ⟨g, e.1⟩
        have f1 := hx.free k
        obtain ⟨y1, k1⟩ : ∃ y, wr.cell? ⟨g, k, none⟩ = some y := ⟨_, hx.cell k (by omega)⟩
        have HW : Hid (Row 9 (wr.setCell ⟨g, k, none⟩ (.string ⟨#[111, 118, 101, 114]⟩)) w7.heap.size (.slice (some ⟨g, 0, none⟩) un g2) (xs.set k (.string ⟨#[111, 118, 101, 114]⟩)) ∧ xs.length = un) := ⟨hx.put k (by omega) _ rfl, hxl⟩
        clear hx hxl
        go_wp2_with fail
        go_roundw
        case rel => exact ⟨k + 1, by go_num, by omega, grown_trans HI.out.1 (grown_setCell _ _ _ _), _, HW.out.1, by simpa using HW.out.2⟩
        case measure => simp [intOf]; omega
      · have j1 : ¬ (k : Int) < (un : Int) := by omega
        have hsz := HQ.out.ply.mine.gr.size
        have HB : Hid (w.grownBy wr none ∧ Blk wr sb 27 #[.int .i64 1, .int .i64 nn, .slice uo un uc] ∧ Row 9 wr w.heap.size (.slice lo ql lc) (tvs q) ∧ Mine w wr b v3 (q ++ r) (s + (un : Int))) := by
          have hown := H9.out.2.2.1
          have hne : ∀ {j t C}, Blk w9 j t C → t ≠ 9 → Blk wr j t C := fun {j t C} hb ht => hb.grown HI.out.1 fun e => by
            obtain ⟨D, hD⟩ := hown.blk j e
            exact ht (blk_type hb hD)
          refine ⟨grown_new H9.out.1.gr HI.out.1 (fun x hx => by have := (hown.lt x hx).1; omega), hne H9.out.2.2.2.1 (by decide), H9.out.2.1.same fun k hk => HI.out.1.block k (H9.out.2.1.lt k hk).2 fun e => ?_, H9.out.1.but HI.out.1 fun k hk => ?_⟩
          · have h1 := (hown.lt k e.symm).1
            have h2 := (HQ.out.ply.row.lt k hk).2
            omega
          · obtain ⟨D, hD⟩ := hown.blk k hk
            exact ⟨by have := (hown.lt k hk).1; omega, 9, D, hD, by decide, by decide, by decide⟩
        clear c0 c1 c2 hsz
        have c0 := (HB.out.2.1).cell 0
        have c1 := (HB.out.2.1).cell 1
        have c2 := (HB.out.2.1).cell 2
        simp at c0 c1 c2
        go_wp2_with (at_builtin; refine appR 25 9 16 _ rfl info9 rfl wr rfl _ _ rfl w.heap.size (.slice lo ql lc) (tvs q) (.slice uo un uc) (ts.map Value.string) rfl rfl HB.out.2.2.1 (HQ.out.rd.grown HB.out.1) (strs_one ts) ?c0 ?c1 HB.out.1.size ?_)
        case c0 => have := H9.out.2.2.2.2.2.1; have := HQ.out.len; have := HQ.out.tl; simp [tvs_len]; omega
        case c1 => have := H9.out.2.2.2.2.2.1; have := HQ.out.len; have := HQ.out.tl; unfold maxLen; simp [tvs_len]; omega
        intro v4 w10 hr4 hg4 hv4
        have HZ : Hid (Ply w w10 b v4 (s + (un : Int)) (i + 1) v3 (q ++ r) ∧ Blk w10 sb 27 #[.int .i64 1, .int .i64 nn, .slice uo un uc]) := by
          refine ⟨⟨HB.out.2.2.2.but hg4 fun k hk => ?_, ?_, ?_⟩, HB.out.2.1.grown hg4 fun e => ?_⟩
          · obtain ⟨D, hD⟩ := HB.out.2.2.1.blk k hk
            exact ⟨(HB.out.2.2.1.lt k hk).1, 9, D, hD, by decide, by decide, by decide⟩
          · have e1 : tvs (q ++ r) = tvs q ++ ts.map Value.string := by
              rw [← H9.out.2.2.2.2.1]
              simp [tvs]
            rw [e1]
            exact hr4
          · have h1 := HQ.out.ply.num
            have h2 := H9.out.2.2.2.2.2.1
            push_cast
            omega
          · obtain ⟨D, hD⟩ := HB.out.2.2.1.blk sb e
            exact absurd (blk_type HB.out.2.1 hD) (by decide)
        have wsu : IntKind.i64.wrap (s + (un : Int)) = s + (un : Int) := by have := HQ.out.low; have := HQ.out.top; have := H9.out.2.2.2.2.2.1; rw [IntKind.wrap_i64]; omega
        obtain ⟨l1, l2, rfl⟩ := HZ.out.1.sl
        clear hr4 hg4 hv4 c0 c1 c2 HB
        obtain ⟨m4, hm4⟩ : ∃ m, (q ++ r).length = m := ⟨_, rfl⟩
        rw [hm4] at HZ ⊢
        have c0 := (HZ.out.2).cell 0
        have c1 := (HZ.out.2).cell 1
        have c2 := (HZ.out.2).cell 2
        simp at c0 c1 c2
        go_wp2_with fail
        exact ⟨_, _, _, _, ⟨rfl, rfl, rfl, rfl, rfl, rfl, rfl⟩, HZ.out.1⟩
end Go.Proofs.Ythobfpegbnkpfaa
