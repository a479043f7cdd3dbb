/-
  NetPlays: a step's switch, one kind.
-/
import Derived.Test.YthobfpegbnkpfaaNk
namespace Go.Proofs.Ythobfpegbnkpfaa
open Go.RowKit Disk S

set_option maxRecDepth 100000 in
set_option maxHeartbeats 8000000 in
theorem sw3_5 (a : Act) (w w7 : World) (b : Nat) (v0 : Value) (lo : Option Addr) (ql lc : Nat) (s : Int) (i : Nat) (v : Value) (q : List Pcl) (sb : Nat) (kd nn : Int) (uo : Option Addr) (un uc : Nat) (ts : List ByteArray) (th : Bool) (hk : kd = 5)
    (hS : S4 a v0 (.pointer (some ⟨b, 0, none⟩)) (.slice lo ql lc) (.int .i64 s) (.int .i64 (i : Nat)) (.pointer (some ⟨sb, 0, none⟩)) (.bool th) (.int .i64 kd)) (hq : Stp3 w w7 b lo ql lc s i v q sb kd nn uo un uc ts th) :
    sw3.wp Try.prog (Sw3 w b v0 i) a w7 := by
  have HQ : Hid (Stp3 w w7 b lo ql lc s i v q sb kd nn uo un uc ts th) := hq
  obtain ⟨t, rfl⟩ := hS.eq
  clear hS
  have c0 := hq.blk.cell 0
  have c1 := hq.blk.cell 1
  have c2 := hq.blk.cell 2
  simp at c0 c1 c2
  clear hq
  show Code.wp Try.prog sw3 _ _ _
  unfold sw3 rnd3
  dsimp only [Try.f3, Option.getD, cL, cR, cB, cW]
  subst hk
  go_wp2_with fail
  obtain ⟨pr, hpr⟩ : ∃ pr : ByteArray → Bool, (fun x : ByteArray => decide (nn < (x.size : Int))) = pr := ⟨_, rfl⟩
  have HP : Hid (∀ x : ByteArray, pr x = decide (nn < (x.size : Int))) := fun x => by rw [← hpr]
  clear hpr
  refine (keep_yes sb pr b w.heap.size v q s w7 HQ.out.ply.mine.net HQ.out.ply.mine.gr.size (fun x W hW => by rw [HP.out x]; exact pred13 sb 5 nn (.slice uo un uc) x W (HQ.out.blk.grown hW (by simp)))).mono ?_
  rintro e w8 ⟨rfl, hN⟩
  obtain ⟨v8, M8⟩ := HQ.out.ply.mine.to hN
  obtain ⟨m, hm⟩ : ∃ m, (kp pr q).length = m := ⟨_, rfl⟩
  have HR : Hid (Mine w w8 b v8 (kp pr q) s ∧ Row 9 w8 w.heap.size (.slice lo ql lc) (tvs q) ∧ Blk w8 sb 27 #[.int .i64 5, .int .i64 nn, .slice uo un uc] ∧ (kp pr q).length = m) := ⟨M8, HQ.out.ply.mine.row hN HQ.out.ply.row (by decide) (by decide), HQ.out.ply.mine.other hN HQ.out.blk (by decide) (by decide), hm⟩
  have HL : Hid (q.length = ql ∧ ql ≤ 65536) := ⟨HQ.out.len, HQ.out.few⟩
  rw [hm, HL.out.1]
  clear M8 hN hm c0 c1 c2
  go_wp2_with fail
  have hub : ql ≤ 65536 := HL.out.2
  go_loopw [16, 17] (fun x y wz => ∃ k : Nat, y = .int .i64 (k : Nat) ∧ k ≤ ql ∧ Hid (w8.grownBy wz none ∧ Row 9 wz w8.heap.size x (tvs (kp pr (q.take k))))) (fun _ y _ => ql - (intOf y).toNat)
  case atStart => exact ⟨0, rfl, Nat.zero_le _, grown_refl _ _, by simpa [kp, tvs] using Row.nil 9 w8 w8.heap.size⟩
  case round =>
    obtain ⟨k, rfl, hk, HI⟩ := hrel
    obtain ⟨zo, zc, rfl⟩ := HI.out.2.sl
    obtain ⟨zn, hzn⟩ : ∃ n, (tvs (kp pr (q.take k))).length = n := ⟨_, rfl⟩
    rw [hzn] at HI ⊢
    have HN : Hid ((tvs (kp pr (q.take k))).length = zn ∧ zn ≤ k) := by
      refine ⟨hzn, ?_⟩
      rw [← hzn, tvs_len]
      unfold kp
      refine Nat.le_trans (List.length_filter_le _ _) ?_
      simp
      omega
    clear hzn
    by_cases hlt : k < ql
    · have j1 : (k : Int) < (ql : Int) := by omega
      have j2 : (0 : Int) ≤ (k : Int) := by omega
      obtain ⟨a, ha⟩ : ∃ a, q[k]? = some a := ⟨_, List.getElem?_eq_getElem (by have := HL.out; omega)⟩
      obtain ⟨g, rfl, kc⟩ : ∃ g, lo = some ⟨g, 0, none⟩ ∧ wr.cell? ⟨g, k, none⟩ = some (.string a.t) := by
        have hr := HR.out.2.1.grown HI.out.1
        have hjt : k < (tvs q).length := by rw [tvs_len]; have := HL.out; omega
        rcases hr.shape with ⟨e, e'⟩ | ⟨g, cp, C, e, _⟩
        · rw [e'] at hjt; simp at hjt
        · simp at e
          obtain ⟨rfl, _⟩ := e
          refine ⟨g, rfl, ?_⟩
          rw [hr.cell k hjt]
          have h2 := (List.getElem?_eq_some_iff.1 ha).2
          simp [tvs, h2]
      have HA : Hid (q[k]? = some a) := ha
      clear ha
      go_upto_region 56 with fail
      have G0 : Hid (wr.grownBy wr.drew none ∧ (Blk wr.drew sb 27 #[.int .i64 5, .int .i64 nn, .slice uo un uc] ∧ wr.drew.cell? ⟨g, k, none⟩ = some (.string a.t))) := ⟨grown_drew _ _, (HR.out.2.2.1.grown HI.out.1 (by simp)).grown (grown_drew _ none) (by simp), kc⟩
      clear kc
      refine wp_region_hold 1000 (fun y => Blk y sb 27 #[.int .i64 5, .int .i64 nn, .slice uo un uc] ∧ y.cell? ⟨g, k, none⟩ = some (.string a.t)) (by kernel_rfl) ?_
      generalize wr.drew = wd at G0 ⊢
      have J : Idx [0, 1, 2, 3, 4, 5, 6, 7] := trivial
      iterate 8 (refine tk J (G0.out.2) rfl rfl (fun wk hk => by have k1 := hk.1.cell 1; have k2 := hk.2; simp at k1; go_simp; try rfl) ?_; replace J := J.tl; try simp only [Act.put, List.setIfInBounds_toArray, List.set_cons_zero, List.set_cons_succ])
      clear J
      refine wpHold_done (by kernel_rfl) ?_
      have kc := G0.out.2.2
      by_cases hp : nn < (a.t.size : Int)
      · obtain ⟨w9, hw9, H9⟩ := al1 wd #[.string a.t] 9
        have HW9 : Hid (wd.alloc (.cells #[.string a.t] 9) = w9) := hw9
        obtain ⟨g9, hg9⟩ : ∃ x, wd.heap.size = x := ⟨_, rfl⟩
        have HG9 : Hid (wd.heap.size = g9) := hg9
        rw [hg9] at H9
        clear hw9 hg9
        go_wp2_with (at_builtin; rw [HW9.out, HG9.out]; refine appR 25 9 16 _ rfl info9 rfl w9 rfl _ _ rfl w8.heap.size (.slice zo zn zc) (tvs (kp pr (q.take k))) (.slice (some ⟨g9, 0, none⟩) 1 1) [.string a.t] rfl rfl ((HI.out.2.grown G0.out.1).grown H9.out.2.1) (rd_blk H9.out.1) (strs_one [a.t]) ?d0 ?d1 (grown_trans (grown_trans HI.out.1 G0.out.1) H9.out.2.1).size ?_)
        case d0 => have := HN.out; have := HL.out; simp; omega
        case d1 => have := HN.out; have := HL.out; unfold maxLen; simp; omega
        intro v4 w10 hr4 hg4 hv4
        have HZ : Hid (w8.grownBy w10 none ∧ Row 9 w10 w8.heap.size v4 (tvs (kp pr (q.take (k + 1))))) := by
          have hrow := (HI.out.2.grown G0.out.1).grown H9.out.2.1
          refine ⟨grown_new (grown_trans (grown_trans HI.out.1 G0.out.1) H9.out.2.1) hg4 (fun x hx => (hrow.lt x hx).1), ?_⟩
          have e1 : tvs (kp pr (q.take (k + 1))) = tvs (kp pr (q.take k)) ++ [Value.string a.t] := by
            unfold kp tvs
            rw [List.take_add_one, HA.out]
            simp [HP.out a.t, hp]
          rw [e1]
          exact hr4
        clear hr4 hg4 hv4 kc
        go_wp2_with fail
        go_roundw
        case rel => exact ⟨k + 1, by go_num, by omega, HZ.out⟩
        case measure => simp [intOf]; omega
      · go_wp2_with fail
        go_roundw
        case rel =>
          refine ⟨k + 1, by go_num, by omega, grown_trans HI.out.1 G0.out.1, ?_⟩
          have e1 : tvs (kp pr (q.take (k + 1))) = tvs (kp pr (q.take k)) := by
            unfold kp tvs
            rw [List.take_add_one, HA.out]
            simp [HP.out a.t, hp]
          rw [e1]
          exact HI.out.2.grown G0.out.1
        case measure => simp [intOf]; omega
    · have j1 : ¬ (k : Int) < (ql : Int) := by omega
      have HZ : Hid (zn = m ∧ Ply w wr b (.slice zo zn zc) s (i + 1) v8 (kp pr q)) := by
        have e1 : q.take k = q := List.take_of_length_le (by have := HL.out; omega)
        have h1 := HN.out
        have h2 := HI.out
        rw [e1] at h1 h2
        have hsz := HR.out.1.gr.size
        refine ⟨?_, HR.out.1.grown h2.1, h2.2.mono hsz, by have := HQ.out.ply.num; push_cast; omega⟩
        rw [← h1.1, tvs_len]
        exact HR.out.2.2.2
      obtain rfl := HZ.out.1
      have nb : ((ql : Int) - (zn : Int) != (ql : Int) - (zn : Int)) = false := by simp
      have wsd : IntKind.i64.wrap ((ql : Int) - (zn : Int)) = (ql : Int) - (zn : Int) := by have := HL.out; have := HN.out; rw [IntKind.wrap_i64]; omega
      go_wp2_with fail
      exact ⟨_, _, _, _, ⟨rfl, rfl, rfl, rfl, rfl, rfl, rfl⟩, HZ.out.2⟩
end Go.Proofs.Ythobfpegbnkpfaa
