/-
  NetPlays' walk, put together.
-/
import Derived.Test.YthobfpegbnkpfaaNl
import Derived.Test.YthobfpegbnkpfaaNm
import Derived.Test.YthobfpegbnkpfaaNd
namespace Go.Proofs.Ythobfpegbnkpfaa
open Go.RowKit Disk S

def Inv3 (w : World) (b : Nat) (v0 : Value) (a : Act) (wc : World) : Prop := ∃ (i : Nat) (x4 : Value) (s : Int) (v : Value) (q : List Pcl), i ≤ 400 ∧ S3 a v0 (.pointer (some ⟨b, 0, none⟩)) x4 (.int .i64 s) (.int .i64 (i : Nat)) ∧ Ply w wc b x4 s i v q

theorem loop3 (a : Act) (w wr : World) (b : Nat) (so : Option Addr) (sn sc : Nat) (ss : List PSt) (hs : Stps w (.slice so sn sc) ss) (hn : ss.length = sn)
    (Q : Exit → Act → World → Prop) (hQ : ∀ a wc, Inv3 w b (.slice so sn sc) a wc → Q (.exit 0) a wc) (h0 : Inv3 w b (.slice so sn sc) a wr) :
    (Code.loop rnd3).wp Try.prog Q a wr := by
  refine wp_loop (Inv3 w b (.slice so sn sc)) (fun a _ => 400 - (intOf (sl a.tmps 6)).toNat) h0 ?_
  rintro a wr ⟨i, x4, s, v, q, hi, hS, hp⟩
  have h6 := hS.e6
  obtain ⟨lo, lc, rfl⟩ := hp.sl
  rw [rnd3_eq]
  refine wp_seq (Code.wp_mono ?_ (head3 a wr so sn sc _ _ _ i hS))
  rintro e a1 w1 h1
  cases e with
  | normal =>
    obtain ⟨⟨rfl, hS1⟩, hi1, hi2⟩ := h1
    refine wp_seq (wp_block (fore3 a1 w _ b so sn sc lo q.length lc s i v q ss hS1 hp hs hn hi1 hi2 _ _ _ ?_))
    rintro Q' a2 w2 ⟨sb, kd, nn, uo, un, uc, ts, th, hS4, hq⟩ hC
    refine Code.wp_mono ?_ (sw3_all a2 w w2 b _ lo q.length lc s i v q sb kd nn uo un uc ts th hS4 hq)
    rintro e a3 w3 h3
    cases e with
    | normal =>
      obtain ⟨x4, s2, v2, q2, hS3, hp3⟩ := h3
      refine hC _ _ (Code.wp_mono ?_ (back3 a3 w w3 b _ x4 s2 i v2 q2 hS3 hp3))
      rintro e a4 w4 h4
      cases e with
      | normal =>
        obtain ⟨rfl, hS4'⟩ := h4
        refine Code.wp_mono ?_ (inc3 a4 _ _ _ _ _ i hi2 hS4')
        rintro e a5 w5 h5
        cases e with
        | normal =>
          obtain ⟨rfl, hS5⟩ := h5
          refine ⟨⟨i + 1, _, s2, v2, q2, by omega, hS5, hp3⟩, ?_⟩
          show 400 - (intOf (sl a5.tmps 6)).toNat < 400 - (intOf (sl a.tmps 6)).toNat
          rw [hS5.e6, h6]
          simp [intOf]
          omega
        | _ => exact h5.elim
      | _ => exact h4.elim
    | _ => exact h3.elim
  | exit k =>
    obtain ⟨⟨rfl, hS1⟩, rfl⟩ := h1
    exact hQ _ _ ⟨i, _, s, v, q, hi, hS1, hp⟩
  | _ => exact h1.elim

set_option maxRecDepth 100000 in
set_option maxHeartbeats 8000000 in
theorem plays3 (u : Value) (ss : List PSt) (w : World) (hs : Stps w u ss) : Calls Try.prog 3 #[u] w fun e w' => e = .returned (.bool true) ∧ w.grownBy w' none := by
  obtain ⟨so, sc, rfl, _⟩ := id hs
  obtain ⟨sn, hsn⟩ : ∃ n, ss.length = n := ⟨_, rfl⟩
  rw [hsn] at hs ⊢
  have HS : Hid (Stps w (.slice so sn sc) ss ∧ ss.length = sn) := ⟨hs, hsn⟩
  clear hs hsn
  refine calls_of_wp Try.func3 f3_eq ?_
  simp only [Try.ntmps3, List.size_toArray, List.length_cons, List.length_nil, Nat.reduceAdd, Nat.reduceSub, Array.replicate_succ, Array.replicate_zero, List.push_toArray, List.append_toArray, List.nil_append, List.cons_append]
  obtain ⟨R, hR⟩ : ∃ R, bodyPost Try.prog Try.f3 (fun e w' => e = .returned (.bool true) ∧ w.grownBy w' none) = R := ⟨_, rfl⟩
  rw [hR]
  have HR : Hid (∀ (a : Act) (w' : World), a.defers = [] → sl a.tmps 2 = .bool true → w.grownBy w' none → R .ret a w') := by
    intro a w' h1 h2 h3
    rw [← hR]
    exact ⟨h1, _, results_tmp rfl _ _ _, by first | exact ⟨congrArg Ending.returned h2, h3⟩ | (refine ⟨?_, h3⟩; simpa [sl] using h2)⟩
  clear hR
  dsimp only [Try.f3, Option.getD, cL, cR]
  go_wp2_with fail
  refine (new_net w).mono ?_
  rintro e w1 ⟨rfl, hn1, hg1⟩
  obtain ⟨b, hb⟩ : ∃ b, w.heap.size = b := ⟨_, rfl⟩
  have M1 : Hid (Mine w w1 b (.slice none 0 0) [] 0) := by rw [← hb]; exact mine_new hn1 hg1
  rw [hb]
  clear hn1 hg1 hb
  go_wp2_with fail
  refine loop3 _ w w1 b so sn sc ss HS.out.1 HS.out.2 _ ?_ ⟨0, _, 0, _, [], by omega, ⟨rfl, rfl, rfl, rfl, rfl, rfl, rfl⟩, M1.out, Row.nil _ _ _, by omega⟩
  rintro a wc ⟨i, x4, s, v, q, hi, hS, hp⟩
  obtain ⟨t, rfl⟩ := hS.eq
  obtain ⟨lo, lc, rfl⟩ := hp.sl
  obtain ⟨ql, hql⟩ : ∃ n, q.length = n := ⟨_, rfl⟩
  rw [hql] at hp ⊢
  have HP : Hid (Ply w wc b (.slice lo ql lc) s i v q) := hp
  clear hp hS hql hi
  simp only [Exit.inBlock, Exit.then, if_true]
  refine (‹∀ (a : Act) (w : World), _ → _› _ _ ?_)
  go_wp2_with fail
  refine (goes14 b w.heap.size v q s (.slice lo ql lc) (-1) wc HP.out.mine.net HP.out.row.rd).mono ?_
  rintro e w8 ⟨rfl, hg⟩
  have H8 : Hid (w.grownBy w8 none) := grown_trans HP.out.mine.gr hg
  clear hg
  go_wp2_with fail
  refine (known18 w8).mono ?_
  rintro e w9 ⟨rfl, hg⟩
  have H9 : Hid (w.grownBy w9 none) := grown_trans H8.out hg
  clear hg
  go_wp2_with fail
  exact HR.out _ _ rfl rfl H9.out
end Go.Proofs.Ythobfpegbnkpfaa
