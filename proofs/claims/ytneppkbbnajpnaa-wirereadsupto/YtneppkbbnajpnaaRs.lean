/-
  WireReads' walk: a script's steps over a copy of the bytes, and over the bytes themselves.
-/
import Derived.Test.YtneppkbbnajpnaaSv
import Derived.Test.YtneppkbbnajpnaaWr
namespace Go.Proofs.Ytneppkbbnajpnaa
open Go.RowKit
attribute [local go_sem ↓] Go.wp_at_zero Go.wp_at_succ

set_option maxHeartbeats 400000 in
theorem open19_h (v : Value) (L : List UInt8) (w : World) (hs : Seg w v L) (hsz : L.length ≤ 140737488355328) :
    Calls Try.prog 19 #[v] w fun e w' => ∃ b, e = .returned (.pointer (some ⟨b, 0, none⟩)) ∧ w.heap.size ≤ b ∧ w.grownBy w' none ∧ ∃ g, w.heap.size ≤ g ∧ g < w'.heap.size ∧ RdG w' b g L := by
  have HC : Hid _ := clone_any v L w hs hsz
  clear hs hsz
  go_enter Try.func19, Try.ntmps19
  go_wp2_with fail
  refine Calls.mono HC.out ?_
  rintro e w1 ⟨u, rfl, h1, h2⟩
  have hg : ∃ g, w.heap.size ≤ g ∧ g < w1.heap.size + 1 ∧ InB g u := by
    cases hu : u.ownBlock with
    | none => exact ⟨w1.heap.size, h2.size, by omega, fun y hy => by rw [hu] at hy; cases hy⟩
    | some k => exact ⟨k, (World.ownsRow.lt h1 k hu).1, Nat.lt_succ_of_lt (World.ownsRow.lt h1 k hu).2, fun y hy => by rw [hu] at hy; simp at hy; exact hy.symm⟩
  obtain ⟨g, hgw, hgl, hi⟩ := hg
  obtain ⟨ao, cap, rfl⟩ := h1.seg.shape
  have F : Hid (RdG (w1.alloc (.cells #[.bool true, .slice ao L.length cap] 73)) w1.heap.size g L ∧ g < (w1.alloc (.cells #[.bool true, .slice ao L.length cap] 73)).heap.size) := ⟨⟨_, heap_alloc_new w1 _, seg_alloc h1.seg _, hi⟩, by simpa using hgl⟩
  have G : Hid _ := h2
  clear h1 h2 HC hi hgl
  go_wp2_with fail
  go_ret
  exact ⟨w1.heap.size, rfl, G.out.size, grown_trans G.out (World.grownBy_alloc _ _ _), g, hgw, F.out.2, F.out.1⟩

/-- A script that came in. -/
def Ops (w : World) (v : Value) (n : Nat) : Prop := ∃ a cap, v = .slice a n cap ∧ n ≤ 9223372036854775807 ∧ ∀ j, j < n → ∃ bk off kind most, a = some ⟨bk, off, none⟩ ∧ w.cell? ⟨bk, off + j * 2, none⟩ = some (.int .i64 kind) ∧ w.cell? ⟨bk, off + j * 2 + 1, none⟩ = some (.int .i64 most) ∧ most ≤ 9223372036854775807

set_option maxRecDepth 100000 in
set_option maxHeartbeats 4000000 in
theorem reads4 (tb v : Value) (T : List UInt8) (n : Nat) (w : World) (hT : Seg w tb T) (hV : Ops w v n) (hTz : T.length ≤ 1048576) :
    Calls Try.prog 4 #[tb, v] w fun e w' => e = .returned (.bool true) ∧ w.grownBy w' none := by
  obtain ⟨aoT, capT, rfl⟩ := hT.shape
  obtain ⟨a, cp, rfl, hn, hV⟩ := hV
  have HV : Hid _ := hV
  have HT : Hid (Seg w (.slice aoT T.length capT) T) := hT
  have HTZ : Hid _ := hTz
  clear hT hV
  go_enter Try.func4, Try.ntmps4
  go_wp2_with (first | (at_builtin; refine app23 _ rfl (.const (.slice none 0 0)) (.tmp 9) rfl w.heap.size _ [] _ T rfl rfl (Own.nil _ _) (by exact HT.out) (by simp; omega) (by simp) ?_; intro v1 w1 o1 g1) | (at_builtin; refine app23 _ rfl (.tmp 10) (.tmp 11) rfl w.heap.size _ T _ [165] rfl rfl (by exact Own.alloc o1 _) (seg_one _ _ _ rfl) (by simp; omega) (by have := g1.size; simp at this ⊢; omega) ?_; intro v2 w2 o2 g2))
  have S2 : Hid (Own w2 w.heap.size v2 (T ++ [165]) ∧ w.grownBy w2 none) := by
    have h1 : w.grownBy w1 none := grown_weak g1 none
    exact ⟨o2, grown_new (grown_trans h1 (World.grownBy_alloc _ _ _)) g2 (by intro x hx; have := o1.lt x hx; omega)⟩
  clear g2 o2 g1 o1
  obtain ⟨m, cap, rfl, hg⟩ : ∃ g cap, v2 = .slice (some ⟨g, 0, none⟩) (T.length + 1) cap ∧ w.heap.size ≤ g ∧ g < w2.heap.size := by
    rcases S2.out.1.shape with ⟨_, h⟩ | ⟨g, cap, h, h2⟩
    · simp at h
    · exact ⟨g, cap, by rw [h]; simp, h2⟩
  have hcap : T.length + 1 ≤ cap ∧ cap ≤ 9223372036854775807 := by
    obtain ⟨ao', cap', hv, h1, h2, _⟩ := S2.out.1.seg
    simp at hv h1; unfold maxLen at h2; omega
  obtain ⟨hcap1, hcap2⟩ := hcap
  have ic1 : ((T.length : Nat) : Int) ≤ (cap : Int) := by omega
  have ic2 : T.length ≤ cap := by omega
  have ic0 : (0 : Int) ≤ ((T.length : Nat) : Int) := by omega
  have ic3 : T.length ≤ 9223372036854775807 := by omega
  have HO : Hid (Seg w2 (.slice (some ⟨m, 0, none⟩) T.length cap) T) := by
    have h := S2.out.1.seg
    have e : T.length + 1 = (T ++ [165]).length := by simp
    rw [e] at h
    have h2 := seg_take T.length (by simp) h
    rw [List.take_left] at h2
    exact h2
  go_wp2_with fail
  go_simp
  go_wp2_with fail
  refine (open19_h _ T w2 HO.out (by omega)).mono ?_
  rintro e w3 ⟨b, rfl, hb, g3, g, hgw, hgl, hrd⟩
  have S3 : Hid (w2.heap.size ≤ b ∧ w2.heap.size ≤ g ∧ g < w3.heap.size ∧ RdG w3 b g T ∧ w2.grownBy w3 none ∧ Own w3 w.heap.size (.slice (some ⟨m, 0, none⟩) (T.length + 1) cap) (T ++ [165]) ∧ w.grownBy w3 none) := ⟨hb, hgw, hgl, hrd, g3, S2.out.1.grown g3, grown_trans S2.out.2 g3⟩
  have cv : (convert 23 9 (.slice (some ⟨m, 0, none⟩) (T.length + 1) cap)).run Try.prog w3 = .ok (.string ⟨(T ++ [165]).toArray⟩) w3 := seg_str S3.out.2.2.2.2.2.1.seg
  have cv2 := seg_str (Seg.grown HT.out S3.out.2.2.2.2.2.2)
  have ad := str_add T [165] w3 (by simp; omega)
  clear hb hgw hgl hrd g3 HO
  go_wp2_with fail
  refine (spoil17 w.heap.size _ (T ++ [165]) w3 S3.out.2.2.2.2.2.1 S3.out.2.2.2.2.2.2.size (by simp; omega)).mono ?_
  rintro e w4 ⟨rfl, g4⟩
  have S4 : Hid (St w (w4.alloc (.cells #[.slice aoT T.length capT, .int .i64 0] 40)) b w4.heap.size g (.slice aoT T.length capT) T 0) := by
    obtain ⟨h1, h2, h3, h4, h5, h6, h7⟩ := S3.out
    have ga := World.grownBy_alloc w4 (.cells #[.slice aoT T.length capT, .int .i64 0] 40) none
    have e4 : w.grownBy w4 none := grown_new h7 g4 (by intro x hx; simp [Value.ownBlock] at hx; omega)
    have hs4 := g4.size
    have hs3 := h5.size
    have hw4 := e4.size
    have hbl := h4.rd.lt
    refine ⟨grown_trans e4 ga, by omega, by omega, by omega, by omega, Nat.lt_of_lt_of_le (by omega) ga.size, ?_, heap_alloc_new w4 _, by omega⟩
    exact (h4.kept g4 (by simp [Value.ownBlock]; omega) (by simp [Value.ownBlock]; omega)).kept ga (by simp) (by simp)
  clear g4 cv cv2 ad S3 S2
  go_wp2_with fail
  go_loopw [8] (fun i wr => ∃ j k : Nat, j ≤ n ∧ j ≤ 300 ∧ i = .int .i64 j ∧ St w wr b w4.heap.size g (.slice aoT T.length capT) T k) (fun i _ => n - (intOf i).toNat)
  case atStart => exact ⟨0, 0, by omega, by omega, rfl, S4.out⟩
  case round =>
    obtain ⟨j, k, hj, hj3, rfl, hst⟩ := hrel
    by_cases hlt : j < n ∧ j < 300
    · obtain ⟨hlt, hl3⟩ := hlt
      obtain ⟨bk, off, kind, most, rfl, c0, c1, hmost⟩ := HV.out j hlt
      have d0 := hst.1.cell c0 (by simp)
      have d1 := hst.1.cell c1 (by simp)
      have b1 : decide ((j : Int) < (n : Int)) = true := by simp; omega
      have b2 : decide ((j : Int) < 300) = true := by simp; omega
      have i1 : (0 : Int) ≤ (j : Int) := by omega
      have i2 : (j : Int) < (n : Int) := by omega
      have HST : Hid _ := hst
      clear hst c0 c1
      go_wp2_with fail
      refine (step20 w b w4.heap.size g aoT capT T k kind most _ HST.out HT.out hmost HTZ.out).mono ?_
      rintro e w5 ⟨rfl, k', h5⟩
      have hk' := h5.2.2.2.2.2.2.2.2
      have H5 : Hid _ := h5
      have HKL : Hid ((T.drop k').length = T.length - k') := by unfold Hid; simp
      clear h5 d0 d1 HST
      go_wp2_with fail
      refine (left21 b (T.drop k') w5 H5.out.2.2.2.2.2.2.1.rd).mono ?_
      rw [HKL.out]
      rintro e wx ⟨rfl, he⟩; subst he
      obtain ⟨z, hz⟩ : ∃ z : Nat, T.length - k' = z := ⟨_, rfl⟩
      rw [hz]
      have HZ : Hid _ := hz
      clear hz
      go_wp2_with fail
      refine (left22 w4.heap.size aoT capT k' T _ H5.out.2.2.2.2.2.2.2.1 hk' (by omega)).mono ?_
      rw [HZ.out]
      rintro e w6 ⟨rfl, q, hq⟩
      have H6 : Hid (St w w6 b w4.heap.size g (.slice aoT T.length capT) T k') := by rw [hq]; exact St.grown H5.out (grown_drewN _ _ none)
      clear hq H5
      go_wp2_with fail
      refine (end24 b (T.drop k') w6 H6.out.2.2.2.2.2.2.1.rd).mono ?_
      have HE : Hid ((T.drop k' = []) ↔ z = 0) := by
        unfold Hid
        rw [← HZ.out]
        constructor
        · intro h; have := congrArg List.length h; simp at this; omega
        · intro h; exact List.drop_eq_nil_of_le (by omega)
      by_cases hz0 : z = 0
      · rw [if_pos (HE.out.2 hz0)]
        rintro e wx ⟨rfl, he⟩; subst he
        subst hz0
        go_wp2_with fail
        refine (num_any _ _).mono ?_
        rintro e wx ⟨rfl, he⟩; subst he
        go_wp2_with fail
        refine (left22 w4.heap.size aoT capT k' T _ H6.out.2.2.2.2.2.2.2.1 hk' (by omega)).mono ?_
        rw [HZ.out]
        rintro e w7 ⟨rfl, q, hq⟩
        have H7 : Hid (St w w7 b w4.heap.size g (.slice aoT T.length capT) T k') := by rw [hq]; exact St.grown H6.out (grown_drewN _ _ none)
        clear hq H6
        go_wp2_with fail
        go_roundw
        case rel => exact ⟨j + 1, k', by omega, by omega, by go_num, H7.out⟩
        case measure => simp [intOf]; omega
      · rw [if_neg (fun h => hz0 (HE.out.1 h))]
        rintro e wx ⟨rfl, he⟩; subst he
        have z0 : ((z : Int) == 0) = false := by simp; omega
        go_wp2_with fail
        refine (num_any _ _).mono ?_
        rintro e wx ⟨rfl, he⟩; subst he
        go_wp2_with fail
        refine (left22 w4.heap.size aoT capT k' T _ H6.out.2.2.2.2.2.2.2.1 hk' (by omega)).mono ?_
        rw [HZ.out]
        rintro e w7 ⟨rfl, q, hq⟩
        have H7 : Hid (St w w7 b w4.heap.size g (.slice aoT T.length capT) T k') := by rw [hq]; exact St.grown H6.out (grown_drewN _ _ none)
        clear hq H6
        go_wp2_with fail
        go_roundw
        case rel => exact ⟨j + 1, k', by omega, by omega, by go_num, H7.out⟩
        case measure => simp [intOf]; omega
    · have HST : Hid _ := hst.1
      clear hst
      by_cases b0 : j < n
      · have b1 : decide ((j : Int) < (n : Int)) = true := by simp; omega
        have b2 : decide ((j : Int) < 300) = false := by simp; omega
        go_wp2_with fail
        refine (known18 _).mono ?_
        rintro e w5 ⟨rfl, h5⟩
        have S5 : Hid (w.grownBy w5 none) := grown_trans HST.out h5
        clear h5
        go_wp2_with fail
        go_ret
        exact ⟨rfl, S5.out⟩
      · have b1 : decide ((j : Int) < (n : Int)) = false := by simp; omega
        go_wp2_with fail
        refine (known18 _).mono ?_
        rintro e w5 ⟨rfl, h5⟩
        have S5 : Hid (w.grownBy w5 none) := grown_trans HST.out h5
        clear h5
        go_wp2_with fail
        go_ret
        exact ⟨rfl, S5.out⟩
end Go.Proofs.Ytneppkbbnajpnaa
