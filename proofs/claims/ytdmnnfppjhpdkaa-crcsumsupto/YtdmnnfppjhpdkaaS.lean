/-
  CrcSums' walk.
-/
import Derived.Test.YtdmnnfppjhpdkaaR
namespace Go.Proofs.Ytdmnnfppjhpdkaa
open Go.RowKit
attribute [local go_sem ↓] Go.wp_at_zero Go.wp_at_succ
attribute [local go_sem ↓] run_max0

set_option maxRecDepth 100000 in
set_option maxHeartbeats 4000000 in
theorem sums3 (s : Nat) (n : Int) (v : Value) (Ls : List (List UInt8)) (w : World) (hs : s < 4294967296) (hn1 : -9223372036854775808 ≤ n) (hn2 : n ≤ 9223372036854775807) (hL : Segs w v Ls) (hz : Ls.flatten.length ≤ 1048576) :
    Calls Try.prog 3 #[v, .int .u32 s, .int .i64 n] w fun e w' => e = .returned (.bool true) ∧ w.grownBy w' none := by
  have HL : Hid (Segs w v Ls) := hL
  obtain ⟨aoL, capL, rfl, hlen, _⟩ := hL
  have HZ : Hid _ := hz
  have HO : Hid _ := own_empty w
  have HG : Hid (w.grownBy (w.alloc (.cells #[] 5)) none) := World.grownBy_alloc _ _ _
  clear hz
  go_enter Try.func3, Try.ntmps3
  go_wp2_with fail
  go_loopw [7, 8] (fun x i wr => ∃ k : Nat, k ≤ Ls.length ∧ i = .int .i64 k ∧ Own wr w.heap.size x (Ls.take k).flatten ∧ w.grownBy wr none) (fun _ i _ => Ls.length - (intOf i).toNat)
  case atStart => exact ⟨0, by omega, rfl, HO.out, HG.out⟩
  case round =>
    obtain ⟨k, hk, rfl, hown, hg⟩ := hrel
    by_cases hlt : k < Ls.length
    · obtain ⟨_, _, hv, _, hcs⟩ := HL.out
      simp at hv
      obtain ⟨rfl, rfl⟩ := hv
      obtain ⟨bb, off, x, rfl, hcell, hseg⟩ := hcs k hlt
      have c1 := hg.cell hcell (by simp)
      have HS : Hid (Seg wr x Ls[k] ∧ Own wr w.heap.size u7 (Ls.take k).flatten ∧ w.grownBy wr none ∧ (Ls.take k).flatten.length + Ls[k].length ≤ 1048576 ∧ w.heap.size ≤ wr.heap.size) := by
        refine ⟨hseg.grown hg, hown, hg, ?_, hg.size⟩
        have h1 := flatten_take_le Ls (k + 1)
        rw [flatten_take_succ Ls k hlt, List.length_append] at h1
        have := HZ.out
        omega
      have HE : Hid _ := flatten_take_succ Ls k hlt
      obtain ⟨aox, capx, rfl⟩ := hseg.shape
      have i1 : (0 : Int) ≤ (k : Int) := by omega
      have i2 : (k : Int) < (Ls.length : Int) := by omega
      clear hcs hcell hseg hown hg
      go_wp2_with (first | (at_builtin; refine app24 _ (by rfl) (.tmp 20) (.tmp 24) rfl w.heap.size _ (Ls.take k).flatten _ Ls[k] rfl rfl HS.out.2.1 HS.out.1 (by have := HS.out.2.2.2.1; omega) HS.out.2.2.2.2 ?_; intro v' w' o1 g1))
      have S1 : Hid (Own w' w.heap.size v' (Ls.take (k + 1)).flatten ∧ w.grownBy w' none) := by
        refine ⟨by rw [HE.out]; exact o1, grown_new HS.out.2.2.1 g1 (fun x hx => HS.out.2.1.lt x hx)⟩
      clear o1 g1
      go_roundw
      case rel => exact ⟨k + 1, by omega, by go_num, S1.out.1, S1.out.2⟩
      case measure => simp [intOf]; omega
    · have e : k = Ls.length := by omega
      subst e
      rw [List.take_length] at hown
      obtain ⟨A, hA⟩ : ∃ A, Ls.flatten = A := ⟨_, rfl⟩
      obtain ⟨aoA, capA, hu⟩ := hown.seg.shape
      have HA : Hid (Ls.flatten = A) := hA
      rw [hA] at hown hu HZ
      subst hu
      obtain ⟨tot, htot⟩ : ∃ tot, A.length = tot := ⟨_, rfl⟩
      have HTot : Hid (A.length = tot) := htot
      have htotz : tot ≤ 1048576 := by rw [← htot]; exact HZ.out
      have S1 : Hid (Own wr w.heap.size (.slice aoA tot capA) A ∧ w.grownBy wr none) := by rw [← htot]; exact ⟨hown, hg⟩
      rw [htot]
      have hcA : tot ≤ capA ∧ capA ≤ 9223372036854775807 := by
        obtain ⟨ao', cap', hv, h1, h2, _⟩ := hown.seg
        simp at hv; unfold maxLen at h2; omega
      obtain ⟨hcA1, hcA2⟩ := hcA
      clear hA hown hg htot
      by_cases hbig : 100000 < tot
      · have g1 : decide ((tot : Int) > 100000) = true := by simp; omega
        go_wp2_with fail
        refine (known6 _).mono ?_
        rintro e w4 ⟨rfl, g4⟩
        have HG4 : Hid (w.grownBy w4 none) := grown_trans S1.out.2 g4
        clear g4
        go_wp2_with fail
        go_ret
        exact ⟨rfl, HG4.out⟩
      · have g1 : decide ((tot : Int) > 100000) = false := by simp; omega
        go_wp2_with fail
        refine (sum7 _ Ls _ (HL.out.grown S1.out.2)).mono ?_
        rw [HA.out]
        rintro e w2 ⟨rfl, g2⟩
        have S2 : Hid (Own w2 w.heap.size (.slice aoA tot capA) A ∧ w.grownBy w2 none) := ⟨S1.out.1.grown g2, grown_trans S1.out.2 g2⟩
        clear g2 S1
        obtain ⟨q, hq⟩ : ∃ q, sum A = q := ⟨_, rfl⟩
        have HQ : Hid (sum A = q) := hq
        rw [hq]
        obtain ⟨mo, hmo⟩ : ∃ mo, more s A = mo := ⟨_, rfl⟩
        have HMO : Hid (more s A = mo) := hmo
        obtain ⟨bo, hbo⟩ : ∃ bo, (q == s) = bo := ⟨_, rfl⟩
        have HBO : Hid ((q == s) = bo) := hbo
        have hbi : ((s : Int) == (q : Int)) = bo := by
          rw [← hbo]
          by_cases h : q = s
          · subst h; simp
          · have h2 : ((s : Int) == (q : Int)) = false := by simp; omega
            have h3 : (q == s) = false := by simp; omega
            rw [h2, h3]
        clear hq hmo hbo
        go_wp2_with fail
        refine (sum8 _ A _ S2.out.1.seg).mono ?_
        rw [HQ.out]
        rintro e wx ⟨rfl, he⟩; subst he
        go_wp2_with fail
        refine (more9 s _ A _ hs S2.out.1.seg).mono ?_
        rw [HMO.out]
        rintro e w3 ⟨rfl, g3⟩
        have S3 : Hid (Own w3 w.heap.size (.slice aoA tot capA) A ∧ w.grownBy w3 none) := ⟨S2.out.1.grown g3, grown_trans S2.out.2 g3⟩
        clear g3 S2
        go_wp2_with fail
        refine (more10 s _ A _ hs S3.out.1.seg).mono ?_
        rw [HMO.out]
        rintro e wx ⟨rfl, he⟩; subst he
        go_wp2_with fail
        refine (holds11 q _ A _ S3.out.1.seg).mono ?_
        rw [HQ.out, show (q == q) = true by simp]
        rintro e w4 ⟨rfl, g4⟩
        have S4 : Hid (Own w4 w.heap.size (.slice aoA tot capA) A ∧ w.grownBy w4 none) := ⟨S3.out.1.grown g4, grown_trans S3.out.2 g4⟩
        clear g4 S3
        go_wp2_with fail
        refine (holds11 s _ A _ S4.out.1.seg).mono ?_
        rw [HQ.out, HBO.out]
        rintro e w5 ⟨rfl, g5⟩
        have S5 : Hid (Own w5 w.heap.size (.slice aoA tot capA) A ∧ w.grownBy w5 none ∧ Segs w5 (.slice aoL Ls.length capL) Ls) := ⟨S4.out.1.grown g5, grown_trans S4.out.2 g5, HL.out.grown (grown_trans S4.out.2 g5)⟩
        clear g5 S4
        go_wp2_with fail
        go_loopw [10, 11] (fun i q wq => ∃ j K : Nat, j ≤ Ls.length ∧ i = .int .i64 j ∧ q = .int .i64 K ∧ K ≤ tot ∧ Hid ((Ls.take j).flatten.length = K) ∧ w5.grownBy wq none) (fun i _ _ => Ls.length - (intOf i).toNat)
        case atStart => exact ⟨0, 0, by omega, rfl, rfl, by omega, rfl, grown_refl _ _⟩
        case round =>
          obtain ⟨j, K, hj, rfl, rfl, hKt, HK, hgq⟩ := hrel
          by_cases hlt2 : j < Ls.length
          · have HLq := S5.out.2.2.grown hgq
            obtain ⟨ao', cap', hv, _, h4q⟩ := HLq
            simp at hv
            obtain ⟨rfl, rfl⟩ := hv
            obtain ⟨b, off, x, rfl, hcr, hx⟩ := h4q j hlt2
            obtain ⟨ao2, cap2, hxs⟩ := hx.shape
            obtain ⟨M, hM⟩ : ∃ M, Ls[j] = M := ⟨_, rfl⟩
            rw [hM] at hxs hx
            subst hxs
            have hKM : K + M.length ≤ tot := by
              have h1 := flatten_take_le Ls (j + 1)
              rw [flatten_take_succ Ls j hlt2, List.length_append, HK.out, HA.out, HTot.out, hM] at h1
              exact h1
            have cvl : ∀ q, (convert 24 9 (.slice ao2 M.length cap2)).run Try.prog (wr.drewN q) = .ok (.string ⟨M.toArray⟩) (wr.drewN q) := fun q => seg_str (hx.grown (grown_drewN _ q none))
            have SA : Hid (Seg wr (.slice aoA tot capA) A) := (S5.out.1.seg).grown hgq
            have i1 : (K : Int) + (M.length : Int) ≤ (capA : Int) := by omega
            have i2 : (K : Int) ≤ (K : Int) + (M.length : Int) := by omega
            have i3 : (j : Int) < (Ls.length : Int) := by omega
            have hmid : (A.drop K).take M.length = M := by
              have e : Ls.flatten = (Ls.take j).flatten ++ (M ++ (Ls.drop (j + 1)).flatten) := by
                rw [← hM, ← List.append_assoc, ← flatten_take_succ Ls j hlt2, ← List.flatten_append, List.take_append_drop]
              rw [← HA.out, e, ← HK.out]; simp
            have hwr : IntKind.i64.wrap ((K : Int) + (M.length : Int)) = (K : Int) + (M.length : Int) := wrap_i64 _ (by omega) (by omega)
            have hKs : Hid ((Ls.take (j + 1)).flatten.length = K + M.length) := by
              unfold Hid; rw [flatten_take_succ Ls j hlt2, List.length_append, HK.out, hM]
            by_cases hck : capA = K
            · have hM0 : M = [] := List.eq_nil_of_length_eq_zero (by omega)
              subst hM0
              have hwk : IntKind.i64.wrap (K : Int) = (K : Int) := wrap_i64 _ (by omega) (by omega)
              have ik1 : (K : Int) ≤ (capA : Int) := by omega
              have cvl0 : ∀ q, (convert 24 9 (.slice ao2 0 cap2)).run Try.prog (wr.drewN q) = .ok (.string ⟨#[]⟩) (wr.drewN q) := cvl
              clear hwr cvl
              have cva : ∀ q, (convert 24 9 (.slice aoA 0 0)).run Try.prog (wr.drewN q) = .ok (.string ⟨#[]⟩) (wr.drewN q) := fun q => by
                have h := SA.out
                rw [← HTot.out] at h
                exact seg_str (L := []) ((seg_mid_end K (by rw [HTot.out]; omega) hck h).grown (grown_drewN _ q none))
              go_wp2_with fail
              go_quiet (fail)
              have F20 : Hid (w5.grownBy (wr.drewN nq) none) := grown_trans hgq (grown_drewN _ _ _)
              have hcq : (wr.drewN nq).cell? ⟨b, off + j, none⟩ = some (.slice ao2 0 cap2) := hcr
              clear cva hgq hcr hx SA h4q
              go_wp2_with fail
              go_roundw
              case rel => exact ⟨j + 1, K, by omega, by go_num, by first | go_num | rw [hwk], by omega, hKs, F20.out⟩
              case measure => simp [intOf]; omega
            · have cva : ∀ q, (convert 24 9 (.slice (Option.map (fun x => x.add K) aoA) M.length (capA - K))).run Try.prog (wr.drewN q) = .ok (.string ⟨M.toArray⟩) (wr.drewN q) := fun q => by
                have h := SA.out
                rw [← HTot.out] at h
                have h2 := seg_mid K M.length (by rw [HTot.out]; omega) h
                rw [hmid] at h2
                exact seg_str (h2.grown (grown_drewN _ q none))
              clear hmid
              go_wp2_with fail
              go_quiet (fail)
              have F20 : Hid (w5.grownBy (wr.drewN nq) none) := grown_trans hgq (grown_drewN _ _ _)
              have hcq : (wr.drewN nq).cell? ⟨b, off + j, none⟩ = some (.slice ao2 M.length cap2) := hcr
              clear cva hgq hcr hx SA h4q
              go_wp2_with fail
              go_roundw
              case rel => exact ⟨j + 1, K + M.length, by omega, by go_num, by first | go_num | (rw [hwr]; go_num), by omega, hKs, F20.out⟩
              case measure => simp [intOf]; omega
          · have S6 : Hid (w.grownBy wr none) := grown_trans S5.out.2.1 hgq
            clear hgq HK S5 HL HTot
            have x1 := xor_ones hs
            have hi := inv_lt hs
            obtain ⟨s0, hs0⟩ : ∃ s0, inv s = s0 := ⟨_, rfl⟩
            have HS0 : Hid (inv s = s0) := hs0
            rw [hs0] at x1 hi
            obtain ⟨m, hm⟩ : ∃ m, clamp n = m := ⟨_, rfl⟩
            have hm9 : m ≤ 9223372036854775807 := by unfold clamp at hm; omega
            have HM : Hid (n.toNat = m) := hm
            have hf := zeros_lt m hi
            obtain ⟨f, hef⟩ : ∃ f, zeros s0 m = f := ⟨_, rfl⟩
            have HF : Hid (zeros s0 m = f) := hef
            rw [hef] at hf
            have x2 := xor_ones hf
            obtain ⟨g, heg⟩ : ∃ g, inv f = g := ⟨_, rfl⟩
            have HGG : Hid (inv f = g) := heg
            rw [heg] at x2
            clear hs0 hef heg
            go_wp2_with fail
            refine (far12 s0 m _ hi hm9).mono ?_
            rw [HF.out]
            rintro e w7 ⟨rfl, g7⟩
            have S7 : Hid (w.grownBy w7 none) := grown_trans S6.out g7
            clear g7 S6
            go_wp2_with fail
            refine (zeros13 s n _ hs hn2).mono ?_
            rw [HS0.out, HM.out, HF.out, HGG.out]
            rintro e w8 ⟨rfl, g8⟩
            have S8 : Hid (w.grownBy w8 none) := grown_trans S7.out g8
            clear g8 S7
            by_cases hbig5 : 500 < n
            · have b5 : decide (n > 500) = true := by simp; omega
              go_wp2_with fail
              refine (known6 _).mono ?_
              rintro e w9 ⟨rfl, g9⟩
              have S9 : Hid (w.grownBy w9 none) := grown_trans S8.out g9
              clear g9 S8
              go_wp2_with fail
              go_ret
              exact ⟨rfl, S9.out⟩
            · have b5 : decide (n > 500) = false := by simp; omega
              go_wp2_with fail
              refine (zeros14 s n _ hs hn2).mono ?_
              rw [HS0.out, HM.out, HF.out, HGG.out]
              rintro e wx ⟨rfl, he⟩; subst he
              go_wp2_with fail
              refine (known6 _).mono ?_
              rintro e w9 ⟨rfl, g9⟩
              have S9 : Hid (w.grownBy w9 none) := grown_trans S8.out g9
              clear g9 S8
              go_wp2_with fail
              go_ret
              exact ⟨rfl, S9.out⟩
end Go.Proofs.Ytdmnnfppjhpdkaa
