/-
  Read of the program.
-/
import Derived.Test.YtahpkgglkibikaaX
namespace Go.Proofs.Ytahpkgglkibikaa
open Go.RowKit Disk

theorem run_slice9 (L : List UInt8) (k : Nat) (hk : k ≤ L.length) (w : World) : (Instr.slice 9 (.string ⟨L.toArray⟩) (some (.int .i64 k)) none none).run Try.prog w = .ok (.string ⟨(L.drop k).toArray⟩) w := by
  rw [run_slice_string_from_if w 9 _ _ _ Try.underlying9, if_pos ⟨by omega, by rw [str_size]; omega⟩]
  have e : (⟨L.toArray⟩ : ByteArray).extract (k : Int).toNat (⟨L.toArray⟩ : ByteArray).size = ⟨(L.drop k).toArray⟩ := by
    apply ByteArray.ext
    rw [ByteArray.data_extract, str_size]
    simp
    exact List.take_of_length_le (by simp)
  rw [e]

def sizeStr : Value → Nat
  | .string x => x.size
  | _ => 0

theorem str_inj {L M : List UInt8} (h : (⟨L.toArray⟩ : ByteArray) = ⟨M.toArray⟩) : L = M := by
  have h1 := congrArg (fun x => x.data.toList) h
  simpa using h1

set_option maxRecDepth 100000 in
set_option maxHeartbeats 2000000 in
theorem read7 (s : List UInt8) (w : World) (hl : s.length ≤ 140737488355328) :
    Calls Try.prog 7 #[Str s] w fun e w' => ∃ x, e = .returned (.tuple #[x, .int .i64 (readE s)]) ∧ Cut w' w.heap.size x (readL s) ∧ w.grownBy w' none := by
  by_cases hs : s = [37]
  · subst hs
    obtain ⟨h1, h2⟩ := read_mark
    rw [h1, h2]
    show Calls Try.prog 7 #[.string ⟨#[37]⟩] w _
    go_enter Try.func7, Try.ntmps7
    go_wp2_with fail
    refine wp_scope_straight ?_
    go_wp2_with fail
    first | rw [Exit.noGoto_ret] | skip
    go_ret2
    exact ⟨_, rfl, .inl (Own.nil _ _), grown_refl _ _⟩
  · unfold Str
    have hne : ((⟨s.toArray⟩ : ByteArray).toList == [37]) = false := by
      rw [beq_eq_false_iff_ne, ByteArray.toList_mk]
      exact hs
    obtain ⟨X, hX⟩ : ∃ X, (⟨s.toArray⟩ : ByteArray) = X := ⟨_, rfl⟩
    obtain ⟨n, hn⟩ : ∃ n, s.length = n := ⟨_, rfl⟩
    have hsz : X.size = n := by rw [← hX, str_size, hn]
    have HX : Hid ((⟨s.toArray⟩ : ByteArray) = X ∧ s.length = n ∧ s ≠ [37]) := ⟨hX, hn, hs⟩
    rw [hX] at hne ⊢
    rw [hn] at hl
    obtain ⟨E, hE⟩ : ∃ E, readE s = E := ⟨_, rfl⟩
    have HE : Hid (readE s = E) := hE
    rw [hE]
    obtain ⟨w0, hmk, ho0, hg0⟩ := make22 n hl w
    have H0 : Hid (Disk.Own w0 w.heap.size (.slice (some ⟨w.heap.size, 0, none⟩) 0 n) [] ∧ w.grownBy w0 none) := ⟨ho0, hg0⟩
    clear hX hn hs hE ho0 hg0
    go_enter Try.func7, Try.ntmps7
    go_wp2_with fail
    refine wp_scope_straight ?_
    go_wp2_with fail
    refine wp_label ?_
    refine (‹∀ (a : Act) (w : World), Code.wp Try.prog _ _ a w → _› _ _ ?_)
    clear hmk hne
    go_wp2_with fail
    go_loopw [4, 5] (fun x r wr => ∃ (b rest : List UInt8), r = Str rest ∧ s = body b ++ rest ∧ Disk.Own wr w.heap.size x b ∧ w.grownBy wr none) (fun _ r _ => sizeStr r)
    case atStart => exact ⟨[], s, by rw [← HX.out.1]; rfl, rfl, H0.out.1, H0.out.2⟩
    case round =>
      obtain ⟨b, rest, hr, hsb, hown, hg⟩ := hrel
      subst hr
      have HO : Hid (s = body b ++ rest ∧ Disk.Own wr w.heap.size u4 b ∧ w.grownBy wr none) := ⟨hsb, hown, hg⟩
      obtain ⟨ao, nb, cb, hsh, hnb, lb, HS⟩ := seg_open hown.seg
      subst hsh
      have hbl : b.length + rest.length ≤ n := by
        have h1 := congrArg List.length hsb
        rw [List.length_append, HX.out.2.1] at h1
        have := (body_len b).1
        omega
      obtain ⟨m, hm⟩ : ∃ m, rest.length = m := ⟨_, rfl⟩
      have HM : Hid (rest.length = m ∧ b.length = nb) := ⟨hm, hnb⟩
      rw [hm, hnb] at hbl
      clear hsb hown hg hnb
      by_cases hm0 : m = 0
      · have er : rest = [] := List.eq_nil_of_length_eq_zero (by rw [hm]; exact hm0)
        subst er
        clear hm
        show Code.wp Try.prog _ _ { tmps := _, defers := _ } wr
        by_cases hb0 : nb = 0
        · have eb : b = [] := List.eq_nil_of_length_eq_zero (by rw [HM.out.2]; exact hb0)
          subst eb; subst hb0
          have hd := read_bad HX.out.2.2 (fun h => absurd HO.out.1 h)
          have e : E = 4 := by rw [← HE.out]; exact hd.2
          subst e
          have HD : Hid (readL s = []) := hd.1
          clear hd
          unfold Str
          go_wp2_with fail
          first | rw [Exit.noGoto_ret] | skip
          go_ret2
          exact ⟨_, rfl, by rw [HD.out]; exact .inl (Own.nil _ _), HO.out.2.2⟩
        · have hb1 : b ≠ [] := by
            intro e
            have h1 := HM.out.2
            rw [e] at h1
            simp at h1
            omega
          have hd := read_ok HX.out.2.2 hb1 (show s = body b by rw [← List.append_nil (body b)]; exact HO.out.1)
          clear hb1
          have e : E = 0 := by rw [← HE.out]; exact hd.2
          subst e
          have HD : Hid (readL s = b) := hd.1
          have i1 : ¬ (nb : Int) = 0 := by omega
          clear hd
          unfold Str
          go_wp2_with fail
          refine (copied31 _ _ b [] _ HS.out (seg_nil _) (by simp; have := HM.out.2; omega)).mono ?_
          rintro e w1 ⟨x, rfl, hc, hg⟩
          rw [List.append_nil] at hc
          have H1 : Hid (Cut w1 w.heap.size x b ∧ w.grownBy w1 none) := ⟨hc.mono HO.out.2.2.size, grown_trans HO.out.2.2 hg⟩
          clear hc hg
          go_wp2_with fail
          first | rw [Exit.noGoto_ret] | skip
          go_ret2
          exact ⟨_, rfl, by rw [HD.out]; exact H1.out.1, H1.out.2⟩
      · have hr0 : rest ≠ [] := by intro e; rw [e] at hm; simp at hm; omega
        have HF := first30 rest wr (by omega) hr0
        obtain ⟨⟨c, k⟩, hck⟩ : ∃ ck, first rest = ck := ⟨_, rfl⟩
        rw [hck] at HF
        have HC : Hid (first rest = (c, k) ∧ rest ≠ []) := ⟨hck, hr0⟩
        have hF : Hid (Calls Try.prog 30 #[Str rest] wr fun e w' => e = .returned (.tuple #[.int .u8 (c.toNat : Int), .int .i64 (k : Int)]) ∧ ∃ m, w' = wr.drewN m) := HF
        have i1 : (0 : Int) < (m : Int) := by omega
        clear HF hck
        obtain ⟨Y, hY⟩ : ∃ Y, (⟨rest.toArray⟩ : ByteArray) = Y := ⟨_, rfl⟩
        have hsy : Y.size = m := by rw [← hY, str_size, hm]
        have HY : Hid ((⟨rest.toArray⟩ : ByteArray) = Y) := hY
        unfold Str
        rw [hY]
        clear hm hr0
        by_cases hk0 : k = 0
        · subst hk0
          have hbad : ∀ d, s ≠ body d := fun d e => by
            rw [HO.out.1] at e
            obtain ⟨d', e'⟩ := body_prefix e
            exact first_none (d := d') (by rw [HC.out.1]) HC.out.2 e'
          have hd := read_bad HX.out.2.2 (fun _ => hbad)
          have e : E = 4 := by rw [← HE.out]; exact hd.2
          subst e
          have HD : Hid (readL s = []) := hd.1
          clear hd hbad hY
          by_cases hb0 : nb = 0
          · subst hb0
            go_wp2_with (first | (go_at_call 30; rw [← HY.out]; refine hF.out.mono ?_; rintro e w1 ⟨rfl, hw1⟩; have HW : Hid _ := hw1; clear hw1; try rw [HY.out]))
            first | rw [Exit.noGoto_ret] | skip
            go_ret2
            obtain ⟨q, hq⟩ := HW.out
            exact ⟨_, rfl, by rw [HD.out]; exact .inl (Own.nil _ _), by rw [hq]; exact grown_trans HO.out.2.2 (grown_drewN _ _ _)⟩
          · have i2 : ¬ (nb : Int) = 0 := by omega
            go_wp2_with (first | (go_at_call 30; rw [← HY.out]; refine hF.out.mono ?_; rintro e w1 ⟨rfl, hw1⟩; have HW : Hid _ := hw1; clear hw1; try rw [HY.out]))
            first | rw [Exit.noGoto_ret] | skip
            go_ret2
            obtain ⟨q, hq⟩ := HW.out
            exact ⟨_, rfl, by rw [HD.out]; exact .inl (Own.nil _ _), by rw [hq]; exact grown_trans HO.out.2.2 (grown_drewN _ _ _)⟩
        · obtain ⟨f1, f2, f3⟩ := first_some HC.out.1 hk0
          have hsl := run_slice9 rest k f2
          rw [hY] at hsl
          have i2 : ¬ (k : Int) = 0 := by omega
          have hlr : (rest.drop k).length < m := by rw [List.length_drop]; have := HM.out.1; omega
          have HG : Hid (s = body (b ++ [c]) ++ rest.drop k ∧ (rest.drop k).length < m) := by
            refine ⟨?_, hlr⟩
            rw [body_snoc, List.append_assoc, ← f1]
            exact HO.out.1
          obtain ⟨Z, hZ⟩ : ∃ Z, (⟨(rest.drop k).toArray⟩ : ByteArray) = Z := ⟨_, rfl⟩
          rw [hZ] at hsl
          have HZ : Hid (Value.string Z = Str (rest.drop k)) := by rw [← hZ]; rfl
          clear f1 f2 f3 hY hZ hlr
          go_wp2_with fail
          rw [← HY.out]
          refine hF.out.mono ?_
          rintro e w1 ⟨rfl, q, hq⟩
          have hgq : Hid (wr.grownBy w1 none) := by rw [hq]; exact grown_drewN _ _ _
          rw [HY.out]
          clear hq
          go_wp2_with (at_builtin; refine app22 _ rfl _ _ rfl w.heap.size _ b _ [c] rfl rfl ((HO.out.2.1.grown hgq.out).alloc _) (seg_lit _ _ _ [c] rfl (by simp)) ?c0 ?c1 ?_)
          case c0 => have := HM.out.2; simp; omega
          case c1 => have := HO.out.2.2.size; have := hgq.out.size; simp; omega
          intro v2 w2 hown hg hl2
          have H2 : Hid (Disk.Own w2 w.heap.size v2 (b ++ [c]) ∧ w.grownBy w2 none) := ⟨hown, grown_new (grown_trans (grown_trans HO.out.2.2 hgq.out) (World.grownBy_alloc _ _ none)) hg (fun x hx => (HO.out.2.1.lt x hx).1)⟩
          clear hown hg hl2
          go_wp2_with fail
          go_roundw
          case rel => exact ⟨b ++ [c], rest.drop k, HZ.out, HG.out.1, H2.out.1, H2.out.2⟩
          case measure =>
            have h1 := congrArg sizeStr HZ.out
            simp only [sizeStr, Str, str_size] at h1 ⊢
            have := HG.out.2
            omega
end Go.Proofs.Ytahpkgglkibikaa
