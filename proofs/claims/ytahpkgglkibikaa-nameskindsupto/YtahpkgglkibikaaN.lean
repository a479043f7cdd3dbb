/-
  Next, Behind, Meet of the program.
-/
import Derived.Test.YtahpkgglkibikaaM
namespace Go.Proofs.Ytahpkgglkibikaa
open Go.RowKit Disk

set_option maxRecDepth 100000 in
set_option maxHeartbeats 400000 in
theorem next21 (v : Value) (L : List UInt8) (w : World) (hs : Seg w v L) (hL : L.length ≤ 140737488355327) :
    Calls Try.prog 21 #[v] w fun e w' => ∃ x, e = .returned x ∧ Cut w' w.heap.size x (L ++ [0]) ∧ w.grownBy w' none := by
  have HS : Hid (Seg w v L) := hs
  have HL : Hid (L.length ≤ 140737488355327) := hL
  clear hs hL
  go_enter Try.func21, Try.ntmps21
  go_wp2_with (first | (go_at_call 31; refine (copied31 _ _ L [0] _ (seg_alloc HS.out _) (seg_lit _ _ _ [0] rfl (by simp)) (by have := HL.out; simp; omega)).mono ?_; rintro e w1 ⟨x, rfl, hc⟩))
  go_ret
  exact ⟨x, rfl, hc.1.mono (by simp), grown_trans (World.grownBy_alloc _ _ _) hc.2⟩

set_option maxRecDepth 100000 in
set_option maxHeartbeats 1000000 in
theorem behind22 (v : Value) (A : List UInt8) (w : World) (hs : Seg w v A) (hL : A.length ≤ 140737488355327) :
    Calls Try.prog 22 #[v] w fun e w' => ∃ x, e = .returned (.tuple #[x, .bool (behindB A)]) ∧ Cut w' w.heap.size x (behindL A) ∧ w.grownBy w' none := by
  obtain ⟨ao, n, cap, rfl, hn, hlen, HS⟩ := seg_open hs
  have hcap : n ≤ cap ∧ cap ≤ 9223372036854775807 := by
    obtain ⟨ao', cap', hv, h1, h2, h3, h4⟩ := hs
    simp at hv
    obtain ⟨_, rfl, rfl⟩ := hv
    unfold maxLen at h2
    exact ⟨by omega, by omega⟩
  have HN : Hid (A.length = n) := hn
  rw [hn] at hL
  obtain ⟨R, hR⟩ : ∃ c, behindB A = c := ⟨_, rfl⟩
  have HR : Hid (behindB A = R) := hR
  rw [hR]
  clear hs hn hR
  go_enter Try.func22, Try.ntmps22
  go_wp2_with fail
  refine wp_scope_straight ?_
  go_wp2_with fail
  refine wp_label ?_
  refine (‹∀ (a : Act) (w : World), Code.wp Try.prog _ _ a w → _› _ _ ?_)
  go_wp2_with fail
  go_loopw [4] (fun i wr => ∃ k : Nat, k ≤ n ∧ i = .int .i64 ((k : Int) - 1) ∧ wr = w ∧ trim (A.take k) = trim A) (fun i _ => ((intOf i) + 1).toNat)
  case atStart => exact ⟨n, Nat.le_refl _, by first | rfl | go_num, rfl, by rw [List.take_of_length_le (by rw [HN.out]; omega)]⟩
  case round =>
    obtain ⟨k, hk, rfl, hwr, hinv⟩ := hrel
    have HW : Hid (wr = w) := hwr
    cases k with
    | zero =>
      obtain ⟨hl, hb⟩ := behind_none hinv
      have e : R = false := by rw [← HR.out, hb]
      subst e
      have i0 : ((0 : Nat) : Int) - 1 = -1 := by omega
      rw [i0]
      have HB : Hid (behindL A = []) := hl
      clear hinv hwr hl hb
      go_wp2_with fail
      first | rw [Exit.noGoto_ret] | skip
      go_ret2
      exact ⟨_, rfl, by rw [HB.out, HW.out]; exact .inl (Own.nil _ _), by rw [HW.out]; exact grown_refl _ _⟩
    | succ j =>
      have i0 : ((j + 1 : Nat) : Int) - 1 = (j : Int) := by omega
      rw [i0]
      have hj : j < A.length := by rw [HN.out]; omega
      obtain ⟨b1, o1, rfl, x1⟩ := seg_at HS.out j hj
      rw [← hwr] at x1
      have i1 : (0 : Int) ≤ (j : Int) := by omega
      have i2 : (j : Int) < (n : Int) := by omega
      by_cases hc : A[j] = 255
      · rw [trim_take_full hj hc] at hinv
        have HI : Hid _ := hinv
        have ex : ((A[j].toNat : Nat) : Int) = 255 := by rw [hc]; rfl
        rw [ex] at x1
        clear hinv hwr ex
        go_wp2_with fail
        go_roundw
        case rel => exact ⟨j, by omega, by first | rfl | go_num, HW.out, HI.out⟩
        case measure => simp [intOf] <;> omega
      · obtain ⟨hl, hb⟩ := behind_at hj hc hinv
        have e : R = true := by rw [← HR.out, hb]
        subst e
        have ex : A[j].toNat < 255 := by
          have h1 := UInt8.toNat_lt A[j]
          have e255 : (255 : UInt8).toNat = 255 := rfl
          have : A[j].toNat ≠ 255 := fun e => hc (UInt8.toNat_inj.1 (by rw [e255]; exact e))
          omega
        have e1 : (A[j] + 1).toNat = A[j].toNat + 1 := by
          rw [UInt8.toNat_add]
          have : (1 : UInt8).toNat = 1 := rfl
          rw [this]
          omega
        obtain ⟨c, hcc⟩ : ∃ c, A[j] + 1 = c := ⟨_, rfl⟩
        rw [hcc] at hl e1
        obtain ⟨x, hx⟩ : ∃ x, A[j].toNat = x := ⟨_, rfl⟩
        rw [hx] at x1 ex e1
        have HB : Hid (behindL A = A.take j ++ [c] ∧ c.toNat = x + 1) := ⟨hl, e1⟩
        have HT : Hid (Seg wr (.slice (some ⟨b1, o1, none⟩) j cap) (A.take j)) := by
          have := seg_take j (Nat.le_of_lt hj) (by rw [HN.out, hwr]; exact HS.out : Seg wr (.slice (some ⟨b1, o1, none⟩) A.length cap) A)
          exact this
        have i3 : (x : Int) < 255 := by omega
        have i4 : ¬ (x : Int) = 255 := by omega
        have i5 : (x : Int) + 1 < 256 := by omega
        have i6 : (0 : Int) ≤ (x : Int) + 1 := by omega
        have i7 : IntKind.u8.wrap ((x : Int) + 1) = (x : Int) + 1 := by simp [IntKind.wrap, IntKind.bits, IntKind.signed]; omega
        have i8 : (j : Int) ≤ (cap : Int) := by omega
        clear hinv hwr hl hb hc hcc hx e1
        go_wp2_with fail
        go_simp
        go_wp2_with fail
        have hc0 : Seg (wr.alloc (.cells #[.int .u8 ((x : Int) + 1)] 5)) (.slice (some ⟨wr.heap.size, 0, none⟩) 1 1) [c] := seg_lit _ _ _ [c] (by simp [BV, HB.out.2]) (by simp)
        refine (copied31 _ _ (A.take j) [c] _ (seg_alloc HT.out _) hc0 (by simp; omega)).mono ?_
        rintro e w1 ⟨y, rfl, hy⟩
        go_wp2_with fail
        first | rw [Exit.noGoto_ret] | skip
        go_ret2
        refine ⟨y, rfl, ?_, ?_⟩
        · rw [HB.out.1, ← HW.out]
          exact hy.1.mono (by simp)
        · rw [← HW.out]
          exact grown_trans (World.grownBy_alloc _ _ _) hy.2
end Go.Proofs.Ytahpkgglkibikaa
