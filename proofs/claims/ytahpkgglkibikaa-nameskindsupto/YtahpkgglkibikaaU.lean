/-
  Where a digit stands among the digits; the byte that a text begins with.
-/
import Derived.Test.YtahpkgglkibikaaT
namespace Go.Proofs.Ytahpkgglkibikaa
open Go.RowKit Disk

/-- A digit's place, or -1. -/
def hexI (c : UInt8) : Int := match hexV c with
  | some n => (n : Int)
  | none => -1

def digits16 : List UInt8 := [48, 49, 50, 51, 52, 53, 54, 55, 56, 57, 65, 66, 67, 68, 69, 70]

theorem hex_all : ((List.range 256).all fun n => Lib.indexByte digits16 (UInt8.ofNat n) == hexI (UInt8.ofNat n)) = true := by kernel_rfl
theorem hex_index (c : UInt8) : Lib.indexByte digits16 c = hexI c := by
  have h := List.all_eq_true.1 hex_all c.toNat (List.mem_range.2 (byte_lt c))
  rw [UInt8.ofNat_toNat] at h
  exact eq_of_beq h

theorem toUInt8_nat (c : UInt8) : ((c.toNat : Int).toNat).toUInt8 = c := by
  rw [Int.toNat_natCast]
  exact UInt8.ofNat_toNat

set_option maxHeartbeats 400000 in
theorem index44 (c : UInt8) (w : World) : Calls Try.prog 44 #[.string { data := #[48, 49, 50, 51, 52, 53, 54, 55, 56, 57, 65, 66, 67, 68, 69, 70] }, .int .u8 (c.toNat : Int)] w fun e w' => e = .returned (.int .i64 (hexI c)) ∧ w' = w := by
  have h := Lib.run_indexByteString (P := Try.prog) { data := #[48, 49, 50, 51, 52, 53, 54, 55, 56, 57, 65, 66, 67, 68, 69, 70] } (c.toNat : Int) w
  rw [toUInt8_nat, show ({ data := #[48, 49, 50, 51, 52, 53, 54, 55, 56, 57, 65, 66, 67, 68, 69, 70] } : ByteArray).data.toList = digits16 from rfl, hex_index] at h
  go_enter Try.func44, Try.ntmps44
  go_wp2
  rw [run_callFunc_extern Try.func45 (by kernel_rfl) (by kernel_rfl) (by kernel_rfl) (e := Extern.BytealgIndexByte.indexByte) (by kernel_rfl), h]
  simp only [Result.andThen]
  rw [Oper.upon_value]
  go_wp2
  go_ret
  exact ⟨rfl, rfl⟩

set_option maxHeartbeats 400000 in
theorem index41 (c : UInt8) (w : World) : Calls Try.prog 41 #[.string { data := #[48, 49, 50, 51, 52, 53, 54, 55, 56, 57, 65, 66, 67, 68, 69, 70] }, .int .u8 (c.toNat : Int)] w fun e w' => e = .returned (.int .i64 (hexI c)) ∧ w' = w := by
  go_enter Try.func41, Try.ntmps41
  go_wp2_with (first | (go_at_call 44; refine (index44 _ _).mono ?_; rintro e w1 ⟨rfl, h1⟩; rw [h1]; clear h1))
  go_ret
  exact ⟨rfl, rfl⟩

set_option maxHeartbeats 400000 in
theorem key11 (v : Value) (L : List UInt8) (w : World) (hs : Seg w v L) : Calls Try.prog 11 #[v] w fun e w' => e = .returned (.bool (keyB L)) ∧ w' = w := by
  obtain ⟨ao, n, cap, rfl, hn, hlen, HS⟩ := seg_open hs
  unfold keyB
  rw [hn]
  clear hs hn HS
  go_enter Try.func11, Try.ntmps11
  by_cases h : (1 : Int) ≤ n
  · rw [decide_eq_true (by omega : 1 ≤ n), Bool.true_and]
    go_wp2
    go_ret
    exact ⟨by simp; try omega, rfl⟩
  · rw [decide_eq_false (by omega : ¬ 1 ≤ n), Bool.false_and]
    go_wp2
    go_ret
    exact ⟨rfl, rfl⟩
set_option maxHeartbeats 400000 in
theorem key12 (v : Value) (L : List UInt8) (w : World) (hs : Seg w v L) : Calls Try.prog 12 #[v] w fun e w' => e = .returned (.bool (keyB L)) ∧ w' = w := by
  obtain ⟨ao, n, cap, rfl, hn, hlen, HS⟩ := seg_open hs
  unfold keyB
  rw [hn]
  clear hs hn HS
  go_enter Try.func12, Try.ntmps12
  by_cases h : (1 : Int) ≤ n
  · rw [decide_eq_true (by omega : 1 ≤ n), Bool.true_and]
    go_wp2
    go_ret
    exact ⟨by simp; try omega, rfl⟩
  · rw [decide_eq_false (by omega : ¬ 1 ≤ n), Bool.false_and]
    go_wp2
    go_ret
    exact ⟨rfl, rfl⟩
theorem value13 (v : Value) (L : List UInt8) (w : World) (hs : Seg w v L) : Calls Try.prog 13 #[v] w fun e w' => e = .returned (.bool (valueB L)) ∧ w' = w := by
  obtain ⟨ao, n, cap, rfl, hn, hlen, HS⟩ := seg_open hs
  unfold valueB
  rw [hn]
  clear hs hn HS
  go_enter Try.func13, Try.ntmps13
  go_wp2
  go_ret
  exact ⟨by simp; try omega, rfl⟩
theorem value14 (v : Value) (L : List UInt8) (w : World) (hs : Seg w v L) : Calls Try.prog 14 #[v] w fun e w' => e = .returned (.bool (valueB L)) ∧ w' = w := by
  obtain ⟨ao, n, cap, rfl, hn, hlen, HS⟩ := seg_open hs
  unfold valueB
  rw [hn]
  clear hs hn HS
  go_enter Try.func14, Try.ntmps14
  go_wp2
  go_ret
  exact ⟨by simp; try omega, rfl⟩
theorem num17 (k : Int) (w : World) : Calls Try.prog 17 #[.int .i64 k] w fun e w' => e = .returned (.int .i64 k) ∧ w' = w := by
  go_enter Try.func17, Try.ntmps17
  go_wp2
  go_ret
  exact ⟨rfl, rfl⟩

set_option maxRecDepth 100000 in
set_option maxHeartbeats 1000000 in
theorem table9 (L : List UInt8) (w : World) (hl : L.length ≤ 9223372036854775807) : Calls Try.prog 9 #[Str L] w fun e w' => e = .returned (.bool (tabB L)) ∧ w' = w := by
  unfold Str
  obtain ⟨X, hX⟩ : ∃ X, (⟨L.toArray⟩ : ByteArray) = X := ⟨_, rfl⟩
  obtain ⟨n, hn⟩ : ∃ n, L.length = n := ⟨_, rfl⟩
  have hsz : X.size = n := by rw [← hX, str_size, hn]
  have HX : Hid ((⟨L.toArray⟩ : ByteArray) = X ∧ L.length = n) := ⟨hX, hn⟩
  rw [hX]
  rw [hn] at hl
  obtain ⟨R, hR⟩ : ∃ R, tabB L = R := ⟨_, rfl⟩
  have HR : Hid (tabB L = R) := hR
  rw [hR]
  clear hX hn hR
  go_enter Try.func9, Try.ntmps9
  by_cases h1 : n < 1
  · have e : R = false := by rw [← HR.out]; unfold tabB; rw [HX.out.2, decide_eq_false (by omega : ¬ 1 ≤ n)]; simp
    subst e
    have i1 : (n : Int) < 1 := by omega
    go_wp2_with fail
    refine wp_scope_straight ?_
    go_wp2_with fail
    first | rw [Exit.noGoto_ret] | skip
    go_ret
    exact ⟨rfl, rfl⟩
  · by_cases h2 : 16 < n
    · have e : R = false := by rw [← HR.out]; unfold tabB; rw [HX.out.2, decide_eq_false (by omega : ¬ n ≤ 16)]; simp
      subst e
      have i1 : ¬ (n : Int) < 1 := by omega
      have i2 : (16 : Int) < n := by omega
      go_wp2_with fail
      refine wp_scope_straight ?_
      go_wp2_with fail
      first | rw [Exit.noGoto_ret] | skip
      go_ret
      exact ⟨rfl, rfl⟩
    · have i1 : ¬ (n : Int) < 1 := by omega
      have i2 : ¬ (16 : Int) < n := by omega
      go_wp2_with fail
      refine wp_scope_straight ?_
      go_wp2_with fail
      refine wp_label ?_
      refine (‹∀ (a : Act) (w : World), Code.wp Try.prog _ _ a w → _› _ _ ?_)
      go_wp2_with fail
      go_loopw [15] (fun i wr => ∃ k : Nat, k ≤ n ∧ i = .int .i64 k ∧ wr = w ∧ ∀ j (hj : j < L.length), j < k → alnum L[j] = true) (fun i _ => n - (intOf i).toNat)
      case atStart => exact ⟨0, by omega, rfl, rfl, fun j _ h => by omega⟩
      case round =>
        obtain ⟨k, hk, rfl, hwr, hinv⟩ := hrel
        have HW : Hid (wr = w ∧ ∀ j (hj : j < L.length), j < k → alnum L[j] = true) := ⟨hwr, hinv⟩
        clear hwr hinv
        by_cases hlt : k < n
        · have hkl : k < L.length := by rw [HX.out.2]; exact hlt
          have hidx := run_index9 L k hkl
          rw [HX.out.1] at hidx
          obtain ⟨q, hq⟩ : ∃ q, alnum L[k] = q := ⟨_, rfl⟩
          have HQ : Hid (alnum L[k] = q) := hq
          have hd := hq
          unfold alnum at hd
          obtain ⟨x, hx⟩ : ∃ x, L[k].toNat = x := ⟨_, rfl⟩
          rw [hx] at hidx hd
          clear hq hx
          have i3 : (0 : Int) ≤ (k : Int) := by omega
          have i4 : (k : Int) < (n : Int) := by omega
          by_cases a1 : (97 : Int) ≤ x ∧ (x : Int) ≤ 122
          · obtain ⟨a1, a2⟩ := a1
            have e : q = true := by rw [← hd]; simp; omega
            subst e
            clear hd
            go_wp2_with fail
            go_roundw
            case rel => exact ⟨k + 1, by omega, by go_num, HW.out.1, fun j hj hjk => by
              by_cases e : j = k
              · subst e; exact HQ.out
              · exact HW.out.2 j hj (by omega)⟩
            case measure => simp [intOf]; omega
          · have a1' : (¬ (97 : Int) ≤ x) ∨ ((97 : Int) ≤ x ∧ ¬ (x : Int) ≤ 122) := by omega
            by_cases a3 : (48 : Int) ≤ x ∧ (x : Int) ≤ 57
            · obtain ⟨a3, a4⟩ := a3
              have e : q = true := by rw [← hd]; simp; omega
              subst e
              clear hd
              rcases a1' with a5 | ⟨a5, a6⟩
              · go_wp2_with fail
                go_roundw
                case rel => exact ⟨k + 1, by omega, by go_num, HW.out.1, fun j hj hjk => by
                  by_cases e : j = k
                  · subst e; exact HQ.out
                  · exact HW.out.2 j hj (by omega)⟩
                case measure => simp [intOf]; omega
              · omega
            · have a3' : (¬ (48 : Int) ≤ x) ∨ ((48 : Int) ≤ x ∧ ¬ (x : Int) ≤ 57) := by omega
              have e : q = false := by rw [← hd]; simp; omega
              subst e
              have e : R = false := by rw [← HR.out]; exact tab_bad hkl HQ.out
              subst e
              clear hd a1 a3
              rcases a1' with a5 | ⟨a5, a6⟩ <;> rcases a3' with a7 | ⟨a7, a8⟩
              all_goals (
                go_wp2_with fail
                first | rw [Exit.noGoto_ret] | skip
                go_ret
                exact ⟨rfl, HW.out.1⟩)
        · have e : R = true := by
            rw [← HR.out, tab_end (fun j hj => HW.out.2 j hj (by have := HX.out.2; omega)), HX.out.2]
            simp; omega
          subst e
          go_wp2_with fail
          first | rw [Exit.noGoto_ret] | skip
          go_ret
          exact ⟨rfl, HW.out.1⟩
end Go.Proofs.Ytahpkgglkibikaa
