/-
  Behind and Meet of the document.
-/
import Derived.Test.YtahpkgglkibikaaQ
namespace Go.Proofs.Ytahpkgglkibikaa
open Go.RowKit Disk

/-- A store into an owned row. -/
theorem own_store {w : World} {B g n cap : Nat} {L : List UInt8} (h : Disk.Own w B (.slice (some ⟨g, 0, none⟩) n cap) L) (j : Nat) (x : Int) (c : UInt8) (hx : x = (c.toNat : Int)) :
    Disk.Own (w.setCell ⟨g, j, none⟩ (.int .u8 x)) B (.slice (some ⟨g, 0, none⟩) n cap) (L.set j c) := by
  subst hx
  obtain ⟨hn, _⟩ := own_cap h
  subst hn
  have h1 := (World.ownsRow.stored h j (.int .u8 (c.toNat : Int))).1
  unfold Disk.Own
  rw [List.length_set]
  have e : BV (L.set j c) = (BV L).set j (.int .u8 (c.toNat : Int)) := by simp [BV, List.map_set]
  rw [e]; exact h1

theorem own_cell {w : World} {B g n cap : Nat} {L : List UInt8} (h : Disk.Own w B (.slice (some ⟨g, 0, none⟩) n cap) L) (j : Nat) (hj : j < L.length) : w.cell? ⟨g, j, none⟩ = some (.int .u8 (L[j].toNat : Int)) ∧ w.frozen? ⟨g, j, none⟩ = false := by
  obtain ⟨b, off, e, hc⟩ := seg_at h.seg j hj
  simp at e
  rw [← e.1, ← e.2, Nat.zero_add] at hc
  refine ⟨hc, ?_⟩
  rcases h.2 with ⟨e, h0⟩ | ⟨g', c, cur, e, _, hg, _⟩
  · simp at e
  · simp at e
    rw [e.1]
    exact frozen_of_row w g' j _ _ hg

theorem set_last (X : List UInt8) (c d : UInt8) (j : Nat) (hj : j = X.length) : (X ++ [c]).set j d = X ++ [d] := by
  subst hj
  simp

set_option maxRecDepth 100000 in
set_option maxHeartbeats 1000000 in
theorem behind23 (v : Value) (A : List UInt8) (w : World) (hs : Seg w v A) (hL : A.length ≤ 140737488355327) :
    Calls Try.prog 23 #[v] w fun e w' => ∃ x, e = .returned (.tuple #[x, .bool (behindB A)]) ∧ Disk.Own w' w.heap.size x (behindL A) ∧ w.grownBy w' none := by
  obtain ⟨ao, n, cap, rfl, hn, hlen, HS⟩ := seg_open hs
  have hcap : n ≤ cap ∧ cap ≤ 9223372036854775807 := by
    obtain ⟨ao', cap', hv, h1, h2, h3, h4⟩ := hs
    simp at hv
    obtain ⟨_, rfl, rfl⟩ := hv
    unfold maxLen at h2
    exact ⟨by omega, by omega⟩
  have HN : Hid (A.length = n) := hn
  rw [hn] at hL
  obtain ⟨R, hR⟩ : ∃ c, behindB A = c := ⟨_, rfl⟩
  have HR : Hid (behindB A = R) := hR
  rw [hR]
  clear hs hn hR
  go_enter Try.func23, Try.ntmps23
  go_wp2_with fail
  go_loopw [4] (fun i wr => ∃ k : Nat, k ≤ n ∧ i = .int .i64 (k : Int) ∧ wr = w ∧ trim (A.take k) = trim A) (fun i _ => (intOf i).toNat)
  case atStart => exact ⟨n, Nat.le_refl _, rfl, rfl, by rw [List.take_of_length_le (by rw [HN.out]; omega)]⟩
  case round =>
    obtain ⟨k, hk, rfl, hwr, hinv⟩ := hrel
    have HW : Hid (wr = w) := hwr
    cases k with
    | zero =>
      obtain ⟨hl, hb⟩ := behind_none hinv
      have e : R = false := by rw [← HR.out, hb]
      subst e
      have HB : Hid (behindL A = []) := hl
      clear hinv hwr hl hb
      go_wp2_with fail
      go_ret2
      exact ⟨_, rfl, by rw [HB.out, HW.out]; exact Own.nil _ _, by rw [HW.out]; exact grown_refl _ _⟩
    | succ j =>
      have i0 : IntKind.i64.wrap (((j + 1 : Nat) : Int) - 1) = (j : Int) := by rw [IntKind.wrap_i64]; omega
      have i00 : (((j + 1 : Nat) : Int) - 1) = (j : Int) := by omega
      have hj : j < A.length := by rw [HN.out]; omega
      obtain ⟨b1, o1, rfl, x1⟩ := seg_at HS.out j hj
      rw [← hwr] at x1
      have i1 : (0 : Int) ≤ (j : Int) := by omega
      have i2 : (j : Int) < (n : Int) := by omega
      have i3 : (0 : Int) < ((j + 1 : Nat) : Int) := by omega
      obtain ⟨k1, hk1⟩ : ∃ k1, j + 1 = k1 := ⟨_, rfl⟩
      by_cases hc : A[j] = 255
      · rw [trim_take_full hj hc] at hinv
        have HI : Hid _ := hinv
        have ex : ((A[j].toNat : Nat) : Int) = 255 := by rw [hc]; rfl
        rw [ex] at x1
        rw [hk1] at i0 i00 i3 ⊢
        clear hinv hwr ex
        go_wp2_with fail
        go_roundw
        case rel => exact ⟨j, by omega, by first | rfl | go_num, HW.out, HI.out⟩
        case measure => simp [intOf] <;> omega
      · obtain ⟨hl, hb⟩ := behind_at hj hc hinv
        have e : R = true := by rw [← HR.out, hb]
        subst e
        have ex : A[j].toNat < 255 := by
          have h1 := UInt8.toNat_lt A[j]
          have e255 : (255 : UInt8).toNat = 255 := rfl
          have : A[j].toNat ≠ 255 := fun e => hc (UInt8.toNat_inj.1 (by rw [e255]; exact e))
          omega
        have e1 : (A[j] + 1).toNat = A[j].toNat + 1 := by
          rw [UInt8.toNat_add]
          have : (1 : UInt8).toNat = 1 := rfl
          rw [this]
          omega
        have et := List.take_succ_eq_append_getElem hj
        obtain ⟨c0, hc0⟩ : ∃ c, A[j] = c := ⟨_, rfl⟩
        rw [hc0] at hl e1 ex et x1
        obtain ⟨c, hcc⟩ : ∃ c, c0 + 1 = c := ⟨_, rfl⟩
        rw [hcc] at hl e1
        obtain ⟨x, hx⟩ : ∃ x, c0.toNat = x := ⟨_, rfl⟩
        rw [hx] at x1 ex e1
        have HB : Hid (behindL A = A.take j ++ [c] ∧ c.toNat = x + 1 ∧ A.take (j + 1) = A.take j ++ [c0] ∧ c0.toNat = x) := ⟨hl, e1, et, hx⟩
        have HT : Hid (Seg wr (.slice (some ⟨b1, o1, none⟩) k1 cap) (A.take (j + 1))) := by
          have := seg_take (j + 1) (by omega) (by rw [HN.out, hwr]; exact HS.out : Seg wr (.slice (some ⟨b1, o1, none⟩) A.length cap) A)
          rw [← hk1]
          exact this
        have HJ : Hid (j < A.length) := hj
        have i5 : ¬ (x : Int) = 255 := by omega
        have i7 : IntKind.u8.wrap ((x : Int) + 1) = (x : Int) + 1 := by simp [IntKind.wrap, IntKind.bits, IntKind.signed]; omega
        have i8 : (k1 : Int) ≤ (cap : Int) := by omega
        have i9 : ¬ (k1 : Int) = 0 := by omega
        have i10 : (0 : Int) ≤ (k1 : Int) := by omega
        have i12 : ¬ k1 = 0 := by omega
        have i13 : ¬ x = 255 := by omega
        have i11 : (j : Int) < (k1 : Int) := by omega
        rw [hk1] at i0 i00 i3 ⊢
        clear hinv hwr hl hb hc hcc hx e1 et hc0
        go_wp2_with (at_builtin; refine app22 _ rfl _ _ rfl wr.heap.size _ [] _ (A.take (j + 1)) rfl rfl (Own.nil _ _) HT.out ?c0 ?c1 ?_)
        case c0 => simp; omega
        case c1 => omega
        intro v1 w1 hown hg hl
        replace hown : Disk.Own w1 wr.heap.size v1 (A.take j ++ [c0]) := by
          rw [← HB.out.2.2.1, hk1]
          simpa using hown
        have hlen2 : (A.take j ++ [c0]).length = k1 := by have := HJ.out; simp; omega
        obtain ⟨g, cp, rfl, hcp⟩ : ∃ g cp, v1 = .slice (some ⟨g, 0, none⟩) k1 cp ∧ k1 ≤ cp := by
          rcases hown.shape with ⟨_, e⟩ | ⟨g, cp, rfl, _⟩
          · simp at e
          · rw [hlen2]
            exact ⟨g, cp, rfl, by have := (own_cap hown).2.1; omega⟩
        obtain ⟨y1, y2⟩ := own_cell hown j (by rw [hlen2]; omega)
        have ey : ((A.take j ++ [c0])[j]'(by rw [hlen2]; omega)).toNat = x := by
          rw [List.getElem_append_right (by rw [List.length_take]; omega)]
          simp
          exact HB.out.2.2.2
        rw [ey] at y1
        have hst := own_store hown j ((x : Int) + 1) c (by rw [HB.out.2.1]; rfl)
        rw [set_last _ _ _ _ (by have := HJ.out; simp; omega)] at hst
        have F : Hid (Disk.Own (w1.setCell ⟨g, j, none⟩ (.int .u8 ((x : Int) + 1))) wr.heap.size (.slice (some ⟨g, 0, none⟩) k1 cp) (A.take j ++ [c]) ∧ wr.grownBy w1 none ∧ wr.heap.size ≤ g) := ⟨hst, hg, (hown.lt g rfl).1⟩
        clear hown hg hl hlen2 ey hst
        go_wp2_with fail
        go_ret2
        refine ⟨_, rfl, ?_, ?_⟩
        · rw [HB.out.1, ← HW.out]
          exact F.out.1
        · rw [← HW.out]
          exact grown_new F.out.2.1 (grown_setCell _ _ _ _) (by intro y hy; simp at hy; have := F.out.2.2; omega)
end Go.Proofs.Ytahpkgglkibikaa
