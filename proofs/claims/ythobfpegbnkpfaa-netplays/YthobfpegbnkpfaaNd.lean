/-
  Some of the chapter's rows: known answers true.
-/
import Derived.Test.YthobfpegbnkpfaaIL
namespace Go.Proofs.Ythobfpegbnkpfaa
open Go.RowKit Disk I

theorem al3 (w : World) (A B D : Array Value) (s t u : Nat) : ∃ W, ((w.alloc (.cells A s)).alloc (.cells B t)).alloc (.cells D u) = W ∧ Hid (Blk W w.heap.size s A ∧ Blk W (w.heap.size + 1) t B ∧ Blk W (w.heap.size + 1 + 1) u D ∧ w.grownBy W none ∧ W.heap.size = w.heap.size + 3) := by
  refine ⟨_, rfl, ?_, ?_, ?_, ?_, by simp⟩
  · exact Blk.grown (Blk.grown (heap_alloc_new _ _) (World.grownBy_alloc _ _ none) (by simp)) (World.grownBy_alloc _ _ none) (by simp)
  · have := Blk.grown (t := t) (c := B) (heap_alloc_new (w.alloc (.cells A s)) (.cells B t)) (World.grownBy_alloc _ (.cells D u) none) (by simp)
    simpa using this
  · have := heap_alloc_new ((w.alloc (.cells A s)).alloc (.cells B t)) (.cells D u)
    rw [show ((w.alloc (.cells A s)).alloc (.cells B t)).heap.size = w.heap.size + 1 + 1 by simp] at this
    exact this
  · exact grown_trans (World.grownBy_alloc _ _ _) (grown_trans (World.grownBy_alloc _ _ _) (World.grownBy_alloc _ _ _))
theorem rd_lit (w : World) (t : Nat) (xs : List Value) (hl : xs.length ≤ 9223372036854775807) : Rd (w.alloc (.cells xs.toArray t)) (.slice (some ⟨w.heap.size, 0, none⟩) xs.length xs.length) xs := by
  refine ⟨_, xs.length, rfl, Nat.le_refl _, by unfold maxLen; omega, by simp, fun j hj => ⟨w.heap.size, 0, rfl, ?_⟩⟩
  have h : Blk (w.alloc (.cells xs.toArray t)) w.heap.size t xs.toArray := heap_alloc_new w _
  rw [Nat.zero_add, h.cell j]
  simp [hj]

set_option maxRecDepth 100000 in
set_option maxHeartbeats 4000000 in
theorem known18 (w : World) : Calls Try.prog 18 #[] w fun e w' => e = .returned (.bool true) ∧ w.grownBy w' none := by
  go_enter Try.func18, Try.ntmps18
  go_wp2_with fail
  refine (new_net w).mono ?_
  rintro e w1 ⟨rfl, hn1, hg1⟩
  obtain ⟨b, hb⟩ : ∃ b, w.heap.size = b := ⟨_, rfl⟩
  have M1 : Hid (Mine w w1 b (.slice none 0 0) [] 0 ∧ w.heap.size = b) := by rw [← hb]; exact ⟨mine_new hn1 hg1, rfl⟩
  rw [hb]
  clear hn1 hg1 hb
  go_wp2_with fail
  obtain ⟨w2, hw2, H2⟩ := al1 w1 #[.int .i64 5, .int .i64 6, .int .i64 7] 3
  have HU : Hid (Rd w2 (.slice (some ⟨w1.heap.size, 0, none⟩) 3 3) (([5, 6, 7] : List Int).map (Value.int .i64))) := by
    rw [← hw2]
    exact rd_lit w1 3 [.int .i64 5, .int .i64 6, .int .i64 7] (by simp)
  rw [hw2]
  clear hw2
  obtain ⟨g, hg⟩ : ∃ g, w1.heap.size = g := ⟨_, rfl⟩
  rw [hg] at H2 HU ⊢
  have M2 : Hid (Mine w w2 b (.slice none 0 0) [] 0) := M1.out.1.grown H2.out.2.1
  clear hg
  refine (send_yes b w.heap.size (.slice none 0 0) [] 0 (.slice (some ⟨g, 0, none⟩) 3 3) [5, 6, 7] w2 M2.out.net HU.out (fun _ k hk => ?_) (by omega) M2.out.gr.size).mono ?_
  · simp [Value.ownBlock] at hk
    subst hk
    exact M2.out.apart H2.out.1 (by decide) (by decide)
  · rintro e w3 (⟨h1, _⟩ | ⟨_, rfl, r, hr, hN⟩)
    · simp at h1
    · obtain ⟨a1, a2, a3, rfl⟩ : ∃ a1 a2 a3, r = [a1, a2, a3] := by
        match r, hr with
        | [a1, a2, a3], _ => exact ⟨_, _, _, rfl⟩
        | [], h => simp at h
        | [_], h => simp at h
        | [_, _], h => simp at h
        | _ :: _ :: _ :: _ :: _, h => simp at h
      simp at hr
      obtain ⟨v3, M3'⟩ := M2.out.to hN
      have M3 : Hid (Mine w w3 b v3 [a1, a2, a3] 3 ∧ a1.t = 5 ∧ a2.t = 6 ∧ a3.t = 7) := ⟨by simpa using M3', hr⟩
      clear hr hN M3' H2 HU M2 M1
      go_wp2_with fail
      refine (take_yes b w.heap.size v3 [a1, a2, a3] 3 1 w3 M3.out.1.net).mono ?_
      rintro e w4 ⟨rfl, hT⟩
      have e4 : atD [a1, a2, a3] 1 = (6, 0) := by unfold atD; simp [M3.out.2.2.1]
      unfold TakeP at hT
      rw [if_pos (by simp)] at hT
      obtain ⟨v4, M4'⟩ := M3.out.1.to hT
      have M4 : Hid (Mine w w4 b v4 [a1, a3] 3 ∧ a1.t = 5) := ⟨by simpa using M4', M3.out.2.1⟩
      rw [e4]
      clear hT M4' e4 M3
      go_wp2_with fail
      refine (twin_yes b w.heap.size v4 [a1, a3] 3 0 w4 M4.out.1.net (by omega) M4.out.1.gr.size).mono ?_
      rintro e w5 (⟨h1, _⟩ | ⟨_, h1, _⟩ | ⟨a, _, h2, _, rfl, r, hr, hN⟩)
      · simp at h1
      · simp at h1
      · simp at h2
        subst h2
        obtain ⟨a4, rfl⟩ : ∃ a4, r = [a4] := by
          match r, hr with
          | [a4], _ => exact ⟨_, rfl⟩
          | [], h => simp at h
          | _ :: _ :: _, h => simp at h
        simp at hr
        obtain ⟨v5, M5'⟩ := M4.out.1.to hN
        have M5 : Hid (Mine w w5 b v5 [a1, a3, a4] 4 ∧ a4.t = 5) := ⟨by simpa using M5', by rw [hr]; exact M4.out.2⟩
        clear hr hN M5' M4
        go_wp2_with fail
        refine (at_yes b w.heap.size v5 [a1, a3, a4] 4 2 w5 M5.out.1.net).mono ?_
        rintro e w6 ⟨rfl, rfl⟩
        have e5 : atD [a1, a3, a4] 2 = (5, 0) := by unfold atD; simp [M5.out.2]
        rw [e5]
        clear e5
        go_wp2_with fail
        refine (at_yes b w.heap.size v5 [a1, a3, a4] 4 3 w6 M5.out.1.net).mono ?_
        rintro e w7 ⟨rfl, rfl⟩
        have e6 : atD [a1, a3, a4] 3 = (0, 5) := by unfold atD; simp
        rw [e6]
        clear e6
        go_wp2_with fail
        refine (len_yes b w.heap.size v5 [a1, a3, a4] 4 w7 M5.out.1.net).mono ?_
        rintro e w8 ⟨rfl, rfl⟩
        go_wp2_with fail
        refine (sent_yes b w.heap.size v5 [a1, a3, a4] 4 w8 M5.out.1.net).mono ?_
        rintro e w9 ⟨rfl, rfl⟩
        go_wp2_with fail
        go_ret
        exact ⟨rfl, M5.out.1.gr⟩
end Go.Proofs.Ythobfpegbnkpfaa
