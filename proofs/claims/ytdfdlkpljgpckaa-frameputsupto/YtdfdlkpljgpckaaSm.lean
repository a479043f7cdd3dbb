/-
  Whether two frames are the same; the document's own reading of bytes as frames.
-/
import Derived.Test.YtdfdlkpljgpckaaFi
namespace Go.Proofs.Ytdfdlkpljgpckaa
open Go.RowKit Disk

set_option maxRecDepth 100000 in
set_option maxHeartbeats 4000000 in
theorem same16 (k1 k2 : Int) (v1 v2 : Value) (L1 L2 : List UInt8) (w : World) (h1 : Seg w v1 L1) (h2 : Seg w v2 L2) : Calls Try.prog 16 #[.agg #[.int .i64 k1, v1], .agg #[.int .i64 k2, v2]] w fun e w' => e = .returned (.bool (decide (k1 = k2 ∧ L1 = L2))) ∧ w.grownBy w' none := by
  obtain ⟨a1, c1, e1⟩ := h1.shape
  obtain ⟨a2, c2, e2⟩ := h2.shape
  have HV : Hid (∀ x : World, w.grownBy x none → (convert 22 9 (.slice a1 L1.length c1)).run Try.prog x = .ok (.string ⟨L1.toArray⟩) x ∧ (convert 22 9 (.slice a2 L2.length c2)).run Try.prog x = .ok (.string ⟨L2.toArray⟩) x) := fun x hx => ⟨by rw [← e1]; exact seg_str (h1.grown hx), by rw [← e2]; exact seg_str (h2.grown hx)⟩
  subst e1
  subst e2
  clear h1 h2
  obtain ⟨n1, hn1⟩ : ∃ n1, L1.length = n1 := ⟨_, rfl⟩
  obtain ⟨n2, hn2⟩ : ∃ n2, L2.length = n2 := ⟨_, rfl⟩
  rw [hn1, hn2] at HV ⊢
  have HR : Hid (∀ r, r = decide (k1 = k2 ∧ L1 = L2) → r = decide (k1 = k2 ∧ L1 = L2)) := fun _ h => h
  obtain ⟨S1, hS1⟩ : ∃ S1 : ByteArray, ⟨L1.toArray⟩ = S1 := ⟨_, rfl⟩
  obtain ⟨S2, hS2⟩ : ∃ S2 : ByteArray, ⟨L2.toArray⟩ = S2 := ⟨_, rfl⟩
  have HS : Hid (S1 = S2 ↔ L1 = L2) := by
    unfold Hid
    rw [← hS1, ← hS2]
    simp
  have HT : Hid (S1.toList = S2.toList → L1 = L2) := by
    unfold Hid
    rw [← hS1, ← hS2, ByteArray.toList_eq, ByteArray.toList_eq]
    exact fun h => h
  rw [hS1, hS2] at HV
  clear hn1 hn2 hS1 hS2
  have HGW : Hid (w.grownBy ((w.alloc (.cells #[.int .i64 k1, .slice a1 n1 c1] 25)).alloc (.cells #[.int .i64 k2, .slice a2 n2 c2] 25)) none) := grown_trans (World.grownBy_alloc _ _ _) (World.grownBy_alloc _ _ _)
  by_cases hk : k1 = k2
  · subst hk
    obtain ⟨q1, q2⟩ := HV.out _ HGW.out
    by_cases hL : S1 = S2
    · go_enter Try.func16, Try.ntmps16
      go_wp2_with fail
      go_ret
      exact ⟨by simp [HS.out.1 hL], HGW.out⟩
    · go_enter Try.func16, Try.ntmps16
      go_wp2_with fail
      go_ret
      refine ⟨?_, HGW.out⟩
      have : ¬ L1 = L2 := fun e => hL (HS.out.2 e)
      simp [this]
      exact fun e => this (HT.out e)
  · go_enter Try.func16, Try.ntmps16
    go_wp2_with fail
    go_ret
    exact ⟨by simp [hk], HGW.out⟩

/-- What the document says bytes begin with. -/
def BegPost (L : List UInt8) (w : World) (e : Ending) (w' : World) : Prop :=
  w.grownBy w' none ∧ (code L ≠ 0 → e = .returned (.tuple #[.agg #[.int .i64 0, .slice none 0 0], .int .i64 0, .int .i64 (code L : Nat)])) ∧ (code L = 0 → ∃ u, e = .returned (.tuple #[.agg #[.int .i64 (kindOf L : Nat), u], .int .i64 (9 + lenOf L : Nat), .int .i64 0]) ∧ Own w' w.heap.size u (bodyOf L))

theorem begin27_few (v : Value) (L : List UInt8) (w : World) (hs : Seg w v L) (hL : L.length < 9) : Calls Try.prog 27 #[v] w (BegPost L w) := by
  obtain ⟨ao, cap, hv⟩ := hs.shape
  subst hv
  obtain ⟨n, hn⟩ : ∃ n, L.length = n := ⟨_, rfl⟩
  have HC : Hid (code L = 140) := by unfold Hid code; rw [show spl L = 140 from by unfold spl; rw [if_pos hL]]; rfl
  rw [hn] at hL ⊢
  clear hn hs
  have hi : (n : Int) < 9 := by omega
  go_enter Try.func27, Try.ntmps27
  go_wp2_with fail
  have hb : Blk (w.alloc (.cells #[.int .i64 0, .slice none 0 0] 25)) w.heap.size 25 #[.int .i64 0, .slice none 0 0] := heap_alloc_new _ _
  refine bodyPost_ret (told3 rfl (load25 hb) rfl rfl rfl) rfl ?_
  exact ⟨World.grownBy_alloc _ _ _, fun _ => by rw [HC.out]; rfl, fun h => absurd h (by rw [HC.out]; decide)⟩

theorem take_frm {L : List UInt8} (_h : 9 + lenOf L ≤ L.length) : frm (kindOf L) (bodyOf L) = L.take (9 + lenOf L) ↔ L.take 9 = hdr (kindOf L) (bodyOf L) := by
  rw [List.take_add, show (L.drop 9).take (lenOf L) = bodyOf L from rfl]
  unfold frm
  constructor
  · intro e
    exact (List.append_cancel_right e).symm
  · intro e
    rw [e]

end Go.Proofs.Ytdfdlkpljgpckaa
