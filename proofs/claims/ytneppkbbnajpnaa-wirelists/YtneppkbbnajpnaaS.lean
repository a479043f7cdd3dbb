/-
  The reader's Bytes: what it answers of the bytes before it. Open: a reader at the beginning of these bytes.
-/
import Derived.Test.YtneppkbbnajpnaaR
namespace Go.Proofs.Ytneppkbbnajpnaa
open Go.RowKit

theorem rdBytes_neg {L : List UInt8} {most : Int} (h : most < 0) : rdBytes L most = ([], 2, L) := by simp [rdBytes, rdCount, h]
theorem rdBytes_none {L : List UInt8} {most : Int} (h : 0 ≤ most) (hn : scan 0 0 L = none) : rdBytes L most = ([], 4, L) := by simp [rdBytes, rdCount, show ¬ most < 0 by omega, hn]
theorem rdBytes_long {L : List UInt8} {most : Int} {n k : Nat} (h : 0 ≤ most) (hn : scan 0 0 L = some (n, k)) (hl : most < (n : Int)) : rdBytes L most = ([], 3, L) := by simp [rdBytes, rdCount, show ¬ most < 0 by omega, hn, hl]
theorem rdBytes_few {L : List UInt8} {most : Int} {n k : Nat} (h : 0 ≤ most) (hn : scan 0 0 L = some (n, k)) (hl : ¬ most < (n : Int)) (hf : (L.drop k).length < n) : rdBytes L most = ([], 4, L) := by
  unfold rdBytes rdCount; rw [if_neg (show ¬ most < 0 by omega), hn]; simp only [hl, if_false]; rw [if_neg (by simp), if_pos hf]
theorem rdBytes_ok {L : List UInt8} {most : Int} {n k : Nat} (h : 0 ≤ most) (hn : scan 0 0 L = some (n, k)) (hl : ¬ most < (n : Int)) (hf : ¬ (L.drop k).length < n) : rdBytes L most = ((L.drop k).take n, 0, (L.drop k).drop n) := by
  unfold rdBytes rdCount; rw [if_neg (show ¬ most < 0 by omega), hn]; simp only [hl, if_false]; rw [if_neg (by simp), if_neg hf]
theorem rdCount_long {L : List UInt8} {most : Int} {n k : Nat} (h : 0 ≤ most) (hn : scan 0 0 L = some (n, k)) (hl : most < (n : Int)) : rdCount L most = (0, 3, L.drop k) := by simp [rdCount, show ¬ most < 0 by omega, hn, hl]
theorem rdCount_ok {L : List UInt8} {most : Int} {n k : Nat} (h : 0 ≤ most) (hn : scan 0 0 L = some (n, k)) (hl : ¬ most < (n : Int)) : rdCount L most = (n, 0, L.drop k) := by simp [rdCount, show ¬ most < 0 by omega, hn, hl]

/-- Beside an error the closure leaves the reader's block somehow. -/
def ErrPost (b : Nat) (er : Int) (w : World) (e : Ending) (w' : World) : Prop := ∃ v, e = .returned (.tuple #[v, .int .i64 er]) ∧ (∃ s2, RdB w' b true s2) ∧ w.grownBy w' (some b)

set_option maxHeartbeats 400000 in
theorem bytes49_neg (b bx : Nat) (s : Value) (most : Int) (w : World) (hr : RdB w b true s) (hbx : w.cell? ⟨bx, 0, none⟩ = some (.int .i64 most)) (h : most < 0) :
    Calls Try.prog 49 #[.pointer (some ⟨b, 0, none⟩), .pointer (some ⟨bx, 0, none⟩)] w (ErrPost b 2 w) := by
  have F : Hid (∃ s2, RdB w b true s2) := ⟨_, hr⟩
  clear hr
  go_enter Try.func49, Try.ntmps49
  go_wp2_with fail
  refine (count50_neg _ most _ h).mono ?_
  rintro e w' ⟨rfl, he⟩
  subst he
  go_wp2_with fail
  go_ret2
  exact ⟨_, rfl, F.out, grown_refl _ _⟩

set_option maxHeartbeats 400000 in
theorem bytes49_none (b bx : Nat) (s : Value) (L : List UInt8) (most : Int) (w : World) (hr : RdB w b true s) (hs : Seg w s L) (hbx : w.cell? ⟨bx, 0, none⟩ = some (.int .i64 most)) (h : 0 ≤ most) (hn : scan 0 0 L = none) :
    Calls Try.prog 49 #[.pointer (some ⟨b, 0, none⟩), .pointer (some ⟨bx, 0, none⟩)] w (ErrPost b 4 w) := by
  have F : Hid (∃ s2, RdB w b true s2) := ⟨_, hr⟩
  have HC : Hid _ := count50_none b true s L most w hr hs h hn
  clear hr hs hn
  go_enter Try.func49, Try.ntmps49
  go_wp2_with fail
  refine Calls.mono HC.out ?_
  rintro e w' ⟨rfl, he⟩
  subst he
  go_wp2_with fail
  go_ret2
  exact ⟨_, rfl, F.out, grown_refl _ _⟩

set_option maxHeartbeats 400000 in
theorem bytes49_long (b bx : Nat) (s : Value) (L : List UInt8) (n k : Nat) (most : Int) (w : World) (hr : RdB w b true s) (hs : Seg w s L) (hbx : w.cell? ⟨bx, 0, none⟩ = some (.int .i64 most)) (h : 0 ≤ most) (hm : most ≤ 9223372036854775807) (hn : scan 0 0 L = some (n, k)) (hl : most < (n : Int)) :
    Calls Try.prog 49 #[.pointer (some ⟨b, 0, none⟩), .pointer (some ⟨bx, 0, none⟩)] w (ErrPost b 3 w) := by
  have HR : Hid _ := hr
  have HC : Hid _ := count50_some b true s L n k most w hr hs h hm hn
  rw [rdCount_long h hn hl] at HC
  clear hr hs hn hl
  go_enter Try.func49, Try.ntmps49
  go_wp2_with fail
  refine Calls.mono HC.out ?_
  rintro e w' ⟨rfl, t, ht, hw⟩
  have F : Hid ((∃ s2, RdB w' b true s2) ∧ w.grownBy w' (some b)) := by
    subst hw; exact ⟨⟨_, RdB.store HR.out t⟩, grown_setCell _ _ _ _⟩
  clear ht hw HC
  go_wp2_with fail
  go_ret2
  exact ⟨_, rfl, F.out⟩

set_option maxHeartbeats 400000 in
theorem bytes49_few (b bx : Nat) (s : Value) (L : List UInt8) (n k : Nat) (most : Int) (w : World) (hr : RdB w b true s) (hs : Seg w s L) (hbx : w.cell? ⟨bx, 0, none⟩ = some (.int .i64 most)) (h : 0 ≤ most) (hm : most ≤ 9223372036854775807) (hn : scan 0 0 L = some (n, k)) (hl : ¬ most < (n : Int)) (hf : (L.drop k).length < n) :
    Calls Try.prog 49 #[.pointer (some ⟨b, 0, none⟩), .pointer (some ⟨bx, 0, none⟩)] w (ErrPost b 4 w) := by
  have HR : Hid _ := hr
  have HC : Hid _ := count50_some b true s L n k most w hr hs h hm hn
  rw [rdCount_ok h hn hl] at HC
  have HL := hs.len
  have hd : (L.drop k).length ≤ L.length := by simp
  obtain ⟨M, hM⟩ : ∃ M, L.drop k = M := ⟨_, rfl⟩
  rw [hM] at HC hf hd
  clear hr hs hn hM
  go_enter Try.func49, Try.ntmps49
  go_wp2_with fail
  refine Calls.mono HC.out ?_
  rintro e w' ⟨rfl, t, ht, hw⟩
  obtain ⟨ao, cap, rfl⟩ := ht.shape
  have hr1 : RdB w' b true (.slice ao M.length cap) := by subst hw; exact RdB.store HR.out _
  have hc1 := hr1.cell1
  have F : Hid ((∃ s2, RdB w' b true s2) ∧ w.grownBy w' (some b)) := by
    subst hw; exact ⟨⟨_, RdB.store HR.out _⟩, grown_setCell _ _ _ _⟩
  clear ht hw HC hr1
  go_wp2_with fail
  go_ret2
  exact ⟨_, rfl, F.out⟩

/-- What a reading of bytes leaves. -/
def OkPost (b : Nat) (out rest : List UInt8) (w : World) (v : Value) (w' : World) : Prop := Own w' w.heap.size v out ∧ Rd w' b rest ∧ w.grownBy w' (some b)

set_option maxHeartbeats 1000000 in
theorem bytes49_ok (b bx : Nat) (s : Value) (L : List UInt8) (n k : Nat) (most : Int) (w : World) (hr : RdB w b true s) (hs : Seg w s L) (hbx : w.cell? ⟨bx, 0, none⟩ = some (.int .i64 most)) (h : 0 ≤ most) (hm : most ≤ 9223372036854775807) (hn : scan 0 0 L = some (n, k)) (hl : ¬ most < (n : Int)) (hf : ¬ (L.drop k).length < n) (hsz : L.length ≤ 140737488355328) :
    Calls Try.prog 49 #[.pointer (some ⟨b, 0, none⟩), .pointer (some ⟨bx, 0, none⟩)] w fun e w' => ∃ v, e = .returned (.tuple #[v, .int .i64 0]) ∧ OkPost b ((L.drop k).take n) ((L.drop k).drop n) w v w' := by
  have HR : Hid _ := hr
  have HC : Hid _ := count50_some b true s L n k most w hr hs h hm hn
  rw [rdCount_ok h hn hl] at HC
  have HL : Hid _ := hs.len
  have hlen := hs.len
  have hd : (L.drop k).length ≤ L.length := by simp
  obtain ⟨M, hM⟩ : ∃ M, L.drop k = M := ⟨_, rfl⟩
  rw [hM] at HC hf hd ⊢
  have HZ : Hid (M.length ≤ 140737488355328) := by unfold Hid; omega
  obtain ⟨ao0, cap0, rfl⟩ := hs.shape
  clear hr hs hn hM hsz
  go_enter Try.func49, Try.ntmps49
  go_wp2_with fail
  refine Calls.mono HC.out ?_
  rintro e w' ⟨rfl, t, ht, hw⟩
  obtain ⟨ao, cap, rfl⟩ := ht.shape
  have hr1 : RdB w' b true (.slice ao M.length cap) := by subst hw; exact RdB.store HR.out _
  have hs1 : Seg w' (.slice ao M.length cap) M := by subst hw; exact ht.grownR HR.out (grown_setCell _ _ _ _)
  have G1 : Hid (w.grownBy w' (some b)) := by subst hw; exact grown_setCell _ _ _ _
  have hc1 := hr1.cell1
  have HR1 : Hid _ := hr1
  have HS1 : Hid _ := hs1
  clear ht hw HC hr1 hs1
  go_wp2_with fail
  refine (pass_int b true _ M _ n _ ?_ HR1.out HS1.out ?_).mono ?_
  · rfl
  · omega
  rintro e w2 ⟨p, rfl, hp, t2, ht2, hw2⟩
  have F2 : Hid (Seg w2 p (M.take n) ∧ RdB w2 b true t2 ∧ Seg w2 t2 (M.drop n) ∧ w.grownBy w2 (some b)) := by
    subst hw2
    exact ⟨hp.grownR HR1.out (grown_setCell _ _ _ _), RdB.store HR1.out _, ht2.grownR HR1.out (grown_setCell _ _ _ _), grown_trans G1.out (grown_setCell _ _ _ _)⟩
  clear hp ht2 hw2
  go_wp2_with fail
  refine (clone_any p (M.take n) _ F2.out.1 ?_).mono ?_
  · have := HZ.out; simp; omega
  rintro e w3 ⟨u, rfl, hu, hg3⟩
  have F3 : Hid (OkPost b (M.take n) (M.drop n) w u w3) := by
    obtain ⟨_, h2, h3, h4⟩ := F2.out
    exact ⟨hu.mono h4.size, ⟨_, h2.kept hg3 (by simp), h3.grown hg3⟩, grown_trans h4 (grown_weak hg3 _)⟩
  clear hu hg3
  go_wp2_with fail
  go_ret2
  exact ⟨_, rfl, F3.out⟩
end Go.Proofs.Ytneppkbbnajpnaa
