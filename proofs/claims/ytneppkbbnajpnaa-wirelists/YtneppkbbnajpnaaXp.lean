/-
  Take at pairs: what it answers of the bytes before the reader, with the law's own pair as the function that is handed in.
-/
import Derived.Test.YtneppkbbnajpnaaNp
namespace Go.Proofs.Ytneppkbbnajpnaa
open Go.RowKit

/-- What Take answers at pairs: the pairs, the error's number, what is left. -/
def rdListP (L : List UInt8) (most : Int) : List (Nat × Nat) × Int × List UInt8 :=
  if (rdCount L most).2.1 ≠ 0 then ([], (rdCount L most).2.1, L) else
    match rdManyP (rdCount L most).1 (rdCount L most).2.2 with
    | none => ([], 4, L)
    | some (xs, M) => (xs, 0, M)

theorem rdListP_neg {L : List UInt8} {most : Int} (h : most < 0) : rdListP L most = ([], 2, L) := by simp [rdListP, rdCount, h]
theorem rdListP_none {L : List UInt8} {most : Int} (h : 0 ≤ most) (hn : scan 0 0 L = none) : rdListP L most = ([], 4, L) := by simp [rdListP, rdCount, show ¬ most < 0 by omega, hn]
theorem rdListP_long {L : List UInt8} {most : Int} {n k : Nat} (h : 0 ≤ most) (hn : scan 0 0 L = some (n, k)) (hl : most < (n : Int)) : rdListP L most = ([], 3, L) := by
  unfold rdListP; rw [rdCount_long h hn hl]; rfl
theorem rdListP_fail {L : List UInt8} {most : Int} {n k : Nat} (h : 0 ≤ most) (hn : scan 0 0 L = some (n, k)) (hl : ¬ most < (n : Int)) (hm : rdManyP n (L.drop k) = none) : rdListP L most = ([], 4, L) := by
  unfold rdListP; rw [rdCount_ok h hn hl]; simp [hm]
theorem rdListP_ok {L : List UInt8} {most : Int} {n k : Nat} {xs : List (Nat × Nat)} {M : List UInt8} (h : 0 ≤ most) (hn : scan 0 0 L = some (n, k)) (hl : ¬ most < (n : Int)) (hm : rdManyP n (L.drop k) = some (xs, M)) : rdListP L most = (xs, 0, M) := by
  unfold rdListP; rw [rdCount_ok h hn hl]; simp [hm]

section
variable (b b1 b2 : Nat) (s : Value) (L : List UInt8) (most : Int) (w : World) (hr : RdB w b true s) (h1 : w.cell? ⟨b1, 0, none⟩ = some (.int .i64 most)) (h2 : w.cell? ⟨b2, 0, none⟩ = some (.func (.func 32) #[] #[]))

set_option maxHeartbeats 400000 in
theorem take55_neg (hr : RdB w b true s) (h1 : w.cell? ⟨b1, 0, none⟩ = some (.int .i64 most)) (h : most < 0) :
    Calls Try.prog 55 #[.pointer (some ⟨b, 0, none⟩), .pointer (some ⟨b1, 0, none⟩), .pointer (some ⟨b2, 0, none⟩)] w (ErrPost b 2 w) := by
  have F : Hid (∃ s2, RdB w b true s2) := ⟨_, hr⟩
  clear hr
  go_enter Try.func55, Try.ntmps55
  go_wp2_with fail
  refine (count50_neg _ most _ h).mono ?_
  rintro e w' ⟨rfl, he⟩
  subst he
  go_wp2_with fail
  go_ret2
  exact ⟨_, rfl, F.out, grown_refl _ _⟩

set_option maxHeartbeats 400000 in
theorem take55_none (hr : RdB w b true s) (hs : Seg w s L) (h1 : w.cell? ⟨b1, 0, none⟩ = some (.int .i64 most)) (h : 0 ≤ most) (hn : scan 0 0 L = none) :
    Calls Try.prog 55 #[.pointer (some ⟨b, 0, none⟩), .pointer (some ⟨b1, 0, none⟩), .pointer (some ⟨b2, 0, none⟩)] w (ErrPost b 4 w) := by
  have F : Hid (∃ s2, RdB w b true s2) := ⟨_, hr⟩
  have HC : Hid _ := count50_none b true s L most w hr hs h hn
  clear hr hs hn
  go_enter Try.func55, Try.ntmps55
  go_wp2_with fail
  refine Calls.mono HC.out ?_
  rintro e w' ⟨rfl, he⟩
  subst he
  go_wp2_with fail
  go_ret2
  exact ⟨_, rfl, F.out, grown_refl _ _⟩

set_option maxHeartbeats 400000 in
theorem take55_long (n k : Nat) (hr : RdB w b true s) (hs : Seg w s L) (h1 : w.cell? ⟨b1, 0, none⟩ = some (.int .i64 most)) (h : 0 ≤ most) (hm : most ≤ 9223372036854775807) (hn : scan 0 0 L = some (n, k)) (hl : most < (n : Int)) :
    Calls Try.prog 55 #[.pointer (some ⟨b, 0, none⟩), .pointer (some ⟨b1, 0, none⟩), .pointer (some ⟨b2, 0, none⟩)] w (ErrPost b 3 w) := by
  have HR : Hid _ := hr
  have HC : Hid _ := count50_some b true s L n k most w hr hs h hm hn
  rw [rdCount_long h hn hl] at HC
  clear hr hs hn hl
  go_enter Try.func55, Try.ntmps55
  go_wp2_with fail
  refine Calls.mono HC.out ?_
  rintro e w' ⟨rfl, t, ht, hw⟩
  have F : Hid ((∃ s2, RdB w' b true s2) ∧ w.grownBy w' (some b)) := by
    subst hw; exact ⟨⟨_, RdB.store HR.out t⟩, grown_setCell _ _ _ _⟩
  clear ht hw HC
  go_wp2_with fail
  go_ret2
  exact ⟨_, rfl, F.out⟩

set_option maxHeartbeats 400000 in
theorem take55_fail (g n k : Nat) (hr : RdB w b true s) (hs : Seg w s L) (hi : InB g s) (hgl : g < w.heap.size) (h1 : w.cell? ⟨b1, 0, none⟩ = some (.int .i64 most)) (h2 : w.cell? ⟨b2, 0, none⟩ = some (.func (.func 32) #[] #[])) (hb2 : b2 ≠ b) (h : 0 ≤ most) (hm : most ≤ 9223372036854775807) (hn : scan 0 0 L = some (n, k)) (hl : ¬ most < (n : Int)) (hL : most ≤ 8796093022206) (hf : rdManyP n (L.drop k) = none) :
    Calls Try.prog 55 #[.pointer (some ⟨b, 0, none⟩), .pointer (some ⟨b1, 0, none⟩), .pointer (some ⟨b2, 0, none⟩)] w (ErrPost b 4 w) := by
  have HC : Hid _ := count50_g b true s L n k most w hr hs g hi h hm hn
  rw [rdCount_ok h hn hl] at HC
  have hn64 := (scan_bound L 0 0 (by omega) (by simp) n k hn).1
  have HX : Hid _ := after_count b s L w g n k hr hs hi
  have HF : Hid (n < 2 ^ 64 ∧ n ≤ 8796093022206 ∧ rdManyP n (L.drop k) = none ∧ g < w.heap.size ∧ b < w.heap.size) := ⟨hn64, by omega, hf, hgl, hr.lt⟩
  clear hr hs hn hl hf hn64 hi hL
  go_enter Try.func55, Try.ntmps55
  go_wp2_with fail
  refine Calls.mono HC.out ?_
  rintro e w' ⟨rfl, t, ht, hit, hw⟩
  have hgw : w.grownBy w' (some b) := by subst hw; exact grown_setCell _ _ _ _
  have S1 : Hid (RdG w' b g (L.drop k) ∧ w.grownBy w' (some b)) := by subst hw; exact ⟨HX.out t ht hit, hgw⟩
  have h3 : w'.cell? ⟨b2, 0, none⟩ = some (.func (.func 32) #[] #[]) := hgw.cell h2 (by simp; omega)
  clear ht hit hw HC HX hgw
  go_wp2_with fail
  refine (things56_none b g n (L.drop k) _ S1.out.1 (Nat.lt_of_lt_of_le HF.out.2.2.2.1 S1.out.2.size) (Nat.lt_of_lt_of_le HF.out.2.2.2.2 S1.out.2.size) HF.out.1 HF.out.2.1 HF.out.2.2.1).mono ?_
  rintro e w2 ⟨rfl, ⟨M, hM⟩, hg2⟩
  have S2 : Hid ((∃ s2, RdB w2 b true s2) ∧ w.grownBy w2 (some b)) := by
    obtain ⟨s2, q1, _⟩ := hM
    exact ⟨⟨s2, q1⟩, grown_trans S1.out.2 hg2⟩
  clear hM hg2 S1
  go_wp2_with fail
  go_ret2
  exact ⟨_, rfl, S2.out⟩

set_option maxHeartbeats 400000 in
theorem take55_ok (g n k : Nat) (xs : List (Nat × Nat)) (M : List UInt8) (hr : RdB w b true s) (hs : Seg w s L) (hi : InB g s) (hgl : g < w.heap.size) (h1 : w.cell? ⟨b1, 0, none⟩ = some (.int .i64 most)) (h2 : w.cell? ⟨b2, 0, none⟩ = some (.func (.func 32) #[] #[])) (hb2 : b2 ≠ b) (h : 0 ≤ most) (hm : most ≤ 9223372036854775807) (hn : scan 0 0 L = some (n, k)) (hl : ¬ most < (n : Int)) (hL : most ≤ 8796093022206) (hf : rdManyP n (L.drop k) = some (xs, M)) :
    Calls Try.prog 55 #[.pointer (some ⟨b, 0, none⟩), .pointer (some ⟨b1, 0, none⟩), .pointer (some ⟨b2, 0, none⟩)] w fun e w' => ∃ v, e = .returned (.tuple #[v, .int .i64 0]) ∧ OwnP w' w.heap.size v xs ∧ Rd w' b M ∧ w.grownBy w' (some b) := by
  have HC : Hid _ := count50_g b true s L n k most w hr hs g hi h hm hn
  rw [rdCount_ok h hn hl] at HC
  have hn64 := (scan_bound L 0 0 (by omega) (by simp) n k hn).1
  have HX : Hid _ := after_count b s L w g n k hr hs hi
  have HF : Hid (n < 2 ^ 64 ∧ n ≤ 8796093022206 ∧ rdManyP n (L.drop k) = some (xs, M) ∧ g < w.heap.size ∧ b < w.heap.size) := ⟨hn64, by omega, hf, hgl, hr.lt⟩
  clear hr hs hn hl hf hn64 hi hL
  go_enter Try.func55, Try.ntmps55
  go_wp2_with fail
  refine Calls.mono HC.out ?_
  rintro e w' ⟨rfl, t, ht, hit, hw⟩
  have hgw : w.grownBy w' (some b) := by subst hw; exact grown_setCell _ _ _ _
  have S1 : Hid (RdG w' b g (L.drop k) ∧ w.grownBy w' (some b)) := by subst hw; exact ⟨HX.out t ht hit, hgw⟩
  have h3 : w'.cell? ⟨b2, 0, none⟩ = some (.func (.func 32) #[] #[]) := hgw.cell h2 (by simp; omega)
  clear ht hit hw HC HX hgw
  go_wp2_with fail
  refine (things56_some b g n (L.drop k) xs M _ S1.out.1 (Nat.lt_of_lt_of_le HF.out.2.2.2.1 S1.out.2.size) (Nat.lt_of_lt_of_le HF.out.2.2.2.2 S1.out.2.size) HF.out.1 HF.out.2.1 HF.out.2.2.1).mono ?_
  rintro e w2 ⟨v, rfl, ho, hrd, hg2⟩
  have S2 : Hid (OwnP w2 w.heap.size v xs ∧ Rd w2 b M ∧ w.grownBy w2 (some b)) := ⟨ho.mono S1.out.2.size, hrd.rd, grown_trans S1.out.2 hg2⟩
  clear ho hrd hg2 S1
  go_wp2_with fail
  go_ret2
  exact ⟨_, rfl, S2.out⟩
end

theorem whole54_any (b b1 b2 : Nat) (L : List UInt8) (most : Int) (w : World) (hr : Rd w b L) (h1 : w.cell? ⟨b1, 0, none⟩ = some (.int .i64 most)) (h2 : w.cell? ⟨b2, 0, none⟩ = some (.func (.func 32) #[] #[])) (hb2 : b2 ≠ b) (hm : most ≤ 9223372036854775807) (hsz : most ≤ 8796093022206) :
    Calls Try.prog 54 #[.pointer (some ⟨b, 0, none⟩), .func (.func 55) #[] #[.pointer (some ⟨b1, 0, none⟩), .pointer (some ⟨b2, 0, none⟩)]] w fun e w' => ∃ v, e = .returned (.tuple #[v, .int .i64 (rdListP L most).2.1]) ∧ OwnP w' w.heap.size v (rdListP L most).1 ∧ Rd w' b (rdListP L most).2.2 ∧ w.grownBy w' (some b) := by
  obtain ⟨s, hr, hs⟩ := hr
  obtain ⟨ao, cap, rfl⟩ := hs.shape
  have k1 : ∀ x, (w.alloc x).cell? ⟨b1, 0, none⟩ = some (.int .i64 most) := fun x => (World.grownBy_alloc w x none).cell h1 (by simp)
  have k2 : ∀ x, (w.alloc x).cell? ⟨b2, 0, none⟩ = some (.func (.func 32) #[] #[]) := fun x => (World.grownBy_alloc w x none).cell h2 (by simp)
  have bad : ∀ er : Int, er ≠ 0 → Calls Try.prog 55 #[.pointer (some ⟨b, 0, none⟩), .pointer (some ⟨b1, 0, none⟩), .pointer (some ⟨b2, 0, none⟩)] (w.alloc (.cells #[.bool true, .slice ao L.length cap] 73)) (ErrPost b er (w.alloc (.cells #[.bool true, .slice ao L.length cap] 73))) →
      Calls Try.prog 54 #[.pointer (some ⟨b, 0, none⟩), .func (.func 55) #[] #[.pointer (some ⟨b1, 0, none⟩), .pointer (some ⟨b2, 0, none⟩)]] w fun e w' => ∃ v, e = .returned (.tuple #[v, .int .i64 er]) ∧ OwnP w' w.heap.size v [] ∧ Rd w' b L ∧ w.grownBy w' (some b) := by
    intro er her hC
    refine (whole54_err (.pointer (some ⟨b1, 0, none⟩)) (.pointer (some ⟨b2, 0, none⟩)) b ao L.length cap er w hr her hC).mono ?_
    rintro e w' ⟨rfl, q1, q2⟩
    exact ⟨_, rfl, OwnP.nil _ _, ⟨_, q1, hs.grownR hr q2⟩, q2⟩
  by_cases hneg : most < 0
  · rw [rdListP_neg hneg]
    exact bad 2 (by decide) (take55_neg b b1 b2 _ most _ (rdb_alloc hr _) (k1 _) hneg)
  · have h0 : 0 ≤ most := by omega
    cases hn : scan 0 0 L with
    | none =>
      rw [rdListP_none h0 hn]
      exact bad 4 (by decide) (take55_none b b1 b2 _ L most _ (rdb_alloc hr _) (seg_alloc hs _) (k1 _) h0 hn)
    | some x =>
      obtain ⟨n, k⟩ := x
      by_cases hl : most < (n : Int)
      · rw [rdListP_long h0 hn hl]
        exact bad 3 (by decide) (take55_long b b1 b2 _ L most _ n k (rdb_alloc hr _) (seg_alloc hs _) (k1 _) h0 hm hn hl)
      · have hpos : 0 < L.length := by
          have := scan_bound L 0 0 (by omega) (by simp) n k hn
          omega
        obtain ⟨g, hi, hgl⟩ : ∃ g, InB g (.slice ao L.length cap) ∧ g < w.heap.size := by
          have hs2 := hs
          obtain ⟨ao', cap', hv, _, _, _, q4⟩ := hs2
          simp at hv
          obtain ⟨rfl, rfl⟩ := hv
          obtain ⟨gb, off, rfl, hc⟩ := q4 0 hpos
          refine ⟨gb, fun y hy => by simp [Value.ownBlock] at hy; exact hy.symm, World.block_lt_of_cell? w _ hc⟩
        have hgl2 : ∀ x, g < (w.alloc x).heap.size := fun x => Nat.lt_of_lt_of_le hgl (World.grownBy_alloc w x none).size
        cases hf : rdManyP n (L.drop k) with
        | none =>
          rw [rdListP_fail h0 hn hl hf]
          exact bad 4 (by decide) (take55_fail b b1 b2 _ L most _ g n k (rdb_alloc hr _) (seg_alloc hs _) hi (hgl2 _) (k1 _) (k2 _) hb2 h0 hm hn hl hsz hf)
        | some y =>
          obtain ⟨xs, M⟩ := y
          rw [rdListP_ok h0 hn hl hf]
          refine (whole54_ok (.pointer (some ⟨b1, 0, none⟩)) (.pointer (some ⟨b2, 0, none⟩)) b ao L.length cap w (fun v w' => OwnP w' w.heap.size v xs ∧ Rd w' b M ∧ w.grownBy w' (some b)) hr ((take55_ok b b1 b2 _ L most _ g n k xs M (rdb_alloc hr _) (seg_alloc hs _) hi (hgl2 _) (k1 _) (k2 _) hb2 h0 hm hn hl hsz hf).mono ?_))
          rintro e w2 ⟨v, rfl, q1, q2, q3⟩
          exact ⟨v, rfl, q1.mono (World.grownBy_alloc w (.cells #[.bool true, .slice ao L.length cap] 73) none).size, q2, grown_trans (World.grownBy_alloc w _ _) q3⟩

theorem ne64 (w : World) : (binOp .eql 64 (.func (.func 32) #[] #[]) .nilFunc).run Try.prog w = .ok (.bool false) w := by kernel_rfl

set_option maxRecDepth 100000 in
set_option maxHeartbeats 400000 in
theorem take31 (b : Nat) (L : List UInt8) (most : Int) (w : World) (hr : Rd w b L) (hm : most ≤ 9223372036854775807) (hsz : most ≤ 8796093022206) :
    Calls Try.prog 31 #[.pointer (some ⟨b, 0, none⟩), .int .i64 most, .func (.func 32) #[] #[]] w fun e w' => ∃ v, e = .returned (.tuple #[v, .int .i64 (rdListP L most).2.1]) ∧ OwnP w' w.heap.size v (rdListP L most).1 ∧ Rd w' b (rdListP L most).2.2 ∧ w.grownBy w' (some b) := by
  have q1 := ne64
  have hbl := hr.lt
  have ga : w.grownBy ((w.alloc (.cells #[.int .i64 most] 3)).alloc (.cells #[.func (.func 32) #[] #[]] 64)) none := grown_trans (World.grownBy_alloc _ _ _) (World.grownBy_alloc _ _ _)
  have hr1 : Rd ((w.alloc (.cells #[.int .i64 most] 3)).alloc (.cells #[.func (.func 32) #[] #[]] 64)) b L := by
    obtain ⟨s, p1, p2⟩ := hr
    exact ⟨s, p1.kept ga (by simp), p2.grown ga⟩
  have HC : Hid _ := whole54_any b w.heap.size (w.heap.size + 1) L most _ hr1 (by simp) (by simp) (by omega) hm hsz
  have HG : Hid _ := ga
  clear hr hr1 hsz ga
  go_enter Try.func31, Try.ntmps31
  go_wp2_with fail
  refine Calls.mono HC.out ?_
  rintro e w' ⟨v, rfl, p1, p2, p3⟩
  have F : Hid (OwnP w' w.heap.size v (rdListP L most).1 ∧ Rd w' b (rdListP L most).2.2 ∧ w.grownBy w' (some b)) := ⟨p1.mono (World.grownBy.size HG.out), p2, grown_trans (grown_weak HG.out _) p3⟩
  clear p1 p2 p3
  go_wp2_with fail
  go_ret2
  exact ⟨_, rfl, F.out⟩
end Go.Proofs.Ytneppkbbnajpnaa
