/-
  The reader's methods once more, with the block in which its bytes lie.
-/
import Derived.Test.YtneppkbbnajpnaaX
namespace Go.Proofs.Ytneppkbbnajpnaa
open Go.RowKit

set_option maxHeartbeats 400000 in
theorem bit53_g (b : Nat) (o : Bool) (s : Value) (c : UInt8) (l : List UInt8) (w : World) (hr : RdB w b o s) (hs : Seg w s (c :: l)) (g : Nat) (hgs : InB g s) (hle : c.toNat ≤ 1) :
    Calls Try.prog 53 #[.pointer (some ⟨b, 0, none⟩)] w fun e w' => e = .returned (.tuple #[.bool (c.toNat == 1), .int .i64 0]) ∧ ∃ t, Seg w t l ∧ InB g t ∧ w' = w.setCell ⟨b, 1, none⟩ t := by
  have HC : Hid _ := pass_gint b o s (c :: l) 1 1 w rfl hr hs g hgs (by simp)
  have HR : Hid _ := hr
  clear hgs
  obtain ⟨ao, cap, rfl, h1, h2, h3, h4⟩ := hs
  have hc1 := hr.cell1
  obtain ⟨bb, off, rfl, hc⟩ := h4 0 (by simp)
  have hc : w.cell? ⟨bb, off, none⟩ = some (.int .u8 (c.toNat : Int)) := by simpa using hc
  have hlen : 0 < (c :: l).length := by simp
  obtain ⟨n, hn⟩ : ∃ n, (c :: l).length = n := ⟨_, rfl⟩
  rw [hn] at hc1 hlen
  obtain ⟨x, hx⟩ : ∃ x, c.toNat = x := ⟨_, rfl⟩
  rw [hx] at hc hle ⊢
  have HX : Hid _ := hx
  clear h4 h3 h2 h1 hr hn hx
  have n0 : ((n : Int) == 0) = false := by simp; omega
  have x1 : decide ((1 : Int) < (x : Int)) = false := by simp; omega
  go_enter Try.func53, Try.ntmps53
  go_wp2_with fail
  refine Calls.mono HC.out ?_
  rintro e w' ⟨p, rfl, hp, t, ht, hit, hw⟩
  have hp2 : Seg w' p [c] := by
    have e : List.take 1 (c :: l) = [c] := rfl
    rw [e] at hp
    rw [hw]
    exact hp.grownR HR.out (grown_setCell w b 1 t)
  obtain ⟨b2, off2, cap2, rfl, hc2⟩ := seg_one_cell hp2
  rw [HX.out] at hc2
  have F : Hid (∃ t, Seg w t l ∧ InB g t ∧ w' = w.setCell ⟨b, 1, none⟩ t) := ⟨t, by simpa using ht, hit, hw⟩
  clear ht hit hw hp hp2 HC
  go_wp2_with fail
  go_ret2
  exact ⟨ret_flag (by rw [Bool.eq_iff_iff]; simp; omega), F.out⟩

theorem whole52_g (b g : Nat) (L : List UInt8) (w : World) (hr : RdG w b g L) :
    Calls Try.prog 52 #[.pointer (some ⟨b, 0, none⟩), .func (.func 53) #[] #[]] w fun e w' => e = .returned (.tuple #[.bool (rdFlag L).1, .int .i64 (rdFlag L).2.1]) ∧ RdG w' b g (rdFlag L).2.2 ∧ w.grownBy w' (some b) := by
  obtain ⟨s, hr, hs, hi⟩ := hr
  obtain ⟨ao, cap, rfl⟩ := hs.shape
  have bad : rdFlag L = (false, 4, L) → Calls Try.prog 52 #[.pointer (some ⟨b, 0, none⟩), .func (.func 53) #[] #[]] w fun e w' => e = .returned (.tuple #[.bool (rdFlag L).1, .int .i64 (rdFlag L).2.1]) ∧ RdG w' b g (rdFlag L).2.2 ∧ w.grownBy w' (some b) := by
    intro h
    have h4 : (rdFlag L).2.1 = 4 := by rw [h]
    rw [h]
    refine (whole52_err b ao L.length cap 4 w hr (by decide) ((bit53_bad b true _ L _ (rdb_alloc hr _) (seg_alloc hs _) h4).mono ?_)).mono ?_
    · rintro e w2 ⟨rfl, rfl⟩
      exact ⟨_, rfl, ⟨_, rdb_alloc hr _⟩, grown_refl _ _⟩
    · rintro e w' ⟨rfl, h1, h2⟩
      exact ⟨rfl, ⟨_, h1, hs.grownR hr h2, hi⟩, h2⟩
  cases L with
  | nil => exact bad rfl
  | cons c l =>
    by_cases hc : 1 < c.toNat
    · exact bad (by simp [rdFlag, hc])
    · have e : rdFlag (c :: l) = (c.toNat == 1, 0, l) := by simp [rdFlag, hc]
      rw [e]
      refine (whole52_ok b ao (c :: l).length cap w (fun v w' => v = .bool (c.toNat == 1) ∧ RdG w' b g l ∧ w.grownBy w' (some b)) hr ((bit53_g b true _ c l _ (rdb_alloc hr _) (seg_alloc hs _) g hi (by omega)).mono ?_)).mono ?_
      · rintro e w2 ⟨rfl, t, ht, hit, rfl⟩
        exact ⟨_, rfl, rfl, ⟨t, RdB.store (rdb_alloc hr _) t, ht.grownR (rdb_alloc hr _) (grown_setCell _ b 1 t), hit⟩, grown_trans (World.grownBy_alloc w _ _) (grown_setCell _ b 1 t)⟩
      · rintro e w' ⟨_, rfl, rfl, h1, h2⟩
        exact ⟨rfl, h1, h2⟩

set_option maxHeartbeats 400000 in
theorem flag28_g (b g : Nat) (L : List UInt8) (w : World) (hr : RdG w b g L) :
    Calls Try.prog 28 #[.pointer (some ⟨b, 0, none⟩)] w fun e w' => e = .returned (.tuple #[.bool (rdFlag L).1, .int .i64 (rdFlag L).2.1]) ∧ RdG w' b g (rdFlag L).2.2 ∧ w.grownBy w' (some b) := by
  go_enter Try.func28, Try.ntmps28
  go_wp2_with fail
  refine (whole52_g b g L _ hr).mono ?_
  rintro e w' ⟨rfl, h1, h2⟩
  have F : Hid _ := And.intro h1 h2
  clear h1 h2
  go_wp2_with fail
  go_ret2
  exact ⟨rfl, F.out⟩

/-- What a reading of bytes leaves. -/
def OkG (b g : Nat) (out rest : List UInt8) (w : World) (v : Value) (w' : World) : Prop := Own w' w.heap.size v out ∧ RdG w' b g rest ∧ w.grownBy w' (some b)

set_option maxHeartbeats 1000000 in
theorem bytes49_g (b bx : Nat) (s : Value) (L : List UInt8) (n k : Nat) (most : Int) (w : World) (hr : RdB w b true s) (hs : Seg w s L) (g : Nat) (hgs : InB g s) (hbx : w.cell? ⟨bx, 0, none⟩ = some (.int .i64 most)) (h : 0 ≤ most) (hm : most ≤ 9223372036854775807) (hn : scan 0 0 L = some (n, k)) (hl : ¬ most < (n : Int)) (hf : ¬ (L.drop k).length < n) (hsz : L.length ≤ 140737488355328) :
    Calls Try.prog 49 #[.pointer (some ⟨b, 0, none⟩), .pointer (some ⟨bx, 0, none⟩)] w fun e w' => ∃ v, e = .returned (.tuple #[v, .int .i64 0]) ∧ OkG b g ((L.drop k).take n) ((L.drop k).drop n) w v w' := by
  have HR : Hid _ := hr
  have HC : Hid _ := count50_g b true s L n k most w hr hs g hgs h hm hn
  rw [rdCount_ok h hn hl] at HC
  have HL : Hid _ := hs.len
  have hlen := hs.len
  have hd : (L.drop k).length ≤ L.length := by simp
  obtain ⟨M, hM⟩ : ∃ M, L.drop k = M := ⟨_, rfl⟩
  rw [hM] at HC hf hd ⊢
  have HZ : Hid (M.length ≤ 140737488355328) := by unfold Hid; omega
  obtain ⟨ao0, cap0, rfl⟩ := hs.shape
  clear hr hs hn hM hsz hgs
  go_enter Try.func49, Try.ntmps49
  go_wp2_with fail
  refine Calls.mono HC.out ?_
  rintro e w' ⟨rfl, t, ht, hit, hw⟩
  have HIT : Hid _ := hit
  clear hit
  obtain ⟨ao, cap, rfl⟩ := ht.shape
  have hr1 : RdB w' b true (.slice ao M.length cap) := by subst hw; exact RdB.store HR.out _
  have hs1 : Seg w' (.slice ao M.length cap) M := by subst hw; exact ht.grownR HR.out (grown_setCell _ _ _ _)
  have G1 : Hid (w.grownBy w' (some b)) := by subst hw; exact grown_setCell _ _ _ _
  have hc1 := hr1.cell1
  have HR1 : Hid _ := hr1
  have HS1 : Hid _ := hs1
  clear ht hw HC hr1 hs1
  go_wp2_with fail
  refine (pass_gint b true _ M _ n _ ?_ HR1.out HS1.out g HIT.out ?_).mono ?_
  · rfl
  · omega
  rintro e w2 ⟨p, rfl, hp, t2, ht2, hit2, hw2⟩
  have F2 : Hid (Seg w2 p (M.take n) ∧ RdB w2 b true t2 ∧ Seg w2 t2 (M.drop n) ∧ w.grownBy w2 (some b) ∧ InB g t2) := by
    subst hw2
    exact ⟨hp.grownR HR1.out (grown_setCell _ _ _ _), RdB.store HR1.out _, ht2.grownR HR1.out (grown_setCell _ _ _ _), grown_trans G1.out (grown_setCell _ _ _ _), hit2⟩
  clear hp ht2 hw2 hit2
  go_wp2_with fail
  refine (clone_any p (M.take n) _ F2.out.1 ?_).mono ?_
  · have := HZ.out; simp; omega
  rintro e w3 ⟨u, rfl, hu, hg3⟩
  have F3 : Hid (OkG b g (M.take n) (M.drop n) w u w3) := by
    obtain ⟨_, h2, h3, h4, h5⟩ := F2.out
    exact ⟨hu.mono h4.size, ⟨_, h2.kept hg3 (by simp), h3.grown hg3, h5⟩, grown_trans h4 (grown_weak hg3 _)⟩
  clear hu hg3
  go_wp2_with fail
  go_ret2
  exact ⟨_, rfl, F3.out⟩
theorem whole48_g (b g bx : Nat) (L : List UInt8) (most : Int) (w : World) (hr : RdG w b g L) (hbx : w.cell? ⟨bx, 0, none⟩ = some (.int .i64 most)) (hm : most ≤ 9223372036854775807) (hsz : L.length ≤ 140737488355328) :
    Calls Try.prog 48 #[.pointer (some ⟨b, 0, none⟩), .func (.func 49) #[] #[.pointer (some ⟨bx, 0, none⟩)]] w fun e w' => ∃ v, e = .returned (.tuple #[v, .int .i64 (rdBytes L most).2.1]) ∧ OkG b g (rdBytes L most).1 (rdBytes L most).2.2 w v w' := by
  obtain ⟨s, hr, hs, hi⟩ := hr
  obtain ⟨ao, cap, rfl⟩ := hs.shape
  have hbx2 : ∀ x, (w.alloc x).cell? ⟨bx, 0, none⟩ = some (.int .i64 most) := fun x => (World.grownBy_alloc w x none).cell hbx (by simp)
  have bad : ∀ er : Int, er ≠ 0 → Calls Try.prog 49 #[.pointer (some ⟨b, 0, none⟩), .pointer (some ⟨bx, 0, none⟩)] (w.alloc (.cells #[.bool true, .slice ao L.length cap] 73)) (ErrPost b er (w.alloc (.cells #[.bool true, .slice ao L.length cap] 73))) →
      Calls Try.prog 48 #[.pointer (some ⟨b, 0, none⟩), .func (.func 49) #[] #[.pointer (some ⟨bx, 0, none⟩)]] w fun e w' => ∃ v, e = .returned (.tuple #[v, .int .i64 er]) ∧ OkG b g [] L w v w' := by
    intro er her hC
    refine (whole48_err (.pointer (some ⟨bx, 0, none⟩)) b ao L.length cap er w hr her hC).mono ?_
    rintro e w' ⟨rfl, h1, h2⟩
    exact ⟨_, rfl, Own.nil _ _, ⟨_, h1, hs.grownR hr h2, hi⟩, h2⟩
  by_cases hneg : most < 0
  · rw [rdBytes_neg hneg]
    exact bad 2 (by decide) (bytes49_neg b bx _ most _ (rdb_alloc hr _) (hbx2 _) hneg)
  · have h0 : 0 ≤ most := by omega
    cases hn : scan 0 0 L with
    | none =>
      rw [rdBytes_none h0 hn]
      exact bad 4 (by decide) (bytes49_none b bx _ L most _ (rdb_alloc hr _) (seg_alloc hs _) (hbx2 _) h0 hn)
    | some x =>
      obtain ⟨n, k⟩ := x
      by_cases hl : most < (n : Int)
      · rw [rdBytes_long h0 hn hl]
        exact bad 3 (by decide) (bytes49_long b bx _ L n k most _ (rdb_alloc hr _) (seg_alloc hs _) (hbx2 _) h0 hm hn hl)
      · by_cases hf : (L.drop k).length < n
        · rw [rdBytes_few h0 hn hl hf]
          exact bad 4 (by decide) (bytes49_few b bx _ L n k most _ (rdb_alloc hr _) (seg_alloc hs _) (hbx2 _) h0 hm hn hl hf)
        · rw [rdBytes_ok h0 hn hl hf]
          refine (whole48_ok (.pointer (some ⟨bx, 0, none⟩)) b ao L.length cap w (fun v w' => OkG b g ((L.drop k).take n) ((L.drop k).drop n) w v w') hr ((bytes49_g b bx _ L n k most _ (rdb_alloc hr _) (seg_alloc hs _) g hi (hbx2 _) h0 hm hn hl hf hsz).mono ?_))
          rintro e w2 ⟨v, rfl, h1, h2, h3⟩
          exact ⟨v, rfl, h1.mono (World.grownBy_alloc w (.cells #[.bool true, .slice ao L.length cap] 73) none).size, h2, grown_trans (World.grownBy_alloc w _ _) h3⟩

set_option maxHeartbeats 400000 in
theorem bytes27_g (b g : Nat) (L : List UInt8) (most : Int) (w : World) (hr : RdG w b g L) (hm : most ≤ 9223372036854775807) (hsz : L.length ≤ 140737488355328) :
    Calls Try.prog 27 #[.pointer (some ⟨b, 0, none⟩), .int .i64 most] w fun e w' => ∃ v, e = .returned (.tuple #[v, .int .i64 (rdBytes L most).2.1]) ∧ OkG b g (rdBytes L most).1 (rdBytes L most).2.2 w v w' := by
  have hr1 : RdG (w.alloc (.cells #[.int .i64 most] 3)) b g L := by
    obtain ⟨s, h1, h2, h3⟩ := hr
    exact ⟨s, rdb_alloc h1 _, seg_alloc h2 _, h3⟩
  have HC : Hid _ := whole48_g b g w.heap.size L most _ hr1 (by simp) hm hsz
  clear hr hr1 hsz
  go_enter Try.func27, Try.ntmps27
  go_wp2_with fail
  refine Calls.mono HC.out ?_
  rintro e w' ⟨v, rfl, h1, h2, h3⟩
  have F : Hid (OkG b g (rdBytes L most).1 (rdBytes L most).2.2 w v w') := ⟨h1.mono (by simp), h2, grown_trans (World.grownBy_alloc w _ _) h3⟩
  clear h1 h2 h3
  go_wp2_with fail
  go_ret2
  exact ⟨_, rfl, F.out⟩

set_option maxHeartbeats 400000 in
theorem take62_okg (b b1 b2 : Nat) (s : Value) (L : List UInt8) (most : Int) (w : World) (g n k : Nat) (xs : List Nat) (M : List UInt8) (hr : RdB w b true s) (hs : Seg w s L) (hi : InB g s) (hgl : g < w.heap.size) (h1 : w.cell? ⟨b1, 0, none⟩ = some (.int .i64 most)) (h2 : w.cell? ⟨b2, 0, none⟩ = some (.func (.func 25) #[] #[])) (hb2 : b2 ≠ b) (h : 0 ≤ most) (hm : most ≤ 9223372036854775807) (hn : scan 0 0 L = some (n, k)) (hl : ¬ most < (n : Int)) (hL : L.length ≤ 1048576) (hf : rdMany n (L.drop k) = some (xs, M)) :
    Calls Try.prog 62 #[.pointer (some ⟨b, 0, none⟩), .pointer (some ⟨b1, 0, none⟩), .pointer (some ⟨b2, 0, none⟩)] w fun e w' => ∃ v, e = .returned (.tuple #[v, .int .i64 0]) ∧ OwnN w' w.heap.size v xs ∧ RdG w' b g M ∧ w.grownBy w' (some b) := by
  have HC : Hid _ := count50_g b true s L n k most w hr hs g hi h hm hn
  rw [rdCount_ok h hn hl] at HC
  have hn64 := (scan_bound L 0 0 (by omega) (by simp) n k hn).1
  have HX : Hid _ := after_count b s L w g n k hr hs hi
  have HF : Hid (n < 2 ^ 64 ∧ (L.drop k).length ≤ 1048576 ∧ rdMany n (L.drop k) = some (xs, M) ∧ g < w.heap.size ∧ b < w.heap.size) := ⟨hn64, by simp; omega, hf, hgl, hr.lt⟩
  clear hr hs hn hl hf hn64 hi hL
  go_enter Try.func62, Try.ntmps62
  go_wp2_with fail
  refine Calls.mono HC.out ?_
  rintro e w' ⟨rfl, t, ht, hit, hw⟩
  have hgw : w.grownBy w' (some b) := by subst hw; exact grown_setCell _ _ _ _
  have S1 : Hid (RdG w' b g (L.drop k) ∧ w.grownBy w' (some b)) := by subst hw; exact ⟨HX.out t ht hit, hgw⟩
  have h3 : w'.cell? ⟨b2, 0, none⟩ = some (.func (.func 25) #[] #[]) := hgw.cell h2 (by simp; omega)
  clear ht hit hw HC HX hgw
  go_wp2_with fail
  refine (things63_some b g n (L.drop k) xs M _ S1.out.1 (Nat.lt_of_lt_of_le HF.out.2.2.2.1 S1.out.2.size) (Nat.lt_of_lt_of_le HF.out.2.2.2.2 S1.out.2.size) HF.out.1 HF.out.2.1 HF.out.2.2.1).mono ?_
  rintro e w2 ⟨v, rfl, ho, hrd, hg2⟩
  have S2 : Hid (OwnN w2 w.heap.size v xs ∧ RdG w2 b g M ∧ w.grownBy w2 (some b)) := ⟨ho.mono S1.out.2.size, hrd, grown_trans S1.out.2 hg2⟩
  clear ho hrd hg2 S1
  go_wp2_with fail
  go_ret2
  exact ⟨_, rfl, S2.out⟩
theorem whole61_g (b g b1 b2 : Nat) (L : List UInt8) (most : Int) (w : World) (hr : RdG w b g L) (hgl : g < w.heap.size) (h1 : w.cell? ⟨b1, 0, none⟩ = some (.int .i64 most)) (h2 : w.cell? ⟨b2, 0, none⟩ = some (.func (.func 25) #[] #[])) (hb2 : b2 ≠ b) (hm : most ≤ 9223372036854775807) (hsz : L.length ≤ 1048576) :
    Calls Try.prog 61 #[.pointer (some ⟨b, 0, none⟩), .func (.func 62) #[] #[.pointer (some ⟨b1, 0, none⟩), .pointer (some ⟨b2, 0, none⟩)]] w fun e w' => ∃ v, e = .returned (.tuple #[v, .int .i64 (rdList L most).2.1]) ∧ OwnN w' w.heap.size v (rdList L most).1 ∧ RdG w' b g (rdList L most).2.2 ∧ w.grownBy w' (some b) := by
  obtain ⟨s, hr, hs, hi⟩ := hr
  obtain ⟨ao, cap, rfl⟩ := hs.shape
  have k1 : ∀ x, (w.alloc x).cell? ⟨b1, 0, none⟩ = some (.int .i64 most) := fun x => (World.grownBy_alloc w x none).cell h1 (by simp)
  have k2 : ∀ x, (w.alloc x).cell? ⟨b2, 0, none⟩ = some (.func (.func 25) #[] #[]) := fun x => (World.grownBy_alloc w x none).cell h2 (by simp)
  have bad : ∀ er : Int, er ≠ 0 → Calls Try.prog 62 #[.pointer (some ⟨b, 0, none⟩), .pointer (some ⟨b1, 0, none⟩), .pointer (some ⟨b2, 0, none⟩)] (w.alloc (.cells #[.bool true, .slice ao L.length cap] 73)) (ErrPost b er (w.alloc (.cells #[.bool true, .slice ao L.length cap] 73))) →
      Calls Try.prog 61 #[.pointer (some ⟨b, 0, none⟩), .func (.func 62) #[] #[.pointer (some ⟨b1, 0, none⟩), .pointer (some ⟨b2, 0, none⟩)]] w fun e w' => ∃ v, e = .returned (.tuple #[v, .int .i64 er]) ∧ OwnN w' w.heap.size v [] ∧ RdG w' b g L ∧ w.grownBy w' (some b) := by
    intro er her hC
    refine (whole61_err (.pointer (some ⟨b1, 0, none⟩)) (.pointer (some ⟨b2, 0, none⟩)) b ao L.length cap er w hr her hC).mono ?_
    rintro e w' ⟨rfl, q1, q2⟩
    exact ⟨_, rfl, OwnN.nil _ _, ⟨_, q1, hs.grownR hr q2, hi⟩, q2⟩
  by_cases hneg : most < 0
  · rw [rdList_neg hneg]
    exact bad 2 (by decide) (take62_neg b b1 b2 _ most _ (rdb_alloc hr _) (k1 _) hneg)
  · have h0 : 0 ≤ most := by omega
    cases hn : scan 0 0 L with
    | none =>
      rw [rdList_none h0 hn]
      exact bad 4 (by decide) (take62_none b b1 b2 _ L most _ (rdb_alloc hr _) (seg_alloc hs _) (k1 _) h0 hn)
    | some x =>
      obtain ⟨n, k⟩ := x
      by_cases hl : most < (n : Int)
      · rw [rdList_long h0 hn hl]
        exact bad 3 (by decide) (take62_long b b1 b2 _ L most _ n k (rdb_alloc hr _) (seg_alloc hs _) (k1 _) h0 hm hn hl)
      · have hgl2 : ∀ x, g < (w.alloc x).heap.size := fun x => Nat.lt_of_lt_of_le hgl (World.grownBy_alloc w x none).size
        cases hf : rdMany n (L.drop k) with
        | none =>
          rw [rdList_fail h0 hn hl hf]
          exact bad 4 (by decide) (take62_fail b b1 b2 _ L most _ g n k (rdb_alloc hr _) (seg_alloc hs _) hi (hgl2 _) (k1 _) (k2 _) hb2 h0 hm hn hl hsz hf)
        | some y =>
          obtain ⟨xs, M⟩ := y
          rw [rdList_ok h0 hn hl hf]
          refine (whole61_ok (.pointer (some ⟨b1, 0, none⟩)) (.pointer (some ⟨b2, 0, none⟩)) b ao L.length cap w (fun v w' => OwnN w' w.heap.size v xs ∧ RdG w' b g M ∧ w.grownBy w' (some b)) hr ((take62_okg b b1 b2 _ L most _ g n k xs M (rdb_alloc hr _) (seg_alloc hs _) hi (hgl2 _) (k1 _) (k2 _) hb2 h0 hm hn hl hsz hf).mono ?_))
          rintro e w2 ⟨v, rfl, q1, q2, q3⟩
          exact ⟨v, rfl, q1.mono (World.grownBy_alloc w (.cells #[.bool true, .slice ao L.length cap] 73) none).size, q2, grown_trans (World.grownBy_alloc w _ _) q3⟩

set_option maxRecDepth 100000 in
set_option maxHeartbeats 400000 in
theorem take43_g (b g : Nat) (L : List UInt8) (most : Int) (w : World) (hr : RdG w b g L) (hgl : g < w.heap.size) (hm : most ≤ 9223372036854775807) (hsz : L.length ≤ 1048576) :
    Calls Try.prog 43 #[.pointer (some ⟨b, 0, none⟩), .int .i64 most, .func (.func 25) #[] #[]] w fun e w' => ∃ v, e = .returned (.tuple #[v, .int .i64 (rdList L most).2.1]) ∧ OwnN w' w.heap.size v (rdList L most).1 ∧ RdG w' b g (rdList L most).2.2 ∧ w.grownBy w' (some b) := by
  have q1 := ne86
  have hbl := hr.rd.lt
  have ga : w.grownBy ((w.alloc (.cells #[.int .i64 most] 3)).alloc (.cells #[.func (.func 25) #[] #[]] 86)) none := grown_trans (World.grownBy_alloc _ _ _) (World.grownBy_alloc _ _ _)
  have hr1 : RdG ((w.alloc (.cells #[.int .i64 most] 3)).alloc (.cells #[.func (.func 25) #[] #[]] 86)) b g L := by
    obtain ⟨s, p1, p2, p4⟩ := hr
    exact ⟨s, p1.kept ga (by simp), p2.grown ga, p4⟩
  have HC : Hid _ := whole61_g b g w.heap.size (w.heap.size + 1) L most _ hr1 (Nat.lt_of_lt_of_le hgl ga.size) (by simp) (by simp) (by omega) hm hsz
  have HG : Hid _ := ga
  clear hr hr1 hsz ga
  go_enter Try.func43, Try.ntmps43
  go_wp2_with fail
  refine Calls.mono HC.out ?_
  rintro e w' ⟨v, rfl, p1, p2, p3⟩
  have F : Hid (OwnN w' w.heap.size v (rdList L most).1 ∧ RdG w' b g (rdList L most).2.2 ∧ w.grownBy w' (some b)) := ⟨p1.mono (World.grownBy.size HG.out), p2, grown_trans (grown_weak HG.out _) p3⟩
  clear p1 p2 p3
  go_wp2_with fail
  go_ret2
  exact ⟨_, rfl, F.out⟩
end Go.Proofs.Ytneppkbbnajpnaa
