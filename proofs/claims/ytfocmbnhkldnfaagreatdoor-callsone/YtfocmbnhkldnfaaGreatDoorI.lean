/-
  The reader: flags, bytes; opened.
-/
import Derived.Test.YtfocmbnhkldnfaaGreatDoorH
namespace Go.Proofs.YtfocmbnhkldnfaaGreatDoor
open Go.RowKit Disk
open Names (Str)
open Wire (RdB RdG)

theorem rdFlag_p (L : Bs) : (pFlag L = none ∧ (Wire.rdFlag L).2.1 = 4) ∨ (∃ f M, pFlag L = some (f, M) ∧ Wire.rdFlag L = (f, 0, M)) := by
  cases L with
  | nil => exact .inl ⟨rfl, rfl⟩
  | cons c l =>
    unfold pFlag Wire.rdFlag
    by_cases h : c.toNat ≤ 1
    · refine .inr ⟨decide (c.toNat = 1), l, by simp [h], ?_⟩
      simp only
      rw [if_neg (by omega)]
      by_cases h1 : c.toNat = 1 <;> simp [h1]
    · refine .inl ⟨by simp [h], ?_⟩
      simp only
      rw [if_pos (by omega)]

set_option maxRecDepth 100000 in
set_option maxHeartbeats 1000000 in
theorem next174 (b : Nat) (L : Bs) (w : World) (hr : RR w b L) :
    Calls Tryz.prog 174 #[rdV b, .func (.func 175) #[] #[]] w (RdPost b w (pFlag L) (fun f v _ => v = .bool f)) := by
  unfold rdV
  have hr1 := hr.grown (World.grownBy_alloc w (.cells #[.pointer (some ⟨b, 0, none⟩)] 86) none)
  obtain ⟨g, hg, hk⟩ := rr_of hr1
  have HG : Hid (RdG (w.alloc (.cells #[.pointer (some ⟨b, 0, none⟩)] 86)) b g L) := hg
  have HK : Hid _ := hk
  clear hr hr1 hg hk
  rcases rdFlag_p L with ⟨hp, he⟩ | ⟨f, M, hp, he⟩
  · have HS : Hid ((Wire.rdFlag L).2.1 = 4 ∧ pFlag L = none) := ⟨he, hp⟩
    clear he hp
    go_enter Tryz.func174, Tryz.ntmps174
    go_wp2_with (go_at_call 175; refine (Wire.flag28_g b g L _ HG.out).mono ?_)
    rw [HS.out.1]
    rintro e w1 ⟨rfl, h1, h2⟩
    have F : Hid (w.grownBy w1 (some b)) := grown_trans (World.grownBy_alloc _ _ _) h2
    clear h1 h2
    go_wp2_with (go_at_call 55; refine (sure_no _ _).mono ?_; rintro e w2 ⟨rfl, hw2⟩; rw [hw2]; clear hw2; unfold Pan)
    exact ⟨rfl, .inr ⟨HS.out.2, rfl, F.out⟩⟩
  · have HS : Hid (Wire.rdFlag L = (f, 0, M) ∧ pFlag L = some (f, M) ∧ (L = [] → M = [])) := ⟨he, hp, fun h => by subst h; simp [pFlag] at hp⟩
    clear he hp
    go_enter Tryz.func174, Tryz.ntmps174
    go_wp2_with (go_at_call 175; refine (Wire.flag28_g b g L _ HG.out).mono ?_)
    rw [HS.out.1]
    rintro e w1 ⟨rfl, h1, h2⟩
    have F : Hid (RR w1 b M ∧ w.grownBy w1 (some b)) := ⟨HK.out w1 _ h1 h2 HS.out.2.2, grown_trans (World.grownBy_alloc _ _ _) h2⟩
    clear h1 h2
    go_wp2_with (go_at_call 55; refine (sure_yes _ _).mono ?_; rintro e w2 ⟨rfl, hw2⟩; rw [hw2]; clear hw2)
    go_ret
    exact .inl ⟨f, _, _, HS.out.2.1, rfl, rfl, F.out.1, F.out.2⟩

set_option maxRecDepth 100000 in
set_option maxHeartbeats 1000000 in
theorem flag136 (b : Nat) (L : Bs) (w : World) (hr : RR w b L) :
    Calls Tryz.prog 136 #[rdV b] w (RdPost b w (pFlag L) (fun f v _ => v = .bool f)) := by
  have HR : Hid (RR w b L) := hr
  clear hr
  have e0 : rdV b = .agg #[.pointer (some ⟨b, 0, none⟩)] := rfl
  rw [e0]
  go_enter Tryz.func136, Tryz.ntmps136
  go_wp2_with (go_at_call 174; refine (next174 b L _ (HR.out.grown (World.grownBy_alloc _ _ none))).mono ?_)
  rintro e w1 (⟨n, M, v, hx, rfl, rfl, hR, hg⟩ | ⟨hx, rfl, hg⟩)
  · have F : Hid (pFlag L = some (n, M) ∧ RR w1 b M ∧ w.grownBy w1 (some b)) := ⟨hx, hR, grown_trans (World.grownBy_alloc _ _ _) hg⟩
    clear hx hR hg
    go_wp2_with fail
    go_ret
    exact .inl ⟨n, M, _, F.out.1, rfl, rfl, F.out.2.1, F.out.2.2⟩
  · have F : Hid (pFlag L = none ∧ w.grownBy w1 (some b)) := ⟨hx, grown_trans (World.grownBy_alloc _ _ _) hg⟩
    clear hx hg
    unfold Pan
    go_wp2_with fail
    exact ⟨rfl, .inr ⟨F.out.1, rfl, F.out.2⟩⟩

theorem rdBytes_p (L : Bs) (most : Nat) : (pBytes most L = none ∧ ((Wire.rdBytes L most).2.1 = 4 ∨ (Wire.rdBytes L most).2.1 = 3)) ∨ (∃ x M, pBytes most L = some (x, M) ∧ Wire.rdBytes L most = (x, 0, M)) := by
  unfold pBytes pNum
  cases hs : Wire.scan 0 0 L with
  | none => exact .inl ⟨rfl, .inl (by rw [Wire.rdBytes_none (by omega) hs])⟩
  | some nk =>
    obtain ⟨n, k⟩ := nk
    by_cases hl : n ≤ most
    · by_cases hf : (L.drop k).length < n
      · refine .inl ⟨?_, .inl (by rw [Wire.rdBytes_few (by omega) hs (by omega) hf])⟩
        simp only [hl, if_true]
        rw [if_neg (by omega)]
      · refine .inr ⟨(L.drop k).take n, (L.drop k).drop n, ?_, Wire.rdBytes_ok (by omega) hs (by omega) hf⟩
        simp only [hl, if_true]
        rw [if_pos (by omega)]
    · refine .inl ⟨?_, .inr (by rw [Wire.rdBytes_long (by omega) hs (by omega)])⟩
      simp only [hl, if_false]

set_option maxRecDepth 100000 in
set_option maxHeartbeats 1000000 in
theorem inner172 (b m g : Nat) (L : Bs) (most : Nat) (w : World) (hm : most ≤ 9223372036854775807) (hz : L.length ≤ 140737488355328) (hr : RdG w b g L) (hc : w.cell? ⟨m, 0, none⟩ = some (.int .i64 most)) :
    Calls Tryz.prog 172 #[.pointer (some ⟨b, 0, none⟩), .pointer (some ⟨m, 0, none⟩)] w fun e w' => ∃ v, e = .returned (.tuple #[v, .int .i64 (Wire.rdBytes L most).2.1]) ∧ Wire.OkG b g (Wire.rdBytes L most).1 (Wire.rdBytes L most).2.2 w v w' := by
  have HR : Hid (RdG w b g L) := hr
  clear hr
  go_enter Tryz.func172, Tryz.ntmps172
  go_wp2_with (go_at_call 173; refine (Wire.bytes27_g b g L most _ HR.out (by omega) hz).mono ?_)
  rintro e w1 ⟨v, rfl, h⟩
  have H : Hid _ := h
  clear h
  go_wp2_with fail
  go_ret2
  exact ⟨_, rfl, H.out⟩

set_option maxRecDepth 100000 in
set_option maxHeartbeats 1000000 in
theorem next171 (b m : Nat) (L : Bs) (most : Nat) (w : World) (hm : most ≤ 9223372036854775807) (hz : L.length ≤ 140737488355328) (hr : RR w b L) (hc : w.cell? ⟨m, 0, none⟩ = some (.int .i64 most)) :
    Calls Tryz.prog 171 #[rdV b, .func (.func 172) #[] #[.pointer (some ⟨m, 0, none⟩)]] w (RdPost b w (pBytes most L) (fun x v w' => Own w' w.heap.size v x)) := by
  unfold rdV
  have hr1 := hr.grown (World.grownBy_alloc w (.cells #[.pointer (some ⟨b, 0, none⟩)] 86) none)
  have hc1 := grown_fun (World.grownBy_alloc w (.cells #[.pointer (some ⟨b, 0, none⟩)] 86) none) hc
  obtain ⟨g, hg, hk⟩ := rr_of hr1
  have HG : Hid (RdG (w.alloc (.cells #[.pointer (some ⟨b, 0, none⟩)] 86)) b g L ∧ (w.alloc (.cells #[.pointer (some ⟨b, 0, none⟩)] 86)).cell? ⟨m, 0, none⟩ = some (.int .i64 most)) := ⟨hg, hc1⟩
  have HK : Hid _ := hk
  clear hr hr1 hg hk hc hc1
  rcases rdBytes_p L most with ⟨hp, he⟩ | ⟨x, M, hp, he⟩
  · obtain ⟨er, her⟩ : ∃ er, er = (Wire.rdBytes L most).2.1 := ⟨_, rfl⟩
    have HS : Hid ((Wire.rdBytes L most).2.1 = er ∧ pBytes most L = none) := ⟨her.symm, hp⟩
    have hne : (er == 0) = false := by rw [her]; rcases he with he | he <;> rw [he] <;> rfl
    clear he hp her
    go_enter Tryz.func171, Tryz.ntmps171
    go_wp2_with (go_at_call 172; refine (inner172 b m g L most _ hm hz HG.out.1 HG.out.2).mono ?_)
    rw [HS.out.1]
    rintro e w1 ⟨v, rfl, _, _, h2⟩
    have F : Hid (w.grownBy w1 (some b)) := grown_trans (World.grownBy_alloc _ _ _) h2
    clear h2
    go_wp2_with (go_at_call 55; refine (sure_no _ _).mono ?_; rintro e w2 ⟨rfl, hw2⟩; rw [hw2]; clear hw2; unfold Pan)
    exact ⟨rfl, .inr ⟨HS.out.2, rfl, F.out⟩⟩
  · have HS : Hid (Wire.rdBytes L most = (x, 0, M) ∧ pBytes most L = some (x, M) ∧ (L = [] → M = [])) := ⟨he, hp, fun h => by
      obtain ⟨e1, _⟩ := pBytes_inv hp
      rw [h] at e1
      have := congrArg List.length e1
      have h2 := Wire.numForm_pos x.length
      simp [bytesForm] at this
      omega⟩
    clear he hp
    go_enter Tryz.func171, Tryz.ntmps171
    go_wp2_with (go_at_call 172; refine (inner172 b m g L most _ hm hz HG.out.1 HG.out.2).mono ?_)
    rw [HS.out.1]
    rintro e w1 ⟨v, rfl, h0, h1, h2⟩
    have F : Hid (RR w1 b M ∧ w.grownBy w1 (some b) ∧ Own w1 w.heap.size v x) := ⟨HK.out w1 _ h1 h2 HS.out.2.2, grown_trans (World.grownBy_alloc _ _ _) h2, h0.mono (by simp)⟩
    clear h1 h2 h0
    go_wp2_with (go_at_call 55; refine (sure_yes _ _).mono ?_; rintro e w2 ⟨rfl, hw2⟩; rw [hw2]; clear hw2)
    go_ret
    exact .inl ⟨x, _, _, HS.out.2.1, rfl, F.out.2.2, F.out.1, F.out.2.1⟩

set_option maxRecDepth 100000 in
set_option maxHeartbeats 1000000 in
theorem bytes135 (b : Nat) (L : Bs) (most : Nat) (w : World) (hm : most ≤ 9223372036854775807) (hz : L.length ≤ 140737488355328) (hr : RR w b L) :
    Calls Tryz.prog 135 #[rdV b, .int .i64 most] w (RdPost b w (pBytes most L) (fun x v w' => Own w' w.heap.size v x)) := by
  have HR : Hid (RR w b L) := hr
  clear hr
  have hmf : ∀ (fn : Fn) (first cap : Array Value) (w : World), (Instr.makeFunc fn first cap).run Tryz.prog w = .ok (.func fn first cap) w := fun _ _ _ _ => rfl
  have e0 : rdV b = .agg #[.pointer (some ⟨b, 0, none⟩)] := rfl
  rw [e0]
  go_enter Tryz.func135, Tryz.ntmps135
  go_wp2_with (go_at_call 171; refine (next171 b (w.heap.size + 1) L most _ hm hz (HR.out.grown (grown_trans (World.grownBy_alloc _ _ none) (World.grownBy_alloc _ _ none))) (by simp [go_sem])).mono ?_)
  rintro e w1 (⟨n, M, v, hx, rfl, h0, hR, hg⟩ | ⟨hx, rfl, hg⟩)
  · have F : Hid (pBytes most L = some (n, M) ∧ RR w1 b M ∧ w.grownBy w1 (some b) ∧ Own w1 w.heap.size v n) := ⟨hx, hR, grown_trans (grown_trans (World.grownBy_alloc _ _ _) (World.grownBy_alloc _ _ _)) hg, h0.mono (by simp; omega)⟩
    clear hx hR hg h0
    go_wp2_with fail
    go_ret
    exact .inl ⟨n, M, _, F.out.1, rfl, F.out.2.2.2, F.out.2.1, F.out.2.2.1⟩
  · have F : Hid (pBytes most L = none ∧ w.grownBy w1 (some b)) := ⟨hx, grown_trans (grown_trans (World.grownBy_alloc _ _ _) (World.grownBy_alloc _ _ _)) hg⟩
    clear hx hg
    unfold Pan
    go_wp2_with fail
    exact ⟨rfl, .inr ⟨F.out.1, rfl, F.out.2⟩⟩

theorem own_blk {w : World} {B : Nat} {v : Value} {L : Bs} (h : Own w B v L) {k : Nat} (hk : v.ownBlock = some k) : ∃ cur, Blk w k 5 cur := by
  rcases h.2 with ⟨rfl, _⟩ | ⟨g, c, cur, e, hb, hg, _⟩
  · simp [Value.ownBlock] at hk
  · subst e
    simp [Value.ownBlock] at hk
    subst hk
    exact ⟨cur, hg⟩

set_option maxRecDepth 100000 in
set_option maxHeartbeats 1000000 in
theorem open86 (v : Value) (L : Bs) (w : World) (hs : Seg w v L) (hsz : L.length ≤ 140737488355328) :
    Calls Tryz.prog 86 #[v] w fun e w' => ∃ b, e = .returned (.pointer (some ⟨b, 0, none⟩)) ∧ w.heap.size ≤ b ∧ RR w' b L ∧ w.grownBy w' none := by
  have HC : Hid _ := Wire.clone_any v L w hs hsz
  clear hs hsz
  go_enter Tryz.func86, Tryz.ntmps86
  go_wp2_with fail
  refine Calls.mono HC.out ?_
  rintro e w1 ⟨u, rfl, h1, h2⟩
  have h1' : Own w1 w.heap.size u L := h1
  obtain ⟨x, n, y, rfl⟩ := slice_of h1'
  have F : Hid (RR (w1.alloc (.cells #[.bool true, .slice x n y] 167)) w1.heap.size L) := ⟨_, heap_alloc_new w1 _, seg_alloc h1'.seg _, fun hne => by
    obtain ⟨k, hk⟩ := seg_own_ne h1'.seg hne
    obtain ⟨cur, hb⟩ := own_blk h1' hk
    exact ⟨k, cur, hk, hb.grown (World.grownBy_alloc _ _ none) (by simp)⟩⟩
  have G : Hid _ := h2
  clear h1 h1' h2 HC
  go_wp2_with fail
  go_ret
  exact ⟨w1.heap.size, rfl, G.out.size, F.out, grown_trans G.out (World.grownBy_alloc _ _ _)⟩

theorem end87 (b : Nat) (L : Bs) (w : World) (hr : RR w b L) : Calls Tryz.prog 87 #[.pointer (some ⟨b, 0, none⟩)] w fun e w' => e = .returned (.int .i64 (if L = [] then 0 else 4)) ∧ w' = w := by
  obtain ⟨s, h1, h2, _⟩ := hr
  exact Wire.end_any b s L w h1 h2
end Go.Proofs.YtfocmbnhkldnfaaGreatDoor
