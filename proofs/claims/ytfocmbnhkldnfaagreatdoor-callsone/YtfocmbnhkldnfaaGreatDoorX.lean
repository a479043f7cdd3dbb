/-
  The words of an op's text: kinds, bytes, an Old, numbers.
-/
import Derived.Test.YtfocmbnhkldnfaaGreatDoorEv
namespace Go.Proofs.YtfocmbnhkldnfaaGreatDoor
open Go.RowKit Disk
open Names (Str)

set_option maxRecDepth 100000 in
set_option maxHeartbeats 2000000 in
theorem bytesof141 (s : Bs) (w : World) (hl : s.length ≤ 20000) :
    Calls Tryz.prog 141 #[Str s] w fun e w' => (Names.readE s = 0 ∧ ∃ u, e = .returned u ∧ Names.Cut w' w.heap.size u (Names.readL s) ∧ w.grownBy w' none) ∨ (Names.readE s ≠ 0 ∧ e = Pan 4 ∧ w.grownBy w' none) := by
  unfold Str
  rcases readE_cases s with h | h
  · have HE : Hid (Names.readE s = 0) := h
    clear h
    go_enter Tryz.func141, Tryz.ntmps141
    go_wp2_with (go_at_call 180; refine (Names.read7 s _ (by omega)).mono ?_)
    rw [HE.out]
    rintro e w1 ⟨x, rfl, hc, hg⟩
    have H : Hid (Names.Cut w1 w.heap.size x (Names.readL s) ∧ w.grownBy w1 none) := ⟨hc, hg⟩
    clear hc hg
    go_wp2_with (go_at_call 55; refine (sure_yes _ _).mono ?_; rintro e w2 ⟨rfl, hw2⟩; rw [hw2]; clear hw2)
    go_ret
    exact .inl ⟨HE.out, _, rfl, H.out.1, H.out.2⟩
  · have HE : Hid (Names.readE s = 4) := h
    clear h
    go_enter Tryz.func141, Tryz.ntmps141
    go_wp2_with (go_at_call 180; refine (Names.read7 s _ (by omega)).mono ?_)
    rw [HE.out]
    rintro e w1 ⟨x, rfl, hc, hg⟩
    have H : Hid (w.grownBy w1 none) := hg
    clear hc hg
    go_wp2_with (go_at_call 55; refine (sure_no _ _).mono ?_; rintro e w2 ⟨rfl, hw2⟩; rw [hw2]; clear hw2; unfold Pan)
    exact ⟨rfl, .inr ⟨by rw [HE.out]; decide, rfl, H.out⟩⟩

set_option maxRecDepth 100000 in
set_option maxHeartbeats 2000000 in
theorem bytes96 (b : Nat) (L : List Bs) (w : World) (h : WD w b L) :
    Calls Tryz.prog 96 #[.pointer (some ⟨b, 0, none⟩)] w (WPost b w (wBytes L) (fun x v w' => Names.Cut w' w.heap.size v x)) := by
  have H : Hid (WD w b L) := h
  clear h
  go_enter Tryz.func96, Tryz.ntmps96
  go_wp2_with (go_at_call 95; refine (next95 b L _ H.out).mono ?_)
  intro e w1 h
  rcases h.symm with ⟨hx, rfl, hg⟩ | ⟨x, M, v, hx, rfl, ⟨rfl, hl⟩, hW, hg⟩
  · have F : Hid (wBytes L = none ∧ w.grownBy w1 (some b)) := ⟨by unfold wBytes; rw [hx]; rfl, hg⟩
    clear hx hg h
    unfold Pan
    go_wp2_with fail
    exact ⟨rfl, .inr ⟨F.out.1, rfl, F.out.2⟩⟩
  clear h
  have F : Hid (wNext L = some (x, M) ∧ WD w1 b M ∧ w.grownBy w1 (some b)) := ⟨hx, hW, hg⟩
  clear hx hW hg
  go_wp2_with (go_at_call 141; refine (bytesof141 x _ hl).mono ?_)
  rintro e w2 (⟨he, u, rfl, hc, hg2⟩ | ⟨he, rfl, hg2⟩)
  · have G : Hid (wBytes L = some (Names.readL x, M) ∧ Names.Cut w2 w.heap.size u (Names.readL x) ∧ WD w2 b M ∧ w.grownBy w2 (some b)) := ⟨by unfold wBytes; rw [F.out.1]; simp [he], hc.mono F.out.2.2.size, F.out.2.1.grown hg2, grown_trans F.out.2.2 (grown_weak hg2 _)⟩
    clear he hc hg2
    go_wp2_with fail
    go_ret
    exact .inl ⟨_, M, _, G.out.1, rfl, G.out.2.1, G.out.2.2.1, G.out.2.2.2⟩
  · have G : Hid (wBytes L = none ∧ w.grownBy w2 (some b)) := ⟨by unfold wBytes; rw [F.out.1]; simp [he], grown_trans F.out.2.2 (grown_weak hg2 _)⟩
    clear he hg2
    unfold Pan
    go_wp2_with fail
    exact ⟨rfl, .inr ⟨G.out.1, rfl, G.out.2⟩⟩

/-- The kind that a word is. -/
def wKind (x : Bs) : Option Nat := if x = [103, 101, 116] then some 1 else if x = [112, 117, 116] then some 2 else if x = [100, 101, 108, 101, 116, 101] then some 3 else if x = [115, 119, 97, 112] then some 4 else if x = [115, 99, 97, 110] then some 5 else none
def wKinds (L : List Bs) : Option (Nat × List Bs) := (wNext L).bind fun x => (wKind x.1).bind fun k => some (k, x.2)

theorem beq_str (a : List UInt8) (x : Bs) : (a == x) = decide (x = a) := by rw [beq_dec]; by_cases h : a = x <;> simp [h, eq_comm]
theorem KW.set {w w' : World} (h : KW w) {b t : Nat} {c : Array Value} (hb : Blk w b t c) (ht : t ≠ 113) (h0 : ∃ c0, Blk w 0 113 c0) (hg : w.grownBy w' (some b)) : KW w' := by
  obtain ⟨c0, h0⟩ := h0
  have hne : b ≠ 0 := fun e => by subst e; exact ht (blk_type hb h0)
  have up : ∀ {j v}, w.cell? ⟨0, j, none⟩ = some v → w'.cell? ⟨0, j, none⟩ = some v := fun hc => hg.cell hc (fun e => hne (by simpa using e.symm))
  exact ⟨up h.1, up h.2.1, up h.2.2.1, up h.2.2.2.1, up h.2.2.2.2.1, up h.2.2.2.2.2⟩

set_option maxRecDepth 100000 in
set_option maxHeartbeats 4000000 in
theorem kind93 (b : Nat) (L : List Bs) (w : World) (h : WD w b L) (hb0 : b ≠ 0) (hk : KW w) :
    Calls Tryz.prog 93 #[.pointer (some ⟨b, 0, none⟩)] w (WPost b w (wKinds L) (fun k v _ => v = .int .i64 k ∧ 1 ≤ k ∧ k ≤ 5)) := by
  have H : Hid (WD w b L ∧ KW w) := ⟨h, hk⟩
  clear h hk
  go_enter Tryz.func93, Tryz.ntmps93
  go_wp2_with (go_at_call 95; refine (next95 b L _ H.out.1).mono ?_)
  intro e w1 h
  rcases h.symm with ⟨hx, rfl, hg⟩ | ⟨x, M, v, hx, rfl, ⟨rfl, hl⟩, hW, hg⟩
  · have F : Hid (wKinds L = none ∧ w.grownBy w1 (some b)) := ⟨by unfold wKinds; rw [hx]; rfl, hg⟩
    clear hx hg h
    unfold Pan
    go_wp2_with fail
    exact ⟨rfl, .inr ⟨F.out.1, rfl, F.out.2⟩⟩
  clear h
  have F : Hid (wNext L = some (x, M) ∧ WD w1 b M ∧ w.grownBy w1 (some b)) := ⟨hx, hW, hg⟩
  have up : ∀ {j v}, w.cell? ⟨0, j, none⟩ = some v → w1.cell? ⟨0, j, none⟩ = some v := fun hc => hg.cell hc (fun e => hb0 (by simpa using e.symm))
  have k1 := up H.out.2.2.1
  have k2 := up H.out.2.2.2.1
  have k3 := up H.out.2.2.2.2.1
  have k4 := up H.out.2.2.2.2.2.1
  have k5 := up H.out.2.2.2.2.2.2
  clear hx hW hg up
  unfold Str
  go_wp2_with fail
  refine wp_loop_rounds 6 ?_
  rw [rounds_succ]
  by_cases e1 : x = [103, 101, 116]
  · have HK : Hid (wKinds L = some (1, M)) := by unfold wKinds; rw [F.out.1]; simp only [Option.bind_some]; unfold wKind; rw [if_pos e1]; rfl
    skip
    subst e1
    go_wp2_with fail
    go_ret
    exact .inl ⟨1, M, _, HK.out, rfl, ⟨rfl, by decide, by decide⟩, F.out.2.1, F.out.2.2⟩
  have q1 : ([103, 101, 116] == x) = false := by simp; exact fun h => e1 h.symm
  go_wp2_with fail
  rw [rounds_succ]
  by_cases e2 : x = [112, 117, 116]
  · have HK : Hid (wKinds L = some (2, M)) := by unfold wKinds; rw [F.out.1]; simp only [Option.bind_some]; unfold wKind; rw [if_neg e1, if_pos e2]; rfl
    clear e1
    subst e2
    go_wp2_with fail
    go_ret
    exact .inl ⟨2, M, _, HK.out, rfl, ⟨rfl, by decide, by decide⟩, F.out.2.1, F.out.2.2⟩
  have q2 : ([112, 117, 116] == x) = false := by simp; exact fun h => e2 h.symm
  go_wp2_with fail
  rw [rounds_succ]
  by_cases e3 : x = [100, 101, 108, 101, 116, 101]
  · have HK : Hid (wKinds L = some (3, M)) := by unfold wKinds; rw [F.out.1]; simp only [Option.bind_some]; unfold wKind; rw [if_neg e1, if_neg e2, if_pos e3]; rfl
    clear e1 e2
    subst e3
    go_wp2_with fail
    go_ret
    exact .inl ⟨3, M, _, HK.out, rfl, ⟨rfl, by decide, by decide⟩, F.out.2.1, F.out.2.2⟩
  have q3 : ([100, 101, 108, 101, 116, 101] == x) = false := by simp; exact fun h => e3 h.symm
  go_wp2_with fail
  rw [rounds_succ]
  by_cases e4 : x = [115, 119, 97, 112]
  · have HK : Hid (wKinds L = some (4, M)) := by unfold wKinds; rw [F.out.1]; simp only [Option.bind_some]; unfold wKind; rw [if_neg e1, if_neg e2, if_neg e3, if_pos e4]; rfl
    clear e1 e2 e3
    subst e4
    go_wp2_with fail
    go_ret
    exact .inl ⟨4, M, _, HK.out, rfl, ⟨rfl, by decide, by decide⟩, F.out.2.1, F.out.2.2⟩
  have q4 : ([115, 119, 97, 112] == x) = false := by simp; exact fun h => e4 h.symm
  go_wp2_with fail
  rw [rounds_succ]
  by_cases e5 : x = [115, 99, 97, 110]
  · have HK : Hid (wKinds L = some (5, M)) := by unfold wKinds; rw [F.out.1]; simp only [Option.bind_some]; unfold wKind; rw [if_neg e1, if_neg e2, if_neg e3, if_neg e4, if_pos e5]; rfl
    clear e1 e2 e3 e4
    subst e5
    go_wp2_with fail
    go_ret
    exact .inl ⟨5, M, _, HK.out, rfl, ⟨rfl, by decide, by decide⟩, F.out.2.1, F.out.2.2⟩
  have q5 : ([115, 99, 97, 110] == x) = false := by simp; exact fun h => e5 h.symm
  go_wp2_with fail
  rw [rounds_succ]
  go_wp2_with fail
  have HK : Hid (wKinds L = none) := by unfold wKinds; rw [F.out.1]; simp only [Option.bind_some]; unfold wKind; rw [if_neg e1, if_neg e2, if_neg e3, if_neg e4, if_neg e5]; rfl
  exact ⟨rfl, .inr ⟨HK.out, rfl, F.out.2.2⟩⟩

/-- The Old that a word says. -/
def wOld (L : List Bs) : Option ((Bool × Bs) × List Bs) := (wNext L).bind fun x => if x.1 = [45] then some ((false, []), x.2) else match x.1 with
  | c :: r => if c = 43 then (if Names.readE r = 0 then some ((true, Names.readL r), x.2) else none) else none
  | [] => none

theorem cut_plus (x : Bs) : (Lib.hasPrefix x [43] = true ∧ ∃ r, x = 43 :: r ∧ Lib.trimPrefix x [43] = r) ∨ (Lib.hasPrefix x [43] = false ∧ ∀ r, x ≠ 43 :: r) := by
  cases x with
  | nil => exact .inr ⟨by decide, by simp⟩
  | cons c r =>
    by_cases h : c = 43
    · subst h
      have hp : Lib.hasPrefix (43 :: r) [43] = true := by unfold Lib.hasPrefix; simp
      exact .inl ⟨hp, r, rfl, by unfold Lib.trimPrefix; rw [if_pos hp]; rfl⟩
    · exact .inr ⟨by unfold Lib.hasPrefix; simp only [List.isPrefixOf]; simp; exact fun e => h e.symm, fun r' e => h (by simpa using (List.cons.inj e).1)⟩

set_option maxRecDepth 100000 in
set_option maxHeartbeats 4000000 in
theorem old97 (b : Nat) (L : List Bs) (w : World) (h : WD w b L) :
    Calls Tryz.prog 97 #[.pointer (some ⟨b, 0, none⟩)] w (WPost b w (wOld L) (fun x v w' => ∃ u, v = .tuple #[.bool x.1, u] ∧ Names.Cut w' w.heap.size u x.2)) := by
  have H : Hid (WD w b L) := h
  clear h
  go_enter Tryz.func97, Tryz.ntmps97
  go_wp2_with (go_at_call 95; refine (next95 b L _ H.out).mono ?_)
  intro e w1 h
  rcases h.symm with ⟨hx, rfl, hg⟩ | ⟨x, M, v, hx, rfl, ⟨rfl, hl⟩, hW, hg⟩
  · have F : Hid (wOld L = none ∧ w.grownBy w1 (some b)) := ⟨by unfold wOld; rw [hx]; rfl, hg⟩
    clear hx hg h
    unfold Pan
    go_wp2_with fail
    exact ⟨rfl, .inr ⟨F.out.1, rfl, F.out.2⟩⟩
  clear h
  have F : Hid (wNext L = some (x, M) ∧ WD w1 b M ∧ w.grownBy w1 (some b)) := ⟨hx, hW, hg⟩
  clear hx hW hg
  unfold Str
  by_cases e1 : x = [45]
  · have HO : Hid (wOld L = some ((false, []), M)) := by unfold wOld; rw [F.out.1]; simp only [Option.bind_some]; rw [if_pos e1]; rfl
    subst e1
    go_wp2_with fail
    go_ret2
    exact .inl ⟨_, M, _, HO.out, rfl, ⟨_, rfl, .inl (Own.nil _ _)⟩, F.out.2.1, F.out.2.2⟩
  · have q1 : (x == [45]) = false := by simp [e1]
    rcases cut_plus x with ⟨hp, r, hr, ht⟩ | ⟨hp, hr⟩
    · have HC : Hid (Lib.hasPrefix x [43] = true ∧ Lib.trimPrefix x [43] = r ∧ r.length ≤ 20000) := ⟨hp, ht, by rw [hr] at hl; simp at hl; omega⟩
      have HO : Hid (wOld L = if Names.readE r = 0 then some ((true, Names.readL r), M) else none) := by unfold wOld; rw [F.out.1]; simp only [Option.bind_some]; rw [if_neg e1, hr]; simp [Hid]
      clear hp ht hr
      go_wp2_with (go_at_call 142; refine (Tryz.strings_CutPrefix _ _ _).mono ?_; rintro e w2 ⟨he, hw2⟩; rw [he, hw2]; clear he hw2)
      rw [HC.out.1, HC.out.2.1]
      go_wp2_with (first | (go_at_call 55; refine (sure_yes _ _).mono ?_; rintro e w2 ⟨rfl, hw2⟩; rw [hw2]; clear hw2) | (go_at_call 141; refine (bytesof141 r _ HC.out.2.2).mono ?_))
      rintro e w2 (⟨he, u, rfl, hc, hg2⟩ | ⟨he, rfl, hg2⟩)
      · have G : Hid (wOld L = some ((true, Names.readL r), M) ∧ Names.Cut w2 w.heap.size u (Names.readL r) ∧ WD w2 b M ∧ w.grownBy w2 (some b)) := ⟨by rw [HO.out, if_pos he], hc.mono F.out.2.2.size, F.out.2.1.grown hg2, grown_trans F.out.2.2 (grown_weak hg2 _)⟩
        clear he hc hg2
        go_wp2_with fail
        go_ret2
        exact .inl ⟨_, M, _, G.out.1, rfl, ⟨_, rfl, G.out.2.1⟩, G.out.2.2.1, G.out.2.2.2⟩
      · have G : Hid (wOld L = none ∧ w.grownBy w2 (some b)) := ⟨by rw [HO.out, if_neg he], grown_trans F.out.2.2 (grown_weak hg2 _)⟩
        clear he hg2
        unfold Pan
        go_wp2_with fail
        exact ⟨rfl, .inr ⟨G.out.1, rfl, G.out.2⟩⟩
    · have HC : Hid (Lib.hasPrefix x [43] = false) := hp
      have HO : Hid (wOld L = none) := by
        unfold wOld
        rw [F.out.1]
        simp only [Option.bind_some]
        rw [if_neg e1]
        cases x with
        | nil => rfl
        | cons c r =>
          have : c ≠ 43 := fun e => hr r (by rw [e])
          simp [this, Hid]
      clear hp hr
      go_wp2_with (go_at_call 142; refine (Tryz.strings_CutPrefix _ _ _).mono ?_; rintro e w2 ⟨he, hw2⟩; rw [he, hw2]; clear he hw2)
      rw [HC.out]
      go_wp2_with (go_at_call 55; refine (sure_no _ _).mono ?_; rintro e w2 ⟨rfl, hw2⟩; rw [hw2]; clear hw2; unfold Pan)
      exact ⟨rfl, .inr ⟨HO.out, rfl, F.out.2.2⟩⟩

/-- The number that a word says. -/
def wNum (L : List Bs) : Option (Int × List Bs) := (wNext L).bind fun x => match Lib.atoiAll x.1 with
  | .ok v => if Lib.itoa v = x.1 then some (v, x.2) else none
  | _ => none

theorem grow_grown (w : World) (k : Nat) (os : Array Obj) : w.grownBy (Go.Sort.grow (w.drewN k) os) none := by
  refine ⟨rfl, rfl, rfl, ?_, fun j hj _ => ?_⟩
  · show w.heap.size ≤ (w.heap ++ os).size
    simp
  · show (w.heap ++ os)[j]? = w.heap[j]?
    rw [Array.getElem?_append_left hj]

set_option maxRecDepth 100000 in
set_option maxHeartbeats 4000000 in
theorem number98 (b : Nat) (L : List Bs) (w : World) (h : WD w b L) (hb9 : 9 ≤ b) (hE : EnvF w) :
    Calls Tryz.prog 98 #[.pointer (some ⟨b, 0, none⟩)] w (WPost b w (wNum L) (fun n v _ => v = .int .i64 n ∧ -9223372036854775808 ≤ n ∧ n ≤ 9223372036854775807)) := by
  have H : Hid (WD w b L ∧ EnvF w) := ⟨h, hE⟩
  clear h hE
  go_enter Tryz.func98, Tryz.ntmps98
  go_wp2_with (go_at_call 95; refine (next95 b L _ H.out.1).mono ?_)
  intro e w1 h
  rcases h.symm with ⟨hx, rfl, hg⟩ | ⟨x, M, v, hx, rfl, ⟨rfl, hl⟩, hW, hg⟩
  · have F : Hid (wNum L = none ∧ w.grownBy w1 (some b)) := ⟨by unfold wNum; rw [hx]; rfl, hg⟩
    clear hx hg h
    unfold Pan
    go_wp2_with fail
    exact ⟨rfl, .inr ⟨F.out.1, rfl, F.out.2⟩⟩
  clear h
  have F : Hid (wNext L = some (x, M) ∧ WD w1 b M ∧ w.grownBy w1 (some b) ∧ EnvF w1) := ⟨hx, hW, hg, H.out.2.set hg hb9⟩
  clear hx hW hg
  unfold Str
  have hsz : (⟨x.toArray⟩ : ByteArray).size ≤ 20000 := by simpa [ByteArray.size] using hl
  cases ha : Lib.atoiAll x with
  | ok v =>
    have HA : Hid (Lib.atoiAll x = .ok v) := ha
    have HB := Lib.atoiAll_bounds ha
    clear ha
    go_wp2_with (go_at_call 101; refine (Tryz.strconv_Atoi_ok ⟨x.toArray⟩ (by omega) v HA.out _).mono ?_)
    rintro e w2 ⟨rfl, hw2⟩
    have G : Hid (WD w2 b M ∧ w.grownBy w2 (some b) ∧ EnvF w2) := by
      rcases hw2 with rfl | ⟨t, rfl⟩
      · exact ⟨F.out.2.1, F.out.2.2.1, F.out.2.2.2⟩
      · exact ⟨F.out.2.1.grown (bytes_grown _ _), grown_trans F.out.2.2.1 (grown_weak (bytes_grown _ _) _), F.out.2.2.2.grown (bytes_grown _ _)⟩
    clear hw2
    go_wp2_with (go_at_call 79; refine (Tryz.strconv_Itoa v (by omega) (by omega) _ G.out.2.2.tab).mono ?_)
    rintro e w3 ⟨rfl, k, os, hw3⟩
    have G3 : Hid (WD w3 b M ∧ w.grownBy w3 (some b)) := by
      have hgr : w2.grownBy w3 none := by rw [hw3]; exact grow_grown _ _ _
      exact ⟨G.out.1.grown hgr, grown_trans G.out.2.1 (grown_weak hgr _)⟩
    clear hw3
    by_cases hi : Lib.itoa v = x
    · have HO : Hid (wNum L = some (v, M)) := by unfold wNum; rw [F.out.1]; simp only [Option.bind_some]; rw [HA.out]; simp [hi, Hid]
      have q : (Lib.itoa v == x) = true := by simp [hi]
      clear hi
      go_wp2_with (go_at_call 55; refine (sure_yes _ _).mono ?_; rintro e w4 ⟨rfl, hw4⟩; rw [hw4]; clear hw4)
      go_ret
      exact .inl ⟨v, M, _, HO.out, rfl, ⟨rfl, by omega, by omega⟩, G3.out.1, G3.out.2⟩
    · have HO : Hid (wNum L = none) := by unfold wNum; rw [F.out.1]; simp only [Option.bind_some]; rw [HA.out]; simp [hi, Hid]
      have q : (Lib.itoa v == x) = false := by simp [hi]
      clear hi
      go_wp2_with (go_at_call 55; refine (sure_no _ _).mono ?_; rintro e w4 ⟨rfl, hw4⟩; rw [hw4]; clear hw4; unfold Pan)
      exact ⟨rfl, .inr ⟨HO.out, rfl, G3.out.2⟩⟩
  | «syntax» =>
    have HA : Hid (Lib.atoiAll x = .«syntax») := ha
    have HO : Hid (wNum L = none) := by unfold wNum; rw [F.out.1]; simp only [Option.bind_some]; rw [ha]; rfl
    clear ha
    obtain ⟨tp, p, hv⟩ := F.out.2.2.2.syn
    go_wp2_with (go_at_call 101; refine (Tryz.strconv_Atoi_syntax ⟨x.toArray⟩ (by omega) HA.out _ _ hv (.inr ⟨tp, p, rfl⟩)).mono ?_; rintro e w2 ⟨N, rfl, _, _, hbl⟩; have G : Hid (w.grownBy w2 (some b)) := grown_trans F.out.2.2.1 (grown_weak (below_grown hbl) _); clear hbl)
    clear hv
    go_wp2_with (go_at_call 55; refine (sure_no _ _).mono ?_; rintro e w4 ⟨rfl, hw4⟩; rw [hw4]; clear hw4; unfold Pan)
    exact ⟨rfl, .inr ⟨HO.out, rfl, G.out⟩⟩
  | range =>
    have HA : Hid (Lib.atoiAll x = .range) := ha
    have HO : Hid (wNum L = none) := by unfold wNum; rw [F.out.1]; simp only [Option.bind_some]; rw [ha]; rfl
    clear ha
    obtain ⟨tp, p, hv⟩ := F.out.2.2.2.rng
    go_wp2_with (go_at_call 101; refine (Tryz.strconv_Atoi_range ⟨x.toArray⟩ (by omega) HA.out _ _ hv (.inr ⟨tp, p, rfl⟩)).mono ?_; rintro e w2 ⟨N, rfl, _, _, hbl⟩; have G : Hid (w.grownBy w2 (some b)) := grown_trans F.out.2.2.1 (grown_weak (below_grown hbl) _); clear hbl)
    clear hv
    go_wp2_with (go_at_call 55; refine (sure_no _ _).mono ?_; rintro e w4 ⟨rfl, hw4⟩; rw [hw4]; clear hw4; unfold Pan)
    exact ⟨rfl, .inr ⟨HO.out, rfl, G.out⟩⟩
end Go.Proofs.YtfocmbnhkldnfaaGreatDoor
