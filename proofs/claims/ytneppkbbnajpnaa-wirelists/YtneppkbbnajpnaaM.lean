/-
  A list of numbers read: things and Take at uint64, with the reader's own Number as the function that is handed in.
-/
import Derived.Test.YtneppkbbnajpnaaI
namespace Go.Proofs.Ytneppkbbnajpnaa
open Go.RowKit

/-- So many numbers, one behind the other: what was read and what is left, or none where one of them fails. -/
def rdMany : Nat → List UInt8 → Option (List Nat × List UInt8)
  | 0, L => some ([], L)
  | n + 1, L => match rdMany n L with
    | none => none
    | some (xs, M) => match scan 0 0 M with
      | none => none
      | some (x, k) => some (xs ++ [x], M.drop k)

theorem rdMany_len : ∀ (n : Nat) (L : List UInt8) (xs : List Nat) (M : List UInt8), rdMany n L = some (xs, M) → xs.length = n ∧ n + M.length ≤ L.length
  | 0, L, xs, M, h => by simp [rdMany] at h; obtain ⟨rfl, rfl⟩ := h; simp
  | n + 1, L, xs, M, h => by
    rw [rdMany] at h
    cases h1 : rdMany n L with
    | none => rw [h1] at h; simp at h
    | some y =>
      obtain ⟨ys, M1⟩ := y
      rw [h1] at h
      simp only at h
      cases h2 : scan 0 0 M1 with
      | none => rw [h2] at h; simp at h
      | some z =>
        obtain ⟨x, k⟩ := z
        rw [h2] at h
        simp at h
        obtain ⟨rfl, rfl⟩ := h
        have h3 := rdMany_len n L ys M1 h1
        have h4 := scan_bound M1 0 0 (by omega) (by simp) x k h2
        simp; omega

/-- Once one fails, more of them fail. -/
theorem rdMany_none : ∀ (j n : Nat) (L : List UInt8), rdMany n L = none → rdMany (n + j) L = none
  | 0, n, L, h => h
  | j + 1, n, L, h => by
    have := rdMany_none j n L h
    rw [show n + (j + 1) = (n + j) + 1 by omega, rdMany, this]

theorem Try.info22 : (Try.prog.info? 22).map (fun i => (i.zero, i.size, i.bytes)) = some (some (.int .u64 0), 1, 8) := by kernel_rfl

def NV (xs : List Nat) : List Value := xs.map fun (n : Nat) => Value.int .u64 (n : Int)

/-- The slice v owns these numbers. -/
def OwnN (w : World) (B : Nat) (v : Value) (xs : List Nat) : Prop := w.ownsRow B 22 1 v xs.length (NV xs)

theorem OwnN.nil (w : World) (B : Nat) : OwnN w B (.slice none 0 0) [] := World.ownsRow_nil w B 22 1
theorem OwnN.lt {w : World} {B : Nat} {v : Value} {xs : List Nat} (h : OwnN w B v xs) : ∀ k, v.ownBlock = some k → B ≤ k := fun k hk => (World.ownsRow.lt h k hk).1
theorem OwnN.grown {w w' : World} {B : Nat} {v : Value} {xs : List Nat} (h : OwnN w B v xs) (hg : w.grownBy w' none) : OwnN w' B v xs := World.ownsRow.kept h hg (by cases v.ownBlock <;> simp)
theorem OwnN.mono {w : World} {B B' : Nat} {v : Value} {xs : List Nat} (h : OwnN w B v xs) (hB : B' ≤ B) : OwnN w B' v xs := by
  refine ⟨h.1, ?_⟩
  rcases h.2 with h2 | ⟨g, cap, cur, h1, hb, h3⟩
  · exact .inl h2
  · exact .inr ⟨g, cap, cur, h1, by omega, h3⟩

theorem OwnN.keptB {w w' : World} {B b : Nat} {v : Value} {xs : List Nat} (h : OwnN w B v xs) (hg : w.grownBy w' (some b)) (hb : b < B) : OwnN w' B v xs := by
  refine World.ownsRow.kept h hg ?_
  cases hv : v.ownBlock with
  | none => exact .inl rfl
  | some k =>
    right
    intro e
    have := h.lt k hv
    simp at e; omega
theorem own_ne {w : World} {B b : Nat} {v : Value} {xs : List Nat} (h : OwnN w B v xs) (hb : b < B) : v.ownBlock ≠ some b := by
  intro e; have := h.lt b e; omega

/-- A number appended to a row of the call's own. -/
theorem app83 {ops : Array Oper} {rest : List Oper} {o : Oper} {a : Act} {Q : Exit → Act → World → Prop} (w : World) (hgd : o.guard = none) (s x : Operand)
    (ho : o.op = .call { callee := .builtin .append, args := #[s, x], argTypes := #[83, 83] })
    (B : Nat) (v : Value) (xs : List Nat) (n : Nat) (hs : a.eval s = v) (hx : a.eval x = .slice (some ⟨w.heap.size, 0, none⟩) 1 1) (hown : OwnN w B v xs) (hb : xs.length ≤ 1048576) (hB : B ≤ w.heap.size)
    (h : ∀ v' w', OwnN w' B v' (xs ++ [n]) → (w.alloc (.cells #[.int .u64 n] 22)).grownBy w' v.ownBlock → wpList Try.prog ops Q rest (a.put o.dst v') w') : wpList Try.prog ops Q (o :: rest) a (w.alloc (.cells #[.int .u64 n] 22)) := by
  obtain ⟨i0, hi, hz0, hz1, hz2⟩ := info_parts Try.info22
  refine wpList_append_own _ hgd s x 83 ho B 22 i0 (.int .u64 0) 1 8 Try.underlying83 hi hz0 hz1 hz2 rfl (by decide) v xs.length (NV xs) hs (World.ownsRow.alloc hown _) ⟨w.heap.size, 0, none⟩ 1 1 [.int .u64 n] hx rfl (cell_one_new _ _ _) (by intro u hu; simp at hu; subst hu; rfl) (by unfold maxLen; omega) (by omega) (by simp; omega) ?_
  intro v' w' h1 h2 _
  exact h v' w' (by unfold OwnN NV; rw [List.map_append, List.length_append]; exact h1) h2

set_option maxRecDepth 100000 in
set_option maxHeartbeats 1000000 in
theorem things63_none (b g : Nat) (n : Nat) (L : List UInt8) (w : World) (hr : RdG w b g L) (hbg : g < w.heap.size) (hbb : b < w.heap.size) (hn : n < 2 ^ 64) (hL : L.length ≤ 1048576) (h : rdMany n L = none) :
    Calls Try.prog 63 #[.pointer (some ⟨b, 0, none⟩), .int .u64 n, .func (.func 25) #[] #[]] w fun e w' => e = .returned (.tuple #[.slice none 0 0, .int .i64 4]) ∧ (∃ M, Rd w' b M) ∧ w.grownBy w' (some b) := by
  have HN : Hid _ := h
  have hn64 : n ≤ 18446744073709551615 := by omega
  clear h hn
  go_enter Try.func63, Try.ntmps63
  go_wp2
  go_loopw [8, 12] (fun v i wr => ∃ (j : Nat) (xs : List Nat) (M : List UInt8), j ≤ n ∧ i = .int .u64 j ∧ Hid (rdMany j L = some (xs, M)) ∧ OwnN wr w.heap.size v xs ∧ RdG wr b g M ∧ w.grownBy wr (some b)) (fun _ i _ => n - (intOf i).toNat)
  case atStart => exact ⟨0, [], L, by omega, rfl, rfl, OwnN.nil _ _, hr, grown_refl _ _⟩
  case round =>
    obtain ⟨j, xs, M, hj, rfl, HJ, hown, hrd, hg⟩ := hrel
    have hln := rdMany_len j L xs M HJ.out
    by_cases hlt : j < n
    · go_wp2_with fail
      refine (number25_g b g M _ hrd).mono ?_
      have hsz := hg.size
      cases hsc : scan 0 0 M with
      | none =>
        rw [rdNum_none hsc]
        rintro e w1 ⟨rfl, hrd1, hg1⟩
        have S1 : Hid ((∃ M, Rd w1 b M) ∧ w.grownBy w1 (some b)) := ⟨⟨_, hrd1.rd⟩, grown_trans hg hg1⟩
        clear hown hrd hrd1 hg1 hg hln hsc hsz
        go_wp2_with fail
        go_ret2
        exact ⟨rfl, S1.out⟩
      | some z =>
        obtain ⟨x, kx⟩ := z
        rw [rdNum_some hsc]
        rintro e w1 ⟨rfl, hrd1, hg1⟩
        have HJ1 : Hid (rdMany (j + 1) L = some (xs ++ [x], M.drop kx)) := by unfold Hid; rw [rdMany, HJ.out]; simp only [hsc]
        have hx64 : x < 2 ^ 64 := (scan_bound M 0 0 (by omega) (by simp) x kx hsc).1
        have S1 : Hid (OwnN w1 w.heap.size u8 xs ∧ RdG w1 b g (M.drop kx) ∧ w.grownBy w1 (some b) ∧ w.heap.size ≤ w1.heap.size) := ⟨hown.keptB hg1 hbb, hrd1, grown_trans hg hg1, Nat.le_trans hsz hg1.size⟩
        have hxl : xs.length ≤ 1048576 := by omega
        have hln2 : Hid (xs.length = j ∧ j + M.length ≤ L.length) := hln
        clear hown hrd hrd1 hg1 hg hln hsc hsz
        go_wp2_with (at_builtin; refine app83 _ rfl (.tmp 23) (.tmp 25) rfl w.heap.size u8 xs x rfl rfl S1.out.1 hxl S1.out.2.2.2 ?_)
        intro v' w2 hown' hg'
        have S2 : Hid (OwnN w2 w.heap.size v' (xs ++ [x]) ∧ RdG w2 b g (M.drop kx) ∧ w.grownBy w2 (some b)) := by
          obtain ⟨q1, q2, q3, q4⟩ := S1.out
          have ga := World.grownBy_alloc w1 (.cells #[.int .u64 (x : Int)] 22) none
          exact ⟨hown', (q2.kept ga (by simp) (by simp)).kept hg' (own_ne q1 hbb) (own_ne q1 hbg), grown_new (grown_trans q3 (grown_weak ga _)) hg' (by intro y hy; have := q1.lt y hy; omega)⟩
        clear hown' hg' S1
        go_wp2_with fail
        obtain ⟨h1, h2, h3⟩ := S2.out
        go_roundw
        case rel => exact ⟨j + 1, xs ++ [x], M.drop kx, by omega, by go_num, HJ1, h1, h2, h3⟩
        case measure => simp [intOf]; omega
    · exfalso
      have e : j = n := by omega
      subst e
      rw [HN.out] at HJ
      cases HJ.out

set_option maxRecDepth 100000 in
set_option maxHeartbeats 1000000 in
theorem things63_some (b g : Nat) (n : Nat) (L : List UInt8) (ys : List Nat) (N : List UInt8) (w : World) (hr : RdG w b g L) (hbg : g < w.heap.size) (hbb : b < w.heap.size) (hn : n < 2 ^ 64) (hL : L.length ≤ 1048576) (h : rdMany n L = some (ys, N)) :
    Calls Try.prog 63 #[.pointer (some ⟨b, 0, none⟩), .int .u64 n, .func (.func 25) #[] #[]] w fun e w' => ∃ v, e = .returned (.tuple #[v, .int .i64 0]) ∧ OwnN w' w.heap.size v ys ∧ RdG w' b g N ∧ w.grownBy w' (some b) := by
  have HN : Hid _ := h
  have hn64 : n ≤ 18446744073709551615 := by omega
  clear h hn
  go_enter Try.func63, Try.ntmps63
  go_wp2
  go_loopw [8, 12] (fun v i wr => ∃ (j : Nat) (xs : List Nat) (M : List UInt8), j ≤ n ∧ i = .int .u64 j ∧ Hid (rdMany j L = some (xs, M)) ∧ OwnN wr w.heap.size v xs ∧ RdG wr b g M ∧ w.grownBy wr (some b)) (fun _ i _ => n - (intOf i).toNat)
  case atStart => exact ⟨0, [], L, by omega, rfl, rfl, OwnN.nil _ _, hr, grown_refl _ _⟩
  case round =>
    obtain ⟨j, xs, M, hj, rfl, HJ, hown, hrd, hg⟩ := hrel
    have hln := rdMany_len j L xs M HJ.out
    by_cases hlt : j < n
    · go_wp2_with fail
      refine (number25_g b g M _ hrd).mono ?_
      have hsz := hg.size
      cases hsc : scan 0 0 M with
      | none =>
        exfalso
        have h1 : rdMany (j + 1) L = none := by rw [rdMany, HJ.out]; simp only [hsc]
        have h2 := rdMany_none (n - (j + 1)) (j + 1) L h1
        rw [show j + 1 + (n - (j + 1)) = n by omega, HN.out] at h2
        cases h2
      | some z =>
        obtain ⟨x, kx⟩ := z
        rw [rdNum_some hsc]
        rintro e w1 ⟨rfl, hrd1, hg1⟩
        have HJ1 : Hid (rdMany (j + 1) L = some (xs ++ [x], M.drop kx)) := by unfold Hid; rw [rdMany, HJ.out]; simp only [hsc]
        have hx64 : x < 2 ^ 64 := (scan_bound M 0 0 (by omega) (by simp) x kx hsc).1
        have S1 : Hid (OwnN w1 w.heap.size u8 xs ∧ RdG w1 b g (M.drop kx) ∧ w.grownBy w1 (some b) ∧ w.heap.size ≤ w1.heap.size) := ⟨hown.keptB hg1 hbb, hrd1, grown_trans hg hg1, Nat.le_trans hsz hg1.size⟩
        have hxl : xs.length ≤ 1048576 := by omega
        have hln2 : Hid (xs.length = j ∧ j + M.length ≤ L.length) := hln
        clear hown hrd hrd1 hg1 hg hln hsc hsz
        go_wp2_with (at_builtin; refine app83 _ rfl (.tmp 23) (.tmp 25) rfl w.heap.size u8 xs x rfl rfl S1.out.1 hxl S1.out.2.2.2 ?_)
        intro v' w2 hown' hg'
        have S2 : Hid (OwnN w2 w.heap.size v' (xs ++ [x]) ∧ RdG w2 b g (M.drop kx) ∧ w.grownBy w2 (some b)) := by
          obtain ⟨q1, q2, q3, q4⟩ := S1.out
          have ga := World.grownBy_alloc w1 (.cells #[.int .u64 (x : Int)] 22) none
          exact ⟨hown', (q2.kept ga (by simp) (by simp)).kept hg' (own_ne q1 hbb) (own_ne q1 hbg), grown_new (grown_trans q3 (grown_weak ga _)) hg' (by intro y hy; have := q1.lt y hy; omega)⟩
        clear hown' hg' S1
        go_wp2_with fail
        obtain ⟨h1, h2, h3⟩ := S2.out
        go_roundw
        case rel => exact ⟨j + 1, xs ++ [x], M.drop kx, by omega, by go_num, HJ1, h1, h2, h3⟩
        case measure => simp [intOf]; omega
    · have e : j = n := by omega
      subst e
      have e2 := HN.out
      rw [HJ.out] at e2
      simp at e2
      obtain ⟨rfl, rfl⟩ := e2
      have S1 : Hid _ := And.intro hown (And.intro hrd hg)
      clear hown hrd hg hln
      go_wp2_with fail
      go_ret2
      exact ⟨_, rfl, S1.out⟩
end Go.Proofs.Ytneppkbbnajpnaa
