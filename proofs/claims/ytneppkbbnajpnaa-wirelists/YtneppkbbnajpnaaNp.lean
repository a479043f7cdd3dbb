/-
  Rows of pairs of numbers: those that came in, those of the call's own; appends; things at pairs.
-/
import Derived.Test.YtneppkbbnajpnaaMp
import Derived.Laws.AppendOwnNone
namespace Go.Proofs.Ytneppkbbnajpnaa
open Go.RowKit

def PV : List (Nat × Nat) → List Value
  | [] => []
  | p :: ps => .int .u64 (p.1 : Int) :: .int .u64 (p.2 : Int) :: PV ps

theorem PV_len : ∀ ps, (PV ps).length = ps.length * 2
  | [] => rfl
  | _ :: ps => by simp [PV, PV_len ps]; omega
theorem PV_append : ∀ ps qs, PV (ps ++ qs) = PV ps ++ PV qs
  | [], _ => rfl
  | p :: ps, qs => by simp [PV, PV_append ps qs]
theorem PV_one : ∀ (ps : List (Nat × Nat)), ∀ u ∈ PV ps, u.oneCell' = true
  | [], u, h => by simp [PV] at h
  | p :: ps, u, h => by
    simp [PV] at h
    rcases h with rfl | rfl | h
    · rfl
    · rfl
    · exact PV_one ps u h
theorem PV_get : ∀ (ps : List (Nat × Nat)) (j : Nat) (hj : j < ps.length), (PV ps)[j * 2]? = some (.int .u64 (ps[j].1 : Int)) ∧ (PV ps)[j * 2 + 1]? = some (.int .u64 (ps[j].2 : Int))
  | p :: ps, 0, _ => ⟨rfl, rfl⟩
  | p :: ps, j + 1, hj => by
    have h := PV_get ps j (by simpa using hj)
    rw [show (j + 1) * 2 = j * 2 + 1 + 1 by omega]
    simp only [PV, List.getElem?_cons_succ, List.getElem_cons_succ]
    exact h

/-- The slice v reads as these pairs. -/
def SegP (w : World) (v : Value) (ps : List (Nat × Nat)) : Prop :=
  ∃ ao cap, v = .slice ao ps.length cap ∧ ps.length ≤ cap ∧ cap ≤ maxLen ∧ (ao = none → cap = 0) ∧ ∀ j (hj : j < ps.length), ∃ b off, ao = some ⟨b, off, none⟩ ∧ w.cell? ⟨b, off + j * 2, none⟩ = some (.int .u64 (ps[j].1 : Int)) ∧ w.cell? ⟨b, off + j * 2 + 1, none⟩ = some (.int .u64 (ps[j].2 : Int))

theorem SegP.grown {w w' : World} {v : Value} {ps : List (Nat × Nat)} (h : SegP w v ps) (hg : w.grownBy w' none) : SegP w' v ps := by
  obtain ⟨ao, cap, h1, h2, h3, h4, h5⟩ := h
  refine ⟨ao, cap, h1, h2, h3, h4, fun j hj => ?_⟩
  obtain ⟨b, off, q1, q2, q3⟩ := h5 j hj
  exact ⟨b, off, q1, hg.cell q2 (by simp), hg.cell q3 (by simp)⟩
theorem SegP.shape {w : World} {v : Value} {ps : List (Nat × Nat)} (h : SegP w v ps) : ∃ ao cap, v = .slice ao ps.length cap := by obtain ⟨ao, cap, h, _⟩ := h; exact ⟨ao, cap, h⟩
theorem SegP.len {w : World} {v : Value} {ps : List (Nat × Nat)} (h : SegP w v ps) : ps.length ≤ 9223372036854775807 := by
  obtain ⟨ao, cap, _, h2, h3, _⟩ := h
  unfold maxLen at h3; omega

/-- The slice v owns these pairs. -/
def OwnP (w : World) (B : Nat) (v : Value) (ps : List (Nat × Nat)) : Prop := w.ownsRow B 59 2 v ps.length (PV ps)

theorem OwnP.nil (w : World) (B : Nat) : OwnP w B (.slice none 0 0) [] := World.ownsRow_nil w B 59 2
theorem OwnP.lt {w : World} {B : Nat} {v : Value} {xs : List (Nat × Nat)} (h : OwnP w B v xs) : ∀ k, v.ownBlock = some k → B ≤ k := fun k hk => (World.ownsRow.lt h k hk).1
theorem OwnP.grown {w w' : World} {B : Nat} {v : Value} {xs : List (Nat × Nat)} (h : OwnP w B v xs) (hg : w.grownBy w' none) : OwnP w' B v xs := World.ownsRow.kept h hg (by cases v.ownBlock <;> simp)
theorem OwnP.mono {w : World} {B B' : Nat} {v : Value} {xs : List (Nat × Nat)} (h : OwnP w B v xs) (hB : B' ≤ B) : OwnP w B' v xs := by
  refine ⟨h.1, ?_⟩
  rcases h.2 with h2 | ⟨g, cap, cur, h1, hb, h3⟩
  · exact .inl h2
  · exact .inr ⟨g, cap, cur, h1, by omega, h3⟩
theorem OwnP.keptB {w w' : World} {B b : Nat} {v : Value} {xs : List (Nat × Nat)} (h : OwnP w B v xs) (hg : w.grownBy w' (some b)) (hb : b < B) : OwnP w' B v xs := by
  refine World.ownsRow.kept h hg ?_
  cases hv : v.ownBlock with
  | none => exact .inl rfl
  | some k =>
    right
    intro e
    have := h.lt k hv
    simp at e; omega
theorem ownp_ne {w : World} {B b : Nat} {v : Value} {xs : List (Nat × Nat)} (h : OwnP w B v xs) (hb : b < B) : v.ownBlock ≠ some b := by
  intro e; have := h.lt b e; omega
theorem OwnP.seg {w : World} {B : Nat} {v : Value} {ps : List (Nat × Nat)} (h : OwnP w B v ps) : SegP w v ps := by
  rcases h.2 with ⟨rfl, hn⟩ | ⟨g, cap, cur, rfl, hb, hg, hnc, hcm, hcs, ht⟩
  · have : ps = [] := List.eq_nil_of_length_eq_zero hn
    subst this
    exact ⟨none, 0, rfl, by simp, by omega, fun _ => rfl, fun j hj => absurd hj (by simp)⟩
  · refine ⟨_, cap, rfl, hnc, hcm, by simp, fun j hj => ⟨g, 0, rfl, ?_, ?_⟩⟩
    · have := h.cellAt (j * 2) (by omega)
      rw [Nat.zero_add, this]
      exact (PV_get ps j hj).1
    · have := h.cellAt (j * 2 + 1) (by omega)
      rw [Nat.zero_add, this]
      exact (PV_get ps j hj).2

theorem segp_news {w : World} {ad : Addr} {n cap : Nat} {ps : List (Nat × Nat)} (h : SegP w (.slice (some ad) n cap) ps) : n = ps.length ∧ ∀ j u, (PV ps)[j]? = some u → w.cell? (ad.add j) = some u := by
  obtain ⟨ao, cap', hv, h1, h2, h3, h4⟩ := h
  simp at hv; obtain ⟨rfl, rfl, rfl⟩ := hv
  refine ⟨rfl, fun j u hj => ?_⟩
  have hjl : j < ps.length * 2 := by
    have := (List.getElem?_eq_some_iff.1 hj).1
    rw [PV_len] at this; exact this
  obtain ⟨b, off, e, c0, c1⟩ := h4 (j / 2) (by omega)
  simp at e; subst e
  have e2 : (⟨b, off, none⟩ : Addr).add j = ⟨b, off + j, none⟩ := by
    unfold Addr.add; by_cases hz : j = 0
    · subst hz; simp
    · simp [hz]
  have hp := PV_get ps (j / 2) (by omega)
  rw [e2]
  by_cases ho : j % 2 = 0
  · rw [show j / 2 * 2 = j by omega] at c0 hp
    rw [c0, ← hp.1]; exact hj
  · rw [show off + j / 2 * 2 + 1 = off + j by omega] at c1
    rw [show j / 2 * 2 + 1 = j by omega] at hp
    rw [c1, ← hp.2]; exact hj

theorem Try.info59 : (Try.prog.info? 59).map (fun i => (i.zero, i.size, i.bytes)) = some (some (.agg #[.int .u64 0, .int .u64 0]), 2, 16) := by kernel_rfl

/-- Pairs appended to a row of the call's own. -/
theorem app58 {ops : Array Oper} {rest : List Oper} {o : Oper} {a : Act} {Q : Exit → Act → World → Prop} (w : World) (hgd : o.guard = none) (s x : Operand)
    (ho : o.op = .call { callee := .builtin .append, args := #[s, x], argTypes := #[58, 58] })
    (B : Nat) (v : Value) (ps : List (Nat × Nat)) (u : Value) (qs : List (Nat × Nat)) (hs : a.eval s = v) (hx : a.eval x = u) (hown : OwnP w B v ps) (hseg : SegP w u qs) (hb : (ps.length + qs.length) * 16 ≤ 140737488355328) (hB : B ≤ w.heap.size)
    (h : ∀ v' w', OwnP w' B v' (ps ++ qs) → w.grownBy w' v.ownBlock → wpList Try.prog ops Q rest (a.put o.dst v') w') : wpList Try.prog ops Q (o :: rest) a w := by
  obtain ⟨i0, hi, hz0, hz1, hz2⟩ := info_parts Try.info59
  have hsg := hseg
  obtain ⟨ao, cap, rfl, h1, h2, h3, h4⟩ := hsg
  cases ao with
  | none =>
    have hM0 : qs = [] := List.eq_nil_of_length_eq_zero (by have := h3 rfl; omega)
    have hc0 : cap = 0 := h3 rfl
    subst hM0; subst hc0
    refine wpList_append_own_none hgd s x 58 ho B 59 i0 2 Try.underlying58 hi v _ _ hs hown hx ?_
    exact h v w (by simpa using hown) (grown_refl _ _)
  | some ad =>
    obtain ⟨_, hnews⟩ := segp_news hseg
    refine wpList_append_own w hgd s x 58 ho B 59 i0 (.agg #[.int .u64 0, .int .u64 0]) 2 16 Try.underlying58 hi hz0 hz1 hz2 rfl (by decide) v ps.length (PV ps) hs hown ad qs.length cap (PV qs) hx (PV_len qs) hnews (PV_one qs) (by unfold maxLen; omega) hb hB ?_
    intro v' w' h1 h2 _
    exact h v' w' (by unfold OwnP; rw [PV_append, List.length_append]; exact h1) h2

theorem segp_one (w : World) (p : Nat × Nat) : SegP (w.alloc (.cells #[.int .u64 (p.1 : Int), .int .u64 (p.2 : Int)] 59)) (.slice (some ⟨w.heap.size, 0, none⟩) 1 1) [p] := by
  refine ⟨_, 1, rfl, by simp, by unfold maxLen; omega, by simp, fun j hj => ⟨w.heap.size, 0, rfl, ?_, ?_⟩⟩
  · have e : j = 0 := by simp at hj; omega
    subst e
    rw [cell_of_row _ _ _ _ _ _ (heap_alloc_new w _)]; rfl
  · have e : j = 0 := by simp at hj; omega
    subst e
    rw [cell_of_row _ _ _ _ _ _ (heap_alloc_new w _)]; rfl

theorem segp_one_at (w : World) (p : Nat × Nat) (n : Nat) (hn : w.heap.size = n) : SegP (w.alloc (.cells #[.int .u64 (p.1 : Int), .int .u64 (p.2 : Int)] 59)) (.slice (some ⟨n, 0, none⟩) 1 1) [p] := by
  subst hn
  exact segp_one w p
theorem size_alloc (w : World) (o : Obj) : (w.alloc o).heap.size = w.heap.size + 1 := by
  show (w.heap.push _).size = _
  simp

/-- So many pairs, one behind the other. -/
def rdManyP : Nat → List UInt8 → Option (List (Nat × Nat) × List UInt8)
  | 0, L => some ([], L)
  | n + 1, L => match rdManyP n L with
    | none => none
    | some (xs, M) => match rd2 M with
      | none => none
      | some (x, N) => some (xs ++ [x], N)

theorem rdManyP_len : ∀ (n : Nat) (L : List UInt8) (xs : List (Nat × Nat)) (M : List UInt8), rdManyP n L = some (xs, M) → xs.length = n ∧ n + M.length ≤ L.length
  | 0, L, xs, M, h => by simp [rdManyP] at h; obtain ⟨rfl, rfl⟩ := h; simp
  | n + 1, L, xs, M, h => by
    rw [rdManyP] at h
    cases h1 : rdManyP n L with
    | none => rw [h1] at h; simp at h
    | some y =>
      obtain ⟨ys, M1⟩ := y
      rw [h1] at h
      simp only at h
      cases h2 : rd2 M1 with
      | none => rw [h2] at h; simp at h
      | some z =>
        obtain ⟨x, k⟩ := z
        rw [h2] at h
        simp at h
        obtain ⟨rfl, rfl⟩ := h
        have h3 := rdManyP_len n L ys M1 h1
        have h4 := rd2_len h2
        simp; omega

theorem rdManyP_none : ∀ (j n : Nat) (L : List UInt8), rdManyP n L = none → rdManyP (n + j) L = none
  | 0, n, L, h => h
  | j + 1, n, L, h => by
    have := rdManyP_none j n L h
    rw [show n + (j + 1) = (n + j) + 1 by omega, rdManyP, this]

theorem pair_alloc (w : World) (x y u v : Value) : ((w.alloc (.cells #[x, y] 59)).setCell ⟨w.heap.size, 0, none⟩ u).setCell ⟨w.heap.size, 1, none⟩ v = w.alloc (.cells #[u, v] 59) := by
  rw [World.setCell_alloc_at _ _ _ _ _ rfl, World.setCell_alloc_at _ _ _ _ _ rfl]
  simp

set_option maxRecDepth 100000 in
set_option maxHeartbeats 1000000 in
theorem things56_none (b g : Nat) (n : Nat) (L : List UInt8) (w : World) (hr : RdG w b g L) (hbg : g < w.heap.size) (hbb : b < w.heap.size) (hn : n < 2 ^ 64) (hL : n ≤ 8796093022206) (h : rdManyP n L = none) :
    Calls Try.prog 56 #[.pointer (some ⟨b, 0, none⟩), .int .u64 n, .func (.func 32) #[] #[]] w fun e w' => e = .returned (.tuple #[.slice none 0 0, .int .i64 4]) ∧ (∃ M, Rd w' b M) ∧ w.grownBy w' (some b) := by
  have HN : Hid _ := h
  have hn64 : n ≤ 18446744073709551615 := by omega
  clear h hn
  go_enter Try.func56, Try.ntmps56
  go_wp2
  go_loopw [8, 12] (fun v i wr => ∃ (j : Nat) (xs : List (Nat × Nat)) (M : List UInt8), j ≤ n ∧ i = .int .u64 j ∧ Hid (rdManyP j L = some (xs, M)) ∧ OwnP wr w.heap.size v xs ∧ RdG wr b g M ∧ w.grownBy wr (some b)) (fun _ i _ => n - (intOf i).toNat)
  case atStart => exact ⟨0, [], L, by omega, rfl, rfl, OwnP.nil _ _, hr, grown_refl _ _⟩
  case round =>
    obtain ⟨j, xs, M, hj, rfl, HJ, hown, hrd, hg⟩ := hrel
    have hln := rdManyP_len j L xs M HJ.out
    have hsz := hg.size
    by_cases hlt : j < n
    · cases hsc : rd2 M with
      | none =>
        have HC : Hid _ := pair32_none b g M wr hrd (by omega) hsc
        have HG0 : Hid _ := hg
        clear hown hrd hg hln hsc hsz
        go_wp2_with fail
        refine Calls.mono HC.out ?_
        rintro e w1 ⟨x, y, rfl, ⟨M1, hrd1⟩, hg1⟩
        have S1 : Hid ((∃ M, Rd (w1.alloc (.cells #[.int .u64 x, .int .u64 y] 59)) b M) ∧ w.grownBy (w1.alloc (.cells #[.int .u64 x, .int .u64 y] 59)) (some b)) := by
          have ga := World.grownBy_alloc w1 (.cells #[.int .u64 (x : Int), .int .u64 (y : Int)] 59) none
          exact ⟨⟨_, (hrd1.kept ga (by simp) (by simp)).rd⟩, grown_trans (grown_trans HG0.out hg1) (grown_weak ga _)⟩
        clear hrd1 hg1
        go_wp2_with fail
        go_ret2
        exact ⟨rfl, S1.out⟩
      | some z =>
        obtain ⟨x, N⟩ := z
        have HC : Hid _ := pair32_some b g M wr x N hrd (by omega) hsc
        have HJ1 : Hid (rdManyP (j + 1) L = some (xs ++ [x], N)) := by unfold Hid; rw [rdManyP, HJ.out]; simp only [hsc]
        have S0 : Hid (OwnP wr w.heap.size u8 xs ∧ w.grownBy wr (some b) ∧ w.heap.size ≤ wr.heap.size) := ⟨hown, hg, hsz⟩
        have hxl : xs.length ≤ 8796093022206 := by omega
        clear hown hrd hg hln hsc hsz
        go_wp2_with fail
        refine Calls.mono HC.out ?_
        rintro e w1 ⟨rfl, hrd1, hg1⟩
        have S1 : Hid (OwnP (w1.alloc (.cells #[.int .u64 x.1, .int .u64 x.2] 59)) w.heap.size u8 xs ∧ RdG (w1.alloc (.cells #[.int .u64 x.1, .int .u64 x.2] 59)) b g N ∧ w.grownBy (w1.alloc (.cells #[.int .u64 x.1, .int .u64 x.2] 59)) (some b) ∧ w.heap.size ≤ (w1.alloc (.cells #[.int .u64 x.1, .int .u64 x.2] 59)).heap.size) := by
          have ga := World.grownBy_alloc w1 (.cells #[.int .u64 (x.1 : Int), .int .u64 (x.2 : Int)] 59) none
          obtain ⟨q1, q2, q3⟩ := S0.out
          exact ⟨(q1.keptB hg1 hbb).grown ga, hrd1.kept ga (by simp) (by simp), grown_trans (grown_trans q2 hg1) (grown_weak ga _), Nat.le_trans q3 (Nat.le_trans hg1.size ga.size)⟩
        clear hrd1 hg1 S0 HC
        go_wp2_with (at_builtin; refine app58 _ rfl (.tmp 23) (.tmp 25) rfl w.heap.size u8 xs _ [x] rfl rfl (S1.out.1.grown (World.grownBy_alloc _ _ none)) (segp_one_at _ x _ (size_alloc w1 _)) (by simp; omega) (by have h1 := S1.out.2.2.2; rw [size_alloc]; omega) ?_)
        intro v' w2 hown' hg'
        have S2 : Hid (OwnP w2 w.heap.size v' (xs ++ [x]) ∧ RdG w2 b g N ∧ w.grownBy w2 (some b)) := by
          obtain ⟨q1, q2, q3, q4⟩ := S1.out
          have ga := World.grownBy_alloc (w1.alloc (.cells #[.int .u64 (x.1 : Int), .int .u64 (x.2 : Int)] 59)) (.cells #[.int .u64 (x.1 : Int), .int .u64 (x.2 : Int)] 59) none
          exact ⟨hown', (q2.kept ga (by simp) (by simp)).kept hg' (ownp_ne q1 hbb) (ownp_ne q1 hbg), grown_new (grown_trans q3 (grown_weak ga _)) hg' (by intro y hy; have := q1.lt y hy; omega)⟩
        clear hown' hg' S1
        go_wp2_with fail
        obtain ⟨h1, h2, h3⟩ := S2.out
        go_roundw
        case rel => exact ⟨j + 1, xs ++ [x], N, by omega, by go_num, HJ1, h1, h2, h3⟩
        case measure => simp [intOf]; omega
    · exfalso
      have e : j = n := by omega
      subst e
      rw [HN.out] at HJ
      cases HJ.out

set_option maxRecDepth 100000 in
set_option maxHeartbeats 1000000 in
theorem things56_some (b g : Nat) (n : Nat) (L : List UInt8) (ys : List (Nat × Nat)) (N : List UInt8) (w : World) (hr : RdG w b g L) (hbg : g < w.heap.size) (hbb : b < w.heap.size) (hn : n < 2 ^ 64) (hL : n ≤ 8796093022206) (h : rdManyP n L = some (ys, N)) :
    Calls Try.prog 56 #[.pointer (some ⟨b, 0, none⟩), .int .u64 n, .func (.func 32) #[] #[]] w fun e w' => ∃ v, e = .returned (.tuple #[v, .int .i64 0]) ∧ OwnP w' w.heap.size v ys ∧ RdG w' b g N ∧ w.grownBy w' (some b) := by
  have HN : Hid _ := h
  have hn64 : n ≤ 18446744073709551615 := by omega
  clear h hn
  go_enter Try.func56, Try.ntmps56
  go_wp2
  go_loopw [8, 12] (fun v i wr => ∃ (j : Nat) (xs : List (Nat × Nat)) (M : List UInt8), j ≤ n ∧ i = .int .u64 j ∧ Hid (rdManyP j L = some (xs, M)) ∧ OwnP wr w.heap.size v xs ∧ RdG wr b g M ∧ w.grownBy wr (some b)) (fun _ i _ => n - (intOf i).toNat)
  case atStart => exact ⟨0, [], L, by omega, rfl, rfl, OwnP.nil _ _, hr, grown_refl _ _⟩
  case round =>
    obtain ⟨j, xs, M, hj, rfl, HJ, hown, hrd, hg⟩ := hrel
    have hln := rdManyP_len j L xs M HJ.out
    have hsz := hg.size
    by_cases hlt : j < n
    · cases hsc : rd2 M with
      | none =>
        exfalso
        have h1 : rdManyP (j + 1) L = none := by rw [rdManyP, HJ.out]; simp only [hsc]
        have h2 := rdManyP_none (n - (j + 1)) (j + 1) L h1
        rw [show j + 1 + (n - (j + 1)) = n by omega, HN.out] at h2
        cases h2
      | some z =>
        obtain ⟨x, N1⟩ := z
        have HC : Hid _ := pair32_some b g M wr x N1 hrd (by omega) hsc
        have HJ1 : Hid (rdManyP (j + 1) L = some (xs ++ [x], N1)) := by unfold Hid; rw [rdManyP, HJ.out]; simp only [hsc]
        have S0 : Hid (OwnP wr w.heap.size u8 xs ∧ w.grownBy wr (some b) ∧ w.heap.size ≤ wr.heap.size) := ⟨hown, hg, hsz⟩
        have hxl : xs.length ≤ 8796093022206 := by omega
        clear hown hrd hg hln hsc hsz
        go_wp2_with fail
        refine Calls.mono HC.out ?_
        rintro e w1 ⟨rfl, hrd1, hg1⟩
        have S1 : Hid (OwnP (w1.alloc (.cells #[.int .u64 x.1, .int .u64 x.2] 59)) w.heap.size u8 xs ∧ RdG (w1.alloc (.cells #[.int .u64 x.1, .int .u64 x.2] 59)) b g N1 ∧ w.grownBy (w1.alloc (.cells #[.int .u64 x.1, .int .u64 x.2] 59)) (some b) ∧ w.heap.size ≤ (w1.alloc (.cells #[.int .u64 x.1, .int .u64 x.2] 59)).heap.size) := by
          have ga := World.grownBy_alloc w1 (.cells #[.int .u64 (x.1 : Int), .int .u64 (x.2 : Int)] 59) none
          obtain ⟨q1, q2, q3⟩ := S0.out
          exact ⟨(q1.keptB hg1 hbb).grown ga, hrd1.kept ga (by simp) (by simp), grown_trans (grown_trans q2 hg1) (grown_weak ga _), Nat.le_trans q3 (Nat.le_trans hg1.size ga.size)⟩
        clear hrd1 hg1 S0 HC
        go_wp2_with (at_builtin; refine app58 _ rfl (.tmp 23) (.tmp 25) rfl w.heap.size u8 xs _ [x] rfl rfl (S1.out.1.grown (World.grownBy_alloc _ _ none)) (segp_one_at _ x _ (size_alloc w1 _)) (by simp; omega) (by have h1 := S1.out.2.2.2; rw [size_alloc]; omega) ?_)
        intro v' w2 hown' hg'
        have S2 : Hid (OwnP w2 w.heap.size v' (xs ++ [x]) ∧ RdG w2 b g N1 ∧ w.grownBy w2 (some b)) := by
          obtain ⟨q1, q2, q3, q4⟩ := S1.out
          have ga := World.grownBy_alloc (w1.alloc (.cells #[.int .u64 (x.1 : Int), .int .u64 (x.2 : Int)] 59)) (.cells #[.int .u64 (x.1 : Int), .int .u64 (x.2 : Int)] 59) none
          exact ⟨hown', (q2.kept ga (by simp) (by simp)).kept hg' (ownp_ne q1 hbb) (ownp_ne q1 hbg), grown_new (grown_trans q3 (grown_weak ga _)) hg' (by intro y hy; have := q1.lt y hy; omega)⟩
        clear hown' hg' S1
        go_wp2_with fail
        obtain ⟨h1, h2, h3⟩ := S2.out
        go_roundw
        case rel => exact ⟨j + 1, xs ++ [x], N1, by omega, by go_num, HJ1, h1, h2, h3⟩
        case measure => simp [intOf]; omega
    · have e : j = n := by omega
      subst e
      have e2 := HN.out
      rw [HJ.out] at e2
      simp at e2
      obtain ⟨rfl, rfl⟩ := e2
      have S1 : Hid _ := And.intro hown (And.intro hrd hg)
      clear hown hrd hg hln
      go_wp2_with fail
      go_ret2
      exact ⟨_, rfl, S1.out⟩
end Go.Proofs.Ytneppkbbnajpnaa
