/-
  Tables on plain lists: where a key stands, what is put and taken out.
-/
import Derived.Test.YtlehikdlkdbacaaS2
namespace Go.Proofs.Ytlehikdlkdbacaa
open Go.RowKit Disk
open Names (cmpL)

theorem rank_cons (r : PRow) (l : List PRow) (key : Bs) : rankL (r :: l) key = if cmpL r.1 key < 0 then rankL l key + 1 else 0 := by
  unfold rankL
  rw [List.takeWhile_cons]
  by_cases h : cmpL r.1 key < 0 <;> simp [h]
theorem rank_lt : ∀ {l : List PRow} {key : Bs} {i : Nat} (_ : i < rankL l key) (hi : i < l.length), cmpL l[i].1 key < 0
  | [], _, _, _, hi => absurd hi (by simp)
  | r :: l, key, i, h, hi => by
    rw [rank_cons] at h
    split at h
    · rename_i hr
      cases i with
      | zero => exact hr
      | succ i => exact rank_lt (l := l) (by omega) (by simpa using hi)
    · omega
theorem rank_ge : ∀ {l : List PRow} {key : Bs} (h : rankL l key < l.length), ¬ cmpL l[rankL l key].1 key < 0
  | [], _, h => absurd h (by simp)
  | r :: l, key, h => by
    have e := rank_cons r l key
    split at e
    · have h2 : rankL l key < l.length := by rw [e] at h; simpa using h
      have := rank_ge h2
      simp only [e, List.getElem_cons_succ]
      exact this
    · rename_i hr
      simp only [e, List.getElem_cons_zero]
      exact hr

/-- Is there a row of that key? -/
def hasL (l : List PRow) (key : Bs) : Bool := (l[rankL l key]?).any fun r => decide (r.1 = key)
theorem has_iff {l : List PRow} {key : Bs} : hasL l key = true ↔ ∃ h : rankL l key < l.length, l[rankL l key].1 = key := by
  unfold hasL
  by_cases h : rankL l key < l.length
  · rw [List.getElem?_eq_getElem h]; simp [h]
  · rw [List.getElem?_eq_none (by omega)]; simp; intro h2; omega
def endL (l : List PRow) (key : Bs) : Nat := rankL l key + (if hasL l key = true then 1 else 0)
theorem end_le (l : List PRow) (key : Bs) : endL l key ≤ l.length := by
  unfold endL
  have := rank_le l key
  split
  · rename_i h
    obtain ⟨h, _⟩ := has_iff.1 h
    omega
  · omega
theorem end_ge (l : List PRow) (key : Bs) : rankL l key ≤ endL l key := by unfold endL; omega
theorem end_lt {l : List PRow} {key : Bs} : rankL l key < endL l key ↔ hasL l key = true := by
  unfold endL
  split
  · rename_i h; simp [h]
  · rename_i h; simp [h]

theorem cmp_pos {A B : Bs} (h : ¬ cmpL A B < 0) (hn : A ≠ B) : cmpL B A < 0 := by
  have h1 := Names.cmp_flip A B
  have h2 : cmpL A B ≠ 0 := fun e => hn (Names.cmp_zero e)
  omega
theorem rank_next {l : List PRow} (hr : Rise l) (key : Bs) : rankL l (key ++ [0]) = endL l key := by
  have na := Names.next_above key
  unfold endL
  split
  · rename_i h
    obtain ⟨hlt, he⟩ := has_iff.1 h
    refine rank_unique (by omega) (fun i hi hik => ?_) (fun hk => ?_)
    · rcases Nat.lt_or_ge i (rankL l key) with h1 | h1
      · exact Names.cmp_lt_trans (by have := rank_lt h1 hi; omega) (by omega : cmpL key (key ++ [0]) < 0)
      · have e : i = rankL l key := by omega
        subst e
        rw [he]
        omega
    · have h2 := hr (rankL l key) (rankL l key + 1) hlt hk (by omega)
      rw [he] at h2
      exact Names.next_least h2
  · rename_i h
    refine rank_unique (by have := rank_le l key; omega) (fun i hi hik => ?_) (fun hk => ?_)
    · exact Names.cmp_lt_trans (by have := rank_lt (i := i) (by omega) hi; omega) (by omega : cmpL key (key ++ [0]) < 0)
    · have hk' : rankL l key < l.length := hk
      have hne : l[rankL l key].1 ≠ key := fun e => h (has_iff.2 ⟨hk', e⟩)
      exact Names.next_least (cmp_pos (rank_ge hk') hne)

def putL (l : List PRow) (k v : Bs) : List PRow := l.take (rankL l k) ++ ((k, v) :: l.drop (endL l k))
def delL (l : List PRow) (k : Bs) : List PRow := l.take (rankL l k) ++ l.drop (endL l k)
theorem put_len (l : List PRow) (k v : Bs) : (putL l k v).length = l.length + 1 - (if hasL l k = true then 1 else 0) := by
  have h1 := rank_le l k
  have h2 := end_le l k
  unfold putL
  have h3 : endL l k = rankL l k + (if hasL l k = true then 1 else 0) := rfl
  by_cases hh : hasL l k = true
  · rw [if_pos hh] at h3 ⊢
    simp
    omega
  · rw [if_neg hh] at h3 ⊢
    simp
    omega
theorem del_len (l : List PRow) (k : Bs) : (delL l k).length = l.length - (if hasL l k = true then 1 else 0) := by
  have h1 := rank_le l k
  have h2 := end_le l k
  unfold delL
  have h3 : endL l k = rankL l k + (if hasL l k = true then 1 else 0) := rfl
  by_cases hh : hasL l k = true
  · rw [if_pos hh] at h3 ⊢
    simp
    omega
  · rw [if_neg hh] at h3 ⊢
    simp
    omega
/-- Where a range's rows end. -/
def spanE (l : List PRow) (F T : Bs) : Nat := if T.length = 0 then l.length else max (rankL l F) (rankL l T)
theorem span_le (l : List PRow) (F T : Bs) : spanE l F T ≤ l.length := by
  unfold spanE
  have := rank_le l F
  have := rank_le l T
  split <;> omega
theorem span_ge (l : List PRow) (F T : Bs) : rankL l F ≤ spanE l F T := by
  unfold spanE
  have := rank_le l F
  split <;> omega
theorem span_row {l : List PRow} (hr : Rise l) (key : Bs) : spanE l key (key ++ [0]) = endL l key := by
  unfold spanE
  rw [rank_next hr, if_neg (by simp)]
  have := end_ge l key
  omega

/-- Rising rows, by what stands where. -/
theorem rise_append {a b : List PRow} (ha : Rise a) (hb : Rise b) (h : ∀ (i j : Nat) (hi : i < a.length) (hj : j < b.length), cmpL a[i].1 b[j].1 < 0) : Rise (a ++ b) := by
  intro i j hi hj hij
  rw [List.getElem_append, List.getElem_append]
  split <;> split
  · exact ha _ _ _ _ hij
  · exact h _ _ _ _
  · omega
  · exact hb _ _ _ _ (by omega)
theorem rise_take {l : List PRow} (h : Rise l) (k : Nat) : Rise (l.take k) := by
  intro i j hi hj hij
  simp only [List.getElem_take]
  exact h _ _ _ _ hij
theorem rise_drop {l : List PRow} (h : Rise l) (k : Nat) : Rise (l.drop k) := by
  intro i j hi hj hij
  simp only [List.getElem_drop]
  exact h _ _ _ _ (by omega)
theorem rise_one (r : PRow) : Rise [r] := fun i j hi hj hij => by simp at hi hj; omega
theorem end_above {l : List PRow} (hr : Rise l) {k : Bs} {j : Nat} (hj : j < l.length) (h : endL l k ≤ j) : cmpL k l[j].1 < 0 := by
  unfold endL at h
  split at h
  · rename_i hh
    obtain ⟨hlt, he⟩ := has_iff.1 hh
    have := hr (rankL l k) j hlt hj (by omega)
    rw [he] at this
    exact this
  · rename_i hh
    have hlt : rankL l k < l.length := by omega
    have hne : l[rankL l k].1 ≠ k := fun e => hh (has_iff.2 ⟨hlt, e⟩)
    have h1 := cmp_pos (rank_ge hlt) hne
    rcases Nat.lt_or_ge (rankL l k) j with h2 | h2
    · exact Names.cmp_lt_trans (by omega) (hr _ _ hlt hj h2)
    · have e : j = rankL l k := by omega
      subst e
      exact h1
theorem rise_put {l : List PRow} (h : Rise l) (k v : Bs) : Rise (putL l k v) := by
  unfold putL
  refine rise_append (rise_take h _) (rise_append (a := [(k, v)]) (rise_one _) (rise_drop h _) ?_) ?_
  · intro i j hi hj
    simp at hi
    subst hi
    simp only [List.getElem_drop, List.getElem_cons_zero]
    exact end_above h _ (by omega)
  · intro i j hi hj
    simp only [List.getElem_take]
    simp at hi
    have h1 := rank_lt (l := l) (key := k) (i := i) (by omega) (by omega)
    cases j with
    | zero => exact h1
    | succ j =>
      simp only [List.getElem_cons_succ, List.getElem_drop]
      simp at hj
      exact Names.cmp_lt_trans (Int.le_of_lt h1) (end_above h (by omega) (by omega))
theorem rise_del {l : List PRow} (h : Rise l) (k : Bs) : Rise (delL l k) := by
  unfold delL
  refine rise_append (rise_take h _) (rise_drop h _) ?_
  intro i j hi hj
  simp only [List.getElem_take, List.getElem_drop]
  simp at hi hj
  have h1 := rank_lt (l := l) (key := k) (i := i) (by omega) (by omega)
  exact Names.cmp_lt_trans (Int.le_of_lt h1) (end_above h (by omega) (by omega))
end Go.Proofs.Ytlehikdlkdbacaa
