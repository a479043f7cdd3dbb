/-
  What follows, on plain lists: halves, ranks, what is put is got, what is taken out is gone.
-/
import Derived.Test.YtlehikdlkdbacaaF
namespace Go.Proofs.Ytlehikdlkdbacaa
open Go.RowKit Disk
open Names (cmpL keyB valueB)

theorem rank_nil (l : List PRow) : rankL l [] = 0 := by
  cases l with
  | nil => rfl
  | cons r l =>
    rw [rank_cons, if_neg]
    rw [Names.cmp_nil_right]
    simp [Names.cmpN]
    split <;> omega
theorem scan_all (l : List PRow) : scanL l [] [] (l.length : Int) = l := by
  unfold scanL spanE
  rw [rank_nil]
  simp
theorem scan_below (l : List PRow) (k : Bs) (hk : k ≠ []) : scanL l [] k (l.length : Int) = l.take (rankL l k) := by
  unfold scanL spanE
  have h1 : ¬ k.length = 0 := fun e => hk (List.eq_nil_of_length_eq_zero e)
  have h2 := rank_le l k
  rw [rank_nil, if_neg h1, List.drop_zero]
  congr 1
  omega
theorem scan_above (l : List PRow) (k : Bs) : scanL l k [] (l.length : Int) = l.drop (rankL l k) := by
  unfold scanL spanE
  rw [if_pos (by simp)]
  refine List.take_of_length_le ?_
  have := rank_le l k
  simp
theorem rank_self {l : List PRow} (h : Rise l) {i : Nat} (hi : i < l.length) : rankL l l[i].1 = i := by
  refine rank_unique (Nat.le_of_lt hi) (fun j hj hji => h j i hj hi hji) (fun hk => ?_)
  rw [Names.cmp_self]
  omega
theorem rank_put {l : List PRow} (k v : Bs) : rankL (putL l k v) k = rankL l k := by
  have h1 := rank_le l k
  have hl : (l.take (rankL l k)).length = rankL l k := by rw [List.length_take]; omega
  refine rank_unique (by unfold putL; simp; omega) (fun i hi hik => ?_) (fun hk => ?_)
  · unfold putL at hi ⊢
    rw [List.getElem_append_left (by omega)]
    simp only [List.getElem_take]
    exact rank_lt hik (by omega)
  · unfold putL at hk ⊢
    rw [List.getElem_append_right (by omega)]
    simp only [hl, Nat.sub_self, List.getElem_cons_zero]
    rw [Names.cmp_self]
    omega
theorem put_at {l : List PRow} (k v : Bs) : (putL l k v)[rankL l k]? = some (k, v) := by
  have h1 := rank_le l k
  have hl : (l.take (rankL l k)).length = rankL l k := by rw [List.length_take]; omega
  unfold putL
  rw [List.getElem?_append_right (by omega), hl]
  simp
theorem has_put {l : List PRow} (k v : Bs) : hasL (putL l k v) k = true := by
  unfold hasL
  rw [rank_put, put_at]
  simp
theorem end_put {l : List PRow} (k v : Bs) : endL (putL l k v) k = rankL l k + 1 := by
  unfold endL
  rw [rank_put, if_pos (has_put k v)]
theorem del_put {l : List PRow} (k v : Bs) : delL (putL l k v) k = delL l k := by
  have h1 := rank_le l k
  have hl : (l.take (rankL l k)).length = rankL l k := by rw [List.length_take]; omega
  unfold delL
  rw [rank_put, end_put]
  unfold putL
  rw [List.take_append_of_le_length (by omega), List.take_of_length_le (by omega)]
  rw [List.drop_append]
  rw [List.drop_of_length_le (by omega), hl]
  simp
theorem rank_del {l : List PRow} (h : Rise l) (k : Bs) : rankL (delL l k) k = rankL l k := by
  have h1 := rank_le l k
  have hl : (l.take (rankL l k)).length = rankL l k := by rw [List.length_take]; omega
  refine rank_unique (by unfold delL; simp; omega) (fun i hi hik => ?_) (fun hk => ?_)
  · unfold delL at hi ⊢
    rw [List.getElem_append_left (by omega)]
    simp only [List.getElem_take]
    exact rank_lt hik (by omega)
  · unfold delL at hk ⊢
    rw [List.getElem_append_right (by omega)]
    simp only [hl, Nat.sub_self, List.getElem_drop]
    have h2 : endL l k + 0 < l.length := by simp at hk; omega
    have h3 := end_above h (k := k) h2 (by omega)
    have h4 := Names.cmp_flip k (l[endL l k + 0]).1
    omega
theorem has_del {l : List PRow} (h : Rise l) (k : Bs) : hasL (delL l k) k = false := by
  have h1 := rank_le l k
  have hl : (l.take (rankL l k)).length = rankL l k := by rw [List.length_take]; omega
  cases hh : hasL (delL l k) k
  · rfl
  · exfalso
    obtain ⟨h2, h3⟩ := has_iff.1 hh
    simp only [rank_del h] at h2 h3
    unfold delL at h2 h3
    rw [List.getElem_append_right (by omega)] at h3
    simp only [hl, Nat.sub_self, List.getElem_drop] at h3
    have h4 : endL l k + 0 < l.length := by simp at h2; omega
    have h5 := end_above h (k := k) h4 (by omega)
    rw [h3, Names.cmp_self] at h5
    omega
theorem del_none {l : List PRow} {k : Bs} (h : hasL l k = false) : delL l k = l := by
  unfold delL endL
  rw [h]
  simp
theorem del_ne {l : List PRow} {k : Bs} (h : hasL l k = true) : (delL l k).length = l.length - 1 ∧ 0 < l.length ∧ delL l k ≠ l := by
  have h1 := del_len l k
  obtain ⟨h2, _⟩ := has_iff.1 h
  rw [h, if_pos rfl] at h1
  refine ⟨h1, by omega, fun e => ?_⟩
  rw [e] at h1
  omega
theorem mem_put {l : List PRow} {k v : Bs} {r : PRow} (h : r ∈ putL l k v) : r = (k, v) ∨ r ∈ l := by
  unfold putL at h
  simp at h
  rcases h with h | h | h
  · exact .inr (List.mem_of_mem_take h)
  · exact .inl h
  · exact .inr (List.mem_of_mem_drop h)
theorem mem_del {l : List PRow} {k : Bs} {r : PRow} (h : r ∈ delL l k) : r ∈ l := by
  unfold delL at h
  simp at h
  rcases h with h | h
  · exact List.mem_of_mem_take h
  · exact List.mem_of_mem_drop h
theorem good_put {l : List PRow} (h : Good l) {k v : Bs} (hk : okP k v = true) (hz : l.length < 1000000) : Good (putL l k v) := by
  refine ⟨rise_put h.1 k v, fun r hr => ?_, by rw [put_len]; split <;> omega⟩
  rcases mem_put hr with rfl | hr
  · exact hk
  · exact h.2.1 r hr
theorem good_del {l : List PRow} (h : Good l) (k : Bs) : Good (delL l k) := by
  refine ⟨rise_del h.1 k, fun r hr => h.2.1 r (mem_del hr), ?_⟩
  have := h.2.2
  rw [del_len]
  split <;> omega
theorem good_vals {l : List PRow} (h : Good l) : ∀ r ∈ l, r.2.length ≤ 256 := fun r hr => (okP_len (h.2.1 r hr)).2.2
theorem got_put {l : List PRow} {k v : Bs} (hk : okP k v = true) : gotL (putL l k v) k = v ∧ getC (putL l k v) k = 0 := by
  have h1 : keyB k = true := by unfold okP at hk; simp at hk; exact hk.1
  unfold gotL getC
  rw [rank_put, put_at]
  simp [h1, has_put]
theorem got_del {l : List PRow} (h : Rise l) {k : Bs} (hk : keyB k = true) : getC (delL l k) k = 5 := by
  unfold getC
  simp [hk, has_del h]
end Go.Proofs.Ytlehikdlkdbacaa
