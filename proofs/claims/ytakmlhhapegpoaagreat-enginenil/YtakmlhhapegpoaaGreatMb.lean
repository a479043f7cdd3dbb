/-
  Going over a map from names to blocks, in whatever order; a map made, a map cloned.
-/
import Derived.Test.YtakmlhhapegpoaaGreatMa
import Derived.Laws.Externs
namespace Go.Proofs.YtakmlhhapegpoaaGreat
open Go.RowKit Disk Table Names

theorem run_made (w : World) : (Instr.makeMap 62 none).run Tryz.prog w = .ok (.map (some w.heap.size)) (w.alloc (.map #[] 0)) := run_makeMap 62 w
theorem map_made (w : World) : MapAt (w.alloc (.map #[] 0)) w.heap.size [] := ⟨#[], 0, heap_alloc_new _ _, rfl, by simp, by simp, by simp⟩
theorem MapAt.clone {w : World} {m : Nat} {E : List Ent} (h : MapAt w m E) : ∃ es c, w.heap[m]? = some (.map es c) ∧ MapAt (w.alloc (.map es c)) w.heap.size E := by
  obtain ⟨es, c, h1, h2⟩ := h
  exact ⟨es, c, h1, es, c, heap_alloc_new _ _, h2⟩
theorem run_len62 {w : World} {m : Nat} {E : List Ent} (h : MapAt w m E) (ty : TypeId) : (Builtin.len_ #[62] ty #[.map (some m)]).run Tryz.prog w = .ok (.int .i64 (E.length : Int)) w := by
  obtain ⟨es, c, h1, h2, _⟩ := h
  have hlen : es.size = E.length := by have := congrArg List.length h2; simpa using this
  simp [Builtin.len_, run_underlying ut62, MapKept.run_getObj_map h1, hlen]
  rfl

/-- An iterator in the block it, over the map m with the entries E: those of 'left' are still to come. -/
def IterAt (w : World) (it m : Nat) (E left : List Ent) : Prop :=
  ∃ es clock seen c0, w.heap[m]? = some (.map es clock) ∧ w.heap[it]? = some (.mapIter (some m) clock seen c0) ∧ es.toList.map kv = E.map ek ∧ (∀ e ∈ es.toList, e.born < clock) ∧ (es.toList.map (·.born)).Nodup ∧ clock ≤ c0 ∧ (leftOf es seen).toList.map kv = left.map ek

theorem IterAt.grown {w w' : World} {it m : Nat} {E left : List Ent} {r : Option Nat} (h : IterAt w it m E left) (hg : w.grownBy w' r) (h1 : r ≠ some m) (h2 : r ≠ some it) : IterAt w' it m E left := by
  obtain ⟨es, c, seen, c0, e1, e2, e3⟩ := h
  exact ⟨es, c, seen, c0, (hg.block m (Array.getElem?_eq_some_iff.1 e1).1 (fun e => h1 e.symm)).trans e1, (hg.block it (Array.getElem?_eq_some_iff.1 e2).1 (fun e => h2 e.symm)).trans e2, e3⟩

theorem run_range62 {w : World} {m : Nat} {E : List Ent} (h : MapAt w m E) : ∃ w', (Instr.range 62 (.map (some m))).run Tryz.prog w = .ok (.pointer (some ⟨w.heap.size, 0, none⟩)) w' ∧ IterAt w' w.heap.size m E E ∧ w.grownBy w' none ∧ w'.heap.size = w.heap.size + 1 := by
  have hlt := h.lt
  obtain ⟨es, c, h1, h2, h3, h4, h5⟩ := h
  refine ⟨_, run_range_map w 62 9 92 m es c ut62 h1, ⟨es, c, #[], c, ?_, heap_alloc_new _ _, h2, h3, h4, Nat.le_refl _, ?_⟩, World.grownBy_alloc _ _ _, by simp⟩
  · rw [heap_alloc_old _ _ hlt, h1]
  · simp only [leftOf, Array.toList_filter]
    rw [List.filter_eq_self.2 (by simp), h2]
theorem run_next_no {w : World} {it m : Nat} {E : List Ent} (h : IterAt w it m E []) (ty : TypeId) : (Instr.next (.pointer (some ⟨it, 0, none⟩)) false ty).run Tryz.prog w = .ok (.tuple #[.bool false]) w := by
  obtain ⟨es, c, seen, c0, h1, h2, h3, h4, h5, h6, h7⟩ := h
  have h0 : leftOf es seen = #[] := by
    have := congrArg List.length h7
    simp at this
    exact this
  unfold leftOf at h0
  simp only [Instr.next, getObj, Sem.run_bind, Sem.run, h2, h1, Result.andThen, next_test_false seen es c c0 h4 h6, Bool.false_eq_true, if_false, h0]
  simp [choose, Sem.run, Question.forced]
theorem left_push (es : Array MapEntry) (seen : Array Nat) (b : Nat) : leftOf es (seen.push b) = (leftOf es seen).filter (fun e => decide (e.born ≠ b)) := by
  unfold leftOf
  rw [Array.filter_filter]
  congr 1
  funext e
  simp only [Array.contains_push]
  by_cases h : e.born = b <;> simp [h]
theorem left_ek {E : List Ent} {_l : List Value} (x : Value × Value) (hx : x ∈ E.map ek) : ∃ y ∈ E, ek y = x := by
  obtain ⟨y, hy, e⟩ := List.mem_map.1 hx
  exact ⟨y, hy, e⟩
theorem filter_born : ∀ (l : List MapEntry) (j : Nat) (hj : j < l.length), (l.map (·.born)).Nodup → l.filter (fun e => decide (e.born ≠ l[j].born)) = l.eraseIdx j
  | e :: l, 0, _, h => by
    simp only [List.map_cons, List.nodup_cons] at h
    simp only [List.getElem_cons_zero, List.eraseIdx_cons_zero, List.filter_cons, ne_eq, not_true, decide_false, Bool.false_eq_true, if_false]
    rw [List.filter_eq_self]
    intro y hy
    have : y.born ≠ e.born := fun e' => h.1 (by rw [← e']; exact List.mem_map.2 ⟨y, hy, rfl⟩)
    simp [this]
  | e :: l, j + 1, hj, h => by
    simp only [List.map_cons, List.nodup_cons] at h
    simp only [List.length_cons, Nat.add_lt_add_iff_right] at hj
    have hx : e.born ≠ l[j].born := fun e' => h.1 (by rw [e']; exact List.mem_map.2 ⟨l[j], List.getElem_mem _, rfl⟩)
    simp only [List.getElem_cons_succ, List.eraseIdx_cons_succ, List.filter_cons, ne_eq, hx, not_false_eq_true, decide_true, if_true]
    rw [← filter_born l j hj h.2]
theorem perm_at : ∀ (l : List Ent) (j : Nat) (hj : j < l.length), l.Perm (l[j] :: l.eraseIdx j)
  | x :: l, 0, _ => by simp
  | x :: l, j + 1, hj => by
    simp only [List.getElem_cons_succ, List.eraseIdx_cons_succ]
    exact ((perm_at l j (by simpa using hj)).cons x).trans (List.Perm.swap _ _ _)
/-- The next entry: one of those that are left, whichever; what is left behind it. -/
theorem run_next_some {w : World} {it m : Nat} {E left : List Ent} (h : IterAt w it m E left) (hne : left ≠ []) (ty : TypeId) :
    ∃ (x : Ent) (left' : List Ent) (w' : World), left.Perm (x :: left') ∧ (Instr.next (.pointer (some ⟨it, 0, none⟩)) false ty).run Tryz.prog w = .ok (.tuple #[.bool true, Str x.1, ptr x.2]) w' ∧
      (Instr.entry (.pointer (some ⟨it, 0, none⟩))).run Tryz.prog w' = .ok (.tuple #[Str x.1, ptr x.2]) w' ∧ IterAt w' it m E left' ∧ w.grownBy w' (some it) ∧ w'.heap.size = w.heap.size := by
  obtain ⟨es, c, seen, c0, h1, h2, h3, h4, h5, h6, h7⟩ := h
  have hit := (Array.getElem?_eq_some_iff.1 h2).1
  have hmne : m ≠ it := fun e => by subst e; rw [h1] at h2; simp at h2
  have hlen : (leftOf es seen).size = left.length := by have := congrArg List.length h7; simpa using this
  have hsub : (leftOf es seen).toList.Sublist es.toList := by
    unfold leftOf
    rw [Array.toList_filter]
    exact List.filter_sublist
  have hnd : ((leftOf es seen).toList.map (·.born)).Nodup := (hsub.map _).nodup h5
  have hpush := left_push es seen
  simp only [Instr.next, getObj, Sem.run_bind, Sem.run, h2, h1, Result.andThen, next_test_false seen es c c0 h4 h6, Bool.false_eq_true, if_false]
  unfold leftOf at h7 hlen hnd hsub hpush
  have hmem : ∀ x ∈ (Array.filter (fun e => !seen.contains e.born) es).toList, x.born < c := fun x hx => h4 x (hsub.subset hx)
  generalize Array.filter (fun e => !seen.contains e.born) es = L at hmem h7 hlen hnd hsub hpush ⊢
  have e1 : L.filter (fun x => decide (x.born < c)) = L := Array.filter_eq_self.2 (fun x hx => by simpa using hmem x (by simpa using hx))
  have e2 : L.filter (fun x => decide (x.born ≥ c)) = #[] := by
    rw [Array.filter_eq_empty_iff]
    intro x hx
    have := hmem x (by simpa using hx)
    simp
    omega
  simp only [e1, e2, Array.append_empty]
  have h0 : L.size ≠ 0 := by
    intro e
    rw [hlen] at e
    exact hne (List.eq_nil_of_length_eq_zero e)
  have hne' : L.isEmpty = false := by simp [Array.isEmpty, h0]
  simp only [hne', Bool.false_eq_true, if_false, Array.empty_append, Array.size_map]
  have hch : ∃ (j : Nat) (w1 : World), j < L.size ∧ w1.heap = w.heap ∧ w.grownBy w1 none ∧ (choose (Question.mapNext L.size)).run Tryz.prog w = .ok j w1 := by
    by_cases hf : L.size ≤ 1
    · exact ⟨0, w, by omega, rfl, grown_refl _ _, by simp [choose, Sem.run, Question.forced, hf]⟩
    · exact ⟨_, w.drew, Nat.mod_lt _ (by omega), rfl, grown_drew _ _, by
        simp only [choose, Sem.run, Question.forced, decide_eq_true_eq, hf, if_false, Question.cut]
        rfl⟩
  obtain ⟨j, w1, hj, hw1, hg1, hrun⟩ := hch
  have hjl : j < left.length := by omega
  have hkv : kv L[j] = ek left[j] := by
    have : (L.toList.map kv)[j]'(by simpa using hj) = (left.map ek)[j]'(by simpa using hjl) := by simp only [h7]
    simpa using this
  simp only [kv, ek, Prod.mk.injEq] at hkv
  have hw2 : ∃ w2 : World, (setObj it (.mapIter (some m) c (seen.push L[j].born) c)).run Tryz.prog w1 = .ok () w2 ∧ w2.heap[it]? = some (.mapIter (some m) c (seen.push L[j].born) c) ∧ w1.grownBy w2 (some it) ∧ w2.heap.size = w1.heap.size := by
    have h2' : w1.heap[it]? = some (.mapIter (some m) c seen c0) := by rw [hw1]; exact h2
    refine ⟨{ w1 with heap := w1.heap.setIfInBounds it (.mapIter (some m) c (seen.push L[j].born) c) }, ?_, ?_, ⟨rfl, rfl, rfl, by simp, fun k hk hr => ?_⟩, by simp⟩
    · simp only [setObj, Sem.run, h2']
    · simp [hw1, hit]
    · show (w1.heap.setIfInBounds it _)[k]? = _
      rw [Array.getElem?_setIfInBounds_ne (fun e => hr (by rw [e]))]
  obtain ⟨w2, r1, r2, r3, r4⟩ := hw2
  have hg : w.grownBy w2 (some it) := grown_trans (grown_weak hg1 _) r3
  have hm2 : w2.heap[m]? = some (.map es c) := (hg.block m (Array.getElem?_eq_some_iff.1 h1).1 (fun e => hmne (by simpa using e))).trans h1
  refine ⟨left[j], left.eraseIdx j, w2, ?_, ?_, ?_, ⟨es, c, seen.push L[j].born, c, hm2, r2, h3, h4, h5, Nat.le_refl _, ?_⟩, hg, by rw [r4, hw1]⟩
  · exact perm_at left j hjl
  · simp only [hrun, Array.getElem?_map, Array.getElem?_eq_getElem hj, Option.map_some, Sem.run_bind, r1, Result.andThen]
    rw [hkv.1, hkv.2]
    rfl
  · have hle : L[j] ∈ es.toList := hsub.subset (by simp)
    have hf : es.find? (·.born == L[j].born) = some L[j] := by rw [← Array.find?_toList]; exact find_born L[j] es.toList h5 hle
    simp only [Instr.entry, getObj, Sem.run_bind, Sem.run, r2, hm2, Result.andThen, Array.back?_push, bne_self_eq_false, Bool.false_eq_true, if_false, hf]
    rw [hkv.1, hkv.2]
    rfl
  · rw [show leftOf es (seen.push L[j].born) = L.filter (fun e => decide (e.born ≠ L[j].born)) from hpush _]
    rw [Array.toList_filter]
    have := filter_born L.toList j (by simpa using hj) hnd
    simp only [Array.getElem_toList] at this
    rw [this, map_erase, map_erase, h7]
end Go.Proofs.YtakmlhhapegpoaaGreat
