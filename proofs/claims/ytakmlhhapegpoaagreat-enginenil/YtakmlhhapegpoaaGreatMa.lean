/-
  A map from names to blocks: what its block holds, a look, a store, a delete, going over it, in whatever order.
-/
import Derived.Test.YtakmlhhapegpoaaGreatNamesAll
import Derived.Test.YtakmlhhapegpoaaGreatTableAll
import Derived.Laws.IdiomRangeMap
import Derived.MapKept
import Derived.Carry
namespace Go.Proofs.YtakmlhhapegpoaaGreat
open Go.RowKit Disk Table Names

/-- A name and the block that its pointer leads to. -/
abbrev Ent := List UInt8 × Nat
def kv (e : MapEntry) : Value × Value := (e.key, e.val)
def ek (x : Ent) : Value × Value := (Str x.1, ptr x.2)

/-- The block m is a map with the entries E. -/
def MapAt (w : World) (m : Nat) (E : List Ent) : Prop :=
  ∃ es clock, w.heap[m]? = some (.map es clock) ∧ es.toList.map kv = E.map ek ∧ (∀ e ∈ es.toList, e.born < clock) ∧ (es.toList.map (·.born)).Nodup ∧ (E.map (·.1)).Nodup

theorem MapAt.lt {w : World} {m : Nat} {E : List Ent} (h : MapAt w m E) : m < w.heap.size := by
  obtain ⟨es, c, h1, _⟩ := h
  exact (Array.getElem?_eq_some_iff.1 h1).1
theorem MapAt.same {w w' : World} {m : Nat} {E : List Ent} (h : MapAt w m E) (hs : w'.heap[m]? = w.heap[m]?) : MapAt w' m E := by
  obtain ⟨es, c, h1, h2⟩ := h
  exact ⟨es, c, hs.trans h1, h2⟩
theorem MapAt.grown {w w' : World} {m : Nat} {E : List Ent} {r : Option Nat} (h : MapAt w m E) (hg : w.grownBy w' r) (hr : r ≠ some m) : MapAt w' m E :=
  h.same (hg.block m h.lt (fun e => hr e.symm))
theorem MapAt.nodup {w : World} {m : Nat} {E : List Ent} (h : MapAt w m E) : (E.map (·.1)).Nodup := by
  obtain ⟨_, _, _, _, _, _, h⟩ := h
  exact h
theorem Blk.notMap {w : World} {b t : Nat} {c : Array Value} {E : List Ent} (h : Blk w b t c) (hm : MapAt w b E) : False := by
  obtain ⟨_, _, h1, _⟩ := hm
  unfold Blk at h
  rw [h] at h1
  simp at h1

theorem str_inj {a b : List UInt8} (h : Str a = Str b) : a = b := by
  simp [Str] at h
  exact h
theorem str_beq (a b : List UInt8) : ((⟨a.toArray⟩ : ByteArray) == ⟨b.toArray⟩) = decide (a = b) := by
  by_cases h : a = b
  · subst h
    rw [decide_eq_true rfl]
    exact (MapKept.bytes_beq _ _).2 rfl
  · rw [decide_eq_false h]
    cases hc : ((⟨a.toArray⟩ : ByteArray) == ⟨b.toArray⟩) with
    | false => rfl
    | true =>
      have := (MapKept.bytes_beq _ _).1 hc
      exact absurd (by simpa using this) h

/-- Where a name stands. -/
def findP (E : List Ent) (n : List UInt8) : Option Nat := (E.find? (fun x => decide (x.1 = n))).map (·.2)
def ptrO : Option Nat → Value
  | none => .pointer none
  | some p => ptr p

theorem find_now (n : List UInt8) : ∀ (l : List MapEntry) (E : List Ent) (i : Nat), l.map kv = E.map ek →
    Instr.findNow .string (Str n) l i = some ((E.findIdx? (fun x => decide (x.1 = n))).map fun j => (i + j, ptrO (findP E n)))
  | [], E, i, h => by
    have : E = [] := by cases E with | nil => rfl | cons _ _ => simp at h
    subst this
    rfl
  | e :: l, E, i, h => by
    cases E with
    | nil => simp at h
    | cons x E =>
      simp only [List.map_cons, List.cons.injEq] at h
      obtain ⟨h1, h2⟩ := h
      simp only [kv, ek, Prod.mk.injEq] at h1
      unfold Instr.findNow
      rw [h1.1]
      simp only [Str, Instr.sameNow, str_beq]
      by_cases hx : n = x.1
      · subst hx
        simp [findP, h1.2, ptrO, List.findIdx?_cons]
      · have hx' : ¬ x.1 = n := fun e => hx e.symm
        simp only [decide_eq_false hx]
        rw [show Value.string ⟨n.toArray⟩ = Str n from rfl, find_now n l E (i + 1) h2]
        simp only [findP, List.find?_cons, decide_eq_false hx', List.findIdx?_cons]
        simp only [Bool.false_eq_true, if_false, Option.map_map]
        congr 2
        funext j
        simp [Nat.add_comm, Nat.add_left_comm]

theorem find_none {E : List Ent} {n : List UInt8} (h : E.findIdx? (fun x => decide (x.1 = n)) = none) : findP E n = none ∧ ∀ x ∈ E, x.1 ≠ n := by
  rw [List.findIdx?_eq_none_iff] at h
  have h' : ∀ x ∈ E, x.1 ≠ n := fun x hx e => by have := h x hx; simp [e] at this
  refine ⟨?_, h'⟩
  simp only [findP, Option.map_eq_none_iff, List.find?_eq_none]
  intro x hx
  simp [h' x hx]
theorem find_some {E : List Ent} {n : List UInt8} {i : Nat} (h : E.findIdx? (fun x => decide (x.1 = n)) = some i) : ∃ (hi : i < E.length), E[i].1 = n ∧ findP E n = some E[i].2 := by
  have h0 := h
  rw [List.findIdx?_eq_some_iff_getElem] at h
  obtain ⟨hi, h1, h2⟩ := h
  refine ⟨hi, by simpa using h1, ?_⟩
  have : E.find? (fun x => decide (x.1 = n)) = some E[i] := by
    rw [List.find?_eq_some_iff_getElem]
    exact ⟨h1, i, hi, rfl, fun j hj => by have := h2 j hj; simpa using this⟩
  simp [findP, this]

theorem ut62 : Tryz.prog.underlying 62 = some (.map 9 92) := by kernel_rfl
theorem ut9 : Tryz.prog.underlying 9 = some .string := by kernel_rfl
theorem zero92 (w : World) : (zeroValue 92).run Tryz.prog w = .ok (.pointer none) w := by kernel_rfl
theorem run_check9 (e : Bool) (w : World) (n : List UInt8) : (Instr.checkKey e 10000 9 (Str n)).run Tryz.prog w = .ok () w := by
  have key : ∀ d, (Instr.checkKey e (d + 1) 9 (Str n)).run Tryz.prog w = .ok () w := fun d => by
    simp only [Instr.checkKey, Sem.run_bind, run_underlying ut9, Result.andThen, Str]
    rfl
  exact key 9999
theorem run_find9 (w : World) (n : List UInt8) (l : List MapEntry) (E : List Ent) (h : l.map kv = E.map ek) :
    (Instr.findKey 9 (Str n) l).run Tryz.prog w = .ok ((E.findIdx? (fun x => decide (x.1 = n))).map fun j => (j, ptrO (findP E n))) w := by
  simp only [Instr.findKey, Sem.run_bind, run_underlying ut9, Result.andThen]
  rw [find_now n l E 0 h]
  simp only [Nat.zero_add]
  rfl

/-- m[n]; v, ok := m[n]. -/
theorem run_look {w : World} {m : Nat} {E : List Ent} (h : MapAt w m E) (n : List UInt8) (ok : Bool) :
    (Instr.lookup 62 (.map (some m)) (Str n) ok).run Tryz.prog w = .ok (if ok then .tuple #[ptrO (findP E n), .bool (findP E n).isSome] else ptrO (findP E n)) w := by
  obtain ⟨es, c, h1, h2, _⟩ := h
  cases hi : E.findIdx? (fun x => decide (x.1 = n)) with
  | none =>
    have := find_none hi
    cases ok <;> simp [Instr.lookup, run_underlying ut62, MapKept.run_getObj_map h1, run_check9, run_find9 w n _ E h2, hi, this.1, ptrO, Result.andThen]
  | some i =>
    obtain ⟨_, _, e⟩ := find_some hi
    cases ok <;> simp [Instr.lookup, run_underlying ut62, MapKept.run_getObj_map h1, run_check9, run_find9 w n _ E h2, hi, e, Result.andThen]

/-- m[n] = p; delete(m, n). -/
def setE (E : List Ent) (n : List UInt8) (p : Nat) : List Ent := if (findP E n).isSome then E.map (fun x => if x.1 = n then (n, p) else x) else E ++ [(n, p)]
def delE (E : List Ent) (n : List UInt8) : List Ent := E.filter (fun x => decide (x.1 ≠ n))

theorem run_setMap {w : World} {r : Nat} {es : Array MapEntry} {c : Nat} (o' : Obj) (h : w.heap[r]? = some (.map es c)) : ∃ w', (setObj r o').run Tryz.prog w = .ok () w' ∧ w'.heap[r]? = some o' ∧ w.grownBy w' (some r) ∧ w'.heap.size = w.heap.size := by
  have hlt := (Array.getElem?_eq_some_iff.1 h).1
  refine ⟨{ w with heap := w.heap.setIfInBounds r o' }, ?_, ?_, ⟨rfl, rfl, rfl, by simp, fun k hk hr => ?_⟩, by simp⟩
  · simp only [setObj, Sem.run, h]
  · simp [hlt]
  · show (w.heap.setIfInBounds r o')[k]? = _
    rw [Array.getElem?_setIfInBounds_ne (fun e => hr (by rw [e]))]

theorem born_modify (es : Array MapEntry) (i : Nat) (f : MapEntry → MapEntry) (hf : ∀ e, (f e).born = e.born) : (es.modify i f).toList.map (·.born) = es.toList.map (·.born) := by
  apply List.ext_getElem
  · simp
  · intro j h1 h2
    simp only [List.getElem_map, Array.toList_modify, List.getElem_modify]
    split <;> simp [hf]
theorem keys_set (E : List Ent) (n : List UInt8) (p : Nat) : (E.map (fun x => if x.1 = n then (n, p) else x)).map (·.1) = E.map (·.1) := by
  rw [List.map_map]
  refine List.map_congr_left fun x _ => ?_
  by_cases h : x.1 = n <;> simp [h]
theorem nodup_at {E : List Ent} (h : (E.map (·.1)).Nodup) {i j : Nat} (hi : i < E.length) (hj : j < E.length) (e : E[i].1 = E[j].1) : i = j := by
  have := List.pairwise_iff_getElem.1 h
  rcases Nat.lt_trichotomy i j with hl | hl | hl
  · exact (this i j (by simpa using hi) (by simpa using hj) hl (by simp [e])).elim
  · exact hl
  · exact (this j i (by simpa using hj) (by simpa using hi) hl (by simp [e])).elim
theorem run_put {w : World} {m : Nat} {E : List Ent} (h : MapAt w m E) (n : List UInt8) (p : Nat) :
    ∃ w', (Instr.mapUpdate 62 (.map (some m)) (Str n) (ptr p)).run Tryz.prog w = .ok () w' ∧ MapAt w' m (setE E n p) ∧ w.grownBy w' (some m) ∧ w'.heap.size = w.heap.size := by
  obtain ⟨es, c, h1, h2, h3, h4, h5⟩ := h
  have hlen : es.toList.length = E.length := by have := congrArg List.length h2; simpa using this
  cases hi : E.findIdx? (fun x => decide (x.1 = n)) with
  | none =>
    obtain ⟨e1, e2⟩ := find_none hi
    obtain ⟨w', r1, r2, r3, r4⟩ := run_setMap (.map (es.push { key := Str n, val := ptr p, born := c }) (c + 1)) h1
    refine ⟨w', ?_, ⟨_, _, r2, ?_, ?_, ?_, ?_⟩, r3, r4⟩
    · simp [Instr.mapUpdate, run_underlying ut62, MapKept.run_getObj_map h1, run_check9, run_find9 w n _ E h2, hi, r1, Result.andThen]
    · simp [setE, e1, h2, kv, ek]
    · intro e he
      simp at he
      rcases he with he | rfl
      · have := h3 e (by simpa using he); omega
      · simp
    · simp only [Array.toList_push, List.map_append, List.map_cons, List.map_nil]
      rw [List.nodup_append]
      refine ⟨h4, by simp, fun a ha b hb => ?_⟩
      simp at hb
      subst hb
      obtain ⟨e, he, rfl⟩ := List.mem_map.1 ha
      have := h3 e he
      omega
    · simp only [setE, e1, Option.isSome_none, Bool.false_eq_true, if_false, List.map_append, List.map_cons, List.map_nil]
      rw [List.nodup_append]
      refine ⟨h5, by simp, fun a ha b hb => ?_⟩
      simp at hb
      subst hb
      obtain ⟨x, hx, rfl⟩ := List.mem_map.1 ha
      exact e2 x hx
  | some i =>
    obtain ⟨hi', e1, e2⟩ := find_some hi
    have hie : i < es.size := by simpa using (by omega : i < es.toList.length)
    have hk : ((es[i]?).map (·.key)).getD (Str n) = Str n := by
      have := congrArg (fun l => l[i]?) h2
      simp only [List.getElem?_map] at this
      rw [List.getElem?_eq_getElem hi', List.getElem?_eq_getElem (by omega)] at this
      simp only [Option.map_some, Option.some.injEq, kv, ek, Prod.mk.injEq] at this
      rw [Array.getElem?_eq_getElem hie]
      simp only [Option.map_some, Option.getD_some]
      rw [← e1, ← this.1]
      simp
    obtain ⟨w', r1, r2, r3, r4⟩ := run_setMap (.map (es.modify i fun e => { e with key := Str n, val := ptr p }) c) h1
    refine ⟨w', ?_, ⟨_, _, r2, ?_, ?_, ?_, ?_⟩, r3, r4⟩
    · have hb : Instr.sameBits 10000 (Str n) (Str n) = true := by
        show Instr.sameBits (9999 + 1) (Str n) (Str n) = true
        unfold Str
        simp only [Instr.sameBits]
        exact (MapKept.bytes_beq _ _).2 rfl
      have hks : (Instr.keyThatStays (Str n) (Str n)).run Tryz.prog w = .ok (Str n) w := by
        simp only [Instr.keyThatStays, hb, if_true]
        rfl
      simp [Instr.mapUpdate, run_underlying ut62, MapKept.run_getObj_map h1, run_check9, run_find9 w n _ E h2, hi, hk, hks, r1, Result.andThen]
    · simp only [setE, e2, Option.isSome_some, if_true]
      apply List.ext_getElem
      · simpa using hlen
      · intro j g1 g2
        have gj : j < E.length := by simpa using g2
        have gj' : j < es.toList.length := by omega
        have hx : (es.toList.map kv)[j]'(by simpa using gj') = (E.map ek)[j]'(by simpa using gj) := by simp only [h2]
        simp only [List.getElem_map] at hx
        simp only [List.getElem_map]
        by_cases hj : i = j
        · subst hj
          simp [kv, ek, e1]
        · have hne : ¬ E[j].1 = n := fun e => hj (nodup_at h5 hi' gj (e1.trans e.symm))
          simp only [hne, if_false]
          rw [← hx]
          simp [hj]
    · intro e he
      have : e.born ∈ (es.modify i fun e => { e with key := Str n, val := ptr p }).toList.map (·.born) := List.mem_map.2 ⟨e, he, rfl⟩
      rw [born_modify es i (fun e => { e with key := Str n, val := ptr p }) (fun _ => rfl)] at this
      obtain ⟨x, hx, e⟩ := List.mem_map.1 this
      rw [← e]
      exact h3 x hx
    · rw [born_modify es i (fun e => { e with key := Str n, val := ptr p }) (fun _ => rfl)]
      exact h4
    · simp only [setE, e2, Option.isSome_some, if_true]
      rw [keys_set]
      exact h5
theorem map_erase {α β : Type} (f : α → β) : ∀ (l : List α) (i : Nat), (l.eraseIdx i).map f = (l.map f).eraseIdx i
  | [], i => by simp
  | x :: l, 0 => by simp
  | x :: l, i + 1 => by simp [map_erase f l i]
theorem filter_erase {E : List Ent} (h : (E.map (·.1)).Nodup) {n : List UInt8} {i : Nat} (hi : i < E.length) (e : E[i].1 = n) : E.filter (fun x => decide (x.1 ≠ n)) = E.eraseIdx i := by
  induction E generalizing i with
  | nil => simp at hi
  | cons x E ih =>
    simp only [List.map_cons, List.nodup_cons] at h
    cases i with
    | zero =>
      simp at e
      subst e
      simp only [List.eraseIdx_cons_zero, List.filter_cons, ne_eq, not_true, decide_false, Bool.false_eq_true, if_false]
      rw [List.filter_eq_self]
      intro y hy
      have : y.1 ≠ x.1 := fun e => h.1 (by rw [← e]; exact List.mem_map.2 ⟨y, hy, rfl⟩)
      simp [this]
    | succ i =>
      simp at e hi
      have hx : x.1 ≠ n := fun e' => h.1 (by rw [e', ← e]; exact List.mem_map.2 ⟨E[i], List.getElem_mem _, rfl⟩)
      simp only [List.eraseIdx_cons_succ, List.filter_cons, ne_eq, hx, not_false_eq_true, decide_true, if_true]
      rw [← ih h.2 hi e]
theorem run_del {w : World} {m : Nat} {E : List Ent} (h : MapAt w m E) (n : List UInt8) (ty : TypeId) :
    ∃ w', (Builtin.delete_ #[62, 9] ty #[.map (some m), Str n]).run Tryz.prog w = .ok (.tuple #[]) w' ∧ MapAt w' m (delE E n) ∧ w.grownBy w' (some m) ∧ w'.heap.size = w.heap.size := by
  obtain ⟨es, c, h1, h2, h3, h4, h5⟩ := h
  have hlen : es.toList.length = E.length := by have := congrArg List.length h2; simpa using this
  cases hi : E.findIdx? (fun x => decide (x.1 = n)) with
  | none =>
    obtain ⟨e1, e2⟩ := find_none hi
    obtain ⟨w', r1, r2, r3, r4⟩ := run_setMap (.map es c) h1
    have hd : delE E n = E := by
      unfold delE
      rw [List.filter_eq_self]
      intro x hx
      simp [e2 x hx]
    refine ⟨w', ?_, ⟨_, _, r2, ?_, h3, h4, ?_⟩, r3, r4⟩
    · simp [Builtin.delete_, run_underlying ut62, MapKept.run_getObj_map h1, run_check9, run_find9 w n _ E h2, hi, r1, Result.andThen]
    · rw [hd]; exact h2
    · rw [hd]; exact h5
  | some i =>
    obtain ⟨hi', e1, e2⟩ := find_some hi
    have hie : i < es.size := by simpa using (by omega : i < es.toList.length)
    obtain ⟨w', r1, r2, r3, r4⟩ := run_setMap (.map (es.eraseIdxIfInBounds i) c) h1
    have hd : delE E n = E.eraseIdx i := filter_erase h5 hi' e1
    have he : (es.eraseIdxIfInBounds i).toList = es.toList.eraseIdx i := by
      unfold Array.eraseIdxIfInBounds
      rw [dif_pos hie]
      simp
    refine ⟨w', ?_, ⟨_, _, r2, ?_, ?_, ?_, ?_⟩, r3, r4⟩
    · simp [Builtin.delete_, run_underlying ut62, MapKept.run_getObj_map h1, run_check9, run_find9 w n _ E h2, hi, r1, Result.andThen]
    · rw [he, hd, map_erase, map_erase, h2]
    · intro e hm
      rw [he] at hm
      exact h3 e ((List.eraseIdx_sublist _ _).subset hm)
    · rw [he, map_erase]
      exact (List.eraseIdx_sublist _ _).nodup h4
    · rw [hd, map_erase]
      exact (List.eraseIdx_sublist _ _).nodup h5
end Go.Proofs.YtakmlhhapegpoaaGreat
