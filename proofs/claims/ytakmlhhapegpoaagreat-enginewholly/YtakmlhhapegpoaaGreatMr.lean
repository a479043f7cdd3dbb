/-
  A call done to a database, on plain lists.
-/
import Derived.Test.YtakmlhhapegpoaaGreatMp
namespace Go.Proofs.YtakmlhhapegpoaaGreat
open Go.RowKit Disk Table
open Names (Str cmpL keyB valueB tabB)
open _root_.Go.Proofs.YtakmlhhapegpoaaGreat.Calls (POp POut PRes opV OpSeg mayOp)

/-- The ops, one behind the other; the first that is given up, its place and why. -/
def callD (q : Int × Int) (D : DB) (outs : List POut) : List POp → Except (Int × Nat) (List POut × DB)
  | [] => .ok (outs, D)
  | o :: l => match opD q D o with
    | .ok (r, D') => callD q D' (outs ++ [r]) l
    | .error c => .error (c, outs.length)

theorem sum_stand {D : DB} (h : RiseD D) (n : Bs) (r : List PRow) (f : List PRow → Nat) (hf : f [] = 0) : ((standD D n r).map (fun x => f x.2)).sum + f (rowsOf D n) = (D.map (fun x => f x.2)).sum + f r := by
  have hdel : ∀ (D : DB), RiseD D → ((delD D n).map (fun x => f x.2)).sum + f (rowsOf D n) = (D.map (fun x => f x.2)).sum := by
    intro D
    induction D with
    | nil => intro _; simp [delD, rowsOf, hf]
    | cons x D ih =>
      intro h
      have h' := List.pairwise_cons.1 h
      have ih := ih h'.2
      by_cases hx : x.1 = n
      · have hn : n ∉ namesD D := fun hm => by
          obtain ⟨y, hy, e⟩ := List.mem_map.1 hm
          have := h'.1 y hy
          rw [hx, e, Names.cmp_self] at this
          omega
        have hd : delD (x :: D) n = D := by
          unfold delD
          rw [List.filter_cons]
          simp only [hx, ne_eq, not_true, decide_false, Bool.false_eq_true, if_false]
          rw [List.filter_eq_self]
          intro y hy
          have : y.1 ≠ n := fun e => hn (by rw [← e]; exact List.mem_map.2 ⟨y, hy, rfl⟩)
          simp [this]
        rw [hd, rows_cons, if_pos hx]
        simp only [List.map_cons, List.sum_cons]
        omega
      · have hd : delD (x :: D) n = x :: delD D n := by simp [delD, hx]
        rw [hd, rows_cons, if_neg hx]
        simp only [List.map_cons, List.sum_cons]
        omega
  have hset : ∀ (D : DB), RiseD D → ((setD D n r).map (fun x => f x.2)).sum + f (rowsOf D n) = (D.map (fun x => f x.2)).sum + f r := by
    intro D
    induction D with
    | nil => intro _; simp [setD, rowsOf, hf]
    | cons x D ih =>
      intro h
      have h' := List.pairwise_cons.1 h
      have ih := ih h'.2
      unfold setD
      by_cases hx : x.1 = n
      · rw [if_pos hx, rows_cons, if_pos hx]
        simp only [List.map_cons, List.sum_cons]
        omega
      · rw [if_neg hx, rows_cons, if_neg hx]
        by_cases hc : cmpL n x.1 < 0
        · have hn : n ∉ namesD D := fun hm => by
            obtain ⟨y, hy, e⟩ := List.mem_map.1 hm
            have := Names.cmp_lt_trans (A := n) (B := x.1) (C := y.1) (by omega) (h'.1 y hy)
            rw [e, Names.cmp_self] at this
            omega
          rw [if_pos hc, rows_none hn, hf]
          simp only [List.map_cons, List.sum_cons]
          omega
        · rw [if_neg hc]
          simp only [List.map_cons, List.sum_cons]
          omega
  unfold standD
  split
  · rename_i hr
    rw [List.eq_nil_of_length_eq_zero hr, hf]
    exact hdel D h
  · exact hset D h
theorem size_del (l : List PRow) (k : Bs) : sizeL (delL l k) ≤ sizeL l := by
  unfold delL sizeL
  rw [List.map_append, List.sum_append]
  have h := end_ge l k
  conv => rhs; rw [← List.take_append_drop (rankL l k) l, List.map_append, List.sum_append]
  have : ((l.drop (endL l k)).map fun r => r.1.length + r.2.length).sum ≤ ((l.drop (rankL l k)).map fun r => r.1.length + r.2.length).sum := by
    have e : l.drop (endL l k) = (l.drop (rankL l k)).drop (endL l k - rankL l k) := by rw [List.drop_drop]; congr 1; omega
    rw [e]
    generalize l.drop (rankL l k) = M
    conv => rhs; rw [← List.take_append_drop (endL l k - rankL l k) M, List.map_append, List.sum_append]
    omega
  omega
/-- A database within its quota. -/
structure DbQ (q : Int × Int) (D : DB) : Prop where
  good : GoodD D
  may : mayQ q = true
  within : aboveD q D = 0
theorem DbQ.len {q : Int × Int} {D : DB} (h : DbQ q D) : (lenD D : Int) ≤ q.1 ∧ (sizeD D : Int) ≤ q.2 ∧ lenD D ≤ 4096 := by
  have h1 := h.within
  have h2 := h.may
  unfold mayQ at h2
  simp at h2
  unfold aboveD at h1
  split at h1
  · omega
  · split at h1
    · omega
    · omega
theorem dbq_of {q : Int × Int} {D D' : DB} (h : DbQ q D) (hg : GoodD D') (h1 : lenD D' ≤ lenD D) (h2 : sizeD D' ≤ sizeD D) : DbQ q D' := by
  refine ⟨hg, h.may, ?_⟩
  have := h.len
  unfold aboveD
  rw [if_neg (by omega), if_neg (by omega)]
theorem opD_ok {q : Int × Int} {D D' : DB} {o : POp} {r : POut} (h : DbQ q D) (hm : mayOp o = true) (ho : opD q D o = .ok (r, D')) : DbQ q D' := by
  have hl := h.len
  unfold opD at ho
  split at ho
  · simp at ho
    rw [← ho.2]
    exact h
  · split at ho
    · rename_i h3
      simp at ho
      rw [← ho.2]
      have e1 := sum_stand h.good.rise o.table (delL (rowsOf D o.table) o.key) List.length rfl
      have e2 := sum_stand h.good.rise o.table (delL (rowsOf D o.table) o.key) sizeL rfl
      have d1 := del_len (rowsOf D o.table) o.key
      have d2 := size_del (rowsOf D o.table) o.key
      refine dbq_of h (good_remD h.good (by omega)) ?_ ?_
      · unfold remD lenD
        omega
      · unfold remD sizeD
        omega
    · split at ho
      · simp at ho
        rw [← ho.2]
        exact h
      · rename_i h1 h3 h5
        split at ho
        · simp at ho
        · unfold putR at ho
          split at ho
          · rename_i ha
            simp at ho
            rw [← ho.2]
            refine ⟨good_putD h.good ?_ (by omega), h.may, ha⟩
            unfold okP
            rw [may_key hm h5, may_value hm]
            rfl
          · simp at ho
end Go.Proofs.YtakmlhhapegpoaaGreat
