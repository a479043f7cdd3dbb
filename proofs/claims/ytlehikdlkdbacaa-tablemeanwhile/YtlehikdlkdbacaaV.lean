/-
  Slices of elements of one or more cells: what they read as (Vec), one to which can be appended (Apn: a row of the call's own, or one that is full), append.
-/
import Derived.Test.YtlehikdlkdbacaaDiskAll
import Derived.Test.YtlehikdlkdbacaaNamesAll
import Derived.ArgAppend
import Derived.Deep.DeepCutAuto
namespace Go.Proofs.Ytlehikdlkdbacaa
open Go.RowKit Disk

/-- The slice v has n elements of size cells each: xs. -/
def Vec (w : World) (size : Nat) (v : Value) (n : Nat) (xs : List Value) : Prop :=
  ∃ ao cap, v = .slice ao n cap ∧ n ≤ cap ∧ cap ≤ maxLen ∧ (ao = none → cap = 0) ∧ xs.length = n * size ∧ ∀ j u, xs[j]? = some u → ∃ b off, ao = some ⟨b, off, none⟩ ∧ w.cell? ⟨b, off + j, none⟩ = some u

theorem Vec.grown {w w' : World} {size n : Nat} {v : Value} {xs : List Value} (h : Vec w size v n xs) (hg : w.grownBy w' none) : Vec w' size v n xs := by
  obtain ⟨ao, cap, h1, h2, h3, h4, h5, h6⟩ := h
  refine ⟨ao, cap, h1, h2, h3, h4, h5, fun j u hj => ?_⟩
  obtain ⟨b, off, e, hc⟩ := h6 j u hj
  exact ⟨b, off, e, hg.cell hc (by simp)⟩
theorem Vec.cells {w w' : World} {size n : Nat} {v : Value} {xs : List Value} (h : Vec w size v n xs) (hc : ∀ b j u, u ∈ xs → w.cell? ⟨b, j, none⟩ = some u → w'.cell? ⟨b, j, none⟩ = some u) : Vec w' size v n xs := by
  obtain ⟨ao, cap, h1, h2, h3, h4, h5, h6⟩ := h
  refine ⟨ao, cap, h1, h2, h3, h4, h5, fun j u hj => ?_⟩
  obtain ⟨b, off, e, hcc⟩ := h6 j u hj
  exact ⟨b, off, e, hc _ _ _ (List.mem_of_getElem? hj) hcc⟩
theorem Vec.shape {w : World} {size n : Nat} {v : Value} {xs : List Value} (h : Vec w size v n xs) : ∃ ao cap, v = .slice ao n cap ∧ n ≤ cap ∧ cap ≤ 9223372036854775807 := by
  obtain ⟨ao, cap, h1, h2, h3, _⟩ := h
  unfold maxLen at h3
  exact ⟨ao, cap, h1, h2, by omega⟩
theorem vec_nil (w : World) (size : Nat) : Vec w size (.slice none 0 0) 0 [] := ⟨none, 0, rfl, Nat.le_refl _, Nat.zero_le _, fun _ => rfl, by simp, fun j u h => by simp at h⟩
theorem Vec.at {w : World} {size n cap : Nat} {ao : Option Addr} {xs : List Value} (h : Vec w size (.slice ao n cap) n xs) (j : Nat) (u : Value) (hj : xs[j]? = some u) : ∃ b off, ao = some ⟨b, off, none⟩ ∧ w.cell? ⟨b, off + j, none⟩ = some u := by
  obtain ⟨ao', cap', h1, _, _, _, _, h6⟩ := h
  simp at h1
  obtain ⟨rfl, rfl⟩ := h1
  exact h6 j u hj
/-- A beginning; its capacity is what it is said to be. -/
theorem Vec.take {w : World} {size n cap : Nat} {ao : Option Addr} {xs : List Value} (h : Vec w size (.slice ao n cap) n xs) (k c : Nat) (hk : k ≤ n) (hkc : k ≤ c) (hc : c ≤ cap) : Vec w size (.slice ao k c) k (xs.take (k * size)) := by
  obtain ⟨ao', cap', h1, h2, h3, h4, h5, h6⟩ := h
  simp at h1
  obtain ⟨rfl, rfl⟩ := h1
  refine ⟨ao, c, rfl, hkc, by omega, fun e => by have := h4 e; omega, ?_, fun j u hj => ?_⟩
  · rw [List.length_take, h5]
    exact Nat.min_eq_left (Nat.mul_le_mul_right _ hk)
  · rw [List.getElem?_take] at hj
    split at hj
    · exact h6 j u hj
    · simp at hj
/-- What is behind a beginning. -/
theorem Vec.drop {w : World} {size n cap : Nat} {ao : Option Addr} {xs : List Value} (h : Vec w size (.slice ao n cap) n xs) (k : Nat) (_hk : k ≤ n) (ao' : Option Addr) (c : Nat) (ha : ao' = none → c = 0) (hao : ∀ b off, ao = some ⟨b, off, none⟩ → k < n → ao' = some ⟨b, off + k * size, none⟩) (hc : n - k ≤ c) (hc' : c ≤ maxLen) : Vec w size (.slice ao' (n - k) c) (n - k) (xs.drop (k * size)) := by
  obtain ⟨ao1, cap', h1, h2, h3, h4, h5, h6⟩ := h
  simp at h1
  obtain ⟨rfl, rfl⟩ := h1
  refine ⟨ao', c, rfl, hc, hc', ha, ?_, fun j u hj => ?_⟩
  · rw [List.length_drop, h5, Nat.sub_mul]
  · rw [List.getElem?_drop] at hj
    obtain ⟨b, off, e, hcc⟩ := h6 _ u hj
    have hlt := (List.getElem?_eq_some_iff.1 hj).1
    have hkn : k < n := by
      rcases Nat.lt_or_ge k n with h | h
      · exact h
      · exfalso
        have := Nat.mul_le_mul_right size h
        omega
    exact ⟨b, off + k * size, hao b off e hkn, by rw [Nat.add_assoc]; exact hcc⟩

/-- One to which can be appended: what is written is written behind B. -/
def Apn (w : World) (B e size : Nat) (v : Value) (n : Nat) (xs : List Value) : Prop :=
  w.ownsRow B e size v n xs ∨ ((∃ ao, v = .slice ao n n) ∧ Vec w size v n xs)

theorem vec_of_owns {w : World} {B e size n : Nat} {v : Value} {xs : List Value} (h : w.ownsRow B e size v n xs) : Vec w size v n xs := by
  rcases h.2 with ⟨rfl, rfl⟩ | ⟨g, cap, cur, rfl, hb, hg, h1, h2, h3, h4⟩
  · have hx : xs = [] := List.eq_nil_of_length_eq_zero (by rw [h.1]; simp)
    subst hx
    exact vec_nil _ _
  · refine ⟨_, cap, rfl, h1, h2, by simp, h.1, fun j u hj => ⟨g, 0, rfl, ?_⟩⟩
    have hlt := (List.getElem?_eq_some_iff.1 hj).1
    have := h.cellAt j (by rw [h.1] at hlt; exact hlt)
    rw [Nat.zero_add, this]
    exact hj
theorem Apn.vec {w : World} {B e size n : Nat} {v : Value} {xs : List Value} (h : Apn w B e size v n xs) : Vec w size v n xs := by
  rcases h with h | h
  · exact vec_of_owns h
  · exact h.2
theorem apn_nil (w : World) (B e size : Nat) : Apn w B e size (.slice none 0 0) 0 [] := .inl (World.ownsRow_nil w B e size)

theorem addr_add (b off j : Nat) : (⟨b, off, none⟩ : Addr).add j = ⟨b, off + j, none⟩ := by
  unfold Addr.add
  by_cases hz : j = 0
  · subst hz; simp
  · simp [hz]
theorem Vec.news {w : World} {size n cap : Nat} {ad : Addr} {xs : List Value} (h : Vec w size (.slice (some ad) n cap) n xs) : ∀ j u, xs[j]? = some u → w.cell? (ad.add j) = some u := by
  intro j u hj
  obtain ⟨b, off, e, hc⟩ := h.at j u hj
  simp at e
  subst e
  rw [addr_add]
  exact hc

theorem run_append_zero {P : Program} {w : World} (t ty e : TypeId) (i : TypeInfo) (ht : P.underlying t = some (.slice e)) (hi : P.info? e = some i) (ao ax : Option Addr) (n c cx : Nat) (hn : n ≤ c) :
    (Builtin.append_ #[t, t] ty #[.slice ao n c, .slice ax 0 cx]).run P w = .ok (.slice ao n c) w := by
  cases ao <;> cases ax <;> simp [Builtin.append_, run_underlying ht, sizeOf, typeInfo, hi, Builtin.lenOf, Builtin.firstCells, hn, storeCells, loadCells, loadCellsFrom]

/-- What was written was written behind B. -/
def Grew (w : World) (B : Nat) (w' : World) : Prop := ∃ r, w.grownBy w' r ∧ ∀ g, r = some g → B ≤ g
theorem Grew.none {w w' : World} {B : Nat} (h : Grew w B w') (hB : w.heap.size ≤ B) : w.grownBy w' none := by
  obtain ⟨r, hg, hr⟩ := h
  exact ⟨hg.os, hg.tape, hg.output, hg.size, fun k hk _ => hg.block k hk (fun e => by have := hr k e.symm; omega)⟩
theorem Grew.after {a w w' : World} {B : Nat} (h : Grew w B w') (ha : a.grownBy w Option.none) (hB : a.heap.size ≤ B) : a.grownBy w' Option.none := by
  obtain ⟨r, hg, hr⟩ := h
  exact grown_new ha hg (fun x hx => by have := hr x hx; omega)
/-- Elements appended. -/
theorem app_wp {o : Oper} {a : Act} {K : Act → World → Prop} {Q : Exit → Act → World → Prop} (w : World) (s x : Operand) (t e : TypeId) (z : Value) (size bytes : Nat)
    (hi : (Try.prog.info? e).map (fun i => (i.zero, i.size, i.bytes)) = some (some z, size, bytes)) (ht : Try.prog.underlying t = some (.slice e)) (hzs : z.cells.size = size) (hsz : 0 < size)
    (ho : o.op = .call { callee := .builtin .append, args := #[s, x], argTypes := #[t, t] })
    (B : Nat) (v : Value) (n : Nat) (xs : List Value) (u : Value) (m : Nat) (ys : List Value) (hs : a.eval s = v) (hx : a.eval x = u) (hv : Apn w B e size v n xs) (hu : Vec w size u m ys) (h1c : ∀ y ∈ ys, y.oneCell' = true) (hb : (n + m) * bytes ≤ 140737488355328) (hb2 : n + m ≤ maxLen) (hB : B ≤ w.heap.size)
    (h : ∀ v' w', Apn w' B e size v' (n + m) (xs ++ ys) → Grew w B w' → (∀ g, v'.ownBlock = some g → v.ownBlock = some g ∨ w.heap.size ≤ g) → K (a.put o.dst v') w') : o.wp Try.prog a w K Q := by
  obtain ⟨i0, hi, hz0, hz1, hz2⟩ := info_parts hi
  have huv := hu
  obtain ⟨ao, cap, rfl, h1, h2, h3, h4, h5⟩ := hu
  by_cases hm : 0 < m
  · have ⟨ad, hao⟩ : ∃ ad, ao = some ad := by
      cases ao with
      | none => have := h3 rfl; omega
      | some ad => exact ⟨ad, rfl⟩
    subst hao
    rcases hv with hv | ⟨⟨af, rfl⟩, hv⟩
    · refine wp_append_lies w s x t ho B e i0 z size bytes ht hi hz0 hz1 hz2 hzs hsz v n xs hs hv ad m cap ys hx h4 huv.news h1c hm hb2 hb hB w.heap.size rfl ?_
      intro g cap' w' h1 h2 h3 _
      refine h _ w' (.inl h1) ⟨_, h2, fun k hk => (World.ownsRow.lt hv k hk).1⟩ fun k hk => ?_
      simp [Value.ownBlock] at hk
      subst hk
      rcases h3 with h3 | h3
      · exact .inl h3
      · exact .inr (by omega)
    · have hv' := hv
      obtain ⟨af', cf, e1, g2, g3, g4, g5, g6⟩ := hv
      simp at e1
      obtain ⟨rfl, rfl⟩ := e1
      have hx' : a.eval x = .slice (some ad) m cap := hx
      have hs' : a.eval s = .slice af n n := hs
      have key : ∃ v' w', (Builtin.append_ #[t, t] o.type #[.slice af n n, .slice (some ad) m cap]).run Try.prog w = .ok v' w' ∧ w'.ownsRow w.heap.size e size v' (n + m) (xs ++ ys) ∧ w.grownBy w' none := by
        cases af with
        | some b => exact run_append_arg_grows (P := Try.prog) w t o.type e i0 z size bytes ht hi hz0 hz1 hz2 hzs hsz b n n xs g5 (hv'.news) ad m cap ys h4 huv.news (by omega) hb2 hb
        | none =>
          have hn0 : n = 0 := g4 rfl
          subst hn0
          obtain rfl : xs = [] := List.eq_nil_of_length_eq_zero (by simpa using g5)
          obtain ⟨v', w', hrun, r1, r2, _⟩ := run_append_own (P := Try.prog) w w.heap.size t o.type e i0 z size bytes ht hi hz0 hz1 hz2 hzs hsz (.slice none 0 0) 0 [] (World.ownsRow_nil w _ e size) ad m cap ys h4 huv.news h1c hb2 hb (Nat.le_refl _)
          exact ⟨v', w', hrun, r1, r2⟩
      obtain ⟨v', w', hrun, r1, r2⟩ := key
      unfold Oper.wp
      simp only [execOp, ho, resolve, invoke, builtin, Sem.run_bind, Sem.run_pure, Result.andThen_ok, List.map_toArray, List.map_cons, List.map_nil, hs', hx', hrun]
      refine h v' w' (.inl ?_) ⟨none, r2, by simp⟩ fun k hk => .inr (World.ownsRow.lt r1 k hk).1
      refine ⟨r1.1, ?_⟩
      rcases r1.2 with h2 | ⟨g, c, cur, k1, k2, k3⟩
      · exact .inl h2
      · exact .inr ⟨g, c, cur, k1, by omega, k3⟩
  · have hm0 : m = 0 := by omega
    subst hm0
    obtain rfl : ys = [] := List.eq_nil_of_length_eq_zero (by simpa using h4)
    obtain ⟨av, cv, ev, hcv, _⟩ := hv.vec.shape
    subst ev
    have hx' : a.eval x = .slice ao 0 cap := hx
    have hs' : a.eval s = .slice av n cv := hs
    have hrun := run_append_zero (P := Try.prog) (w := w) t o.type e i0 ht hi av ao n cv cap hcv
    unfold Oper.wp
    simp only [execOp, ho, resolve, invoke, builtin, Sem.run_bind, Sem.run_pure, Result.andThen_ok, List.map_toArray, List.map_cons, List.map_nil, hs', hx', hrun]
    exact h _ w (by simpa using hv) ⟨none, grown_refl _ _, by simp⟩ fun k hk => .inl hk

/-- The same, for the walk. -/
theorem app_at {ops : Array Oper} {rest : List Oper} {o : Oper} {a : Act} {Q : Exit → Act → World → Prop} (w : World) (hw : Region.wanted o (yielded ops a.tmps) = true) (s x : Operand) (t e : TypeId) (z : Value) (size bytes : Nat)
    (hi : (Try.prog.info? e).map (fun i => (i.zero, i.size, i.bytes)) = some (some z, size, bytes)) (ht : Try.prog.underlying t = some (.slice e)) (hzs : z.cells.size = size) (hsz : 0 < size)
    (ho : o.op = .call { callee := .builtin .append, args := #[s, x], argTypes := #[t, t] })
    (B : Nat) (v : Value) (n : Nat) (xs : List Value) (u : Value) (m : Nat) (ys : List Value) (hs : a.eval s = v) (hx : a.eval x = u) (hv : Apn w B e size v n xs) (hu : Vec w size u m ys) (h1c : ∀ y ∈ ys, y.oneCell' = true) (hb : (n + m) * bytes ≤ 140737488355328) (hb2 : n + m ≤ maxLen) (hB : B ≤ w.heap.size)
    (h : ∀ v' w', Apn w' B e size v' (n + m) (xs ++ ys) → Grew w B w' → (∀ g, v'.ownBlock = some g → v.ownBlock = some g ∨ w.heap.size ≤ g) → wpList Try.prog ops Q rest (a.put o.dst v') w') : wpList Try.prog ops Q (o :: rest) a w :=
  BigFrame.wpList_want hw fun _ hK => app_wp w s x t e z size bytes hi ht hzs hsz ho B v n xs u m ys hs hx hv hu h1c hb hb2 hB fun v' w' h1 h2 h3 => hK _ _ (h v' w' h1 h2 h3)

/-- A piece of a slice: from a place on, up to a place. -/
theorem vec_piece {w : World} {size n cap : Nat} {ao : Option Addr} {xs : List Value} (h : Vec w size (.slice ao n cap) n xs) (lo hi : Nat) (h1 : lo ≤ hi) (h2 : hi ≤ n) : Vec w size (sliced ao lo hi cap size) (hi - lo) ((xs.drop (lo * size)).take ((hi - lo) * size)) := by
  have hh := h
  obtain ⟨ao1, cap', e1, k2, k3, k4, k5, k6⟩ := hh
  simp at e1
  obtain ⟨rfl, rfl⟩ := e1
  have h3 := h.take hi cap h2 (by omega) (Nat.le_refl _)
  unfold sliced
  have e : (xs.drop (lo * size)).take ((hi - lo) * size) = (xs.take (hi * size)).drop (lo * size) := by
    rw [List.drop_take, Nat.sub_mul]
  rw [e]
  refine h3.drop lo h1 _ (cap - lo) ?_ ?_ (by omega) (by omega)
  · intro he
    by_cases hc : cap = lo
    · omega
    · rw [if_neg hc] at he
      have := k4 (by simpa using he)
      omega
  · intro b off hb hlt
    rw [if_neg (by omega), hb]
    simp [addr_add]

/-- What the operation tells: a value of which this is so. -/
theorem run_piece (t size : Nat) (ht : Try.prog.underlying t = some (.slice (Try.prog.elem t))) (hsz : ∀ w, (sizeOf (Try.prog.elem t)).run Try.prog w = .ok size w) (ao : Option Addr) (n cap lo hi : Nat) (h1 : lo ≤ hi) (h2 : hi ≤ cap) (w : World) :
    (Instr.slice t (.slice ao n cap) (some (.int .i64 (lo : Int))) (some (.int .i64 (hi : Int))) none).run Try.prog w = .ok (sliced ao lo hi cap size) w := by
  rw [run_slice_lh _ t ao n cap ht .i64 .i64 lo hi (by omega) (by omega) (by omega), hsz]
  simp [Result.andThen]
theorem run_rest (t size : Nat) (ht : Try.prog.underlying t = some (.slice (Try.prog.elem t))) (hsz : ∀ w, (sizeOf (Try.prog.elem t)).run Try.prog w = .ok size w) (ao : Option Addr) (n cap lo : Nat) (h1 : lo ≤ n) (w : World) :
    (Instr.slice t (.slice ao n cap) (some (.int .i64 (lo : Int))) none none).run Try.prog w = .ok (sliced ao lo n cap size) w := by
  rw [run_slice_l _ t ao n cap ht .i64 lo (by omega) (by omega), hsz]
  simp [Result.andThen]
theorem sliced_shape (ao : Option Addr) (lo hi cap size : Nat) : ∃ a', sliced ao lo hi cap size = .slice a' (hi - lo) (cap - lo) := ⟨_, rfl⟩
end Go.Proofs.Ytlehikdlkdbacaa
