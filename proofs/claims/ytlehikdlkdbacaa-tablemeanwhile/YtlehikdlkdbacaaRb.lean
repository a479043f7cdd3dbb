/-
  The document's table: Get, Put.
-/
import Derived.Test.YtlehikdlkdbacaaRa
namespace Go.Proofs.Ytlehikdlkdbacaa
open Go.RowKit Disk
open Names (cmpL keyB valueB)

/-- Elements appended to a list of the call's own. -/
theorem appO_wp {o : Oper} {a : Act} {K : Act → World → Prop} {Q : Exit → Act → World → Prop} (w : World) (s x : Operand) (t e : TypeId) (z : Value) (size bytes : Nat)
    (hi : (Try.prog.info? e).map (fun i => (i.zero, i.size, i.bytes)) = some (some z, size, bytes)) (ht : Try.prog.underlying t = some (.slice e)) (hzs : z.cells.size = size) (hsz : 0 < size)
    (ho : o.op = .call { callee := .builtin .append, args := #[s, x], argTypes := #[t, t] })
    (B : Nat) (v : Value) (n : Nat) (xs : List Value) (u : Value) (m : Nat) (ys : List Value) (hs : a.eval s = v) (hx : a.eval x = u) (hv : w.ownsRow B e size v n xs) (hu : Vec w size u m ys) (h1c : ∀ y ∈ ys, y.oneCell' = true) (hb : (n + m) * bytes ≤ 140737488355328) (hb2 : n + m ≤ maxLen) (hB : B ≤ w.heap.size)
    (h : ∀ v' w', w'.ownsRow B e size v' (n + m) (xs ++ ys) → Grew w B w' → K (a.put o.dst v') w') : o.wp Try.prog a w K Q := by
  obtain ⟨i0, hi, hz0, hz1, hz2⟩ := info_parts hi
  have huv := hu
  obtain ⟨ao, cap, rfl, h1, h2, h3, h4, h5⟩ := hu
  by_cases hm : 0 < m
  · have ⟨ad, hao⟩ : ∃ ad, ao = some ad := by
      cases ao with
      | none => have := h3 rfl; omega
      | some ad => exact ⟨ad, rfl⟩
    subst hao
    refine wp_append_lies w s x t ho B e i0 z size bytes ht hi hz0 hz1 hz2 hzs hsz v n xs hs hv ad m cap ys hx h4 huv.news h1c hm hb2 hb hB w.heap.size rfl ?_
    intro g cap' w' h1 h2 h3 _
    exact h _ w' h1 ⟨_, h2, fun k hk => (World.ownsRow.lt hv k hk).1⟩
  · have hm0 : m = 0 := by omega
    subst hm0
    obtain rfl : ys = [] := List.eq_nil_of_length_eq_zero (by simpa using h4)
    obtain ⟨av, cv, ev, hcv, _⟩ := (vec_of_owns hv).shape
    subst ev
    have hx' : a.eval x = .slice ao 0 cap := hx
    have hs' : a.eval s = .slice av n cv := hs
    have hrun := run_append_zero (P := Try.prog) (w := w) t o.type e i0 ht hi av ao n cv cap hcv
    unfold Oper.wp
    simp only [execOp, ho, resolve, invoke, builtin, Sem.run_bind, Sem.run_pure, Result.andThen_ok, List.map_toArray, List.map_cons, List.map_nil, hs', hx', hrun]
    exact h _ w (by simpa using hv) ⟨none, grown_refl _ _, by simp⟩
theorem appO_at {ops : Array Oper} {rest : List Oper} {o : Oper} {a : Act} {Q : Exit → Act → World → Prop} (w : World) (hw : Region.wanted o (yielded ops a.tmps) = true) (s x : Operand) (t e : TypeId) (z : Value) (size bytes : Nat)
    (hi : (Try.prog.info? e).map (fun i => (i.zero, i.size, i.bytes)) = some (some z, size, bytes)) (ht : Try.prog.underlying t = some (.slice e)) (hzs : z.cells.size = size) (hsz : 0 < size)
    (ho : o.op = .call { callee := .builtin .append, args := #[s, x], argTypes := #[t, t] })
    (B : Nat) (v : Value) (n : Nat) (xs : List Value) (u : Value) (m : Nat) (ys : List Value) (hs : a.eval s = v) (hx : a.eval x = u) (hv : w.ownsRow B e size v n xs) (hu : Vec w size u m ys) (h1c : ∀ y ∈ ys, y.oneCell' = true) (hb : (n + m) * bytes ≤ 140737488355328) (hb2 : n + m ≤ maxLen) (hB : B ≤ w.heap.size)
    (h : ∀ v' w', w'.ownsRow B e size v' (n + m) (xs ++ ys) → Grew w B w' → wpList Try.prog ops Q rest (a.put o.dst v') w') : wpList Try.prog ops Q (o :: rest) a w :=
  BigFrame.wpList_want hw fun _ hK => appO_wp w s x t e z size bytes hi ht hzs hsz ho B v n xs u m ys hs hx hv hu h1c hb hb2 hB fun v' w' h1 h2 => hK _ _ (h v' w' h1 h2)

set_option maxRecDepth 100000 in
set_option maxHeartbeats 4000000 in
theorem get39 (b : Nat) (kv : Value) (l : List PRow) (k : Bs) (hv : ∀ r ∈ l, r.2.length ≤ 256) (w : World) (ht : Dt w b l) (hk : Seg w kv k) :
    Calls Try.prog 39 #[.pointer (some ⟨b, 0, none⟩), kv] w fun e w' => ∃ x, e = .returned (.tuple #[x, .int .i64 (getC l k)]) ∧ Disk.Own w' w.heap.size x (gotL l k) ∧ w.grownBy w' none := by
  obtain ⟨ao, n, cap, hn, hc, hc', HT⟩ := dt_open ht
  have HK : Hid (Seg w kv k ∧ Dt w b l ∧ l.length = n ∧ ∀ r ∈ l, r.2.length ≤ 256) := ⟨hk, ht, hn, hv⟩
  clear ht hk hn hv
  obtain ⟨kb, hkb⟩ : ∃ kb, keyB k = kb := ⟨_, rfl⟩
  have HKB : Hid (keyB k = kb) := hkb
  clear hkb
  go_enter Try.func39, Try.ntmps39
  cases kb with
  | false =>
    go_wp2_with (go_at_call 56; refine (Names.key12 _ k w HK.out.1).mono ?_; rintro e wx ⟨rfl, hx⟩; rw [hx, HKB.out]; clear hx)
    go_ret2
    refine ⟨_, by rw [show getC l k = 2 from by simp [getC, HKB.out]]; rfl, ?_, grown_refl _ _⟩
    rw [show gotL l k = [] from by simp [gotL, HKB.out]]
    exact Own.nil _ _
  | true =>
    go_wp2_with (go_at_call 56; refine (Names.key12 _ k w HK.out.1).mono ?_; rintro e wx ⟨rfl, hx⟩; rw [hx, HKB.out]; clear hx)
    refine (has58 b kv l k w HK.out.2.1 HK.out.1).mono ?_
    rintro e w1 ⟨rfl, m1, hw1⟩
    rw [hw1]
    clear hw1
    obtain ⟨i, hi⟩ : ∃ i, rankL l k = i := ⟨_, rfl⟩
    obtain ⟨h, hh⟩ : ∃ h, hasL l k = h := ⟨_, rfl⟩
    have HR : Hid (rankL l k = i ∧ hasL l k = h) := ⟨hi, hh⟩
    rw [hi, hh]
    clear hi hh
    cases h with
    | false =>
      go_wp2_with fail
      go_ret2
      refine ⟨_, by rw [show getC l k = 5 from by simp [getC, HKB.out, HR.out.2]]; rfl, ?_, grown_drewN _ _ _⟩
      rw [show gotL l k = [] from by simp [gotL, HR.out.2]]
      exact Own.nil _ _
    | true =>
      have ka : i < l.length := by
        obtain ⟨ha, _⟩ := has_iff.1 HR.out.2
        rw [← HR.out.1]
        exact ha
      have kn : i < n := by rw [← HK.out.2.2.1]; exact ka
      obtain ⟨b1, o1, x1, y1, rfl, _, c1, _, s1⟩ := rws_at HT.out.2.rws i ka
      have q0 : (w.drewN m1).cell? ⟨b, 0, none⟩ = some (.slice (some ⟨b1, o1, none⟩) n cap) := HT.out.1.cell 0
      have c2 : (w.drewN m1).cell? ⟨b1, o1 + i * 2 + 1, none⟩ = some y1 := c1
      have HS : Hid (Seg w y1 l[i].2) := s1
      have i0 : (0 : Int) ≤ (i : Int) := by omega
      have i1 : (i : Int) < (n : Int) := by omega
      clear c1 s1
      go_wp2_with fail
      refine (copied59 y1 l[i].2 _ (Names.seg_drewN HS.out m1) (by have := HK.out.2.2.2 _ (List.getElem_mem ka); omega)).mono ?_
      rintro e w2 ⟨u, rfl, hu, hg⟩
      have H2 : Hid (Disk.Own w2 w.heap.size u l[i].2 ∧ w.grownBy w2 none) := ⟨hu, grown_trans (grown_drewN w m1 none) hg⟩
      clear hu hg
      go_wp2_with fail
      go_ret2
      refine ⟨_, by rw [show getC l k = 0 from by simp [getC, HKB.out, HR.out.2]]; rfl, ?_, H2.out.2⟩
      rw [show gotL l k = l[i].2 from by simp [gotL, HKB.out, HR.out.2, HR.out.1, ka]]
      exact H2.out.1

theorem ROwn.append {w : World} {B : Nat} {ks ls : List (Value × Value)} {l m : List PRow} (h : ROwn w B ks l) (k : ROwn w B ls m) : ROwn w B (ks ++ ls) (l ++ m) := by
  refine ⟨by simp [h.1, k.1], fun j a b => ?_⟩
  have := h.1
  rw [List.getElem_append, List.getElem_append]
  split <;> split
  · exact h.2 _ _ _
  · omega
  · omega
  · have := k.2 (j - ks.length) (by simp at a; omega) (by simp at b; omega)
    simp only [h.1] at this ⊢
    exact this
theorem ROwn.take {w : World} {B : Nat} {ks : List (Value × Value)} {l : List PRow} (h : ROwn w B ks l) (k : Nat) : ROwn w B (ks.take k) (l.take k) := by
  refine ⟨by simp [h.1], fun j a b => ?_⟩
  simp only [List.getElem_take]
  exact h.2 _ _ _
theorem ROwn.drop {w : World} {B : Nat} {ks : List (Value × Value)} {l : List PRow} (h : ROwn w B ks l) (k : Nat) : ROwn w B (ks.drop k) (l.drop k) := by
  refine ⟨by simp [h.1], fun j a b => ?_⟩
  simp only [List.getElem_drop]
  exact h.2 _ _ _
theorem ROwn.one1 {w : World} {B : Nat} {x y : Value} {r : PRow} (hx : Disk.Own w B x r.1) (hy : Disk.Own w B y r.2) : ROwn w B [(x, y)] [r] := by
  refine ⟨rfl, fun j a b => ?_⟩
  simp at a
  subst a
  exact ⟨hx, hy⟩
theorem run_front (ao : Option Addr) (n cap hi : Nat) (h2 : hi ≤ cap) (w : World) :
    (Instr.slice 22 (.slice ao n cap) none (some (.int .i64 (hi : Int))) none).run Try.prog w = .ok (sliced ao 0 hi cap 2) w := by
  rw [run_slice_h _ 22 ao n cap ut22 .i64 hi (by omega) (by omega), size22]
  simp [Result.andThen]
/-- The table's rows are put in place. -/
theorem dt_store {w : World} {b : Nat} {old v : Value} {l : List PRow} (hb : Blk w b 34 #[old]) (h : TRws w 0 v l) : Dt (w.setCell ⟨b, 0, none⟩ v) b l := by
  refine ⟨v, ?_, h.off (grown_setCell _ _ _ _) hb (by decide) (by decide)⟩
  have := hb.store 0 v
  simpa using this
theorem grown_widen {a w w' : World} {g : Nat} (h : a.grownBy w none) (k : w.grownBy w' (some g)) : a.grownBy w' (some g) :=
  ⟨k.os.trans h.os, k.tape.trans h.tape, k.output.trans h.output, Nat.le_trans h.size k.size, fun i hi hne => (k.block i (Nat.lt_of_lt_of_le hi h.size) hne).trans (h.block i hi (by simp))⟩
/-- Pieces of the rows. -/
theorem own_piece {w : World} {ao : Option Addr} {n cap : Nat} {ks : List (Value × Value)} (h : w.ownsRow 0 45 2 (.slice ao n cap) n (rcells ks)) (lo hi : Nat) (h1 : lo ≤ hi) (h2 : hi ≤ n) : Vec w 2 (sliced ao lo hi cap 2) (hi - lo) (rcells ((ks.drop lo).take (hi - lo))) := by
  have := vec_piece (vec_of_owns h) lo hi h1 h2
  rw [rcells_take, rcells_drop]
  exact this

set_option maxRecDepth 100000 in
set_option maxHeartbeats 8000000 in
theorem put18 (b : Nat) (kv vv : Value) (l : List PRow) (k x : Bs) (hz : l.length ≤ 1000000) (w : World) (ht : Dt w b l) (hk : Seg w kv k) (hv : Seg w vv x) :
    Calls Try.prog 18 #[.pointer (some ⟨b, 0, none⟩), kv, vv] w fun e w' => e = .returned (.tuple #[.bool (putB l k x), .int .i64 (putC k x)]) ∧ Dt w' b (putA l k x) ∧ w.grownBy w' (some b) := by
  obtain ⟨ao, n, cap, hn, hc, hc', HT⟩ := dt_open ht
  have HK : Hid (Seg w kv k ∧ Seg w vv x ∧ Dt w b l ∧ l.length = n) := ⟨hk, hv, ht, hn⟩
  have hn6 : n ≤ 1000000 := by omega
  clear ht hk hv hn
  obtain ⟨kb, hkb⟩ : ∃ kb, keyB k = kb := ⟨_, rfl⟩
  obtain ⟨vb, hvb⟩ : ∃ vb, valueB x = vb := ⟨_, rfl⟩
  have HKB : Hid (keyB k = kb ∧ valueB x = vb) := ⟨hkb, hvb⟩
  clear hkb hvb
  go_enter Try.func18, Try.ntmps18
  by_cases hok : kb = true ∧ vb = true
  · obtain ⟨rfl, rfl⟩ := hok
    have HO : Hid (okP k x = true) := by simp [Hid, okP, HKB.out.1, HKB.out.2]
    go_wp2_with (first | (go_at_call 56; refine (Names.key12 _ k w HK.out.1).mono ?_; rintro e wx ⟨rfl, hx⟩; rw [hx, HKB.out.1]; clear hx) | (go_at_call 57; refine (Names.value14 _ x w HK.out.2.1).mono ?_; rintro e wx ⟨rfl, hx⟩; rw [hx, HKB.out.2]; clear hx))
    refine (has58 b kv l k w HK.out.2.2.1 HK.out.1).mono ?_
    rintro e w1 ⟨rfl, m1, hw1⟩
    rw [hw1]
    clear hw1
    obtain ⟨i, hi⟩ : ∃ i, rankL l k = i := ⟨_, rfl⟩
    obtain ⟨h, hh⟩ : ∃ h, hasL l k = h := ⟨_, rfl⟩
    have HR : Hid (rankL l k = i ∧ hasL l k = h) := ⟨hi, hh⟩
    have hin : i ≤ n := by rw [← hi, ← HK.out.2.2.2]; exact rank_le l k
    rw [hi, hh]
    clear hi hh
    go_wp2_with fail
    refine (copied59 kv k _ (Names.seg_drewN HK.out.1 m1) (by have := okP_len HO.out; omega)).mono ?_
    rintro e w2 ⟨u2, rfl, hu2, hg2⟩
    have H2 : Hid (Disk.Own w2 w.heap.size u2 k ∧ w.grownBy w2 none) := ⟨hu2, grown_trans (grown_drewN w m1 none) hg2⟩
    clear hu2 hg2
    go_wp2_with fail
    refine (copied59 vv x _ (HK.out.2.1.grown H2.out.2) (by have := okP_len HO.out; omega)).mono ?_
    rintro e w3 ⟨u3, rfl, hu3, hg3⟩
    have H3 : Hid (Disk.Own w3 w.heap.size u2 k ∧ Disk.Own w3 w.heap.size u3 x ∧ w.grownBy w3 none) := ⟨H2.out.1.grown hg3, hu3.mono H2.out.2.size, grown_trans H2.out.2 hg3⟩
    clear hu3 hg3 H2
    obtain ⟨a2, c2, e2⟩ := H3.out.1.seg.shape
    obtain ⟨a3, c3, e3⟩ := H3.out.2.1.seg.shape
    obtain ⟨nk, hnk⟩ : ∃ n, k.length = n := ⟨_, rfl⟩
    obtain ⟨nx, hnx⟩ : ∃ n, x.length = n := ⟨_, rfl⟩
    rw [hnk] at e2
    rw [hnx] at e3
    subst e2 e3
    clear hnk hnx
    go_upto_region 5 with fail
    obtain ⟨w4, hw4, H4⟩ := al w3 #[.slice a2 nk c2, .slice a3 nx c3] 45
    rw [hw4]
    clear hw4
    have HG : Hid (w.grownBy w4 none ∧ Disk.Own w4 0 (.slice a2 nk c2) k ∧ Disk.Own w4 0 (.slice a3 nx c3) x ∧ Blk w4 w3.heap.size 45 #[.slice a2 nk c2, .slice a3 nx c3] ∧ w3.heap.size < w4.heap.size) := ⟨grown_trans H3.out.2.2 H4.out.2.1, (H3.out.1.grown H4.out.2.1).mono (Nat.zero_le _), (H3.out.2.1.grown H4.out.2.1).mono (Nat.zero_le _), H4.out.1, by have := H4.out.2.2; omega⟩
    clear H3 H4
    have HB4 : Hid (Blk w4 b 34 #[.slice ao n cap]) := HT.out.1.grown HG.out.1 (by simp)
    obtain ⟨ks, hks, hrs⟩ := HT.out.2
    rw [HK.out.2.2.2] at hks
    have HKS : Hid (w4.ownsRow 0 45 2 (.slice ao n cap) n (rcells ks) ∧ ROwn w4 0 ks l) := by
      have h4 : TRws w4 0 (.slice ao n cap) l := HT.out.2.grown HG.out.1
      exact ⟨owns_same hks fun q hq => HG.out.1.block q (World.ownsRow.lt hks q hq).2 (by simp), hrs.grown HG.out.1⟩
    clear hks hrs
    have q0 : w4.cell? ⟨b, 0, none⟩ = some (.slice ao n cap) := HB4.out.cell 0
    obtain ⟨sv, hsv⟩ : ∃ v, sliced ao 0 i cap 2 = v := ⟨_, rfl⟩
    have hsl : ∀ wk, (Instr.slice 22 (.slice ao n cap) none (some (.int .i64 (i : Int))) none).run Try.prog wk = .ok sv wk := fun wk => by rw [← hsv]; exact run_front ao n cap i (by omega) wk
    have HP1 : Hid (Vec w4 2 sv i (rcells (ks.take i))) := by
      have := own_piece HKS.out.1 0 i (Nat.zero_le _) hin
      rw [hsv] at this
      unfold Hid
      simpa using this
    clear hsv
    go_wp2_with (at_builtin; refine appO_at w4 rfl _ _ 22 45 _ 2 48 Try.info45 ut22' rfl (by decide) rfl w4.heap.size _ 0 [] _ i (rcells (ks.take i)) rfl rfl (World.ownsRow_nil _ _ _ _) HP1.out ?c0 ?c1 ?c2 (Nat.le_refl _) ?_)
    case c0 => exact ((HKS.out.2).take i).one
    case c1 => omega
    case c2 => unfold maxLen; omega
    intro v5 w5 hv5 hg5
    have H5 : Hid (w5.ownsRow w4.heap.size 45 2 v5 i (rcells (ks.take i)) ∧ w4.grownBy w5 none) := ⟨by simpa using hv5, hg5.none (Nat.le_refl _)⟩
    clear hv5 hg5 hsl
    obtain ⟨a5, c5, e5, _, _⟩ := (vec_of_owns H5.out.1).shape
    subst e5
    have z0 : w5.cell? ⟨w3.heap.size, 0, none⟩ = some (.slice a2 nk c2) := (HG.out.2.2.2.1.grown H5.out.2 (by simp)).cell 0
    have z1 : w5.cell? ⟨w3.heap.size, 1, none⟩ = some (.slice a3 nx c3) := (HG.out.2.2.2.1.grown H5.out.2 (by simp)).cell 1
    go_upto_region 6 with fail
    go_wp2_with (at_builtin; refine appO_at _ rfl _ _ 22 45 _ 2 48 Try.info45 ut22' rfl (by decide) rfl w4.heap.size _ i (rcells (ks.take i)) _ 1 [.slice a2 nk c2, .slice a3 nx c3] rfl rfl (owns_same H5.out.1 fun q hq => (World.grownBy_alloc w5 _ none).block q (World.ownsRow.lt H5.out.1 q hq).2 (by simp)) (vec_two w5 _ _ _ (heap_alloc_new w5 _)) ?c0 ?c1 ?c2 ?c3 ?_)
    case c0 => simp [Value.oneCell']
    case c1 => omega
    case c2 => unfold maxLen; omega
    case c3 => have := H5.out.2.size; simp; omega
    intro v6 w6 hv6 hg6
    have H6 : Hid (w6.ownsRow w4.heap.size 45 2 v6 (i + 1) (rcells (ks.take i) ++ [.slice a2 nk c2, .slice a3 nx c3]) ∧ w4.grownBy w6 none) := ⟨hv6, hg6.after (grown_trans H5.out.2 (World.grownBy_alloc w5 _ none)) (Nat.le_refl _)⟩
    clear hv6 hg6 H5 z0 z1
    obtain ⟨a6, c6, e6, _, _⟩ := (vec_of_owns H6.out.1).shape
    subst e6
    cases h with
    | false =>
      have HE : Hid (endL l k = i) := by simp [Hid, endL, HR.out.1, HR.out.2]
      have hen : i ≤ n := hin
      have q1 : w6.cell? ⟨b, 0, none⟩ = some (.slice ao n cap) := (HB4.out.grown H6.out.2 (by simp)).cell 0
      obtain ⟨sv2, hsv2⟩ : ∃ v, sliced ao i n cap 2 = v := ⟨_, rfl⟩
      have hsl : ∀ wk, (Instr.slice 22 (.slice ao n cap) (some (.int .i64 (i : Int))) none none).run Try.prog wk = .ok sv2 wk := fun wk => by rw [← hsv2]; exact run_rest 22 2 ut22 size22 ao n cap i hen wk
      have HP2 : Hid (Vec w6 2 sv2 (n - i) (rcells (ks.drop i))) := by
        have h6 : w6.ownsRow 0 45 2 (.slice ao n cap) n (rcells ks) := owns_same HKS.out.1 fun q hq => H6.out.2.block q (World.ownsRow.lt HKS.out.1 q hq).2 (by simp)
        have := own_piece h6 i n hen (Nat.le_refl _)
        rw [hsv2, List.take_of_length_le (by rw [List.length_drop, HKS.out.2.1, HK.out.2.2.2]; omega)] at this
        exact this
      clear hsv2
      go_wp2_with (at_builtin; refine appO_at w6 rfl _ _ 22 45 _ 2 48 Try.info45 ut22' rfl (by decide) rfl w4.heap.size _ (i + 1) _ _ (n - i) (rcells (ks.drop i)) rfl rfl H6.out.1 HP2.out ?c0 ?c1 ?c2 H6.out.2.size ?_)
      case c0 => exact ((HKS.out.2).drop i).one
      case c1 => omega
      case c2 => unfold maxLen; omega
      intro v7 w7 hv7 hg7
      have H7 : Hid (TRws w7 0 v7 (putL l k x) ∧ w4.grownBy w7 none ∧ Blk w7 b 34 #[.slice ao n cap]) := by
        have g7 : w4.grownBy w7 none := hg7.after H6.out.2 (Nat.le_refl _)
        refine ⟨⟨ks.take i ++ [(.slice a2 nk c2, .slice a3 nx c3)] ++ ks.drop i, ?_, ?_⟩, g7, HB4.out.grown g7 (by simp)⟩
        · have hl : (putL l k x).length = i + 1 + (n - i) := by
            unfold putL
            rw [HR.out.1, HE.out]
            simp [HK.out.2.2.2]
            omega
          rw [hl, rcells_append, rcells_append]
          have e := owns_mono hv7 (Nat.zero_le _)
          rw [rcells, rcells, List.append_assoc, List.cons_append, List.cons_append, List.nil_append]
          first | exact e | (rw [show i + 1 + (n - (i + 1)) = n from by omega]; exact e)
        · have h7 := HKS.out.2.grown g7
          have := (((h7.take i).append (ROwn.one1 (r := (k, x)) (HG.out.2.1.grown g7) (HG.out.2.2.1.grown g7))).append (h7.drop i))
          unfold putL
          rw [HR.out.1, HE.out]
          simpa using this
      obtain ⟨a7, c7, e7, _, _⟩ := (vec_of_owns hv7).shape
      subst e7
      clear hv7 hg7 H6 hsl
      have f7 := H7.out.2.2.free 0
      have q7 := H7.out.2.2.cell 0
      simp at q7
      go_wp2_with fail
      go_ret2
      refine ⟨by rw [show putB l k x = false from by simp [putB, HO.out, HR.out.2], show putC k x = 0 from by simp [putC, HO.out]]; rfl, ?_, ?_⟩
      · rw [show putA l k x = putL l k x from by simp [putA, HO.out]]
        exact dt_store H7.out.2.2 H7.out.1
      · exact grown_widen (grown_trans HG.out.1 H7.out.2.1) (grown_setCell _ _ _ _)
    | true =>
      have HE : Hid (endL l k = i + 1) := by simp [Hid, endL, HR.out.1, HR.out.2]
      have hen : i + 1 ≤ n := by have := end_le l k; rw [HE.out, HK.out.2.2.2] at this; exact this
      have hadd : IntKind.i64.wrap ((i : Int) + 1) = (i : Int) + 1 := by rw [IntKind.wrap_i64]; omega
      have q1 : w6.cell? ⟨b, 0, none⟩ = some (.slice ao n cap) := (HB4.out.grown H6.out.2 (by simp)).cell 0
      obtain ⟨sv2, hsv2⟩ : ∃ v, sliced ao (i + 1) n cap 2 = v := ⟨_, rfl⟩
      have hsl : ∀ wk, (Instr.slice 22 (.slice ao n cap) (some (.int .i64 ((i : Int) + 1))) none none).run Try.prog wk = .ok sv2 wk := fun wk => by rw [← hsv2]; exact run_rest 22 2 ut22 size22 ao n cap (i + 1) hen wk
      have HP2 : Hid (Vec w6 2 sv2 (n - (i + 1)) (rcells (ks.drop (i + 1)))) := by
        have h6 : w6.ownsRow 0 45 2 (.slice ao n cap) n (rcells ks) := owns_same HKS.out.1 fun q hq => H6.out.2.block q (World.ownsRow.lt HKS.out.1 q hq).2 (by simp)
        have := own_piece h6 (i + 1) n hen (Nat.le_refl _)
        rw [hsv2, List.take_of_length_le (by rw [List.length_drop, HKS.out.2.1, HK.out.2.2.2]; omega)] at this
        exact this
      clear hsv2
      go_wp2_with (at_builtin; refine appO_at w6 rfl _ _ 22 45 _ 2 48 Try.info45 ut22' rfl (by decide) rfl w4.heap.size _ (i + 1) _ _ (n - (i + 1)) (rcells (ks.drop (i + 1))) rfl rfl H6.out.1 HP2.out ?c0 ?c1 ?c2 H6.out.2.size ?_)
      case c0 => exact ((HKS.out.2).drop (i + 1)).one
      case c1 => omega
      case c2 => unfold maxLen; omega
      intro v7 w7 hv7 hg7
      have H7 : Hid (TRws w7 0 v7 (putL l k x) ∧ w4.grownBy w7 none ∧ Blk w7 b 34 #[.slice ao n cap]) := by
        have g7 : w4.grownBy w7 none := hg7.after H6.out.2 (Nat.le_refl _)
        refine ⟨⟨ks.take i ++ [(.slice a2 nk c2, .slice a3 nx c3)] ++ ks.drop (i + 1), ?_, ?_⟩, g7, HB4.out.grown g7 (by simp)⟩
        · have hl : (putL l k x).length = i + 1 + (n - (i + 1)) := by
            unfold putL
            rw [HR.out.1, HE.out]
            simp [HK.out.2.2.2]
            omega
          rw [hl, rcells_append, rcells_append]
          have e := owns_mono hv7 (Nat.zero_le _)
          rw [rcells, rcells, List.append_assoc, List.cons_append, List.cons_append, List.nil_append]
          first | exact e | (rw [show i + 1 + (n - (i + 1)) = n from by omega]; exact e)
        · have h7 := HKS.out.2.grown g7
          have := (((h7.take i).append (ROwn.one1 (r := (k, x)) (HG.out.2.1.grown g7) (HG.out.2.2.1.grown g7))).append (h7.drop (i + 1)))
          unfold putL
          rw [HR.out.1, HE.out]
          simpa using this
      obtain ⟨a7, c7, e7, _, _⟩ := (vec_of_owns hv7).shape
      subst e7
      clear hv7 hg7 H6 hsl
      have f7 := H7.out.2.2.free 0
      have q7 := H7.out.2.2.cell 0
      simp at q7
      go_wp2_with fail
      go_ret2
      refine ⟨by rw [show putB l k x = true from by simp [putB, HO.out, HR.out.2], show putC k x = 0 from by simp [putC, HO.out]]; rfl, ?_, ?_⟩
      · rw [show putA l k x = putL l k x from by simp [putA, HO.out]]
        exact dt_store H7.out.2.2 H7.out.1
      · exact grown_widen (grown_trans HG.out.1 H7.out.2.1) (grown_setCell _ _ _ _)
  · have HO : Hid (okP k x = false) := by
      unfold Hid okP
      rw [HKB.out.1, HKB.out.2]
      cases kb <;> cases vb <;> simp_all
    cases kb with
    | false =>
      go_wp2_with (first | (go_at_call 56; refine (Names.key12 _ k w HK.out.1).mono ?_; rintro e wx ⟨rfl, hx⟩; rw [hx, HKB.out.1]; clear hx) | (go_at_call 57; refine (Names.value14 _ x w HK.out.2.1).mono ?_; rintro e wx ⟨rfl, hx⟩; rw [hx, HKB.out.2]; clear hx))
      go_ret2
      exact ⟨by rw [show putB l k x = false from by simp [putB, HO.out], show putC k x = 2 from by simp [putC, HO.out]]; rfl, by rw [show putA l k x = l from by simp [putA, HO.out]]; exact HK.out.2.2.1, grown_refl _ _⟩
    | true =>
      have hvf : vb = false := by cases vb <;> simp_all
      subst hvf
      go_wp2_with (first | (go_at_call 56; refine (Names.key12 _ k w HK.out.1).mono ?_; rintro e wx ⟨rfl, hx⟩; rw [hx, HKB.out.1]; clear hx) | (go_at_call 57; refine (Names.value14 _ x w HK.out.2.1).mono ?_; rintro e wx ⟨rfl, hx⟩; rw [hx, HKB.out.2]; clear hx))
      go_ret2
      exact ⟨by rw [show putB l k x = false from by simp [putB, HO.out], show putC k x = 2 from by simp [putC, HO.out]]; rfl, by rw [show putA l k x = l from by simp [putA, HO.out]]; exact HK.out.2.2.1, grown_refl _ _⟩

set_option maxRecDepth 100000 in
set_option maxHeartbeats 8000000 in
theorem delete20 (b : Nat) (kv : Value) (l : List PRow) (k : Bs) (hz : l.length ≤ 1000000) (w : World) (ht : Dt w b l) (hk : Seg w kv k) :
    Calls Try.prog 20 #[.pointer (some ⟨b, 0, none⟩), kv] w fun e w' => e = .returned (.tuple #[.bool (delB l k), .int .i64 (delC k)]) ∧ Dt w' b (delA l k) ∧ w.grownBy w' (some b) := by
  obtain ⟨ao, n, cap, hn, hc, hc', HT⟩ := dt_open ht
  have HK : Hid (Seg w kv k ∧ Dt w b l ∧ l.length = n) := ⟨hk, ht, hn⟩
  have hn6 : n ≤ 1000000 := by omega
  clear ht hk hn
  obtain ⟨kb, hkb⟩ : ∃ kb, keyB k = kb := ⟨_, rfl⟩
  have HKB : Hid (keyB k = kb) := hkb
  clear hkb
  go_enter Try.func20, Try.ntmps20
  cases kb with
  | false =>
    go_wp2_with (go_at_call 56; refine (Names.key12 _ k w HK.out.1).mono ?_; rintro e wx ⟨rfl, hx⟩; rw [hx, HKB.out]; clear hx)
    go_ret2
    exact ⟨by rw [show delB l k = false from by simp [delB, HKB.out], show delC k = 2 from by simp [delC, HKB.out]]; rfl, by rw [show delA l k = l from by simp [delA, HKB.out]]; exact HK.out.2.1, grown_refl _ _⟩
  | true =>
    go_wp2_with (go_at_call 56; refine (Names.key12 _ k w HK.out.1).mono ?_; rintro e wx ⟨rfl, hx⟩; rw [hx, HKB.out]; clear hx)
    refine (has58 b kv l k w HK.out.2.1 HK.out.1).mono ?_
    rintro e w1 ⟨rfl, m1, hw1⟩
    rw [hw1]
    clear hw1
    obtain ⟨i, hi⟩ : ∃ i, rankL l k = i := ⟨_, rfl⟩
    obtain ⟨h, hh⟩ : ∃ h, hasL l k = h := ⟨_, rfl⟩
    have HR : Hid (rankL l k = i ∧ hasL l k = h) := ⟨hi, hh⟩
    have hin : i ≤ n := by rw [← hi, ← HK.out.2.2]; exact rank_le l k
    rw [hi, hh]
    clear hi hh
    cases h with
    | false =>
      go_wp2_with fail
      go_ret2
      refine ⟨by rw [show delB l k = false from by simp [delB, HR.out.2], show delC k = 0 from by simp [delC, HKB.out]]; rfl, ?_, grown_drewN _ _ _⟩
      rw [show delA l k = l from by simp [delA, HKB.out, delL, endL, HR.out.1, HR.out.2]]
      exact HK.out.2.1.grown (grown_drewN _ _ _)
    | true =>
      have HE : Hid (endL l k = i + 1) := by simp [Hid, endL, HR.out.1, HR.out.2]
      have hen : i + 1 ≤ n := by have := end_le l k; rw [HE.out, HK.out.2.2] at this; exact this
      have hadd : IntKind.i64.wrap ((i : Int) + 1) = (i : Int) + 1 := by rw [IntKind.wrap_i64]; omega
      go_upto_region 5 with fail
      refine wp_region_noPanic ?_
      refine wp_region_hold 18 (fun y => w.grownBy y none) (by kernel_rfl) ?_
      have G0 : Hid (w.grownBy (w.drewN m1).drew none) := grown_trans (grown_drewN w m1 none) (grown_drew _ _)
      generalize (w.drewN m1).drew = wd at G0 ⊢
      have HM : Hid (∀ y : World, w.grownBy y none → y.cell? ⟨b, 0, none⟩ = some (.slice ao n cap)) := fun y hy => (HT.out.1.grown hy (by simp)).cell 0
      obtain ⟨ks, hks, hrs⟩ := HT.out.2
      rw [HK.out.2.2] at hks
      have HKS : Hid (∀ y : World, w.grownBy y none → y.ownsRow 0 45 2 (.slice ao n cap) n (rcells ks) ∧ ROwn y 0 ks l) := fun y hy => ⟨owns_same hks fun q hq => hy.block q (World.ownsRow.lt hks q hq).2 (by simp), hrs.grown hy⟩
      clear hks hrs
      obtain ⟨sv, hsv⟩ : ∃ v, sliced ao 0 i cap 2 = v := ⟨_, rfl⟩
      have hsl : ∀ wk, (Instr.slice 22 (.slice ao n cap) none (some (.int .i64 (i : Int))) none).run Try.prog wk = .ok sv wk := fun wk => by rw [← hsv]; exact run_front ao n cap i (by omega) wk
      have HP1 : Hid (∀ y : World, w.grownBy y none → Vec y 2 sv i (rcells (ks.take i))) := fun y hy => by
        have := own_piece (HKS.out y hy).1 0 i (Nat.zero_le _) hin
        rw [hsv] at this
        simpa using this
      clear hsv
      obtain ⟨sv2, hsv2⟩ : ∃ v, sliced ao (i + 1) n cap 2 = v := ⟨_, rfl⟩
      have hsl2 : ∀ wk, (Instr.slice 22 (.slice ao n cap) (some (.int .i64 ((i : Int) + 1))) none none).run Try.prog wk = .ok sv2 wk := fun wk => by rw [← hsv2]; exact run_rest 22 2 ut22 size22 ao n cap (i + 1) hen wk
      have HP2 : Hid (∀ y : World, w.grownBy y none → Vec y 2 sv2 (n - (i + 1)) (rcells (ks.drop (i + 1)))) := fun y hy => by
        have := own_piece (HKS.out y hy).1 (i + 1) n hen (Nat.le_refl _)
        rw [hsv2, List.take_of_length_le (by rw [List.length_drop, (HKS.out y hy).2.1, HK.out.2.2]; omega)] at this
        exact this
      clear hsv2
      refine wpHold_take (i := 0) (v := _) (G0.out) rfl rfl (by kernel_rfl) (by kernel_rfl) (by kernel_rfl) (by kernel_rfl) (by kernel_rfl) (fun _ _ _ h => h) (by rfl) (fun wk hk => by have z0 := HM.out wk hk; go_simp; try rfl) ?_
      try simp only [Act.put, List.setIfInBounds_toArray, List.set_cons_zero, List.set_cons_succ]
      refine wpHold_take (i := 1) (v := _) (G0.out) rfl rfl (by kernel_rfl) (by kernel_rfl) (by kernel_rfl) (by kernel_rfl) (by kernel_rfl) (fun _ _ _ h => h) (by rfl) (fun wk hk => by have z0 := HM.out wk hk; go_simp; try rfl) ?_
      try simp only [Act.put, List.setIfInBounds_toArray, List.set_cons_zero, List.set_cons_succ]
      refine wpHold_take (i := 2) (v := _) (G0.out) rfl rfl (by kernel_rfl) (by kernel_rfl) (by kernel_rfl) (by kernel_rfl) (by kernel_rfl) (fun _ _ _ h => h) (by rfl) (fun wk hk => by have z0 := HM.out wk hk; go_simp; try rfl) ?_
      try simp only [Act.put, List.setIfInBounds_toArray, List.set_cons_zero, List.set_cons_succ]
      refine wpHold_take (i := 3) (v := _) (G0.out) rfl rfl (by kernel_rfl) (by kernel_rfl) (by kernel_rfl) (by kernel_rfl) (by kernel_rfl) (fun _ _ _ h => h) (by rfl) (fun wk hk => by have z0 := HM.out wk hk; go_simp; try rfl) ?_
      try simp only [Act.put, List.setIfInBounds_toArray, List.set_cons_zero, List.set_cons_succ]
      refine wpHold_take (i := 4) (v := _) (G0.out) rfl rfl (by kernel_rfl) (by kernel_rfl) (by kernel_rfl) (by kernel_rfl) (by kernel_rfl) (fun _ _ _ h => h) (by rfl) (fun wk hk => by have z0 := HM.out wk hk; go_simp; try rfl) ?_
      try simp only [Act.put, List.setIfInBounds_toArray, List.set_cons_zero, List.set_cons_succ]
      refine wpHold_take (i := 5) (v := _) (G0.out) rfl rfl (by kernel_rfl) (by kernel_rfl) (by kernel_rfl) (by kernel_rfl) (by kernel_rfl) (fun _ _ _ h => h) (by rfl) (fun wk hk => by have z0 := HM.out wk hk; go_simp; try rfl) ?_
      try simp only [Act.put, List.setIfInBounds_toArray, List.set_cons_zero, List.set_cons_succ]
      refine wpHold_take (i := 6) (v := _) (G0.out) rfl rfl (by kernel_rfl) (by kernel_rfl) (by kernel_rfl) (by kernel_rfl) (by kernel_rfl) (fun _ _ _ h => h) (by rfl) (fun wk hk => by have z0 := HM.out wk hk; go_simp; try rfl) ?_
      try simp only [Act.put, List.setIfInBounds_toArray, List.set_cons_zero, List.set_cons_succ]
      refine wpHold_take (i := 8) (v := _) (G0.out) rfl rfl (by kernel_rfl) (by kernel_rfl) (by kernel_rfl) (by kernel_rfl) (by kernel_rfl) (fun _ _ _ h => h) (by rfl) (fun wk hk => by have z0 := HM.out wk hk; go_simp; try rfl) ?_
      try simp only [Act.put, List.setIfInBounds_toArray, List.set_cons_zero, List.set_cons_succ]
      refine wpHold_take (i := 9) (v := _) (G0.out) rfl rfl (by kernel_rfl) (by kernel_rfl) (by kernel_rfl) (by kernel_rfl) (by kernel_rfl) (fun _ _ _ h => h) (by rfl) (fun wk hk => by have z0 := HM.out wk hk; go_simp; try rfl) ?_
      try simp only [Act.put, List.setIfInBounds_toArray, List.set_cons_zero, List.set_cons_succ]
      refine wpHold_take (i := 10) (v := _) (G0.out) rfl rfl (by kernel_rfl) (by kernel_rfl) (by kernel_rfl) (by kernel_rfl) (by kernel_rfl) (fun _ _ _ h => h) (by rfl) (fun wk hk => by have z0 := HM.out wk hk; go_simp; try rfl) ?_
      try simp only [Act.put, List.setIfInBounds_toArray, List.set_cons_zero, List.set_cons_succ]
      refine wpHold_take (i := 11) (v := _) (G0.out) rfl rfl (by kernel_rfl) (by kernel_rfl) (by kernel_rfl) (by kernel_rfl) (by kernel_rfl) (fun _ _ _ h => h) (by rfl) (fun wk hk => by have z0 := HM.out wk hk; go_simp; try rfl) ?_
      try simp only [Act.put, List.setIfInBounds_toArray, List.set_cons_zero, List.set_cons_succ]
      refine wpHold_take (i := 12) (v := _) (G0.out) rfl rfl (by kernel_rfl) (by kernel_rfl) (by kernel_rfl) (by kernel_rfl) (by kernel_rfl) (fun _ _ _ h => h) (by rfl) (fun wk hk => by have z0 := HM.out wk hk; go_simp; try rfl) ?_
      try simp only [Act.put, List.setIfInBounds_toArray, List.set_cons_zero, List.set_cons_succ]
      refine wpHold_take (i := 13) (v := _) (G0.out) rfl rfl (by kernel_rfl) (by kernel_rfl) (by kernel_rfl) (by kernel_rfl) (by kernel_rfl) (fun _ _ _ h => h) (by rfl) (fun wk hk => by have z0 := HM.out wk hk; go_simp; try rfl) ?_
      try simp only [Act.put, List.setIfInBounds_toArray, List.set_cons_zero, List.set_cons_succ]
      refine wpHold_take (i := 14) (v := _) (G0.out) rfl rfl (by kernel_rfl) (by kernel_rfl) (by kernel_rfl) (by kernel_rfl) (by kernel_rfl) (fun _ _ _ h => h) (by rfl) (fun wk hk => by have z0 := HM.out wk hk; go_simp; try rfl) ?_
      try simp only [Act.put, List.setIfInBounds_toArray, List.set_cons_zero, List.set_cons_succ]
      refine wpHold_one (i := 7) rfl (by kernel_rfl) (by rfl) (fun K hK => ?_)
      refine appO_wp wd _ _ 22 45 _ 2 48 Try.info45 ut22' rfl (by decide) rfl wd.heap.size (.slice none 0 0) 0 [] sv i (rcells (ks.take i)) rfl rfl (World.ownsRow_nil _ _ _ _) (HP1.out wd G0.out) ?_ ?_ ?_ (Nat.le_refl _) ?_
      · exact ((HKS.out wd G0.out).2.take i).one
      · omega
      · unfold maxLen; omega
      intro v5 w5 hv5 hg5
      have H5 : Hid (w5.ownsRow wd.heap.size 45 2 v5 i (rcells (ks.take i)) ∧ wd.grownBy w5 none) := ⟨by simpa using hv5, hg5.none (Nat.le_refl _)⟩
      clear hv5 hg5
      obtain ⟨a5, c5, e5, _, _⟩ := (vec_of_owns H5.out.1).shape
      subst e5
      have G5 : Hid (w.grownBy w5 none) := grown_trans G0.out H5.out.2
      refine hK.out _ _ (fun _ => G5.out) ?_
      clear hK K
      try simp only [Act.put, List.setIfInBounds_toArray, List.set_cons_zero, List.set_cons_succ]
      refine wpHold_one (i := 15) rfl (by kernel_rfl) (by rfl) (fun K hK => ?_)
      refine appO_wp w5 _ _ 22 45 _ 2 48 Try.info45 ut22' rfl (by decide) rfl wd.heap.size (.slice a5 i c5) i (rcells (ks.take i)) sv2 (n - (i + 1)) (rcells (ks.drop (i + 1))) rfl rfl H5.out.1 (HP2.out w5 G5.out) ?_ ?_ ?_ H5.out.2.size ?_
      · exact ((HKS.out w5 G5.out).2.drop (i + 1)).one
      · omega
      · unfold maxLen; omega
      intro v7 w7 hv7 hg7
      have H7 : Hid (TRws w7 0 v7 (delL l k) ∧ w.grownBy w7 none ∧ Blk w7 b 34 #[.slice ao n cap]) := by
        have g7 : w.grownBy w7 none := grown_trans G0.out (hg7.after H5.out.2 (Nat.le_refl _))
        refine ⟨⟨ks.take i ++ ks.drop (i + 1), ?_, ?_⟩, g7, HT.out.1.grown g7 (by simp)⟩
        · have hl : (delL l k).length = i + (n - (i + 1)) := by
            unfold delL
            rw [HR.out.1, HE.out]
            simp [HK.out.2.2]
            omega
          rw [hl, rcells_append]
          exact owns_mono hv7 (Nat.zero_le _)
        · have h7 := (HKS.out w7 g7).2
          have := (h7.take i).append (h7.drop (i + 1))
          unfold delL
          rw [HR.out.1, HE.out]
          exact this
      obtain ⟨a7, c7, e7, _, _⟩ := (vec_of_owns hv7).shape
      subst e7
      clear hv7 hg7 H5
      refine hK.out _ _ (fun _ => H7.out.2.1) ?_
      clear hK K
      try simp only [Act.put, List.setIfInBounds_toArray, List.set_cons_zero, List.set_cons_succ]
      refine wpHold_take (i := 16) (v := _) (H7.out.2.1) rfl rfl (by kernel_rfl) (by kernel_rfl) (by kernel_rfl) (by kernel_rfl) (by kernel_rfl) (fun _ _ _ h => h) (by rfl) (fun wk hk => by have z0 := HM.out wk hk; go_simp; try rfl) ?_
      try simp only [Act.put, List.setIfInBounds_toArray, List.set_cons_zero, List.set_cons_succ]
      refine wpHold_take (i := 17) (v := _) (H7.out.2.1) rfl rfl (by kernel_rfl) (by kernel_rfl) (by kernel_rfl) (by kernel_rfl) (by kernel_rfl) (fun _ _ _ h => h) (by rfl) (fun wk hk => by have z0 := HM.out wk hk; go_simp; try rfl) ?_
      try simp only [Act.put, List.setIfInBounds_toArray, List.set_cons_zero, List.set_cons_succ]
      refine wpHold_one (i := 18) rfl (by kernel_rfl) (by rfl) (fun K hK => ?_)
      have f7 := H7.out.2.2.free 0
      have q7 := H7.out.2.2.cell 0
      simp at q7
      go_wp2_with fail
      have H8 : Hid (Dt (w7.setCell ⟨b, 0, none⟩ (.slice a7 (i + (n - (i + 1))) c7)) b (delL l k) ∧ w.grownBy (w7.setCell ⟨b, 0, none⟩ (.slice a7 (i + (n - (i + 1))) c7)) (some b)) := ⟨dt_store H7.out.2.2 H7.out.1, grown_widen H7.out.2.1 (grown_setCell _ _ _ _)⟩
      generalize w7.setCell ⟨b, 0, none⟩ (.slice a7 (i + (n - (i + 1))) c7) = w8 at H8 ⊢
      refine hK.out _ _ (fun h => absurd rfl h) ?_
      clear hK K
      try simp only [Act.put, List.setIfInBounds_toArray, List.set_cons_zero, List.set_cons_succ]
      refine wpHold_done (by kernel_rfl) ?_
      refine (‹∀ (a : Act) (w : World), Code.wp Try.prog _ _ a w → _› _ _ ?_)
      go_wp2_with fail
      go_ret2
      refine ⟨by rw [show delB l k = true from by simp [delB, HKB.out, HR.out.2], show delC k = 0 from by simp [delC, HKB.out]]; rfl, ?_, H8.out.2⟩
      rw [show delA l k = delL l k from by simp [delA, HKB.out]]
      exact H8.out.1
end Go.Proofs.Ytlehikdlkdbacaa
