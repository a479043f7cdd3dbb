/-
  The first table's rows (firstTable).
-/
import Derived.Test.YtakmlhhapegpoaaGreatMf
namespace Go.Proofs.YtakmlhhapegpoaaGreat
open Go.RowKit Disk Table
open Names (Str cmpL keyB valueB tabB)

/-- A list of rows that the call made itself; their bytes are the caller's, as they lay in w0. -/
def FRws (w0 w : World) (B : Nat) (v : Value) (l : List PRow) : Prop := ∃ ks, w.ownsRow B 86 2 v l.length (rcells ks) ∧ RSeg w0 ks l
theorem FRws.grown {w0 w w' : World} {B : Nat} {v : Value} {l : List PRow} (h : FRws w0 w B v l) (hg : w.grownBy w' none) : FRws w0 w' B v l := by
  obtain ⟨ks, h1, h2⟩ := h
  exact ⟨ks, World.ownsRow.kept h1 hg (by cases v.ownBlock <;> simp), h2⟩
theorem FRws.rws {w0 w : World} {B : Nat} {v : Value} {l : List PRow} (h : FRws w0 w B v l) (hg : w0.grownBy w none) : Rws w v l := by
  obtain ⟨ks, h1, h2⟩ := h
  exact ⟨ks, h2.grown hg, vec_of_owns h1⟩
theorem FRws.nil (w0 w : World) (B : Nat) : FRws w0 w B (.slice none 0 0) [] := ⟨[], World.ownsRow_nil _ _ _ _, rfl, fun j h => absurd h (by simp)⟩
theorem takeWhile_all {α : Type} (p : α → Bool) : ∀ (l : List α), (∀ x ∈ l, p x = true) → l.takeWhile p = l
  | [], _ => rfl
  | x :: l, h => by
    rw [List.takeWhile_cons, h x (by simp)]
    simp only [if_true]
    rw [takeWhile_all p l (fun y hy => h y (by simp [hy]))]
theorem seg_one {w : World} {v : Value} {L : Bs} (h : Seg w v L) : v.oneCell' = true := by
  obtain ⟨ao, cap, rfl, _⟩ := h
  rfl
theorem front_all {l : List NRow} (h : ∀ j (hj : j < l.length), l[j].1 = (l[0]'(by omega)).1) : frontR l = l.map (·.2) := by
  unfold frontR front
  cases l with
  | nil => rfl
  | cons r l =>
    simp only
    rw [takeWhile_all]
    intro x hx
    obtain ⟨j, hj, rfl⟩ := List.getElem_of_mem hx
    have := h j hj
    simpa using this
theorem takeWhile_stop {α : Type} (p : α → Bool) : ∀ (l : List α) (k : Nat) (hk : k < l.length), (∀ j (hj : j < l.length), j < k → p l[j] = true) → p l[k] = false → l.takeWhile p = l.take k
  | x :: l, 0, _, _, h2 => by
    simp only [List.getElem_cons_zero] at h2
    simp [h2]
  | x :: l, k + 1, hk, h1, h2 => by
    have h0 := h1 0 (by simp) (by omega)
    simp only [List.getElem_cons_zero] at h0
    simp only [List.getElem_cons_succ] at h2
    simp only [List.takeWhile_cons, h0, List.take_succ_cons, if_true]
    rw [takeWhile_stop p l k (by simpa using hk) (fun j hj hjk => by have := h1 (j + 1) (by simpa using hj) (by omega); simpa using this) h2]
theorem front_stop {l : List NRow} {k : Nat} (h : ∀ j (hj : j < l.length), j < k → l[j].1 = (l[0]'(by omega)).1) (hk : k < l.length) (hne : l[k].1 ≠ (l[0]'(by omega)).1) : frontR l = (l.take k).map (·.2) := by
  unfold frontR front
  cases l with
  | nil => simp at hk
  | cons r l =>
    simp only
    rw [takeWhile_stop _ (r :: l) k hk (fun j hj hjk => by have := h j hj hjk; simpa using this) (by simpa using hne)]
/-- A row appended to a list of the call's own, its bytes the caller's. -/
theorem appF_wp {o : Oper} {a : Act} {K : Act → World → Prop} {Q : Exit → Act → World → Prop} (w : World) (s x : Operand) (ho : o.op = .call { callee := .builtin .append, args := #[s, x], argTypes := #[70, 70] })
    (B : Nat) (v : Value) (l : List PRow) (u : Value) (kx ky : Value) (r : PRow) (hs : a.eval s = v) (hx : a.eval x = u) (w0 : World) (hv : FRws w0 w B v l) (hu : Vec w 2 u 1 [kx, ky]) (h1 : Seg w0 kx r.1) (h2 : Seg w0 ky r.2) (hb : l.length ≤ 1000000) (hB : B ≤ w.heap.size)
    (h : ∀ ao cap w', FRws w0 w' B (.slice ao (l.length + 1) cap) (l ++ [r]) → (∃ q, w.grownBy w' q ∧ ∀ g, q = some g → B ≤ g) → K (a.put o.dst (.slice ao (l.length + 1) cap)) w') : o.wp Tryz.prog a w K Q := by
  obtain ⟨ks, h3, h4⟩ := hv
  have h5 := h4.snoc h1 h2
  obtain ⟨i0, hi, hz0, hz1, hz2⟩ := info_parts Tryz.info86
  obtain ⟨ad, c, eu⟩ : ∃ ad c, u = .slice (some ad) 1 c := by
    obtain ⟨ao, c, e, k1, _, k3, _⟩ := hu
    cases ao with
    | none => have := k3 rfl; omega
    | some ad => exact ⟨ad, c, e⟩
  subst eu
  refine wp_append_lies w s x 70 ho B 86 i0 _ 2 48 ut22' hi hz0 hz1 hz2 rfl (by decide) v l.length (rcells ks) hs h3 ad 1 c [kx, ky] hx rfl hu.news ?_ (by decide) (by unfold maxLen; omega) (by omega) hB w.heap.size rfl ?_
  · intro y hy
    simp at hy
    rcases hy with rfl | rfl
    · exact seg_one h1
    · exact seg_one h2
  · intro g cap w' r1 r2 r3 _
    refine h _ cap w' ⟨ks ++ [(kx, ky)], ?_, ?_⟩ ⟨_, r2, fun q hq => (World.ownsRow.lt h3 q hq).1⟩
    · rw [rcells_append, List.length_append]
      exact r1
    · exact h5
theorem appF_at {ops : Array Oper} {rest : List Oper} {o : Oper} {a : Act} {Q : Exit → Act → World → Prop} (w : World) (hw : Region.wanted o (yielded ops a.tmps) = true) (s x : Operand) (ho : o.op = .call { callee := .builtin .append, args := #[s, x], argTypes := #[70, 70] })
    (B : Nat) (v : Value) (l : List PRow) (u : Value) (kx ky : Value) (r : PRow) (hs : a.eval s = v) (hx : a.eval x = u) (w0 : World) (hv : FRws w0 w B v l) (hu : Vec w 2 u 1 [kx, ky]) (h1 : Seg w0 kx r.1) (h2 : Seg w0 ky r.2) (hb : l.length ≤ 1000000) (hB : B ≤ w.heap.size)
    (h : ∀ ao cap w', FRws w0 w' B (.slice ao (l.length + 1) cap) (l ++ [r]) → (∃ q, w.grownBy w' q ∧ ∀ g, q = some g → B ≤ g) → wpList Tryz.prog ops Q rest (a.put o.dst (.slice ao (l.length + 1) cap)) w') : wpList Tryz.prog ops Q (o :: rest) a w :=
  BigFrame.wpList_want hw fun _ hK => appF_wp w s x ho B v l u kx ky r hs hx w0 hv hu h1 h2 hb hB fun ao cap w' h1 h2 => hK _ _ (h ao cap w' h1 h2)
set_option maxRecDepth 100000 in
set_option maxHeartbeats 4000000 in
theorem firstTable45 (v : Value) (l : List NRow) (hz : l.length ≤ 1000000) (w : World) (hv : Nms w v l) : Calls Tryz.prog 45 #[v] w fun e w' => ∃ u, e = .returned u ∧ FRws w w' w.heap.size u (frontR l) ∧ w.grownBy w' none := by
  obtain ⟨ao, n, cap, rfl, hn, h1, h2, HV⟩ := nms_open hv
  have HN : Hid (l.length = n) := hn
  have hn6 : n ≤ 1000000 := by omega
  clear hv hn hz
  go_enter Tryz.func45, Tryz.ntmps45
  go_wp2_with fail
  go_loopw [3, 8] (fun u i wr => ∃ (k : Nat), k ≤ n ∧ i = .int .i64 (k : Int) ∧ Hid ((∀ j (h : j < l.length), j < k → l[j].1 = (l[0]'(by omega)).1) ∧ FRws w wr w.heap.size u ((l.take k).map (·.2)) ∧ w.grownBy wr none)) (fun _ i _ => n - (intOf i).toNat)
  case atStart => exact ⟨0, Nat.zero_le _, rfl, fun j _ h => absurd h (by omega), by simpa using FRws.nil w w w.heap.size, grown_refl _ _⟩
  case round =>
    obtain ⟨k, hk, rfl, HR⟩ := hrel
    rcases Nat.lt_or_ge k n with hlt | hge
    · have ka : k < l.length := by rw [HN.out]; exact hlt
      obtain ⟨b1, o1, x0, y0, rfl, t0, _, _, _, _⟩ := nms_at HV.out 0 (by omega)
      obtain ⟨b2, o2, x1, y1, e2, t1, c1, c2, s1, s2⟩ := nms_at HV.out k ka
      simp at e2
      obtain ⟨rfl, rfl⟩ := e2
      have i0 : (0 : Int) ≤ (k : Int) := by omega
      have i1 : (k : Int) < (n : Int) := by omega
      have i2 : (0 : Int) < (n : Int) := by omega
      obtain ⟨ax, nx, cx, rfl, hx, _, _⟩ := Names.seg_open s1
      obtain ⟨ay, ny, cy, rfl, hy, _, _⟩ := Names.seg_open s2
      obtain ⟨T0, hT0⟩ : ∃ t, (l[0]'(by omega)).1 = t := ⟨_, rfl⟩
      obtain ⟨T1, hT1⟩ : ∃ t, l[k].1 = t := ⟨_, rfl⟩
      have HX : Hid (Seg w (.slice ax nx cx) l[k].2.1 ∧ Seg w (.slice ay ny cy) l[k].2.2 ∧ (l[0]'(by omega)).1 = T0 ∧ l[k].1 = T1) := ⟨s1, s2, hT0, hT1⟩
      rw [hT0] at t0
      rw [hT1] at t1
      unfold Str at t0 t1
      replace t0 := HR.out.2.2.cell t0 (by simp)
      replace t1 := HR.out.2.2.cell t1 (by simp)
      replace c1 := HR.out.2.2.cell c1 (by simp)
      replace c2 := HR.out.2.2.cell c2 (by simp)
      clear s1 s2 hx hy hT0 hT1
      go_wp2_with fail
      obtain ⟨w1, hw1, H1⟩ := al wr #[.string ⟨T1.toArray⟩, .slice ax nx cx, .slice ay ny cy] 61
      rw [hw1]
      clear hw1
      have k0 := H1.out.1.cell 0
      have k1 := H1.out.1.cell 1
      have k2 := H1.out.1.cell 2
      have t0' : w1.cell? ⟨b1, o1, none⟩ = some (.string ⟨T0.toArray⟩) := H1.out.2.1.cell (by simpa using t0) (by simp)
      have G1 : Hid (w.grownBy w1 none) := grown_trans HR.out.2.2 H1.out.2.1
      clear t0 t1 c1 c2
      simp at k0 k1 k2
      by_cases hT : T1 = T0
      · subst hT
        go_quiet (fail)
        have k1' : (w1.drewN nq).cell? ⟨wr.heap.size, 1, none⟩ = some (.slice ax nx cx) := k1
        have k2' : (w1.drewN nq).cell? ⟨wr.heap.size, 2, none⟩ = some (.slice ay ny cy) := k2
        have G2 : Hid (wr.grownBy (w1.drewN nq) none) := grown_trans H1.out.2.1 (grown_drewN _ _ _)
        generalize w1.drewN nq = w2 at k1' k2' G2 ⊢
        obtain ⟨w3, hw3, H3⟩ := al w2 #[.slice ax nx cx, .slice ay ny cy] 86
        obtain ⟨M, hM⟩ : ∃ M, (l.take k).map (·.2) = M := ⟨_, rfl⟩
        have HM : Hid ((l.take k).map (·.2) = M ∧ M.length = k ∧ (l.take (k + 1)).map (·.2) = M ++ [l[k].2]) := ⟨hM, by rw [← hM]; simp; omega, by rw [← hM, List.take_add_one, List.getElem?_eq_getElem ka, List.map_append]; rfl⟩
        have G3 : Hid (wr.grownBy w3 none) := grown_trans G2.out H3.out.2.1
        have HF : Hid (FRws w w3 w.heap.size u3 M) := by rw [← hM]; exact HR.out.2.1.grown G3.out
        clear hM
        go_wp2_with (at_builtin; refine appF_at w3 rfl _ _ rfl w.heap.size u3 M _ (.slice ax nx cx) (.slice ay ny cy) l[k].2 rfl rfl w HF.out (vec_two w2 _ _ w3 H3.out.1) HX.out.1 HX.out.2.1 (by have := HM.out.2.1; omega) (Nat.le_trans HR.out.2.2.size G3.out.size) ?_)
        intro a4 c4 w4 ht4 q4 hq hq2
        have H4 : Hid (FRws w w4 w.heap.size (.slice a4 (k + 1) c4) ((l.take (k + 1)).map (·.2)) ∧ w.grownBy w4 none) := by
          refine ⟨?_, grown_new (grown_trans HR.out.2.2 G3.out) hq hq2⟩
          rw [HM.out.2.2]
          have := HM.out.2.1
          subst this
          exact ht4
        try rw [HM.out.2.1]
        clear ht4 hq hq2
        go_wp2_with fail
        go_roundw
        case rel =>
          refine ⟨k + 1, by omega, by go_num, fun j hj hjk => ?_, H4.out.1, H4.out.2⟩
          rcases Nat.lt_or_ge j k with h | h
          · exact HR.out.1 j hj h
          · have : j = k := by omega
            subst this
            rw [HX.out.2.2.1, HX.out.2.2.2]
        case measure => simp [intOf]; omega
      · have hne : ((⟨T1.toArray⟩ : ByteArray).toList == (⟨T0.toArray⟩ : ByteArray).toList) = false := by
          rw [beq_eq_false_iff_ne]
          simpa using hT
        have hne2 : (T1 == T0) = false := by simpa using hT
        have HT : Hid (T1 ≠ T0) := hT
        clear hT
        go_quiet (fail)
        have G2 : Hid (wr.grownBy (w1.drewN nq) none) := grown_trans H1.out.2.1 (grown_drewN _ _ _)
        generalize w1.drewN nq = w2 at G2 ⊢
        go_wp2_with fail
        go_ret
        refine ⟨_, rfl, ?_, grown_trans HR.out.2.2 G2.out⟩
        rw [front_stop HR.out.1 ka (by rw [HX.out.2.2.1, HX.out.2.2.2]; exact HT.out)]
        exact HR.out.2.1.grown G2.out
    · have hkn : k = n := by omega
      subst hkn
      go_wp2_with fail
      go_ret
      refine ⟨_, rfl, ?_, HR.out.2.2⟩
      have e : (l.take k).map (·.2) = frontR l := by
        rw [List.take_of_length_le (by have := HN.out; omega)]
        exact (front_all (fun j hj => HR.out.1 j hj (by have := HN.out; omega))).symm
      rw [← e]
      exact HR.out.2.1
end Go.Proofs.YtakmlhhapegpoaaGreat
