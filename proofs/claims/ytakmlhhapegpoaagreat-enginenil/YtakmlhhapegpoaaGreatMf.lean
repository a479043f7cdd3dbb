/-
  A table that stands by its name (stand); named rows in memory; the first table's rows (firstTable).
-/
import Derived.Test.YtakmlhhapegpoaaGreatMe
import Derived.Test.YtakmlhhapegpoaaGreatShelf
import Derived.Test.YtakmlhhapegpoaaGreatTableAll
namespace Go.Proofs.YtakmlhhapegpoaaGreat
open Go.RowKit Disk Table
open Names (Str cmpL keyB valueB tabB)

theorem below_grown {w w' : World} (h : Below w.heap.size w w') : w.grownBy w' none := ⟨h.os, h.tape, h.output, h.size, fun k hk _ => h.block k hk⟩
set_option maxHeartbeats 400000 in
theorem clone76 (n : Bs) (hn : n.length ≤ 1000000) (w : World) : Calls Tryz.prog 76 #[Str n] w fun e w' => e = .returned (Str n) ∧ w.grownBy w' none := by
  have hs : (⟨n.toArray⟩ : ByteArray).size ≤ 281474976710656 := by rw [Names.str_size]; omega
  unfold Str
  go_enter Tryz.func76, Tryz.ntmps76
  go_wp2_with (go_at_call 103; refine (Tryz.stringslite_Clone _ w hs).mono ?_; rintro e w1 ⟨rfl, hb⟩; have H : Hid (w.grownBy w1 none) := below_grown hb; clear hb)
  go_ret
  exact ⟨rfl, H.out⟩
set_option maxRecDepth 100000 in
set_option maxHeartbeats 4000000 in
/-- A draft's table stands by its name; one without rows does not. -/
theorem stand48 {X : Nat → Prop} (b m : Nat) (q : Int × Int) (D : DB) (hD : RiseD D) (n : Bs) (hn : n.length ≤ 1000000) (tv : Value) (is : Bool) (r : List PRow) (w : World) (hb : EngB w b q m) (h : EM X w m D) (ht : Tl w tv is r) (hz : r.length ≠ 0 → ∃ p, tv = ptr p ∧ Tbz X w p r) :
    Calls Tryz.prog 48 #[.pointer (some ⟨b, 0, none⟩), Str n, tv] w fun e w' => e = .returned (.tuple #[]) ∧ EM X w' m (standD D n r) ∧ w.grownBy w' (some m) := by
  have HT : Hid (Tl w tv is r) := ht
  have HB : Hid (EngB w b q m) := hb
  have HC : Hid (∀ y, w.grownBy y none → y.cell? ⟨b, 2, none⟩ = some (.map (some m))) := fun y hy => by
    have := Blk.grown hb hy (by simp)
    exact this.cell 2
  obtain ⟨N, hN⟩ : ∃ N, r.length = N := ⟨_, rfl⟩
  have HL : Hid (Calls Tryz.prog 50 #[tv] w fun e w' => e = .returned (.int .i64 (N : Int)) ∧ w' = w) := by rw [← hN]; exact len23g tv is r w ht
  obtain ⟨E, h1, h2, h3⟩ := h
  have H : Hid (RiseD D ∧ MapAt w m E ∧ (∀ n, n ∈ E.map (·.1) ↔ n ∈ namesD D) ∧ (∀ x ∈ E, Tbz X w x.2 (rowsOf D x.1)) ∧ r.length = N ∧ n.length ≤ 1000000) := ⟨hD, h1, h2, h3, hN, hn⟩
  by_cases hN0 : N = 0
  · subst hN0
    have hr : r = [] := List.eq_nil_of_length_eq_zero hN
    have c2 := HC.out w (grown_refl _ _)
    obtain ⟨w1, hd, hm1, hg1, _⟩ := run_del h1 n 0
    have H1 : Hid (MapAt w1 m (delE E n) ∧ w.grownBy w1 (some m)) := ⟨hm1, hg1⟩
    unfold Str at hd ⊢
    clear h1 h2 h3 hm1 hg1 hN hb ht hD hz
    go_enter Tryz.func48, Tryz.ntmps48
    go_wp2_with (go_at_call 50; refine HL.out.mono ?_; rintro e w1 ⟨rfl, hw⟩; rw [hw]; clear hw)
    refine bodyPost_ret (v := .tuple #[]) (by simp [results, Tryz.results48]) rfl ?_
    refine ⟨rfl, ?_, H1.out.2⟩
    rw [hr]
    exact em_del H.out.1 H.out.2.1 H.out.2.2.1 H.out.2.2.2.1 n H1.out.1 H1.out.2
  · obtain ⟨p, rfl, hp⟩ := hz (by rw [hN]; exact hN0)
    have HP : Hid (Tbz X w p r ∧ N ≠ 0) := ⟨hp, hN0⟩
    have n0 : ((N : Int) == 0) = false := by simp; omega
    have n1 : (N == 0) = false := by simp; omega
    have n2 : (N = 0) = False := by simp; omega
    clear h1 h2 h3 hN hb ht hD hz hp hN0
    go_enter Tryz.func48, Tryz.ntmps48
    go_wp2_with (go_at_call 50; refine HL.out.mono ?_; rintro e w1 ⟨rfl, hw⟩; rw [hw]; clear hw)
    refine wp_region_noPanic ?_
    refine wp_region_hold 7 (fun y => w.grownBy y none) (by kernel_rfl) ?_
    have G0 : Hid (w.grownBy w.drew none) := grown_drew _ _
    generalize w.drew = wd at G0 ⊢
    refine wpHold_take (i := 0) (v := _) (G0.out) rfl rfl (by kernel_rfl) (by kernel_rfl) (by kernel_rfl) (by kernel_rfl) (by kernel_rfl) (fun _ _ _ h => h) (by rfl) (fun wk hk => by have m0 := HC.out wk hk; go_simp; try rfl) ?_
    try simp only [Act.put, List.setIfInBounds_toArray, List.set_cons_zero, List.set_cons_succ]
    refine wpHold_take (i := 1) (v := _) (G0.out) rfl rfl (by kernel_rfl) (by kernel_rfl) (by kernel_rfl) (by kernel_rfl) (by kernel_rfl) (fun _ _ _ h => h) (by rfl) (fun wk hk => by have m0 := HC.out wk hk; go_simp; try rfl) ?_
    try simp only [Act.put, List.setIfInBounds_toArray, List.set_cons_zero, List.set_cons_succ]
    refine wpHold_take (i := 2) (v := _) (G0.out) rfl rfl (by kernel_rfl) (by kernel_rfl) (by kernel_rfl) (by kernel_rfl) (by kernel_rfl) (fun _ _ _ h => h) (by rfl) (fun wk hk => by have m0 := HC.out wk hk; go_simp; try rfl) ?_
    try simp only [Act.put, List.setIfInBounds_toArray, List.set_cons_zero, List.set_cons_succ]
    refine wpHold_take (i := 3) (v := _) (G0.out) rfl rfl (by kernel_rfl) (by kernel_rfl) (by kernel_rfl) (by kernel_rfl) (by kernel_rfl) (fun _ _ _ h => h) (by rfl) (fun wk hk => by have m0 := HC.out wk hk; go_simp; try rfl) ?_
    try simp only [Act.put, List.setIfInBounds_toArray, List.set_cons_zero, List.set_cons_succ]
    refine wpHold_take (i := 4) (v := _) (G0.out) rfl rfl (by kernel_rfl) (by kernel_rfl) (by kernel_rfl) (by kernel_rfl) (by kernel_rfl) (fun _ _ _ h => h) (by rfl) (fun wk hk => by have m0 := HC.out wk hk; go_simp; try rfl) ?_
    try simp only [Act.put, List.setIfInBounds_toArray, List.set_cons_zero, List.set_cons_succ]
    refine wpHold_take (i := 6) (v := _) (G0.out) rfl rfl (by kernel_rfl) (by kernel_rfl) (by kernel_rfl) (by kernel_rfl) (by kernel_rfl) (fun _ _ _ h => h) (by rfl) (fun wk hk => by have m0 := HC.out wk hk; go_simp; try rfl) ?_
    try simp only [Act.put, List.setIfInBounds_toArray, List.set_cons_zero, List.set_cons_succ]
    refine wpHold_one (i := 5) rfl (by kernel_rfl) (by rfl) (fun K hK => ?_)
    go_wp2_with (go_at_call 76; refine (clone76 n H.out.2.2.2.2.2 wd).mono ?_)
    rintro e w2 ⟨rfl, g2⟩
    have G2 : Hid (w.grownBy w2 none) := grown_trans G0.out g2
    clear g2
    go_wp2_with fail
    refine hK.out _ _ (fun _ => G2.out) ?_
    clear hK K
    try simp only [Act.put, List.setIfInBounds_toArray, List.set_cons_zero, List.set_cons_succ]
    refine wpHold_one (i := 7) rfl (by kernel_rfl) (by rfl) (fun K hK => ?_)
    obtain ⟨w3, hu, hm3, hg3, _⟩ := run_put (H.out.2.1.grown G2.out (by simp)) n p
    have H3 : Hid (MapAt w3 m (setE E n p) ∧ w2.grownBy w3 (some m)) := ⟨hm3, hg3⟩
    clear hm3 hg3
    go_wp2_with fail
    refine hK.out _ _ (fun h => absurd rfl h) ?_
    clear hK K
    try simp only [Act.put, List.setIfInBounds_toArray, List.set_cons_zero, List.set_cons_succ]
    refine wpHold_done (by kernel_rfl) ?_
    refine NoPanic.normal (bodyPost_end (v := .tuple #[]) (by simp [results, Tryz.results48]) rfl ?_)
    refine ⟨rfl, em_set H.out.1 (H.out.2.1.grown G2.out (by simp)) H.out.2.2.1 (fun x hx => (H.out.2.2.2.1 x hx).grown G2.out) n r (by rw [H.out.2.2.2.2.1]; exact HP.out.2) (HP.out.1.grown G2.out) H3.out.1 H3.out.2, grown_trans (grown_weak G2.out _) H3.out.2⟩

/-- Named rows: a table's name, a key, a value. -/
abbrev NRow := Bs × PRow
def ncells : List (Bs × Value × Value) → List Value
  | [] => []
  | k :: ks => Str k.1 :: k.2.1 :: k.2.2 :: ncells ks
theorem ncells_len : ∀ ks, (ncells ks).length = ks.length * 3
  | [] => rfl
  | k :: ks => by simp [ncells, ncells_len ks]; omega
theorem ncells_at : ∀ (ks : List (Bs × Value × Value)) (j : Nat) (h : j < ks.length), (ncells ks)[j * 3]? = some (Str ks[j].1) ∧ (ncells ks)[j * 3 + 1]? = some ks[j].2.1 ∧ (ncells ks)[j * 3 + 2]? = some ks[j].2.2
  | k :: ks, 0, _ => by simp [ncells]
  | k :: ks, j + 1, h => by
    have := ncells_at ks j (by simpa using h)
    have e : (j + 1) * 3 = j * 3 + 3 := by omega
    rw [e]
    simpa [ncells] using this
theorem ncells_drop : ∀ (ks : List (Bs × Value × Value)) (k : Nat), ncells (ks.drop k) = (ncells ks).drop (k * 3)
  | ks, 0 => by simp
  | [], k + 1 => by simp [ncells]
  | x :: ks, k + 1 => by
    have e : (k + 1) * 3 = k * 3 + 3 := by omega
    rw [e]
    simpa [ncells] using ncells_drop ks k
def NSeg (w : World) (ks : List (Bs × Value × Value)) (l : List NRow) : Prop := ks.length = l.length ∧ ∀ j (h : j < ks.length) (h' : j < l.length), ks[j].1 = l[j].1 ∧ Seg w ks[j].2.1 l[j].2.1 ∧ Seg w ks[j].2.2 l[j].2.2
theorem NSeg.grown {w w' : World} {ks : List (Bs × Value × Value)} {l : List NRow} (h : NSeg w ks l) (hg : w.grownBy w' none) : NSeg w' ks l := ⟨h.1, fun j a b => ⟨(h.2 j a b).1, (h.2 j a b).2.1.grown hg, (h.2 j a b).2.2.grown hg⟩⟩
/-- A list of named rows. -/
def Nms (w : World) (v : Value) (l : List NRow) : Prop := ∃ ks, NSeg w ks l ∧ Vec w 3 v l.length (ncells ks)
theorem Nms.grown {w w' : World} {v : Value} {l : List NRow} (h : Nms w v l) (hg : w.grownBy w' none) : Nms w' v l := by
  obtain ⟨ks, h1, h2⟩ := h
  exact ⟨ks, h1.grown hg, h2.grown hg⟩
theorem nms_nil (w : World) : Nms w (.slice none 0 0) [] := ⟨[], ⟨rfl, fun j h => absurd h (by simp)⟩, vec_nil _ _⟩
theorem nms_open {w : World} {v : Value} {l : List NRow} (h : Nms w v l) : ∃ ao n cap, v = .slice ao n cap ∧ l.length = n ∧ n ≤ cap ∧ cap ≤ 9223372036854775807 ∧ Hid (Nms w (.slice ao n cap) l) := by
  have h' := h
  obtain ⟨ks, _, ao, cap, rfl, h2, h3, _⟩ := h'
  unfold maxLen at h3
  exact ⟨ao, _, cap, rfl, rfl, h2, by omega, h⟩
theorem nms_at {w : World} {ao : Option Addr} {n cap : Nat} {l : List NRow} (h : Nms w (.slice ao n cap) l) (j : Nat) (hj : j < l.length) : ∃ b off x y, ao = some ⟨b, off, none⟩ ∧ w.cell? ⟨b, off + j * 3, none⟩ = some (Str l[j].1) ∧ w.cell? ⟨b, off + j * 3 + 1, none⟩ = some x ∧ w.cell? ⟨b, off + j * 3 + 2, none⟩ = some y ∧ Seg w x l[j].2.1 ∧ Seg w y l[j].2.2 := by
  obtain ⟨ks, h1, h2⟩ := h
  have e1 := h1.1
  have hk : j < ks.length := by omega
  obtain ⟨g1, g2, g3⟩ := ncells_at ks j hk
  obtain ⟨ao', cap', e, _, _, _, _, h6⟩ := h2
  simp at e
  obtain ⟨rfl, rfl, rfl⟩ := e
  obtain ⟨b, off, e, hc⟩ := h6 _ _ g1
  obtain ⟨b', off', e', hc'⟩ := h6 _ _ g2
  obtain ⟨b2, off2, e2, hc2⟩ := h6 _ _ g3
  rw [e] at e' e2
  simp at e' e2
  obtain ⟨rfl, rfl⟩ := e'
  obtain ⟨rfl, rfl⟩ := e2
  obtain ⟨f1, f2, f3⟩ := h1.2 j hk hj
  exact ⟨b, off, _, _, e, by rw [← f1]; exact hc, by rw [Nat.add_assoc]; exact hc', by rw [Nat.add_assoc]; exact hc2, f2, f3⟩
theorem Tryz.ut24 : Tryz.prog.underlying 24 = some (.slice (Tryz.prog.elem 24)) := by kernel_rfl
theorem Tryz.size24 (w : World) : (sizeOf (Tryz.prog.elem 24)).run Tryz.prog w = .ok 3 w := by kernel_rfl
theorem nms_rest {w : World} {ao : Option Addr} {n cap : Nat} {l : List NRow} (h : Nms w (.slice ao n cap) l) (hn : l.length = n) (lo : Nat) (h1 : lo ≤ n) : Nms w (sliced ao lo n cap 3) (l.drop lo) := by
  obtain ⟨ks, ha, hv⟩ := h
  have hv' := hv
  obtain ⟨ao1, c1, e1, _⟩ := hv'
  simp at e1
  obtain ⟨rfl, rfl, rfl⟩ := e1
  have := vec_piece hv lo l.length h1 (Nat.le_refl _)
  refine ⟨ks.drop lo, ⟨by simp [ha.1], fun j a b => ?_⟩, ?_⟩
  · simp only [List.getElem_drop]
    exact ha.2 _ _ _
  · rw [ncells_drop, List.length_drop]
    rw [List.take_of_length_le (by rw [List.length_drop, ncells_len, ha.1, Nat.sub_mul]; omega)] at this
    exact this
/-- The rows up to the first one of another table. -/
def front (l : List NRow) : List NRow := match l with
  | [] => []
  | r :: _ => l.takeWhile (fun x => decide (x.1 = r.1))
def frontR (l : List NRow) : List PRow := (front l).map (·.2)
end Go.Proofs.YtakmlhhapegpoaaGreat
