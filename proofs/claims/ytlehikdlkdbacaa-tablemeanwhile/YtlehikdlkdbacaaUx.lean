/-
  A table's change, and a set of blocks in which no row's bytes lie: Put, Delete.
-/
import Derived.Test.YtlehikdlkdbacaaU
namespace Go.Proofs.Ytlehikdlkdbacaa
open Go.RowKit Disk
open Names (cmpL keyB valueB)

/-- Bytes of one's own, in no block of X. -/
def OwnZ (X : Nat → Prop) (w : World) (v : Value) (L : Bs) : Prop := Disk.Own w 0 v L ∧ ∀ g, v.ownBlock = some g → ¬ X g
theorem OwnZ.grown {X : Nat → Prop} {w w' : World} {v : Value} {L : Bs} (h : OwnZ X w v L) (hg : w.grownBy w' none) : OwnZ X w' v L := ⟨h.1.grown hg, h.2⟩
theorem OwnZ.seg {X : Nat → Prop} {w : World} {v : Value} {L : Bs} (h : OwnZ X w v L) : Seg w v L := h.1.seg
theorem ownz_off {X : Nat → Prop} {w w' : World} {v : Value} {L : Bs} (h : OwnZ X w v L) {g t : Nat} {c : Array Value} (hg : w.grownBy w' (some g)) (hb : Blk w g t c) (h5 : t ≠ 5) : OwnZ X w' v L := ⟨own_off h.1 hg hb h5, h.2⟩
theorem ownz_new {X : Nat → Prop} {w : World} {n B : Nat} {v : Value} {L : Bs} (hX : ∀ g, X g → g < n) (hB : n ≤ B) (h : Disk.Own w B v L) : OwnZ X w v L :=
  ⟨h.mono (Nat.zero_le _), fun g hg hx => by have := (h.lt g hg).1; have := hX g hx; omega⟩
theorem ownz_old {X : Nat → Prop} {w : World} {v : Value} {L : Bs} (hX : ∀ g, X g → w.heap.size ≤ g) (h : Disk.Own w 0 v L) : OwnZ X w v L :=
  ⟨h, fun g hg hx => by have := (h.lt g hg).2; have := hX g hx; omega⟩
/-- A row's block; its bytes lie in blocks of their own. -/
def RowAz (X : Nat → Prop) (w : World) (p : Nat) (r : PRow) : Prop := ∃ k v, Blk w p 45 #[k, v] ∧ OwnZ X w k r.1 ∧ OwnZ X w v r.2 ∧ ¬ X p
theorem RowAz.grown {X : Nat → Prop} {w w' : World} {p : Nat} {r : PRow} (h : RowAz X w p r) (hg : w.grownBy w' none) : RowAz X w' p r := by
  obtain ⟨k, v, h1, h2, h3, h4⟩ := h
  exact ⟨k, v, h1.grown hg (by simp), h2.grown hg, h3.grown hg, h4⟩
theorem RowAz.off {X : Nat → Prop} {w w' : World} {p : Nat} {r : PRow} (h : RowAz X w p r) {g t : Nat} {c : Array Value} (hg : w.grownBy w' (some g)) (hb : Blk w g t c) (h45 : t ≠ 45) (h5 : t ≠ 5) : RowAz X w' p r := by
  obtain ⟨k, v, h1, h2, h3, h4⟩ := h
  refine ⟨k, v, h1.grown hg (fun e => ?_), ownz_off h2 hg hb h5, ownz_off h3 hg hb h5, h4⟩
  simp at e
  subst e
  unfold Blk at h1 hb
  rw [h1] at hb
  simp at hb
  exact h45 hb.2.symm
/-- What lies at the pointers. -/
def Atz (X : Nat → Prop) (w : World) (ps : List Nat) (l : List PRow) : Prop := ps.length = l.length ∧ ∀ j (h : j < ps.length) (h' : j < l.length), RowAz X w ps[j] l[j]
theorem Atz.grown {X : Nat → Prop} {w w' : World} {ps : List Nat} {l : List PRow} (h : Atz X w ps l) (hg : w.grownBy w' none) : Atz X w' ps l := ⟨h.1, fun j a b => (h.2 j a b).grown hg⟩
theorem Atz.off {X : Nat → Prop} {w w' : World} {ps : List Nat} {l : List PRow} (h : Atz X w ps l) {g t : Nat} {c : Array Value} (hg : w.grownBy w' (some g)) (hb : Blk w g t c) (h45 : t ≠ 45) (h5 : t ≠ 5) : Atz X w' ps l := ⟨h.1, fun j a b => (h.2 j a b).off hg hb h45 h5⟩
theorem Atz.append {X : Nat → Prop} {w : World} {ps qs : List Nat} {l m : List PRow} (h : Atz X w ps l) (k : Atz X w qs m) : Atz X w (ps ++ qs) (l ++ m) := by
  refine ⟨by simp [h.1, k.1], fun j a b => ?_⟩
  rw [List.getElem_append, List.getElem_append]
  have := h.1
  split <;> split
  · exact h.2 _ _ _
  · omega
  · omega
  · have := k.2 (j - ps.length) (by simp at a; omega) (by simp at b; omega)
    simp only [h.1] at this ⊢
    exact this
theorem Atz.take {X : Nat → Prop} {w : World} {ps : List Nat} {l : List PRow} (h : Atz X w ps l) (k : Nat) : Atz X w (ps.take k) (l.take k) := by
  refine ⟨by simp [h.1], fun j a b => ?_⟩
  simp only [List.getElem_take]
  exact h.2 _ _ _
theorem Atz.drop {X : Nat → Prop} {w : World} {ps : List Nat} {l : List PRow} (h : Atz X w ps l) (k : Nat) : Atz X w (ps.drop k) (l.drop k) := by
  refine ⟨by simp [h.1], fun j a b => ?_⟩
  simp only [List.getElem_drop]
  exact h.2 _ _ _
/-- A list of pointers to rows. -/
def Rowz (X : Nat → Prop) (w : World) (v : Value) (l : List PRow) : Prop := ∃ ps, Atz X w ps l ∧ Vec w 1 v l.length (PTR ps)
theorem Rowz.grown {X : Nat → Prop} {w w' : World} {v : Value} {l : List PRow} (h : Rowz X w v l) (hg : w.grownBy w' none) : Rowz X w' v l := by
  obtain ⟨ps, h1, h2⟩ := h
  exact ⟨ps, h1.grown hg, h2.grown hg⟩
theorem Rowz.first {X : Nat → Prop} {w : World} {ao : Option Addr} {n cap : Nat} {l : List PRow} (h : Rowz X w (.slice ao n cap) l) (k : Nat) (hk : k ≤ n) : Rowz X w (.slice ao k k) (l.take k) := by
  obtain ⟨ps, h1, h2⟩ := h
  have h2' := h2
  obtain ⟨ao', cap', e, hc, _⟩ := h2'
  simp at e
  obtain ⟨rfl, rfl, rfl⟩ := e
  refine ⟨ps.take k, h1.take k, ?_⟩
  have := h2.take k k (by omega) (Nat.le_refl _) (by omega)
  rw [List.length_take, Nat.min_eq_left (by omega)]
  unfold PTR at this ⊢
  rw [List.map_take]
  simpa using this
theorem rows_openz {X : Nat → Prop} {w : World} {v : Value} {l : List PRow} (h : Rowz X w v l) : ∃ ao n cap, v = .slice ao n cap ∧ l.length = n ∧ n ≤ cap ∧ cap ≤ 9223372036854775807 ∧ Hid (Rowz X w (.slice ao n cap) l) := by
  have h' := h
  obtain ⟨ps, _, ao, cap, rfl, h2, h3, _⟩ := h'
  unfold maxLen at h3
  exact ⟨ao, _, cap, rfl, rfl, h2, by omega, h⟩
theorem rows_nilz {X : Nat → Prop} (w : World) : Rowz X w (.slice none 0 0) [] := ⟨[], ⟨rfl, fun j h => absurd h (by simp)⟩, vec_nil _ _⟩
/-- A table that is there. -/
def Tbz (X : Nat → Prop) (w : World) (b : Nat) (l : List PRow) : Prop := ∃ v, Blk w b 68 #[.bool true, v] ∧ Rowz X w v l
theorem Tbz.grown {X : Nat → Prop} {w w' : World} {b : Nat} {l : List PRow} (h : Tbz X w b l) (hg : w.grownBy w' none) : Tbz X w' b l := by
  obtain ⟨v, h1, h2⟩ := h
  exact ⟨v, h1.grown hg (by simp), h2.grown hg⟩
set_option maxHeartbeats 400000 in
theorem first52z {X : Nat → Prop} (b n : Nat) (l : List PRow) (w : World) (h : Tbz X w b l) (hn : n ≤ l.length) : Calls Try.prog 52 #[.pointer (some ⟨b, 0, none⟩), .int .i64 (n : Int)] w fun e w' => ∃ f, e = .returned (.slice f n n) ∧ Rowz X w (.slice f n n) (l.take n) ∧ w' = w := by
  obtain ⟨v, hb, hr⟩ := h
  obtain ⟨ao, m, cap, rfl, hm, h1, h2, HR⟩ := rows_openz hr
  have c1 := hb.cell 1
  have HB : Hid (Blk w b 68 #[.bool true, .slice ao m cap]) := hb
  have i0 : (0 : Int) ≤ (n : Int) := by omega
  have i1 : (n : Int) ≤ (cap : Int) := by omega
  have hnm : n ≤ m := by omega
  clear hb hr hm hn
  go_enter Try.func52, Try.ntmps52
  go_wp2_with (go_at_call 34; refine (there34 b true _ w HB.out).mono ?_; rintro e w1 ⟨rfl, hw⟩; rw [hw]; clear hw)
  go_ret
  exact ⟨ao, rfl, HR.out.first n hnm, rfl⟩
theorem RowAz.old {X : Nat → Prop} {w : World} {p : Nat} {r : PRow} (h : RowAz X w p r) : RowAt w p r := by
  obtain ⟨k, v, h1, h2, h3, _⟩ := h
  exact ⟨k, v, h1, h2.1, h3.1⟩
theorem Atz.old {X : Nat → Prop} {w : World} {ps : List Nat} {l : List PRow} (h : Atz X w ps l) : Ats w ps l := ⟨h.1, fun j a b => (h.2 j a b).old⟩
theorem Rowz.old {X : Nat → Prop} {w : World} {v : Value} {l : List PRow} (h : Rowz X w v l) : Rows w v l := by
  obtain ⟨ps, h1, h2⟩ := h
  exact ⟨ps, h1.old, h2⟩
theorem Tbz.old {X : Nat → Prop} {w : World} {b : Nat} {l : List PRow} (h : Tbz X w b l) : Tb w b l := by
  obtain ⟨v, h1, h2⟩ := h
  exact ⟨v, h1, h2.old⟩
/-- A table lies in no block that is not there. -/
theorem tbz_of {X : Nat → Prop} {w : World} {b : Nat} {l : List PRow} (hX : ∀ g, X g → w.heap.size ≤ g) (h : Tb w b l) : Tbz X w b l := by
  obtain ⟨v, h1, ps, h2, h3⟩ := h
  refine ⟨v, h1, ps, ⟨h2.1, fun j a b => ?_⟩, h3⟩
  obtain ⟨k, x, g1, g2, g3⟩ := h2.2 j a b
  exact ⟨k, x, g1, ownz_old hX g2, ownz_old hX g3, fun hx => by have := hX _ hx; have := g1.lt; omega⟩
/-- Rowz X cut at a place; pieces of them. -/
theorem rows_piecez {X : Nat → Prop} {w : World} {ao : Option Addr} {n cap : Nat} {l : List PRow} (h : Rowz X w (.slice ao n cap) l) (lo hi : Nat) (h1 : lo ≤ hi) (h2 : hi ≤ n) : Rowz X w (sliced ao lo hi cap 1) ((l.drop lo).take (hi - lo)) := by
  obtain ⟨ps, ha, hv⟩ := h
  have hv' := hv
  obtain ⟨ao1, c1, e1, _⟩ := hv'
  simp at e1
  obtain ⟨rfl, rfl, rfl⟩ := e1
  have := vec_piece hv lo hi h1 h2
  refine ⟨(ps.drop lo).take (hi - lo), (ha.drop lo).take _, ?_⟩
  rw [PTR_take, PTR_drop, List.length_take, List.length_drop, Nat.min_eq_left (by omega)]
  simpa using this
theorem rows_restz {X : Nat → Prop} {w : World} {ao : Option Addr} {n cap : Nat} {l : List PRow} (h : Rowz X w (.slice ao n cap) l) (hn : l.length = n) (lo : Nat) (h1 : lo ≤ n) : Rowz X w (sliced ao lo n cap 1) (l.drop lo) := by
  have := rows_piecez h lo n h1 (Nat.le_refl _)
  rwa [List.take_of_length_le (by rw [List.length_drop]; omega)] at this
theorem off_rowsz {X : Nat → Prop} {w w' : World} {b : Nat} (hg : w.grownBy w' (some b)) {m : Bool} {ao : Option Addr} {n cap : Nat} (hb : Blk w b 68 #[.bool m, .slice ao n cap]) {v : Value} {l : List PRow} (h : Rowz X w v l) : Rowz X w' v l := by
  obtain ⟨ps, ha, hv⟩ := h
  refine ⟨ps, ha.off hg hb (by decide) (by decide), hv.cells fun g j u hu hx => ?_⟩
  simp [PTR] at hu
  obtain ⟨p, _, rfl⟩ := hu
  exact off_cell hg hb hx (by simp [ptr]) (by simp [ptr])
set_option maxRecDepth 100000 in
set_option maxHeartbeats 4000000 in
theorem change54z {X : Nat → Prop} (b : Nat) (kv rv : Value) (l R : List PRow) (key : Bs) (hr : Rise l) (hz : l.length ≤ 1000000) (hR : R.length ≤ 1) (hkl : key.length ≤ 100000) (w : World) (ht : Tbz X w b l) (hk : Seg w kv key) (hv : Rowz X w rv R) :
    Calls Try.prog 54 #[.pointer (some ⟨b, 0, none⟩), kv, rv] w fun e w' => e = .returned (.bool (hasL l key)) ∧ Tbz X w' b (l.take (rankL l key) ++ (R ++ l.drop (endL l key))) ∧ w.grownBy w' (some b) := by
  have HT : Hid (Tbz X w b l ∧ Seg w kv key ∧ Rowz X w rv R) := ⟨ht, hk, hv⟩
  have HR : Hid (Rise l ∧ l.length ≤ 1000000 ∧ R.length ≤ 1) := ⟨hr, hz, hR⟩
  obtain ⟨rk, hrk⟩ : ∃ n, rankL l key = n := ⟨_, rfl⟩
  obtain ⟨en, hen⟩ : ∃ n, endL l key = n := ⟨_, rfl⟩
  have l1 := end_le l key
  have l2 := end_ge l key
  have l3 := end_lt (l := l) (key := key)
  rw [hen] at l1
  rw [hrk, hen] at l2 l3
  have HQ : Hid (rankL l key = rk ∧ endL l key = en ∧ (rk < en ↔ hasL l key = true)) := ⟨hrk, hen, l3⟩
  clear ht hk hr hz hv hR hrk hen l3
  go_enter Try.func54, Try.ntmps54
  go_wp2_with fail
  refine (row64 b kv l key HR.out.1 HR.out.2.1 hkl w HT.out.1.old HT.out.2.1).mono ?_
  rintro e w1 ⟨rfl, g1⟩
  rw [HQ.out.1, HQ.out.2.1]
  have G1 : Hid (w.grownBy w1 none) := g1
  clear g1
  obtain ⟨tv, hb, hrows⟩ := HT.out.1.grown G1.out
  obtain ⟨ao, n, cap, rfl, hn, h1, h2, HV⟩ := rows_openz hrows
  have HB : Hid (Blk w1 b 68 #[.bool true, .slice ao n cap]) := hb
  have HN : Hid (l.length = n) := hn
  have e1 : en ≤ n := by omega
  clear hb hrows l1 hn
  obtain ⟨sv, hsv⟩ : ∃ v, sliced ao en n cap 1 = v := ⟨_, rfl⟩
  have hsl : ∀ wk, (Instr.slice 66 (.slice ao n cap) (some (.int .i64 (en : Int))) none none).run Try.prog wk = .ok sv wk := fun wk => by rw [← hsv]; exact run_rest 66 1 ut66 size66 ao n cap en e1 wk
  have HS : Hid (Rowz X w1 sv (l.drop en)) := by rw [← hsv]; exact rows_restz HV.out HN.out en e1
  clear hsv
  go_wp2_with fail
  have HM : Hid (∀ y : World, w1.grownBy y none → y.cell? ⟨b, 1, none⟩ = some (.slice ao n cap) ∧ y.frozen? ⟨b, 1, none⟩ = false) := fun y hy => ⟨(HB.out.grown hy (by simp)).cell 1, (HB.out.grown hy (by simp)).free 1⟩
  refine wp_region_noPanic ?_
  refine wp_region_hold 15 (fun y => w1.grownBy y none) (by kernel_rfl) ?_
  have G0 : Hid (w1.grownBy w1.drew none) := grown_drew _ _
  generalize w1.drew = wd at G0 ⊢
  refine wpHold_take (i := 0) (v := _) (G0.out) rfl rfl (by kernel_rfl) (by kernel_rfl) (by kernel_rfl) (by kernel_rfl) (by kernel_rfl) (fun _ _ _ h => h) (by rfl) (fun wk hk => by obtain ⟨m0, m1⟩ := HM.out wk hk; go_simp; try rfl) ?_
  try simp only [Act.put, List.setIfInBounds_toArray, List.set_cons_zero, List.set_cons_succ]
  refine wpHold_take (i := 1) (v := _) (G0.out) rfl rfl (by kernel_rfl) (by kernel_rfl) (by kernel_rfl) (by kernel_rfl) (by kernel_rfl) (fun _ _ _ h => h) (by rfl) (fun wk hk => by obtain ⟨m0, m1⟩ := HM.out wk hk; go_simp; try rfl) ?_
  try simp only [Act.put, List.setIfInBounds_toArray, List.set_cons_zero, List.set_cons_succ]
  refine wpHold_take (i := 2) (v := _) (G0.out) rfl rfl (by kernel_rfl) (by kernel_rfl) (by kernel_rfl) (by kernel_rfl) (by kernel_rfl) (fun _ _ _ h => h) (by rfl) (fun wk hk => by obtain ⟨m0, m1⟩ := HM.out wk hk; go_simp; try rfl) ?_
  try simp only [Act.put, List.setIfInBounds_toArray, List.set_cons_zero, List.set_cons_succ]
  refine wpHold_take (i := 4) (v := _) (G0.out) rfl rfl (by kernel_rfl) (by kernel_rfl) (by kernel_rfl) (by kernel_rfl) (by kernel_rfl) (fun _ _ _ h => h) (by rfl) (fun wk hk => by obtain ⟨m0, m1⟩ := HM.out wk hk; go_simp; try rfl) ?_
  try simp only [Act.put, List.setIfInBounds_toArray, List.set_cons_zero, List.set_cons_succ]
  refine wpHold_take (i := 6) (v := _) (G0.out) rfl rfl (by kernel_rfl) (by kernel_rfl) (by kernel_rfl) (by kernel_rfl) (by kernel_rfl) (fun _ _ _ h => h) (by rfl) (fun wk hk => by obtain ⟨m0, m1⟩ := HM.out wk hk; go_simp; try rfl) ?_
  try simp only [Act.put, List.setIfInBounds_toArray, List.set_cons_zero, List.set_cons_succ]
  refine wpHold_take (i := 7) (v := _) (G0.out) rfl rfl (by kernel_rfl) (by kernel_rfl) (by kernel_rfl) (by kernel_rfl) (by kernel_rfl) (fun _ _ _ h => h) (by rfl) (fun wk hk => by obtain ⟨m0, m1⟩ := HM.out wk hk; go_simp; try rfl) ?_
  try simp only [Act.put, List.setIfInBounds_toArray, List.set_cons_zero, List.set_cons_succ]
  refine wpHold_take (i := 8) (v := _) (G0.out) rfl rfl (by kernel_rfl) (by kernel_rfl) (by kernel_rfl) (by kernel_rfl) (by kernel_rfl) (fun _ _ _ h => h) (by rfl) (fun wk hk => by obtain ⟨m0, m1⟩ := HM.out wk hk; go_simp; try rfl) ?_
  try simp only [Act.put, List.setIfInBounds_toArray, List.set_cons_zero, List.set_cons_succ]
  refine wpHold_take (i := 9) (v := _) (G0.out) rfl rfl (by kernel_rfl) (by kernel_rfl) (by kernel_rfl) (by kernel_rfl) (by kernel_rfl) (fun _ _ _ h => h) (by rfl) (fun wk hk => by obtain ⟨m0, m1⟩ := HM.out wk hk; go_simp; try rfl) ?_
  try simp only [Act.put, List.setIfInBounds_toArray, List.set_cons_zero, List.set_cons_succ]
  refine wpHold_take (i := 10) (v := _) (G0.out) rfl rfl (by kernel_rfl) (by kernel_rfl) (by kernel_rfl) (by kernel_rfl) (by kernel_rfl) (fun _ _ _ h => h) (by rfl) (fun wk hk => by obtain ⟨m0, m1⟩ := HM.out wk hk; go_simp; try rfl) ?_
  try simp only [Act.put, List.setIfInBounds_toArray, List.set_cons_zero, List.set_cons_succ]
  refine wpHold_take (i := 11) (v := _) (G0.out) rfl rfl (by kernel_rfl) (by kernel_rfl) (by kernel_rfl) (by kernel_rfl) (by kernel_rfl) (fun _ _ _ h => h) (by rfl) (fun wk hk => by obtain ⟨m0, m1⟩ := HM.out wk hk; go_simp; try rfl) ?_
  try simp only [Act.put, List.setIfInBounds_toArray, List.set_cons_zero, List.set_cons_succ]
  refine wpHold_one (i := 3) rfl (by kernel_rfl) (by rfl) (fun K hK => ?_)
  go_wp2_with (go_at_call 52; refine (first52z b rk l wd ((HT.out.1.grown G1.out).grown G0.out) (by rw [HN.out]; omega)).mono ?_)
  rintro e w2 ⟨f, rfl, hrf, hw2⟩
  rw [hw2]
  clear hw2
  have HF : Hid (Rowz X wd (.slice f rk rk) (l.take rk)) := hrf
  clear hrf
  go_wp2_with fail
  refine hK.out _ _ (fun _ => G0.out) ?_
  clear hK K
  try simp only [Act.put, List.setIfInBounds_toArray, List.set_cons_zero, List.set_cons_succ]
  refine wpHold_one (i := 5) rfl (by kernel_rfl) (by rfl) (fun K hK => ?_)
  obtain ⟨ps, hps, hpv⟩ := HF.out
  obtain ⟨qs, hqs, hqv⟩ := (HT.out.2.2.grown G1.out).grown G0.out
  have hlk : (l.take rk).length = rk := by rw [List.length_take, HN.out]; omega
  rw [hlk] at hpv
  refine app_wp wd _ _ 66 74 (.pointer none) 1 8 Try.info74 ut66' rfl (by decide) rfl wd.heap.size (.slice f rk rk) rk (PTR ps) rv R.length (PTR qs) rfl rfl (.inr ⟨⟨f, rfl⟩, hpv⟩) hqv (PTR_one _) ?_ ?_ (Nat.le_refl _) ?_
  · have := HR.out.2.2; have := HR.out.2.1; rw [HN.out] at this; omega
  · have := HR.out.2.2; have := HR.out.2.1; rw [HN.out] at this; unfold maxLen; omega
  intro v2 w2 hv2 hg2 hb2
  have HA : Hid (Apn w2 wd.heap.size 74 1 v2 (rk + R.length) (PTR ps ++ PTR qs) ∧ wd.grownBy w2 none ∧ Atz X wd ps (l.take rk) ∧ Atz X wd qs R) := by
    obtain ⟨r, hg, hr⟩ := hg2
    have hg' : wd.grownBy w2 none := ⟨hg.os, hg.tape, hg.output, hg.size, fun k hk _ => hg.block k hk (fun e => by have := hr k e.symm; omega)⟩
    exact ⟨hv2, hg', hps, hqs⟩
  obtain ⟨a2, c2, e2, _⟩ := hv2.vec.shape
  subst e2
  clear hv2 hg2 hb2 hps hpv hqs hqv hlk HF
  have G2 : Hid (w1.grownBy w2 none) := grown_trans G0.out HA.out.2.1
  refine hK.out _ _ (fun _ => G2.out) ?_
  clear hK K
  try simp only [Act.put, List.setIfInBounds_toArray, List.set_cons_zero, List.set_cons_succ]
  refine wpHold_one (i := 12) rfl (by kernel_rfl) (by rfl) (fun K hK => ?_)
  obtain ⟨us, hus, huv0⟩ := HS.out
  have huv := huv0.grown G2.out
  have hlk : (l.drop en).length = n - en := by rw [List.length_drop, HN.out]
  rw [hlk] at huv
  refine app_wp w2 _ _ 66 74 (.pointer none) 1 8 Try.info74 ut66' rfl (by decide) rfl wd.heap.size (.slice a2 (rk + R.length) c2) (rk + R.length) (PTR ps ++ PTR qs) sv (n - en) (PTR us) rfl rfl HA.out.1 huv (PTR_one _) ?_ ?_ HA.out.2.1.size ?_
  · have := HR.out.2.2; have := HR.out.2.1; rw [HN.out] at this; omega
  · have := HR.out.2.2; have := HR.out.2.1; rw [HN.out] at this; unfold maxLen; omega
  intro v3 w3 hv3 hg3 hb3
  have HC : Hid (Rowz X w3 v3 (l.take rk ++ (R ++ l.drop en)) ∧ wd.grownBy w3 none) := by
    obtain ⟨r, hg, hr⟩ := hg3
    have hg' : wd.grownBy w3 none := grown_new HA.out.2.1 hg (fun x hx => hr x hx)
    refine ⟨⟨ps ++ (qs ++ us), ?_, ?_⟩, hg'⟩
    · exact ((HA.out.2.2.1.grown hg').append ((HA.out.2.2.2.grown hg').append (hus.grown (grown_trans G0.out hg'))))
    · have := hv3.vec
      rw [PTR_append, PTR_append, ← List.append_assoc (PTR ps)]
      have e : (l.take rk ++ (R ++ l.drop en)).length = rk + R.length + (n - en) := by simp [HN.out]; omega
      rw [e]
      exact this
  obtain ⟨a3, c3, e3, _⟩ := hv3.vec.shape
  subst e3
  clear hv3 hg3 hb3 hus huv huv0 hlk
  have G3 : Hid (w1.grownBy w3 none) := grown_trans G0.out HC.out.2
  refine hK.out _ _ (fun _ => G3.out) ?_
  clear hK K
  try simp only [Act.put, List.setIfInBounds_toArray, List.set_cons_zero, List.set_cons_succ]
  refine wpHold_take (i := 13) (v := _) (G3.out) rfl rfl (by kernel_rfl) (by kernel_rfl) (by kernel_rfl) (by kernel_rfl) (by kernel_rfl) (fun _ _ _ h => h) (by rfl) (fun wk hk => by obtain ⟨m0, m1⟩ := HM.out wk hk; go_simp; try rfl) ?_
  try simp only [Act.put, List.setIfInBounds_toArray, List.set_cons_zero, List.set_cons_succ]
  refine wpHold_take (i := 14) (v := _) (G3.out) rfl rfl (by kernel_rfl) (by kernel_rfl) (by kernel_rfl) (by kernel_rfl) (by kernel_rfl) (fun _ _ _ h => h) (by rfl) (fun wk hk => by obtain ⟨m0, m1⟩ := HM.out wk hk; go_simp; try rfl) ?_
  try simp only [Act.put, List.setIfInBounds_toArray, List.set_cons_zero, List.set_cons_succ]
  refine wpHold_one (i := 15) rfl (by kernel_rfl) (by rfl) (fun K hK => ?_)
  obtain ⟨m0, m1⟩ := HM.out w3 G3.out
  go_wp2_with fail
  have HD : Hid (Tbz X (w3.setCell ⟨b, 1, none⟩ (.slice a3 (rk + R.length + (n - en)) c3)) b (l.take rk ++ (R ++ l.drop en)) ∧ w.grownBy (w3.setCell ⟨b, 1, none⟩ (.slice a3 (rk + R.length + (n - en)) c3)) (some b)) := by
    have hb3 := HB.out.grown G3.out (by simp)
    refine ⟨⟨_, hb3.store 1 _, ?_⟩, grown_trans (grown_weak (grown_trans G1.out G3.out) _) (grown_setCell _ _ _ _)⟩
    exact off_rowsz (grown_setCell _ _ _ _) hb3 HC.out.1
  generalize w3.setCell ⟨b, 1, none⟩ (.slice a3 (rk + R.length + (n - en)) c3) = w4 at HD ⊢
  refine hK.out _ _ (fun h => absurd rfl h) ?_
  clear hK K
  try simp only [Act.put, List.setIfInBounds_toArray, List.set_cons_zero, List.set_cons_succ]
  refine wpHold_done (by kernel_rfl) ?_
  refine (‹∀ (a : Act) (w : World), Code.wp Try.prog _ _ a w → _› _ _ ?_)
  clear hsl
  go_wp2_with fail
  go_ret
  refine ⟨?_, by rw [HQ.out.1, HQ.out.2.1]; exact HD.out.1, HD.out.2⟩
  have h3 := HQ.out.2.2
  by_cases h : rk < en
  · rw [h3.1 h]; simp [h]
  · have : hasL l key = false := by
      cases hh : hasL l key
      · rfl
      · exact absurd (h3.2 hh) h
    rw [this]; simp; omega
set_option maxRecDepth 100000 in
set_option maxHeartbeats 4000000 in
theorem put17z {X : Nat → Prop} (b : Nat) (kv vv : Value) (l : List PRow) (k v : Bs) (hr : Rise l) (hz : l.length ≤ 1000000) (w : World) (hX : ∀ g, X g → g < w.heap.size) (ht : Tbz X w b l) (hk : Seg w kv k) (hv : Seg w vv v) :
    Calls Try.prog 17 #[.pointer (some ⟨b, 0, none⟩), kv, vv] w fun e w' => e = .returned (.tuple #[.bool (putB l k v), .int .i64 (putC k v)]) ∧ Tbz X w' b (putA l k v) ∧ w.grownBy w' (some b) := by
  obtain ⟨ao, n, cap, HB, _⟩ := tb_open ht.old
  have HT : Hid (Tbz X w b l ∧ Seg w kv k ∧ Seg w vv v) := ⟨ht, hk, hv⟩
  have HR : Hid (Rise l ∧ l.length ≤ 1000000) := ⟨hr, hz⟩
  have HZ : Hid (∀ g, X g → g < w.heap.size) := hX
  clear ht hk hv hr hz hX
  go_enter Try.func17, Try.ntmps17
  go_wp2_with (go_at_call 34; refine (there34 b true _ w HB.out.1).mono ?_; rintro e w1 ⟨rfl, hw⟩; rw [hw]; clear hw)
  refine (mayBe53 kv vv k v w HT.out.2.1 HT.out.2.2).mono ?_
  rintro e w1 ⟨rfl, hw1⟩
  rw [hw1]
  clear hw1
  cases hok : okP k v
  · have HO : Hid (okP k v = false) := hok
    unfold okP at hok
    rw [hok]
    clear hok
    go_wp2_with fail
    go_ret2
    exact ⟨by unfold putB putC; rw [HO.out]; rfl, by unfold putA; rw [HO.out]; exact HT.out.1, grown_refl _ _⟩
  · have HO : Hid (okP k v = true) := hok
    obtain ⟨_, k1, k2⟩ := okP_len hok
    unfold okP at hok
    rw [hok]
    clear hok
    go_wp2_with fail
    refine (ownRow55 kv vv k v w HT.out.2.1 HT.out.2.2 (by omega) (by omega)).mono ?_
    rintro e w1 ⟨p, rfl, hp, ⟨x, y, hb, ox, oy, _⟩, g1⟩
    have G1 : Hid (w.grownBy w1 none ∧ RowAz X w1 p (k, v)) := ⟨g1, x, y, hb, ownz_new HZ.out (Nat.le_refl _) ox, ownz_new HZ.out (Nat.le_refl _) oy, fun hx => by have := HZ.out _ hx; omega⟩
    clear hb ox oy g1 hp
    go_wp2_with fail
    obtain ⟨w2, hw2, H2⟩ := al w1 #[.pointer (some ⟨p, 0, none⟩)] 74
    rw [hw2]
    clear hw2
    have HV : Hid (Rowz X w2 (.slice (some ⟨w1.heap.size, 0, none⟩) 1 1) [(k, v)]) := by
      refine ⟨[p], ⟨rfl, fun j h1 h2 => ?_⟩, vec_one w1 _ 74 w2 H2.out.1⟩
      simp at h1
      subst h1
      exact G1.out.2.grown H2.out.2.1
    refine (change54z b kv _ l [(k, v)] k HR.out.1 HR.out.2 (by simp) (by omega) w2 ((HT.out.1.grown G1.out.1).grown H2.out.2.1) ((HT.out.2.1.grown G1.out.1).grown H2.out.2.1) HV.out).mono ?_
    rintro e w3 ⟨rfl, ht3, g3⟩
    have H3 : Hid (Tbz X w3 b (putL l k v) ∧ w.grownBy w3 (some b)) := ⟨ht3, grown_trans (grown_weak (grown_trans G1.out.1 H2.out.2.1) _) g3⟩
    clear ht3 g3
    go_wp2_with fail
    go_ret2
    exact ⟨by unfold putB putC; rw [HO.out]; rfl, by unfold putA; rw [HO.out]; exact H3.out.1, H3.out.2⟩
set_option maxRecDepth 100000 in
set_option maxHeartbeats 4000000 in
theorem delete19z {X : Nat → Prop} (b : Nat) (kv : Value) (l : List PRow) (k : Bs) (hr : Rise l) (hz : l.length ≤ 1000000) (w : World) (ht : Tbz X w b l) (hk : Seg w kv k) :
    Calls Try.prog 19 #[.pointer (some ⟨b, 0, none⟩), kv] w fun e w' => e = .returned (.tuple #[.bool (delB l k), .int .i64 (delC k)]) ∧ Tbz X w' b (delA l k) ∧ w.grownBy w' (some b) := by
  obtain ⟨ao, n, cap, HB, _⟩ := tb_open ht.old
  have HT : Hid (Tbz X w b l ∧ Seg w kv k) := ⟨ht, hk⟩
  have HR : Hid (Rise l ∧ l.length ≤ 1000000) := ⟨hr, hz⟩
  clear ht hk hr hz
  go_enter Try.func19, Try.ntmps19
  go_wp2_with (go_at_call 34; refine (there34 b true _ w HB.out.1).mono ?_; rintro e w1 ⟨rfl, hw⟩; rw [hw]; clear hw)
  refine (Names.key11 kv k w HT.out.2).mono ?_
  rintro e w1 ⟨rfl, hw1⟩
  rw [hw1]
  clear hw1
  cases hok : keyB k
  · have HO : Hid (keyB k = false) := hok
    clear hok
    go_wp2_with fail
    go_ret2
    exact ⟨by unfold delB delC; rw [HO.out]; rfl, by unfold delA; rw [HO.out]; exact HT.out.1, grown_refl _ _⟩
  · have HO : Hid (keyB k = true) := hok
    obtain ⟨_, k1⟩ := key_len hok
    clear hok
    go_wp2_with fail
    refine (change54z b kv _ l [] k HR.out.1 HR.out.2 (by simp) (by omega) w HT.out.1 HT.out.2 (rows_nilz w)).mono ?_
    rintro e w3 ⟨rfl, ht3, g3⟩
    have H3 : Hid (Tbz X w3 b (delL l k) ∧ w.grownBy w3 (some b)) := ⟨ht3, g3⟩
    clear ht3 g3
    go_wp2_with fail
    go_ret2
    exact ⟨by unfold delB delC; rw [HO.out]; rfl, by unfold delA; rw [HO.out]; exact H3.out.1, H3.out.2⟩
end Go.Proofs.Ytlehikdlkdbacaa
