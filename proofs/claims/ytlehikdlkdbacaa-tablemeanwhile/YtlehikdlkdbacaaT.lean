/-
  A table in memory: its rows, which nobody writes again; there, Len, first, list.
-/
import Derived.Test.YtlehikdlkdbacaaV
namespace Go.Proofs.Ytlehikdlkdbacaa
open Go.RowKit Disk

abbrev Bs := List UInt8
abbrev PRow := Bs × Bs

/-- A row's block; its bytes lie in blocks of their own. -/
def RowAt (w : World) (p : Nat) (r : PRow) : Prop := ∃ k v, Blk w p 45 #[k, v] ∧ Disk.Own w 0 k r.1 ∧ Disk.Own w 0 v r.2
theorem RowAt.grown {w w' : World} {p : Nat} {r : PRow} (h : RowAt w p r) (hg : w.grownBy w' none) : RowAt w' p r := by
  obtain ⟨k, v, h1, h2, h3⟩ := h
  exact ⟨k, v, h1.grown hg (by simp), h2.grown hg, h3.grown hg⟩
theorem own_off {w w' : World} {B : Nat} {v : Value} {L : Bs} (h : Disk.Own w B v L) {g t : Nat} {c : Array Value} (hg : w.grownBy w' (some g)) (hb : Blk w g t c) (h5 : t ≠ 5) : Disk.Own w' B v L :=
  h.same fun k hk => hg.block k (h.lt k hk).2 (fun e => h.other hb h5 (by rw [hk, e]))
theorem RowAt.off {w w' : World} {p : Nat} {r : PRow} (h : RowAt w p r) {g t : Nat} {c : Array Value} (hg : w.grownBy w' (some g)) (hb : Blk w g t c) (h45 : t ≠ 45) (h5 : t ≠ 5) : RowAt w' p r := by
  obtain ⟨k, v, h1, h2, h3⟩ := h
  refine ⟨k, v, h1.grown hg (fun e => ?_), own_off h2 hg hb h5, own_off h3 hg hb h5⟩
  simp at e
  subst e
  unfold Blk at h1 hb
  rw [h1] at hb
  simp at hb
  exact h45 hb.2.symm

/-- Pointers. -/
def ptr (p : Nat) : Value := .pointer (some ⟨p, 0, none⟩)
def PTR (ps : List Nat) : List Value := ps.map ptr
theorem PTR_one (ps : List Nat) : ∀ u ∈ PTR ps, u.oneCell' = true := by
  intro u hu; simp [PTR] at hu; obtain ⟨x, _, rfl⟩ := hu; rfl
theorem PTR_append (a b : List Nat) : PTR (a ++ b) = PTR a ++ PTR b := by simp [PTR]

/-- What lies at the pointers. -/
def Ats (w : World) (ps : List Nat) (l : List PRow) : Prop := ps.length = l.length ∧ ∀ j (h : j < ps.length) (h' : j < l.length), RowAt w ps[j] l[j]
theorem Ats.grown {w w' : World} {ps : List Nat} {l : List PRow} (h : Ats w ps l) (hg : w.grownBy w' none) : Ats w' ps l := ⟨h.1, fun j a b => (h.2 j a b).grown hg⟩
theorem Ats.off {w w' : World} {ps : List Nat} {l : List PRow} (h : Ats w ps l) {g t : Nat} {c : Array Value} (hg : w.grownBy w' (some g)) (hb : Blk w g t c) (h45 : t ≠ 45) (h5 : t ≠ 5) : Ats w' ps l := ⟨h.1, fun j a b => (h.2 j a b).off hg hb h45 h5⟩
theorem Ats.append {w : World} {ps qs : List Nat} {l m : List PRow} (h : Ats w ps l) (k : Ats w qs m) : Ats w (ps ++ qs) (l ++ m) := by
  refine ⟨by simp [h.1, k.1], fun j a b => ?_⟩
  rw [List.getElem_append, List.getElem_append]
  have := h.1
  split <;> split
  · exact h.2 _ _ _
  · omega
  · omega
  · have := k.2 (j - ps.length) (by simp at a; omega) (by simp at b; omega)
    simp only [h.1] at this ⊢
    exact this
theorem Ats.take {w : World} {ps : List Nat} {l : List PRow} (h : Ats w ps l) (k : Nat) : Ats w (ps.take k) (l.take k) := by
  refine ⟨by simp [h.1], fun j a b => ?_⟩
  simp only [List.getElem_take]
  exact h.2 _ _ _
theorem Ats.drop {w : World} {ps : List Nat} {l : List PRow} (h : Ats w ps l) (k : Nat) : Ats w (ps.drop k) (l.drop k) := by
  refine ⟨by simp [h.1], fun j a b => ?_⟩
  simp only [List.getElem_drop]
  exact h.2 _ _ _

/-- A list of pointers to rows. -/
def Rows (w : World) (v : Value) (l : List PRow) : Prop := ∃ ps, Ats w ps l ∧ Vec w 1 v l.length (PTR ps)
theorem Rows.grown {w w' : World} {v : Value} {l : List PRow} (h : Rows w v l) (hg : w.grownBy w' none) : Rows w' v l := by
  obtain ⟨ps, h1, h2⟩ := h
  exact ⟨ps, h1.grown hg, h2.grown hg⟩
theorem Rows.first {w : World} {ao : Option Addr} {n cap : Nat} {l : List PRow} (h : Rows w (.slice ao n cap) l) (k : Nat) (hk : k ≤ n) : Rows w (.slice ao k k) (l.take k) := by
  obtain ⟨ps, h1, h2⟩ := h
  have h2' := h2
  obtain ⟨ao', cap', e, hc, _⟩ := h2'
  simp at e
  obtain ⟨rfl, rfl, rfl⟩ := e
  refine ⟨ps.take k, h1.take k, ?_⟩
  have := h2.take k k (by omega) (Nat.le_refl _) (by omega)
  rw [List.length_take, Nat.min_eq_left (by omega)]
  unfold PTR at this ⊢
  rw [List.map_take]
  simpa using this
theorem rows_open {w : World} {v : Value} {l : List PRow} (h : Rows w v l) : ∃ ao n cap, v = .slice ao n cap ∧ l.length = n ∧ n ≤ cap ∧ cap ≤ 9223372036854775807 ∧ Hid (Rows w (.slice ao n cap) l) := by
  have h' := h
  obtain ⟨ps, _, ao, cap, rfl, h2, h3, _⟩ := h'
  unfold maxLen at h3
  exact ⟨ao, _, cap, rfl, rfl, h2, by omega, h⟩
theorem rows_at {w : World} {ao : Option Addr} {n cap : Nat} {l : List PRow} (h : Rows w (.slice ao n cap) l) (j : Nat) (hj : j < l.length) : ∃ b off p k v, ao = some ⟨b, off, none⟩ ∧ w.cell? ⟨b, off + j, none⟩ = some (.pointer (some ⟨p, 0, none⟩)) ∧ Blk w p 45 #[k, v] ∧ Seg w k l[j].1 ∧ Seg w v l[j].2 := by
  obtain ⟨ps, h1, h2⟩ := h
  have e1 := h1.1
  obtain ⟨ao', cap', e, _, _, _, _, h6⟩ := h2
  simp at e
  obtain ⟨rfl, rfl, rfl⟩ := e
  obtain ⟨b, off, e, hc⟩ := h6 j (ptr (ps[j]'(by omega))) (by simp [PTR, e1, hj])
  obtain ⟨k, v, hb, hk, hv⟩ := h1.2 j (by omega) hj
  exact ⟨b, off, _, k, v, e, hc, hb, hk.seg, hv.seg⟩
theorem rows_row {w : World} {ao : Option Addr} {n cap : Nat} {l : List PRow} (h : Rows w (.slice ao n cap) l) (j : Nat) (hj : j < l.length) : ∃ b off p, ao = some ⟨b, off, none⟩ ∧ w.cell? ⟨b, off + j, none⟩ = some (.pointer (some ⟨p, 0, none⟩)) ∧ RowAt w p l[j] := by
  obtain ⟨ps, h1, h2⟩ := h
  have e1 := h1.1
  obtain ⟨ao', cap', e, _, _, _, _, h6⟩ := h2
  simp at e
  obtain ⟨rfl, rfl, rfl⟩ := e
  obtain ⟨b, off, e, hc⟩ := h6 j (ptr (ps[j]'(by omega))) (by simp [PTR, e1, hj])
  exact ⟨b, off, _, e, hc, h1.2 j (by omega) hj⟩
theorem rows_nil (w : World) : Rows w (.slice none 0 0) [] := ⟨[], ⟨rfl, fun j h => absurd h (by simp)⟩, vec_nil _ _⟩

/-- A new block. -/
theorem al (w : World) (c : Array Value) (t : Nat) : ∃ w1, w.alloc (.cells c t) = w1 ∧ Hid (Blk w1 w.heap.size t c ∧ w.grownBy w1 none ∧ w1.heap.size = w.heap.size + 1) :=
  ⟨_, rfl, heap_alloc_new _ _, World.grownBy_alloc _ _ _, by simp⟩

/-- A table that is there. -/
def Tb (w : World) (b : Nat) (l : List PRow) : Prop := ∃ v, Blk w b 68 #[.bool true, v] ∧ Rows w v l
theorem Tb.grown {w w' : World} {b : Nat} {l : List PRow} (h : Tb w b l) (hg : w.grownBy w' none) : Tb w' b l := by
  obtain ⟨v, h1, h2⟩ := h
  exact ⟨v, h1.grown hg (by simp), h2.grown hg⟩

set_option maxHeartbeats 400000 in
theorem there34_nil (w : World) : Calls Try.prog 34 #[.pointer none] w fun e w' => e = .returned (.bool false) ∧ w' = w := by
  go_enter Try.func34, Try.ntmps34
  go_wp2
  go_ret
  exact ⟨rfl, rfl⟩
set_option maxHeartbeats 400000 in
theorem there34 (b : Nat) (is : Bool) (v : Value) (w : World) (h : Blk w b 68 #[.bool is, v]) : Calls Try.prog 34 #[.pointer (some ⟨b, 0, none⟩)] w fun e w' => e = .returned (.bool is) ∧ w' = w := by
  have c0 := h.cell 0
  go_enter Try.func34, Try.ntmps34
  go_wp2
  go_ret
  exact ⟨rfl, rfl⟩
set_option maxHeartbeats 400000 in
theorem len23 (b : Nat) (l : List PRow) (w : World) (h : Tb w b l) : Calls Try.prog 23 #[.pointer (some ⟨b, 0, none⟩)] w fun e w' => e = .returned (.int .i64 (l.length : Int)) ∧ w' = w := by
  obtain ⟨v, hb, hr⟩ := h
  obtain ⟨ps, _, ao, cap, rfl, _⟩ := hr
  have c1 := hb.cell 1
  have HB : Hid (Blk w b 68 #[.bool true, .slice ao l.length cap]) := hb
  go_enter Try.func23, Try.ntmps23
  go_wp2_with (go_at_call 34; refine (there34 b true _ w HB.out).mono ?_; rintro e w1 ⟨rfl, hw⟩; rw [hw]; clear hw)
  go_ret
  exact ⟨rfl, rfl⟩
set_option maxHeartbeats 400000 in
theorem first52 (b n : Nat) (l : List PRow) (w : World) (h : Tb w b l) (hn : n ≤ l.length) : Calls Try.prog 52 #[.pointer (some ⟨b, 0, none⟩), .int .i64 (n : Int)] w fun e w' => ∃ f, e = .returned (.slice f n n) ∧ Rows w (.slice f n n) (l.take n) ∧ w' = w := by
  obtain ⟨v, hb, hr⟩ := h
  obtain ⟨ao, m, cap, rfl, hm, h1, h2, HR⟩ := rows_open hr
  have c1 := hb.cell 1
  have HB : Hid (Blk w b 68 #[.bool true, .slice ao m cap]) := hb
  have i0 : (0 : Int) ≤ (n : Int) := by omega
  have i1 : (n : Int) ≤ (cap : Int) := by omega
  have hnm : n ≤ m := by omega
  clear hb hr hm hn
  go_enter Try.func52, Try.ntmps52
  go_wp2_with (go_at_call 34; refine (there34 b true _ w HB.out).mono ?_; rintro e w1 ⟨rfl, hw⟩; rw [hw]; clear hw)
  go_ret
  exact ⟨ao, rfl, HR.out.first n hnm, rfl⟩
set_option maxHeartbeats 400000 in
theorem list35 (b : Nat) (l : List PRow) (w : World) (h : Tb w b l) : Calls Try.prog 35 #[.pointer (some ⟨b, 0, none⟩)] w fun e w' => ∃ f n, e = .returned (.slice f n n) ∧ n = l.length ∧ Rows w (.slice f n n) l ∧ w' = w := by
  have HT : Hid (Tb w b l) := h
  obtain ⟨n, hn⟩ : ∃ n, l.length = n := ⟨_, rfl⟩
  have HN : Hid (l.length = n) := hn
  have HQ : Hid (Calls Try.prog 23 #[.pointer (some ⟨b, 0, none⟩)] w fun e w' => e = .returned (.int .i64 (n : Int)) ∧ w' = w) := by rw [← hn]; exact len23 b l w h
  clear h hn
  go_enter Try.func35, Try.ntmps35
  go_wp2_with (go_at_call 23; refine HQ.out.mono ?_; rintro e w1 ⟨rfl, hw⟩; rw [hw]; clear hw)
  go_wp2_with (go_at_call 52; refine (first52 b n l w HT.out (by rw [HN.out]; omega)).mono ?_)
  rintro e w1 ⟨f, rfl, hr, hw⟩
  rw [hw]
  have HR : Hid (Rows w (.slice f n n) l) := by
    rw [List.take_of_length_le (by rw [HN.out]; omega)] at hr
    exact hr
  clear hw hr
  go_wp2_with fail
  go_ret
  exact ⟨f, n, rfl, HN.out.symm, HR.out, rfl⟩

/-- A table that is not there: nil, or a zero one. -/
def NoTb (w : World) (v : Value) : Prop := v = .pointer none ∨ ∃ b, v = .pointer (some ⟨b, 0, none⟩) ∧ Blk w b 68 #[.bool false, .slice none 0 0]
theorem NoTb.grown {w w' : World} {v : Value} (h : NoTb w v) (hg : w.grownBy w' none) : NoTb w' v := by
  rcases h with h | ⟨b, h1, h2⟩
  · exact .inl h
  · exact .inr ⟨b, h1, h2.grown hg (by simp)⟩
/-- A table, there or not, and its rows. -/
def Tl (w : World) (v : Value) (is : Bool) (l : List PRow) : Prop := (is = true ∧ ∃ b, v = .pointer (some ⟨b, 0, none⟩) ∧ Tb w b l) ∨ (is = false ∧ l = [] ∧ NoTb w v)
theorem Tl.grown {w w' : World} {v : Value} {is : Bool} {l : List PRow} (h : Tl w v is l) (hg : w.grownBy w' none) : Tl w' v is l := by
  rcases h with ⟨h0, b, h1, h2⟩ | ⟨h0, h1, h2⟩
  · exact .inl ⟨h0, b, h1, h2.grown hg⟩
  · exact .inr ⟨h0, h1, h2.grown hg⟩
theorem Tb.tl {w : World} {b : Nat} {l : List PRow} (h : Tb w b l) : Tl w (.pointer (some ⟨b, 0, none⟩)) true l := .inl ⟨rfl, b, rfl, h⟩
theorem NoTb.tl {w : World} {v : Value} (h : NoTb w v) : Tl w v false [] := .inr ⟨rfl, rfl, h⟩

theorem there34g (v : Value) (is : Bool) (l : List PRow) (w : World) (h : Tl w v is l) : Calls Try.prog 34 #[v] w fun e w' => e = .returned (.bool is) ∧ w' = w := by
  rcases h with ⟨rfl, b, rfl, tv, h2, _⟩ | ⟨rfl, _, rfl | ⟨b, rfl, h2⟩⟩
  · exact there34 b true tv w h2
  · exact there34_nil w
  · exact there34 b false _ w h2
set_option maxHeartbeats 400000 in
theorem len23g (v : Value) (is : Bool) (l : List PRow) (w : World) (h : Tl w v is l) : Calls Try.prog 23 #[v] w fun e w' => e = .returned (.int .i64 (l.length : Int)) ∧ w' = w := by
  have h' := h
  rcases h with ⟨rfl, b, rfl, h2⟩ | ⟨rfl, rfl, _⟩
  · exact len23 b l w h2
  · have HT : Hid (Tl w v false []) := h'
    clear h'
    go_enter Try.func23, Try.ntmps23
    go_wp2_with (go_at_call 34; refine (there34g v false [] w HT.out).mono ?_; rintro e w1 ⟨rfl, hw⟩; rw [hw]; clear hw)
    go_ret
    exact ⟨rfl, rfl⟩
set_option maxHeartbeats 400000 in
theorem first52g (v : Value) (is : Bool) (n : Nat) (l : List PRow) (w : World) (h : Tl w v is l) (hn : n ≤ l.length) : Calls Try.prog 52 #[v, .int .i64 (n : Int)] w fun e w' => ∃ f, e = .returned (.slice f n n) ∧ Rows w (.slice f n n) (l.take n) ∧ w' = w := by
  have h' := h
  rcases h with ⟨rfl, b, rfl, h2⟩ | ⟨rfl, rfl, _⟩
  · exact first52 b n l w h2 hn
  · have HT : Hid (Tl w v false []) := h'
    clear h'
    have hn0 : n = 0 := by simpa using hn
    subst hn0
    clear hn
    go_enter Try.func52, Try.ntmps52
    go_wp2_with (go_at_call 34; refine (there34g v false [] w HT.out).mono ?_; rintro e w1 ⟨rfl, hw⟩; rw [hw]; clear hw)
    go_ret
    exact ⟨none, rfl, rows_nil w, rfl⟩
set_option maxHeartbeats 400000 in
theorem list35g (v : Value) (is : Bool) (l : List PRow) (w : World) (h : Tl w v is l) : Calls Try.prog 35 #[v] w fun e w' => ∃ f n, e = .returned (.slice f n n) ∧ n = l.length ∧ Rows w (.slice f n n) l ∧ w' = w := by
  have HT : Hid (Tl w v is l) := h
  obtain ⟨n, hn⟩ : ∃ n, l.length = n := ⟨_, rfl⟩
  have HN : Hid (l.length = n) := hn
  have HQ : Hid (Calls Try.prog 23 #[v] w fun e w' => e = .returned (.int .i64 (n : Int)) ∧ w' = w) := by rw [← hn]; exact len23g v is l w h
  clear h hn
  go_enter Try.func35, Try.ntmps35
  go_wp2_with (go_at_call 23; refine HQ.out.mono ?_; rintro e w1 ⟨rfl, hw⟩; rw [hw]; clear hw)
  go_wp2_with (go_at_call 52; refine (first52g v is n l w HT.out (by rw [HN.out]; omega)).mono ?_)
  rintro e w1 ⟨f, rfl, hr, hw⟩
  rw [hw]
  have HR : Hid (Rows w (.slice f n n) l) := by
    rw [List.take_of_length_le (by rw [HN.out]; omega)] at hr
    exact hr
  clear hw hr
  go_wp2_with fail
  go_ret
  exact ⟨f, n, rfl, HN.out.symm, HR.out, rfl⟩
end Go.Proofs.Ytlehikdlkdbacaa
