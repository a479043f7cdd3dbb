/-
  A net in memory; New, Len, At, Sent.
-/
import Derived.Test.YthobfpegbnkpfaaNa
namespace Go.Proofs.Ythobfpegbnkpfaa.I
open Go.RowKit Disk

/-- A thing on the way: where it lies, its number, the thing. -/
structure Pcl where
  p : Nat
  k : Int
  t : Int
def pv (a : Pcl) : Value := .pointer (some ⟨a.p, 0, none⟩)
theorem pv_one (a : Pcl) : (pv a).oneCell' = true := rfl
theorem pvs_one (q : List Pcl) : ∀ x ∈ q.map pv, x.oneCell' = true := by
  intro x hx
  obtain ⟨a, _, rfl⟩ := List.mem_map.1 hx
  rfl
/-- What is on the way. -/
structure Way (w : World) (B : Nat) (v : Value) (q : List Pcl) : Prop where
  row : Row 70 w B v (q.map pv)
  par : ∀ a ∈ q, Blk w a.p 72 #[.int .i64 a.k, Value.int .i64 a.t]
structure Net (w : World) (b B : Nat) (v : Value) (q : List Pcl) (s : Int) : Prop where
  blk : Blk w b 50 #[.bool true, v, .int .i64 s]
  way : Way w B v q
  len : q.length ≤ 65536
  asc : q.Pairwise fun a c => a.k < c.k
  top : ∀ a ∈ q, a.k ≤ s
  low : 0 ≤ s
/-- A net that is not there. -/
def NoNet (w : World) (x : Value) : Prop := x = .pointer none ∨ ∃ b v s, x = .pointer (some ⟨b, 0, none⟩) ∧ Blk w b 50 #[.bool false, v, s]
/-- The blocks of a net. -/
def FN (b : Nat) (v : Value) (i : Nat) : Prop := i = b ∨ v.ownBlock = some i
theorem Way.nil (w : World) (B : Nat) : Way w B (.slice none 0 0) [] := ⟨Row.nil _ _ _, by simp⟩
theorem Way.sl {w : World} {B : Nat} {v : Value} {q : List Pcl} (h : Way w B v q) : ∃ ao cap, v = .slice ao q.length cap := by
  obtain ⟨ao, cap, e⟩ := h.row.sl
  rw [List.length_map] at e
  exact ⟨ao, cap, e⟩
theorem Way.same {w w' : World} {B : Nat} {v : Value} {q : List Pcl} (h : Way w B v q) (hs : ∀ k, v.ownBlock = some k → w'.heap[k]? = w.heap[k]?) (hp : ∀ i c, Blk w i 72 c → Blk w' i 72 c) : Way w' B v q := ⟨h.row.same hs, fun a ha => hp _ _ (h.par a ha)⟩
theorem Way.grown {w w' : World} {B : Nat} {v : Value} {q : List Pcl} (h : Way w B v q) (hg : w.grownBy w' none) : Way w' B v q := ⟨h.row.grown hg, fun a ha => (h.par a ha).grown hg (by simp)⟩
theorem Net.grown {w w' : World} {b B : Nat} {v : Value} {q : List Pcl} {s : Int} (h : Net w b B v q s) (hg : w.grownBy w' none) : Net w' b B v q s := ⟨h.blk.grown hg (by simp), h.way.grown hg, h.len, h.asc, h.top, h.low⟩
theorem NoNet.grown {w w' : World} {x : Value} (h : NoNet w x) (hg : w.grownBy w' none) : NoNet w' x := by
  rcases h with h | ⟨b, v, s, h, hb⟩
  · exact .inl h
  · exact .inr ⟨b, v, s, h, hb.grown hg (by simp)⟩
/-- What is no block of a net stays as it was. -/
theorem Net.other {w w' : World} {b B : Nat} {v : Value} {q : List Pcl} {s : Int} (h : Net w b B v q s) (hf : Fr w w' (FN b v)) {i t : Nat} {c : Array Value} (hb : Blk w i t c) (h1 : t ≠ 50) (h2 : t ≠ 70) : Blk w' i t c := by
  refine hb.same (hf.block i hb.lt fun e => ?_)
  rcases e with rfl | e
  · exact h1 (blk_type hb h.blk)
  · obtain ⟨C, hC⟩ := h.way.row.blk i e
    exact h2 (blk_type hb hC)
theorem Net.at {w : World} {b B : Nat} {ao : Option Addr} {n cap : Nat} {q : List Pcl} {s : Int} (h : Net w b B (.slice ao n cap) q s) (j : Nat) (hj : j < q.length) : ∃ g, ao = some ⟨g, 0, none⟩ ∧ w.cell? ⟨g, j, none⟩ = some (.pointer (some ⟨q[j].p, 0, none⟩)) ∧ w.cell? ⟨q[j].p, 0, none⟩ = some (.int .i64 q[j].k) ∧ w.cell? ⟨q[j].p, 1, none⟩ = some (Value.int .i64 q[j].t) := by
  rcases h.way.row.shape with ⟨e, e'⟩ | ⟨g, cp, C, e, _⟩
  · rw [List.map_eq_nil_iff] at e'
    subst e'
    exact absurd hj (by simp)
  · simp at e
    obtain ⟨rfl, _, rfl⟩ := e
    obtain ⟨b', off, e2, hc⟩ := h.way.row.rd.at j (by simpa using hj)
    simp at e2
    obtain ⟨rfl, rfl⟩ := e2
    have hb := h.way.par _ (List.getElem_mem hj)
    refine ⟨g, rfl, ?_, hb.cell 0, hb.cell 1⟩
    rw [Nat.zero_add] at hc
    rw [hc]
    simp [pv]

set_option maxRecDepth 100000 in
set_option maxHeartbeats 400000 in
theorem there_yes (b : Nat) (v s : Value) (t : Bool) (w : World) (hb : Blk w b 50 #[.bool t, v, s]) : Calls Try.prog 37 #[.pointer (some ⟨b, 0, none⟩)] w fun e w' => e = .returned (.bool t) ∧ w' = w := by
  have c0 := hb.cell 0
  simp at c0
  clear hb
  go_enter Try.func37, Try.ntmps37
  go_wp2
  go_ret
  exact ⟨rfl, rfl⟩
set_option maxRecDepth 100000 in
set_option maxHeartbeats 400000 in
theorem there_no (x : Value) (w : World) (h : NoNet w x) : Calls Try.prog 37 #[x] w fun e w' => e = .returned (.bool false) ∧ w' = w := by
  rcases h with rfl | ⟨b, v, s, rfl, hb⟩
  · go_enter Try.func37, Try.ntmps37
    go_wp2
    go_ret
    exact ⟨rfl, rfl⟩
  · exact there_yes b v s false w hb

set_option maxRecDepth 100000 in
set_option maxHeartbeats 400000 in
theorem len_yes (b B : Nat) (v : Value) (q : List Pcl) (s : Int) (w : World) (h : Net w b B v q s) : Calls Try.prog 21 #[.pointer (some ⟨b, 0, none⟩)] w fun e w' => e = .returned (.int .i64 (q.length : Int)) ∧ w' = w := by
  obtain ⟨ao, cap, rfl⟩ := h.way.sl
  have HN : Hid (Net w b B (.slice ao q.length cap) q s) := h
  have c1 := h.blk.cell 1
  simp at c1
  clear h
  go_enter Try.func21, Try.ntmps21
  go_wp2_with fail
  refine (there_yes b _ _ true w HN.out.blk).mono ?_
  rintro e w1 ⟨rfl, rfl⟩
  go_wp2_with fail
  go_ret
  exact ⟨rfl, rfl⟩
set_option maxRecDepth 100000 in
set_option maxHeartbeats 400000 in
theorem len_no (x : Value) (w : World) (h : NoNet w x) : Calls Try.prog 21 #[x] w fun e w' => e = .returned (.int .i64 0) ∧ w' = w := by
  have HN : Hid (NoNet w x) := h
  clear h
  go_enter Try.func21, Try.ntmps21
  go_wp2_with fail
  refine (there_no x w HN.out).mono ?_
  rintro e w1 ⟨rfl, rfl⟩
  go_wp2_with fail
  go_ret
  exact ⟨rfl, rfl⟩
set_option maxRecDepth 100000 in
set_option maxHeartbeats 400000 in
theorem sent_yes (b B : Nat) (v : Value) (q : List Pcl) (s : Int) (w : World) (h : Net w b B v q s) : Calls Try.prog 24 #[.pointer (some ⟨b, 0, none⟩)] w fun e w' => e = .returned (.int .i64 s) ∧ w' = w := by
  have HN : Hid (Net w b B v q s) := h
  have c2 := h.blk.cell 2
  simp at c2
  clear h
  go_enter Try.func24, Try.ntmps24
  go_wp2_with fail
  refine (there_yes b _ _ true w HN.out.blk).mono ?_
  rintro e w1 ⟨rfl, rfl⟩
  go_wp2_with fail
  go_ret
  exact ⟨rfl, rfl⟩
set_option maxRecDepth 100000 in
set_option maxHeartbeats 400000 in
theorem sent_no (x : Value) (w : World) (h : NoNet w x) : Calls Try.prog 24 #[x] w fun e w' => e = .returned (.int .i64 0) ∧ w' = w := by
  have HN : Hid (NoNet w x) := h
  clear h
  go_enter Try.func24, Try.ntmps24
  go_wp2_with fail
  refine (there_no x w HN.out).mono ?_
  rintro e w1 ⟨rfl, rfl⟩
  go_wp2_with fail
  go_ret
  exact ⟨rfl, rfl⟩

/-- What At answers. -/
def atD (q : List Pcl) (i : Int) : Int × Int := if h : 0 ≤ i ∧ i.toNat < q.length then ((q[i.toNat]'h.2).t, 0) else ((0 : Int), 5)
set_option maxRecDepth 100000 in
set_option maxHeartbeats 400000 in
theorem at_yes (b B : Nat) (v : Value) (q : List Pcl) (s i : Int) (w : World) (h : Net w b B v q s) : Calls Try.prog 26 #[.pointer (some ⟨b, 0, none⟩), .int .i64 i] w fun e w' => e = .returned (.tuple #[Value.int .i64 (atD q i).1, .int .i64 (atD q i).2]) ∧ w' = w := by
  obtain ⟨ao, cap, rfl⟩ := h.way.sl
  have HN : Hid (Net w b B (.slice ao q.length cap) q s) := h
  have c1 := h.blk.cell 1
  simp at c1
  obtain ⟨n, hn⟩ : ∃ n, q.length = n := ⟨_, rfl⟩
  by_cases h0 : 0 ≤ i
  · obtain ⟨j, rfl⟩ := Int.eq_ofNat_of_zero_le h0
    by_cases h1 : j < n
    · obtain ⟨g, rfl, k1, k2, k3⟩ := h.at j (by omega)
      have HA : Hid (atD q (j : Int) = ((q[j]'(by omega)).t, 0)) := by
        unfold atD Hid
        rw [dif_pos ⟨by omega, by simpa using (show j < q.length by omega)⟩]
        rfl
      rw [HA.out]
      obtain ⟨a, ha⟩ : ∃ a, q[j]'(by omega) = a := ⟨_, rfl⟩
      rw [ha] at k1 k2 k3 ⊢
      rw [hn] at HN c1
      have i1 : ¬ ((j : Int) < 0) := by omega
      have i2 : ¬ ((n : Int) ≤ (j : Int)) := by omega
      clear h h0 hn ha HA k2
      go_enter Try.func26, Try.ntmps26
      go_wp2_with fail
      refine (there_yes b _ _ true w HN.out.blk).mono ?_
      rintro e w1 ⟨rfl, rfl⟩
      go_wp2_with fail
      go_ret2
      exact ⟨rfl, rfl⟩
    · have HA : Hid (atD q (j : Int) = ((0 : Int), 5)) := by
        unfold atD Hid
        rw [dif_neg (by rintro ⟨_, h2⟩; simp at h2; omega)]
      rw [HA.out]
      rw [hn] at HN c1
      have i1 : ¬ ((j : Int) < 0) := by omega
      have i2 : ((n : Int) ≤ (j : Int)) := by omega
      clear h h0 hn HA
      go_enter Try.func26, Try.ntmps26
      go_wp2_with fail
      refine (there_yes b _ _ true w HN.out.blk).mono ?_
      rintro e w1 ⟨rfl, rfl⟩
      go_wp2_with fail
      go_ret2
      exact ⟨rfl, rfl⟩
  · have HA : Hid (atD q i = ((0 : Int), 5)) := by
      unfold atD Hid
      rw [dif_neg (by rintro ⟨h2, _⟩; omega)]
    rw [HA.out]
    have i1 : i < 0 := by omega
    clear h h0 hn HA c1
    go_enter Try.func26, Try.ntmps26
    go_wp2_with fail
    refine (there_yes b _ _ true w HN.out.blk).mono ?_
    rintro e w1 ⟨rfl, rfl⟩
    go_wp2_with fail
    go_ret2
    exact ⟨rfl, rfl⟩
set_option maxRecDepth 100000 in
set_option maxHeartbeats 400000 in
theorem at_no (x : Value) (i : Int) (w : World) (h : NoNet w x) : Calls Try.prog 26 #[x, .int .i64 i] w fun e w' => e = .returned (.tuple #[Value.int .i64 (0 : Int), .int .i64 1]) ∧ w' = w := by
  have HN : Hid (NoNet w x) := h
  clear h
  go_enter Try.func26, Try.ntmps26
  go_wp2_with fail
  refine (there_no x w HN.out).mono ?_
  rintro e w1 ⟨rfl, rfl⟩
  go_wp2_with fail
  go_ret2
  exact ⟨rfl, rfl⟩

set_option maxRecDepth 100000 in
set_option maxHeartbeats 400000 in
theorem new_net (w : World) : Calls Try.prog 19 #[] w fun e w' => e = .returned (.pointer (some ⟨w.heap.size, 0, none⟩)) ∧ Net w' w.heap.size w.heap.size (.slice none 0 0) [] 0 ∧ w.grownBy w' none := by
  go_enter Try.func19, Try.ntmps19
  go_wp2
  go_ret
  exact ⟨rfl, ⟨heap_alloc_new w _, Way.nil _ _, by simp, by simp, by simp, by simp⟩, World.grownBy_alloc _ _ _⟩
end Go.Proofs.Ythobfpegbnkpfaa.I
