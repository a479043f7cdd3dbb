/-
  A table's change; Put, Get, Delete.
-/
import Derived.Test.YtlehikdlkdbacaaR
namespace Go.Proofs.Ytlehikdlkdbacaa
open Go.RowKit Disk
open Names (cmpL keyB valueB)

theorem Try.info74 : (Try.prog.info? 74).map (fun i => (i.zero, i.size, i.bytes)) = some (some (.pointer none), 1, 8) := by kernel_rfl
theorem ut66 : Try.prog.underlying 66 = some (.slice (Try.prog.elem 66)) := by kernel_rfl
theorem ut66' : Try.prog.underlying 66 = some (.slice 74) := by kernel_rfl
theorem size66 (w : World) : (sizeOf (Try.prog.elem 66)).run Try.prog w = .ok 1 w := by kernel_rfl
theorem PTR_take (ps : List Nat) (k : Nat) : PTR (ps.take k) = (PTR ps).take k := by simp [PTR, List.map_take]
theorem PTR_drop (ps : List Nat) (k : Nat) : PTR (ps.drop k) = (PTR ps).drop k := by simp [PTR, List.map_drop]

/-- Rows cut at a place; pieces of them. -/
theorem rows_piece {w : World} {ao : Option Addr} {n cap : Nat} {l : List PRow} (h : Rows w (.slice ao n cap) l) (lo hi : Nat) (h1 : lo ≤ hi) (h2 : hi ≤ n) : Rows w (sliced ao lo hi cap 1) ((l.drop lo).take (hi - lo)) := by
  obtain ⟨ps, ha, hv⟩ := h
  have hv' := hv
  obtain ⟨ao1, c1, e1, _⟩ := hv'
  simp at e1
  obtain ⟨rfl, rfl, rfl⟩ := e1
  have := vec_piece hv lo hi h1 h2
  refine ⟨(ps.drop lo).take (hi - lo), (ha.drop lo).take _, ?_⟩
  rw [PTR_take, PTR_drop, List.length_take, List.length_drop, Nat.min_eq_left (by omega)]
  simpa using this
theorem rows_rest {w : World} {ao : Option Addr} {n cap : Nat} {l : List PRow} (h : Rows w (.slice ao n cap) l) (hn : l.length = n) (lo : Nat) (h1 : lo ≤ n) : Rows w (sliced ao lo n cap 1) (l.drop lo) := by
  have := rows_piece h lo n h1 (Nat.le_refl _)
  rwa [List.take_of_length_le (by rw [List.length_drop]; omega)] at this

/-- Rows lie apart from a table's own block. -/
theorem off_cell {w w' : World} {b : Nat} (hg : w.grownBy w' (some b)) {m : Bool} {ao : Option Addr} {n cap : Nat} (hb : Blk w b 68 #[.bool m, .slice ao n cap]) {g j : Nat} {u : Value} (hx : w.cell? ⟨g, j, none⟩ = some u) (hu : ∀ m, u ≠ .bool m) (hu' : ∀ a n c, u ≠ .slice a n c) : w'.cell? ⟨g, j, none⟩ = some u := by
  have hne : g ≠ b := fun e => by
    subst e
    rw [hb.cell j] at hx
    rcases j with _ | _ | j
    · simp at hx; exact hu _ hx.symm
    · simp at hx; exact hu' _ _ _ hx.symm
    · simp at hx
  exact hg.cell hx (by simp; omega)
theorem off_seg {w w' : World} {b : Nat} (hg : w.grownBy w' (some b)) {m : Bool} {ao : Option Addr} {n cap : Nat} (hb : Blk w b 68 #[.bool m, .slice ao n cap]) {v : Value} {L : Bs} (h : Seg w v L) : Seg w' v L :=
  h.of_cells fun _ _ _ hx => off_cell hg hb hx (by simp) (by simp)
theorem off_rows {w w' : World} {b : Nat} (hg : w.grownBy w' (some b)) {m : Bool} {ao : Option Addr} {n cap : Nat} (hb : Blk w b 68 #[.bool m, .slice ao n cap]) {v : Value} {l : List PRow} (h : Rows w v l) : Rows w' v l := by
  obtain ⟨ps, ha, hv⟩ := h
  refine ⟨ps, ha.off hg hb (by decide) (by decide), hv.cells fun g j u hu hx => ?_⟩
  simp [PTR] at hu
  obtain ⟨p, _, rfl⟩ := hu
  exact off_cell hg hb hx (by simp [ptr]) (by simp [ptr])

set_option maxRecDepth 100000 in
set_option maxHeartbeats 4000000 in
theorem change54 (b : Nat) (kv rv : Value) (l R : List PRow) (key : Bs) (hr : Rise l) (hz : l.length ≤ 1000000) (hR : R.length ≤ 1) (hkl : key.length ≤ 100000) (w : World) (ht : Tb w b l) (hk : Seg w kv key) (hv : Rows w rv R) :
    Calls Try.prog 54 #[.pointer (some ⟨b, 0, none⟩), kv, rv] w fun e w' => e = .returned (.bool (hasL l key)) ∧ Tb w' b (l.take (rankL l key) ++ (R ++ l.drop (endL l key))) ∧ w.grownBy w' (some b) := by
  have HT : Hid (Tb w b l ∧ Seg w kv key ∧ Rows w rv R) := ⟨ht, hk, hv⟩
  have HR : Hid (Rise l ∧ l.length ≤ 1000000 ∧ R.length ≤ 1) := ⟨hr, hz, hR⟩
  obtain ⟨rk, hrk⟩ : ∃ n, rankL l key = n := ⟨_, rfl⟩
  obtain ⟨en, hen⟩ : ∃ n, endL l key = n := ⟨_, rfl⟩
  have l1 := end_le l key
  have l2 := end_ge l key
  have l3 := end_lt (l := l) (key := key)
  rw [hen] at l1
  rw [hrk, hen] at l2 l3
  have HQ : Hid (rankL l key = rk ∧ endL l key = en ∧ (rk < en ↔ hasL l key = true)) := ⟨hrk, hen, l3⟩
  clear ht hk hr hz hv hR hrk hen l3
  go_enter Try.func54, Try.ntmps54
  go_wp2_with fail
  refine (row64 b kv l key HR.out.1 HR.out.2.1 hkl w HT.out.1 HT.out.2.1).mono ?_
  rintro e w1 ⟨rfl, g1⟩
  rw [HQ.out.1, HQ.out.2.1]
  have G1 : Hid (w.grownBy w1 none) := g1
  clear g1
  obtain ⟨tv, hb, hrows⟩ := HT.out.1.grown G1.out
  obtain ⟨ao, n, cap, rfl, hn, h1, h2, HV⟩ := rows_open hrows
  have HB : Hid (Blk w1 b 68 #[.bool true, .slice ao n cap]) := hb
  have HN : Hid (l.length = n) := hn
  have e1 : en ≤ n := by omega
  clear hb hrows l1 hn
  obtain ⟨sv, hsv⟩ : ∃ v, sliced ao en n cap 1 = v := ⟨_, rfl⟩
  have hsl : ∀ wk, (Instr.slice 66 (.slice ao n cap) (some (.int .i64 (en : Int))) none none).run Try.prog wk = .ok sv wk := fun wk => by rw [← hsv]; exact run_rest 66 1 ut66 size66 ao n cap en e1 wk
  have HS : Hid (Rows w1 sv (l.drop en)) := by rw [← hsv]; exact rows_rest HV.out HN.out en e1
  clear hsv
  go_wp2_with fail
  have HM : Hid (∀ y : World, w1.grownBy y none → y.cell? ⟨b, 1, none⟩ = some (.slice ao n cap) ∧ y.frozen? ⟨b, 1, none⟩ = false) := fun y hy => ⟨(HB.out.grown hy (by simp)).cell 1, (HB.out.grown hy (by simp)).free 1⟩
  refine wp_region_noPanic ?_
  refine wp_region_hold 15 (fun y => w1.grownBy y none) (by kernel_rfl) ?_
  have G0 : Hid (w1.grownBy w1.drew none) := grown_drew _ _
  generalize w1.drew = wd at G0 ⊢
  refine wpHold_take (i := 0) (v := _) (G0.out) rfl rfl (by kernel_rfl) (by kernel_rfl) (by kernel_rfl) (by kernel_rfl) (by kernel_rfl) (fun _ _ _ h => h) (by rfl) (fun wk hk => by obtain ⟨m0, m1⟩ := HM.out wk hk; go_simp; try rfl) ?_
  try simp only [Act.put, List.setIfInBounds_toArray, List.set_cons_zero, List.set_cons_succ]
  refine wpHold_take (i := 1) (v := _) (G0.out) rfl rfl (by kernel_rfl) (by kernel_rfl) (by kernel_rfl) (by kernel_rfl) (by kernel_rfl) (fun _ _ _ h => h) (by rfl) (fun wk hk => by obtain ⟨m0, m1⟩ := HM.out wk hk; go_simp; try rfl) ?_
  try simp only [Act.put, List.setIfInBounds_toArray, List.set_cons_zero, List.set_cons_succ]
  refine wpHold_take (i := 2) (v := _) (G0.out) rfl rfl (by kernel_rfl) (by kernel_rfl) (by kernel_rfl) (by kernel_rfl) (by kernel_rfl) (fun _ _ _ h => h) (by rfl) (fun wk hk => by obtain ⟨m0, m1⟩ := HM.out wk hk; go_simp; try rfl) ?_
  try simp only [Act.put, List.setIfInBounds_toArray, List.set_cons_zero, List.set_cons_succ]
  refine wpHold_take (i := 4) (v := _) (G0.out) rfl rfl (by kernel_rfl) (by kernel_rfl) (by kernel_rfl) (by kernel_rfl) (by kernel_rfl) (fun _ _ _ h => h) (by rfl) (fun wk hk => by obtain ⟨m0, m1⟩ := HM.out wk hk; go_simp; try rfl) ?_
  try simp only [Act.put, List.setIfInBounds_toArray, List.set_cons_zero, List.set_cons_succ]
  refine wpHold_take (i := 6) (v := _) (G0.out) rfl rfl (by kernel_rfl) (by kernel_rfl) (by kernel_rfl) (by kernel_rfl) (by kernel_rfl) (fun _ _ _ h => h) (by rfl) (fun wk hk => by obtain ⟨m0, m1⟩ := HM.out wk hk; go_simp; try rfl) ?_
  try simp only [Act.put, List.setIfInBounds_toArray, List.set_cons_zero, List.set_cons_succ]
  refine wpHold_take (i := 7) (v := _) (G0.out) rfl rfl (by kernel_rfl) (by kernel_rfl) (by kernel_rfl) (by kernel_rfl) (by kernel_rfl) (fun _ _ _ h => h) (by rfl) (fun wk hk => by obtain ⟨m0, m1⟩ := HM.out wk hk; go_simp; try rfl) ?_
  try simp only [Act.put, List.setIfInBounds_toArray, List.set_cons_zero, List.set_cons_succ]
  refine wpHold_take (i := 8) (v := _) (G0.out) rfl rfl (by kernel_rfl) (by kernel_rfl) (by kernel_rfl) (by kernel_rfl) (by kernel_rfl) (fun _ _ _ h => h) (by rfl) (fun wk hk => by obtain ⟨m0, m1⟩ := HM.out wk hk; go_simp; try rfl) ?_
  try simp only [Act.put, List.setIfInBounds_toArray, List.set_cons_zero, List.set_cons_succ]
  refine wpHold_take (i := 9) (v := _) (G0.out) rfl rfl (by kernel_rfl) (by kernel_rfl) (by kernel_rfl) (by kernel_rfl) (by kernel_rfl) (fun _ _ _ h => h) (by rfl) (fun wk hk => by obtain ⟨m0, m1⟩ := HM.out wk hk; go_simp; try rfl) ?_
  try simp only [Act.put, List.setIfInBounds_toArray, List.set_cons_zero, List.set_cons_succ]
  refine wpHold_take (i := 10) (v := _) (G0.out) rfl rfl (by kernel_rfl) (by kernel_rfl) (by kernel_rfl) (by kernel_rfl) (by kernel_rfl) (fun _ _ _ h => h) (by rfl) (fun wk hk => by obtain ⟨m0, m1⟩ := HM.out wk hk; go_simp; try rfl) ?_
  try simp only [Act.put, List.setIfInBounds_toArray, List.set_cons_zero, List.set_cons_succ]
  refine wpHold_take (i := 11) (v := _) (G0.out) rfl rfl (by kernel_rfl) (by kernel_rfl) (by kernel_rfl) (by kernel_rfl) (by kernel_rfl) (fun _ _ _ h => h) (by rfl) (fun wk hk => by obtain ⟨m0, m1⟩ := HM.out wk hk; go_simp; try rfl) ?_
  try simp only [Act.put, List.setIfInBounds_toArray, List.set_cons_zero, List.set_cons_succ]
  refine wpHold_one (i := 3) rfl (by kernel_rfl) (by rfl) (fun K hK => ?_)
  go_wp2_with (go_at_call 52; refine (first52 b rk l wd ((HT.out.1.grown G1.out).grown G0.out) (by rw [HN.out]; omega)).mono ?_)
  rintro e w2 ⟨f, rfl, hrf, hw2⟩
  rw [hw2]
  clear hw2
  have HF : Hid (Rows wd (.slice f rk rk) (l.take rk)) := hrf
  clear hrf
  go_wp2_with fail
  refine hK.out _ _ (fun _ => G0.out) ?_
  clear hK K
  try simp only [Act.put, List.setIfInBounds_toArray, List.set_cons_zero, List.set_cons_succ]
  refine wpHold_one (i := 5) rfl (by kernel_rfl) (by rfl) (fun K hK => ?_)
  obtain ⟨ps, hps, hpv⟩ := HF.out
  obtain ⟨qs, hqs, hqv⟩ := (HT.out.2.2.grown G1.out).grown G0.out
  have hlk : (l.take rk).length = rk := by rw [List.length_take, HN.out]; omega
  rw [hlk] at hpv
  refine app_wp wd _ _ 66 74 (.pointer none) 1 8 Try.info74 ut66' rfl (by decide) rfl wd.heap.size (.slice f rk rk) rk (PTR ps) rv R.length (PTR qs) rfl rfl (.inr ⟨⟨f, rfl⟩, hpv⟩) hqv (PTR_one _) ?_ ?_ (Nat.le_refl _) ?_
  · have := HR.out.2.2; have := HR.out.2.1; rw [HN.out] at this; omega
  · have := HR.out.2.2; have := HR.out.2.1; rw [HN.out] at this; unfold maxLen; omega
  intro v2 w2 hv2 hg2 hb2
  have HA : Hid (Apn w2 wd.heap.size 74 1 v2 (rk + R.length) (PTR ps ++ PTR qs) ∧ wd.grownBy w2 none ∧ Ats wd ps (l.take rk) ∧ Ats wd qs R) := by
    obtain ⟨r, hg, hr⟩ := hg2
    have hg' : wd.grownBy w2 none := ⟨hg.os, hg.tape, hg.output, hg.size, fun k hk _ => hg.block k hk (fun e => by have := hr k e.symm; omega)⟩
    exact ⟨hv2, hg', hps, hqs⟩
  obtain ⟨a2, c2, e2, _⟩ := hv2.vec.shape
  subst e2
  clear hv2 hg2 hb2 hps hpv hqs hqv hlk HF
  have G2 : Hid (w1.grownBy w2 none) := grown_trans G0.out HA.out.2.1
  refine hK.out _ _ (fun _ => G2.out) ?_
  clear hK K
  try simp only [Act.put, List.setIfInBounds_toArray, List.set_cons_zero, List.set_cons_succ]
  refine wpHold_one (i := 12) rfl (by kernel_rfl) (by rfl) (fun K hK => ?_)
  obtain ⟨us, hus, huv0⟩ := HS.out
  have huv := huv0.grown G2.out
  have hlk : (l.drop en).length = n - en := by rw [List.length_drop, HN.out]
  rw [hlk] at huv
  refine app_wp w2 _ _ 66 74 (.pointer none) 1 8 Try.info74 ut66' rfl (by decide) rfl wd.heap.size (.slice a2 (rk + R.length) c2) (rk + R.length) (PTR ps ++ PTR qs) sv (n - en) (PTR us) rfl rfl HA.out.1 huv (PTR_one _) ?_ ?_ HA.out.2.1.size ?_
  · have := HR.out.2.2; have := HR.out.2.1; rw [HN.out] at this; omega
  · have := HR.out.2.2; have := HR.out.2.1; rw [HN.out] at this; unfold maxLen; omega
  intro v3 w3 hv3 hg3 hb3
  have HC : Hid (Rows w3 v3 (l.take rk ++ (R ++ l.drop en)) ∧ wd.grownBy w3 none) := by
    obtain ⟨r, hg, hr⟩ := hg3
    have hg' : wd.grownBy w3 none := grown_new HA.out.2.1 hg (fun x hx => hr x hx)
    refine ⟨⟨ps ++ (qs ++ us), ?_, ?_⟩, hg'⟩
    · exact ((HA.out.2.2.1.grown hg').append ((HA.out.2.2.2.grown hg').append (hus.grown (grown_trans G0.out hg'))))
    · have := hv3.vec
      rw [PTR_append, PTR_append, ← List.append_assoc (PTR ps)]
      have e : (l.take rk ++ (R ++ l.drop en)).length = rk + R.length + (n - en) := by simp [HN.out]; omega
      rw [e]
      exact this
  obtain ⟨a3, c3, e3, _⟩ := hv3.vec.shape
  subst e3
  clear hv3 hg3 hb3 hus huv huv0 hlk
  have G3 : Hid (w1.grownBy w3 none) := grown_trans G0.out HC.out.2
  refine hK.out _ _ (fun _ => G3.out) ?_
  clear hK K
  try simp only [Act.put, List.setIfInBounds_toArray, List.set_cons_zero, List.set_cons_succ]
  refine wpHold_take (i := 13) (v := _) (G3.out) rfl rfl (by kernel_rfl) (by kernel_rfl) (by kernel_rfl) (by kernel_rfl) (by kernel_rfl) (fun _ _ _ h => h) (by rfl) (fun wk hk => by obtain ⟨m0, m1⟩ := HM.out wk hk; go_simp; try rfl) ?_
  try simp only [Act.put, List.setIfInBounds_toArray, List.set_cons_zero, List.set_cons_succ]
  refine wpHold_take (i := 14) (v := _) (G3.out) rfl rfl (by kernel_rfl) (by kernel_rfl) (by kernel_rfl) (by kernel_rfl) (by kernel_rfl) (fun _ _ _ h => h) (by rfl) (fun wk hk => by obtain ⟨m0, m1⟩ := HM.out wk hk; go_simp; try rfl) ?_
  try simp only [Act.put, List.setIfInBounds_toArray, List.set_cons_zero, List.set_cons_succ]
  refine wpHold_one (i := 15) rfl (by kernel_rfl) (by rfl) (fun K hK => ?_)
  obtain ⟨m0, m1⟩ := HM.out w3 G3.out
  go_wp2_with fail
  have HD : Hid (Tb (w3.setCell ⟨b, 1, none⟩ (.slice a3 (rk + R.length + (n - en)) c3)) b (l.take rk ++ (R ++ l.drop en)) ∧ w.grownBy (w3.setCell ⟨b, 1, none⟩ (.slice a3 (rk + R.length + (n - en)) c3)) (some b)) := by
    have hb3 := HB.out.grown G3.out (by simp)
    refine ⟨⟨_, hb3.store 1 _, ?_⟩, grown_trans (grown_weak (grown_trans G1.out G3.out) _) (grown_setCell _ _ _ _)⟩
    exact off_rows (grown_setCell _ _ _ _) hb3 HC.out.1
  generalize w3.setCell ⟨b, 1, none⟩ (.slice a3 (rk + R.length + (n - en)) c3) = w4 at HD ⊢
  refine hK.out _ _ (fun h => absurd rfl h) ?_
  clear hK K
  try simp only [Act.put, List.setIfInBounds_toArray, List.set_cons_zero, List.set_cons_succ]
  refine wpHold_done (by kernel_rfl) ?_
  refine (‹∀ (a : Act) (w : World), Code.wp Try.prog _ _ a w → _› _ _ ?_)
  clear hsl
  go_wp2_with fail
  go_ret
  refine ⟨?_, by rw [HQ.out.1, HQ.out.2.1]; exact HD.out.1, HD.out.2⟩
  have h3 := HQ.out.2.2
  by_cases h : rk < en
  · rw [h3.1 h]; simp [h]
  · have : hasL l key = false := by
      cases hh : hasL l key
      · rfl
      · exact absurd (h3.2 hh) h
    rw [this]; simp; omega

def okP (k v : Bs) : Bool := keyB k && valueB v
def putC (k v : Bs) : Int := if okP k v = true then 0 else 2
def putA (l : List PRow) (k v : Bs) : List PRow := if okP k v = true then putL l k v else l
def putB (l : List PRow) (k v : Bs) : Bool := okP k v && hasL l k
def delC (k : Bs) : Int := if keyB k = true then 0 else 2
def delA (l : List PRow) (k : Bs) : List PRow := if keyB k = true then delL l k else l
def delB (l : List PRow) (k : Bs) : Bool := keyB k && hasL l k
theorem okP_len {k v : Bs} (h : okP k v = true) : 1 ≤ k.length ∧ k.length ≤ 64 ∧ v.length ≤ 256 := by
  simp [okP, keyB, valueB] at h
  omega
theorem key_len {k : Bs} (h : keyB k = true) : 1 ≤ k.length ∧ k.length ≤ 64 := by
  simp [keyB] at h
  omega
theorem vec_one (w : World) (v : Value) (t : Nat) (w1 : World) (hb : Blk w1 w.heap.size t #[v]) : Vec w1 1 (.slice (some ⟨w.heap.size, 0, none⟩) 1 1) 1 [v] := by
  refine ⟨_, 1, rfl, Nat.le_refl _, by unfold maxLen; omega, by simp, rfl, fun j u hj => ?_⟩
  have hj0 : j = 0 := by
    have := (List.getElem?_eq_some_iff.1 hj).1
    simp at this
    exact this
  subst hj0
  refine ⟨_, 0, rfl, ?_⟩
  rw [hb.cell]
  simpa using hj
theorem tb_open {w : World} {b : Nat} {l : List PRow} (h : Tb w b l) : ∃ ao n cap, Hid (Blk w b 68 #[.bool true, .slice ao n cap] ∧ Rows w (.slice ao n cap) l ∧ l.length = n) ∧ n ≤ cap := by
  obtain ⟨v, h1, h2⟩ := h
  obtain ⟨ao, n, cap, rfl, h3, h4, _, h5⟩ := rows_open h2
  exact ⟨ao, n, cap, ⟨h1, h5.out, h3⟩, h4⟩

set_option maxRecDepth 100000 in
set_option maxHeartbeats 4000000 in
theorem put17 (b : Nat) (kv vv : Value) (l : List PRow) (k v : Bs) (hr : Rise l) (hz : l.length ≤ 1000000) (w : World) (ht : Tb w b l) (hk : Seg w kv k) (hv : Seg w vv v) :
    Calls Try.prog 17 #[.pointer (some ⟨b, 0, none⟩), kv, vv] w fun e w' => e = .returned (.tuple #[.bool (putB l k v), .int .i64 (putC k v)]) ∧ Tb w' b (putA l k v) ∧ w.grownBy w' (some b) := by
  obtain ⟨ao, n, cap, HB, _⟩ := tb_open ht
  have HT : Hid (Tb w b l ∧ Seg w kv k ∧ Seg w vv v) := ⟨ht, hk, hv⟩
  have HR : Hid (Rise l ∧ l.length ≤ 1000000) := ⟨hr, hz⟩
  clear ht hk hv hr hz
  go_enter Try.func17, Try.ntmps17
  go_wp2_with (go_at_call 34; refine (there34 b true _ w HB.out.1).mono ?_; rintro e w1 ⟨rfl, hw⟩; rw [hw]; clear hw)
  refine (mayBe53 kv vv k v w HT.out.2.1 HT.out.2.2).mono ?_
  rintro e w1 ⟨rfl, hw1⟩
  rw [hw1]
  clear hw1
  cases hok : okP k v
  · have HO : Hid (okP k v = false) := hok
    unfold okP at hok
    rw [hok]
    clear hok
    go_wp2_with fail
    go_ret2
    exact ⟨by unfold putB putC; rw [HO.out]; rfl, by unfold putA; rw [HO.out]; exact HT.out.1, grown_refl _ _⟩
  · have HO : Hid (okP k v = true) := hok
    obtain ⟨_, k1, k2⟩ := okP_len hok
    unfold okP at hok
    rw [hok]
    clear hok
    go_wp2_with fail
    refine (ownRow55 kv vv k v w HT.out.2.1 HT.out.2.2 (by omega) (by omega)).mono ?_
    rintro e w1 ⟨p, rfl, hp, ⟨x, y, hb, ox, oy, _⟩, g1⟩
    have G1 : Hid (w.grownBy w1 none ∧ RowAt w1 p (k, v)) := ⟨g1, x, y, hb, ox.mono (Nat.zero_le _), oy.mono (Nat.zero_le _)⟩
    clear hb ox oy g1 hp
    go_wp2_with fail
    obtain ⟨w2, hw2, H2⟩ := al w1 #[.pointer (some ⟨p, 0, none⟩)] 74
    rw [hw2]
    clear hw2
    have HV : Hid (Rows w2 (.slice (some ⟨w1.heap.size, 0, none⟩) 1 1) [(k, v)]) := by
      refine ⟨[p], ⟨rfl, fun j h1 h2 => ?_⟩, vec_one w1 _ 74 w2 H2.out.1⟩
      simp at h1
      subst h1
      exact G1.out.2.grown H2.out.2.1
    refine (change54 b kv _ l [(k, v)] k HR.out.1 HR.out.2 (by simp) (by omega) w2 ((HT.out.1.grown G1.out.1).grown H2.out.2.1) ((HT.out.2.1.grown G1.out.1).grown H2.out.2.1) HV.out).mono ?_
    rintro e w3 ⟨rfl, ht3, g3⟩
    have H3 : Hid (Tb w3 b (putL l k v) ∧ w.grownBy w3 (some b)) := ⟨ht3, grown_trans (grown_weak (grown_trans G1.out.1 H2.out.2.1) _) g3⟩
    clear ht3 g3
    go_wp2_with fail
    go_ret2
    exact ⟨by unfold putB putC; rw [HO.out]; rfl, by unfold putA; rw [HO.out]; exact H3.out.1, H3.out.2⟩

set_option maxRecDepth 100000 in
set_option maxHeartbeats 4000000 in
theorem delete19 (b : Nat) (kv : Value) (l : List PRow) (k : Bs) (hr : Rise l) (hz : l.length ≤ 1000000) (w : World) (ht : Tb w b l) (hk : Seg w kv k) :
    Calls Try.prog 19 #[.pointer (some ⟨b, 0, none⟩), kv] w fun e w' => e = .returned (.tuple #[.bool (delB l k), .int .i64 (delC k)]) ∧ Tb w' b (delA l k) ∧ w.grownBy w' (some b) := by
  obtain ⟨ao, n, cap, HB, _⟩ := tb_open ht
  have HT : Hid (Tb w b l ∧ Seg w kv k) := ⟨ht, hk⟩
  have HR : Hid (Rise l ∧ l.length ≤ 1000000) := ⟨hr, hz⟩
  clear ht hk hr hz
  go_enter Try.func19, Try.ntmps19
  go_wp2_with (go_at_call 34; refine (there34 b true _ w HB.out.1).mono ?_; rintro e w1 ⟨rfl, hw⟩; rw [hw]; clear hw)
  refine (Names.key11 kv k w HT.out.2).mono ?_
  rintro e w1 ⟨rfl, hw1⟩
  rw [hw1]
  clear hw1
  cases hok : keyB k
  · have HO : Hid (keyB k = false) := hok
    clear hok
    go_wp2_with fail
    go_ret2
    exact ⟨by unfold delB delC; rw [HO.out]; rfl, by unfold delA; rw [HO.out]; exact HT.out.1, grown_refl _ _⟩
  · have HO : Hid (keyB k = true) := hok
    obtain ⟨_, k1⟩ := key_len hok
    clear hok
    go_wp2_with fail
    refine (change54 b kv _ l [] k HR.out.1 HR.out.2 (by simp) (by omega) w HT.out.1 HT.out.2 (rows_nil w)).mono ?_
    rintro e w3 ⟨rfl, ht3, g3⟩
    have H3 : Hid (Tb w3 b (delL l k) ∧ w.grownBy w3 (some b)) := ⟨ht3, g3⟩
    clear ht3 g3
    go_wp2_with fail
    go_ret2
    exact ⟨by unfold delB delC; rw [HO.out]; rfl, by unfold delA; rw [HO.out]; exact H3.out.1, H3.out.2⟩

/-- What Get tells. -/
def gotL (l : List PRow) (k : Bs) : Bs := if keyB k = true ∧ hasL l k = true then ((l[rankL l k]?).map (·.2)).getD [] else []
def getC (l : List PRow) (k : Bs) : Int := if keyB k = true then (if hasL l k = true then 0 else 5) else 2

set_option maxRecDepth 100000 in
set_option maxHeartbeats 4000000 in
theorem get27 (b : Nat) (kv : Value) (l : List PRow) (k : Bs) (hr : Rise l) (hz : l.length ≤ 1000000) (hv : ∀ r ∈ l, r.2.length ≤ 256) (w : World) (ht : Tb w b l) (hk : Seg w kv k) :
    Calls Try.prog 27 #[.pointer (some ⟨b, 0, none⟩), kv] w fun e w' => ∃ x, e = .returned (.tuple #[x, .int .i64 (getC l k)]) ∧ Disk.Own w' w.heap.size x (gotL l k) ∧ w.grownBy w' none := by
  obtain ⟨ao, n, cap, HB, _⟩ := tb_open ht
  have HT : Hid (Tb w b l ∧ Seg w kv k) := ⟨ht, hk⟩
  have HR : Hid (Rise l ∧ l.length ≤ 1000000 ∧ ∀ r ∈ l, r.2.length ≤ 256) := ⟨hr, hz, hv⟩
  clear ht hk hr hz hv
  go_enter Try.func27, Try.ntmps27
  go_wp2_with (go_at_call 34; refine (there34 b true _ w HB.out.1).mono ?_; rintro e w1 ⟨rfl, hw⟩; rw [hw]; clear hw)
  refine (Names.key11 kv k w HT.out.2).mono ?_
  rintro e w1 ⟨rfl, hw1⟩
  rw [hw1]
  clear hw1
  cases hok : keyB k
  · have HO : Hid (keyB k = false) := hok
    clear hok
    go_wp2_with fail
    go_ret2
    exact ⟨_, by unfold getC; rw [HO.out]; rfl, by unfold gotL; rw [HO.out]; exact Own.nil _ _, grown_refl _ _⟩
  · have HO : Hid (keyB k = true) := hok
    obtain ⟨_, k1⟩ := key_len hok
    clear hok
    go_wp2_with fail
    refine (row64 b kv l k HR.out.1 HR.out.2.1 (by omega) w HT.out.1 HT.out.2).mono ?_
    rintro e w1 ⟨rfl, g1⟩
    have G1 : Hid (w.grownBy w1 none) := g1
    clear g1
    cases hh : hasL l k
    · have HH : Hid (hasL l k = false) := hh
      have he : endL l k = rankL l k := by unfold endL; rw [hh]; simp
      rw [he]
      clear he hh
      go_wp2_with fail
      go_ret2
      exact ⟨_, by unfold getC; rw [HO.out, HH.out]; rfl, by unfold gotL; rw [HO.out, HH.out]; exact Own.nil _ _, G1.out⟩
    · have HH : Hid (hasL l k = true) := hh
      have he : endL l k = rankL l k + 1 := by unfold endL; rw [hh]; simp
      obtain ⟨hlt, hkey⟩ := has_iff.1 hh
      obtain ⟨g, off, p, kx, vx, rfl, hc, hb, hs1, hs2⟩ := rows_at (HB.out.2.1.grown G1.out) (rankL l k) hlt
      have hgot : gotL l k = l[rankL l k].2 := by unfold gotL; rw [HO.out, HH.out, List.getElem?_eq_getElem hlt]; simp
      have HV : Hid (Seg w1 vx (gotL l k) ∧ (gotL l k).length ≤ 256) := by rw [hgot]; exact ⟨hs2, HR.out.2.2 _ (List.getElem_mem _)⟩
      have b1 := (HB.out.1.grown G1.out (by simp)).cell 1
      have b2 := hb.cell 1
      simp at b1 b2
      have i0 : rankL l k < n := by rw [← HB.out.2.2]; exact hlt
      rw [he]
      obtain ⟨rk, hrk⟩ : ∃ n, rankL l k = n := ⟨_, rfl⟩
      rw [hrk] at i0 hc ⊢
      have i1 : (0 : Int) ≤ (rk : Int) := by omega
      have i2 : (rk : Int) < (n : Int) := by omega
      have i3 : ¬ (rk : Int) = (rk : Int) + 1 := by omega
      clear he hh hlt hkey hb hs1 hs2 hgot hrk
      go_wp2_with fail
      refine (Disk.clone25 vx (gotL l k) w1 HV.out.1 (by have := HV.out.2; omega)).mono ?_
      rintro e w2 ⟨u, rfl, ou, g2⟩
      have G2 : Hid (Disk.Own w2 w.heap.size u (gotL l k) ∧ w.grownBy w2 none) := ⟨ou.mono G1.out.size, grown_trans G1.out g2⟩
      clear ou g2
      go_wp2_with fail
      go_ret2
      exact ⟨_, by unfold getC; rw [HO.out, HH.out]; rfl, G2.out⟩
end Go.Proofs.Ytlehikdlkdbacaa
