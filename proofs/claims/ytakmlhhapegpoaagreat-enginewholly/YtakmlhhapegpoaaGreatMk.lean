/-
  Put and remove: what a draft becomes, or that it is given up.
-/
import Derived.Test.YtakmlhhapegpoaaGreatMj
namespace Go.Proofs.YtakmlhhapegpoaaGreat
open Go.RowKit Disk Table
open Names (Str cmpL keyB valueB tabB)
open _root_.Go.Proofs.YtakmlhhapegpoaaGreat.Calls (POp POut PRes opV OpSeg)

set_option maxHeartbeats 400000 in
theorem list35z {X : Nat → Prop} (b : Nat) (l : List PRow) (w : World) (h : Tbz X w b l) : Calls Tryz.prog 71 #[.pointer (some ⟨b, 0, none⟩)] w fun e w' => ∃ f n, e = .returned (.slice f n n) ∧ n = l.length ∧ Rowz X w (.slice f n n) l ∧ w' = w := by
  have HT : Hid (Tbz X w b l) := h
  obtain ⟨n, hn⟩ : ∃ n, l.length = n := ⟨_, rfl⟩
  have HN : Hid (l.length = n) := hn
  have HQ : Hid (Calls Tryz.prog 50 #[.pointer (some ⟨b, 0, none⟩)] w fun e w' => e = .returned (.int .i64 (n : Int)) ∧ w' = w) := by rw [← hn]; exact len23 b l w h.old
  clear h hn
  go_enter Tryz.func71, Tryz.ntmps71
  go_wp2_with (go_at_call 50; refine HQ.out.mono ?_; rintro e w1 ⟨rfl, hw⟩; rw [hw]; clear hw)
  go_wp2_with (go_at_call 96; refine (first52z b n l w HT.out (by rw [HN.out]; omega)).mono ?_)
  rintro e w1 ⟨f, rfl, hr, hw⟩
  rw [hw]
  have HR : Hid (Rowz X w (.slice f n n) l) := by
    rw [List.take_of_length_le (by rw [HN.out]; omega)] at hr
    exact hr
  clear hw hr
  go_wp2_with fail
  go_ret
  exact ⟨f, n, rfl, HN.out.symm, HR.out, rfl⟩
set_option maxRecDepth 100000 in
set_option maxHeartbeats 4000000 in
theorem copy10z {X : Nat → Prop} (b : Nat) (l : List PRow) (w : World) (ht : Tbz X w b l) :
    Calls Tryz.prog 146 #[.pointer (some ⟨b, 0, none⟩)] w fun e w' => e = .returned (.pointer (some ⟨w.heap.size, 0, none⟩)) ∧ Tbz X w' w.heap.size l ∧ w.grownBy w' none := by
  have HT : Hid (Tbz X w b l) := ht
  clear ht
  go_enter Tryz.func146, Tryz.ntmps146
  go_wp2_with (go_at_call 69; refine (there34g _ true l w HT.out.old.tl).mono ?_; rintro e w1 ⟨rfl, hw⟩; rw [hw]; clear hw)
  refine (list35z b l w HT.out).mono ?_
  rintro e w1 ⟨f, n, rfl, hn, hr, hw⟩
  rw [hw]
  have HR : Hid (Rowz X w (.slice f n n) l) := hr
  clear hw hr hn
  go_wp2_with fail
  obtain ⟨w1, hw1, H1⟩ := al w #[.bool true, .slice f n n] 128
  rw [hw1]
  clear hw1
  go_wp2_with fail
  go_ret
  exact ⟨rfl, ⟨_, H1.out.1, HR.out.grown H1.out.2.1⟩, H1.out.2.1⟩

/-- A row put, taken out. -/
def putD (D : DB) (t k v : Bs) : DB := standD D t (putL (rowsOf D t) k v)
def remD (D : DB) (t k : Bs) : DB := standD D t (delL (rowsOf D t) k)
theorem good_put {l : List PRow} (h : Table.Good l) {k v : Bs} (ho : okP k v = true) (hl : l.length + 1 ≤ 1000000) : Table.Good (putL l k v) := by
  refine ⟨rise_put h.1 k v, fun r hr => ?_, by rw [put_len]; omega⟩
  unfold putL at hr
  simp only [List.mem_append, List.mem_cons] at hr
  rcases hr with hr | rfl | hr
  · exact h.2.1 r (List.mem_of_mem_take hr)
  · exact ho
  · exact h.2.1 r (List.mem_of_mem_drop hr)
theorem good_del {l : List PRow} (h : Table.Good l) (k : Bs) : Table.Good (delL l k) := by
  refine ⟨rise_del h.1 k, fun r hr => ?_, by have := h.2.2; rw [del_len]; omega⟩
  unfold delL at hr
  simp only [List.mem_append] at hr
  rcases hr with hr | hr
  · exact h.2.1 r (List.mem_of_mem_take hr)
  · exact h.2.1 r (List.mem_of_mem_drop hr)
theorem rows_len (D : DB) (n : Bs) (h : (namesD D).Nodup) : (rowsOf D n).length ≤ lenD D := by
  by_cases hn : n ∈ namesD D
  · obtain ⟨x, hx, rfl⟩ := List.mem_map.1 hn
    rw [rows_mem h hx]
    clear hn h
    induction D with
    | nil => simp at hx
    | cons y D ih =>
      simp only [lenD, List.map_cons, List.sum_cons] at ih ⊢
      rcases List.mem_cons.1 hx with rfl | hx
      · omega
      · have := ih hx
        omega
  · rw [rows_none hn]
    simp
theorem good_putD {D : DB} (h : GoodD D) {t k v : Bs} (ho : okP k v = true) (hf : lenD D ≤ 100000) : GoodD (putD D t k v) := by
  have h1 := rows_len D t h.rise.nodup
  refine h.stand t (good_put (good_any h t) ho (by omega)) ?_
  rw [put_len]
  omega
theorem good_remD {D : DB} (h : GoodD D) {t k : Bs} (hf : lenD D ≤ 100000) : GoodD (remD D t k) := by
  have h1 := rows_len D t h.rise.nodup
  refine h.stand t (good_del (good_any h t) k) ?_
  rw [del_len]
  omega
theorem tn_set {w : World} {b t i : Nat} {c : Array Value} {v : Value} (hb : Blk w b t c) (h86 : t ≠ 86) (h5 : t ≠ 5) (h128 : t ≠ 128) (h123 : ∀ (j : Nat) (p : Nat), c[j]? ≠ some (ptr p)) {X : Nat → Prop} {p : Nat} {l : List PRow} (h : Tbz X w p l) : Tbz X (w.setCell ⟨b, i, none⟩ v) p l := by
  have hg := grown_setCell w b i v
  obtain ⟨x, h1, ps, h2, h3⟩ := h
  refine ⟨x, h1.grown hg (fun e => ?_), ps, h2.off hg hb h86 h5, h3.cells fun g j u hu hx => ?_⟩
  · simp at e
    subst e
    unfold Blk at h1 hb
    rw [h1] at hb
    simp at hb
    exact h128 hb.2.symm
  · refine hg.cell hx ?_
    intro e
    simp at e
    subst e
    simp [PTR] at hu
    obtain ⟨p', _, rfl⟩ := hu
    rw [hb.cell] at hx
    exact h123 j p' hx
theorem em_setC {X : Nat → Prop} {w : World} {m b i : Nat} {D : DB} {c : Array Value} {v : Value} (h : EM X w m D) (hb : Blk w b 72 c) (hc : ∀ (j : Nat) (p : Nat), c[j]? ≠ some (ptr p)) : EM X (w.setCell ⟨b, i, none⟩ v) m D := by
  obtain ⟨E, h1, h2, h3⟩ := h
  exact ⟨E, h1.grown (grown_setCell w b i v) (by intro e; simp at e; subst e; exact Blk.notMap hb h1), h2, fun x hx => tn_set hb (by decide) (by decide) (by decide) hc (h3 x hx)⟩
theorem em_set3 {X : Nat → Prop} {w : World} {m b : Nat} {D : DB} {z : Bool} (h : EM X w m D) (hb : Blk w b 72 #[.bool false, .slice none 0 0, .slice none 0 0]) : EM X (((w.setCell ⟨b, 0, none⟩ (.bool z)).setCell ⟨b, 1, none⟩ (.slice none 0 0)).setCell ⟨b, 2, none⟩ (.slice none 0 0)) m D := by
  have key : ∀ (x : Bool) (j p : Nat), (#[Value.bool x, .slice none 0 0, .slice none 0 0] : Array Value)[j]? ≠ some (ptr p) := by
    intro x j p
    match j with
    | 0 => simp [ptr]
    | 1 => simp [ptr]
    | 2 => simp [ptr]
    | j + 3 => simp
  have h1 := em_setC (i := 0) (v := .bool z) h hb (key false)
  have b1 := hb.store 0 (.bool z)
  have h2 := em_setC (i := 1) (v := .slice none 0 0) h1 b1 (key z)
  have b2 := b1.store 1 (.slice none 0 0)
  exact em_setC (i := 2) (v := .slice none 0 0) h2 b2 (key z)
theorem grown_new3 {w w1 : World} {B i j k : Nat} {u v x : Value} {r : Option Nat} (h : w.grownBy w1 r) (hB : w.heap.size ≤ B) : w.grownBy (((w1.setCell ⟨B, i, none⟩ u).setCell ⟨B, j, none⟩ v).setCell ⟨B, k, none⟩ x) r :=
  grown_new (grown_new (grown_new h (grown_setCell _ _ _ _) (fun x hx => by simp at hx; omega)) (grown_setCell _ _ _ _) (fun x hx => by simp at hx; omega)) (grown_setCell _ _ _ _) (fun x hx => by simp at hx; omega)
set_option maxRecDepth 100000 in
set_option maxHeartbeats 4000000 in
theorem remove121 {X : Nat → Prop} (b m : Nat) (q : Int × Int) (D : DB) (hD : GoodD D) (kv vv ol tv : Value) (o : POp) (hk : keyB o.key = true) (ht0 : o.table.length ≤ 1000000) (w : World) (hb : EngB w b q m) (hm : EM X w m D) (ho : OpSeg w kv vv ol tv o) : Calls Tryz.prog 121 #[.pointer (some ⟨b, 0, none⟩), opV kv vv ol tv o] w fun e w' => e = .returned (.agg #[.bool (hasD D o.table o.key), .slice none 0 0, .slice none 0 0]) ∧ EM X w' m (remD D o.table o.key) ∧ w.grownBy w' (some m) := by
  have HK0 : Hid (keyB o.key = true) := hk
  clear hk
  obtain ⟨T, hT⟩ : ∃ T, o.table = T := ⟨_, rfl⟩
  have HO : Hid (OpSeg w kv vv ol tv o ∧ o.table = T) := ⟨ho, hT⟩
  obtain ⟨a1, n1, c1, a2, n2, c2, a3, n3, c3, a4, n4, c4, rfl, rfl, rfl, rfl⟩ := op_shape ho
  have HG : Hid (GoodD D) := hD
  have HM : Hid (EngB w b q m ∧ EM X w m D) := ⟨hb, hm⟩
  unfold opV
  have HT0 : Hid (o.table.length ≤ 1000000) := ht0
  clear ht0
  rw [hT] at HT0 ⊢
  clear ho hT hD hb hm
  go_enter Tryz.func121, Tryz.ntmps121
  go_wp2_with fail
  obtain ⟨w1, hw1, H1⟩ := al w #[.int .i64 o.kind, Str T, .slice a1 n1 c1, .slice a2 n2 c2, .bool o.has, .slice a3 n3 c3, .slice a4 n4 c4, .int .i64 o.most] 67
  rw [hw1]
  clear hw1
  obtain ⟨w2, hw2, H2⟩ := al w1 #[.bool false, .slice none 0 0, .slice none 0 0] 72
  rw [hw2]
  clear hw2
  obtain ⟨ob, hob⟩ : ∃ ob, w1.heap.size = ob := ⟨_, rfl⟩
  have hsz : w1.heap.size = w.heap.size + 1 := H1.out.2.2
  have hob2 : w.heap.size + 1 = ob := by omega
  have G2 : Hid (w.grownBy w2 none ∧ Blk w2 ob 72 #[.bool false, .slice none 0 0, .slice none 0 0] ∧ w.heap.size < ob) := ⟨grown_trans H1.out.2.1 H2.out.2.1, by rw [← hob]; exact H2.out.1, by omega⟩
  have hem := em_at HM.out.2 T
  have HC : Hid (∀ y, w2.grownBy y none → y.cell? ⟨b, 2, none⟩ = some (.map (some m)) ∧ y.cell? ⟨w.heap.size, 1, none⟩ = some (Str T) ∧ y.cell? ⟨w.heap.size, 2, none⟩ = some (.slice a1 n1 c1) ∧ y.cell? ⟨w.heap.size, 3, none⟩ = some (.slice a2 n2 c2) ∧ y.cell? ⟨w.heap.size, 6, none⟩ = some (.slice a4 n4 c4) ∧ y.cell? ⟨w.heap.size, 7, none⟩ = some (.int .i64 o.most)) := fun y hy => by
    have h1 := Blk.grown HM.out.1 (grown_trans G2.out.1 hy) (by simp)
    have h2 := (H1.out.1.grown H2.out.2.1 (by simp)).grown hy (by simp)
    exact ⟨h1.cell 2, h2.cell 1, h2.cell 2, h2.cell 3, h2.cell 6, h2.cell 7⟩
  try rw [hob]
  try rw [hob2]
  clear hob hob2 hsz
  rcases hem with ⟨p, hl, htb, hin⟩ | ⟨hl, hrn, hin⟩
  · have HL : Hid ((∀ y, w.grownBy y none → (Instr.lookup 62 (.map (some m)) (Str T) false).run Tryz.prog y = .ok (.pointer (some ⟨p, 0, none⟩)) y) ∧ Tbz X w p (rowsOf D T) ∧ T ∈ namesD D) := ⟨hl, htb, hin⟩
    clear hl htb hin
    refine wp_region_noPanic ?_
    refine wp_region_hold 1000 (fun y => w2.grownBy y none) (by kernel_rfl) ?_
    have G0 : Hid (w2.grownBy w2.drew none) := grown_drew _ _
    generalize w2.drew = wd at G0 ⊢
    refine wpHold_take (i := 0) (v := _) (G0.out) rfl rfl (by kernel_rfl) (by kernel_rfl) (by kernel_rfl) (by kernel_rfl) (by kernel_rfl) (fun _ _ _ h => h) (by rfl) (fun wk hk => by obtain ⟨m0, m1, m2, m3, m6, m7⟩ := HC.out wk hk; have ml := HL.out.1 wk (grown_trans G2.out.1 hk); go_simp; try rfl) ?_
    try simp only [Act.put, List.setIfInBounds_toArray, List.set_cons_zero, List.set_cons_succ]
    refine wpHold_take (i := 1) (v := _) (G0.out) rfl rfl (by kernel_rfl) (by kernel_rfl) (by kernel_rfl) (by kernel_rfl) (by kernel_rfl) (fun _ _ _ h => h) (by rfl) (fun wk hk => by obtain ⟨m0, m1, m2, m3, m6, m7⟩ := HC.out wk hk; have ml := HL.out.1 wk (grown_trans G2.out.1 hk); go_simp; try rfl) ?_
    try simp only [Act.put, List.setIfInBounds_toArray, List.set_cons_zero, List.set_cons_succ]
    refine wpHold_take (i := 2) (v := _) (G0.out) rfl rfl (by kernel_rfl) (by kernel_rfl) (by kernel_rfl) (by kernel_rfl) (by kernel_rfl) (fun _ _ _ h => h) (by rfl) (fun wk hk => by obtain ⟨m0, m1, m2, m3, m6, m7⟩ := HC.out wk hk; have ml := HL.out.1 wk (grown_trans G2.out.1 hk); go_simp; try rfl) ?_
    try simp only [Act.put, List.setIfInBounds_toArray, List.set_cons_zero, List.set_cons_succ]
    refine wpHold_take (i := 3) (v := _) (G0.out) rfl rfl (by kernel_rfl) (by kernel_rfl) (by kernel_rfl) (by kernel_rfl) (by kernel_rfl) (fun _ _ _ h => h) (by rfl) (fun wk hk => by obtain ⟨m0, m1, m2, m3, m6, m7⟩ := HC.out wk hk; have ml := HL.out.1 wk (grown_trans G2.out.1 hk); go_simp; try rfl) ?_
    try simp only [Act.put, List.setIfInBounds_toArray, List.set_cons_zero, List.set_cons_succ]
    refine wpHold_take (i := 4) (v := _) (G0.out) rfl rfl (by kernel_rfl) (by kernel_rfl) (by kernel_rfl) (by kernel_rfl) (by kernel_rfl) (fun _ _ _ h => h) (by rfl) (fun wk hk => by obtain ⟨m0, m1, m2, m3, m6, m7⟩ := HC.out wk hk; have ml := HL.out.1 wk (grown_trans G2.out.1 hk); go_simp; try rfl) ?_
    try simp only [Act.put, List.setIfInBounds_toArray, List.set_cons_zero, List.set_cons_succ]
    refine wpHold_take (i := 5) (v := _) (G0.out) rfl rfl (by kernel_rfl) (by kernel_rfl) (by kernel_rfl) (by kernel_rfl) (by kernel_rfl) (fun _ _ _ h => h) (by rfl) (fun wk hk => by obtain ⟨m0, m1, m2, m3, m6, m7⟩ := HC.out wk hk; have ml := HL.out.1 wk (grown_trans G2.out.1 hk); go_simp; try rfl) ?_
    try simp only [Act.put, List.setIfInBounds_toArray, List.set_cons_zero, List.set_cons_succ]
    refine wpHold_take (i := 6) (v := _) (G0.out) rfl rfl (by kernel_rfl) (by kernel_rfl) (by kernel_rfl) (by kernel_rfl) (by kernel_rfl) (fun _ _ _ h => h) (by rfl) (fun wk hk => by obtain ⟨m0, m1, m2, m3, m6, m7⟩ := HC.out wk hk; have ml := HL.out.1 wk (grown_trans G2.out.1 hk); go_simp; try rfl) ?_
    try simp only [Act.put, List.setIfInBounds_toArray, List.set_cons_zero, List.set_cons_succ]
    refine wpHold_one (i := 7) rfl (by kernel_rfl) (by rfl) (fun K hK => ?_)
    go_wp2_with (go_at_call 146; refine (copy10z p (rowsOf D T) wd (HL.out.2.1.grown (grown_trans G2.out.1 G0.out))).mono ?_)
    rintro e w3 ⟨rfl, ht3, g3⟩
    obtain ⟨tb, htb⟩ : ∃ tb, wd.heap.size = tb := ⟨_, rfl⟩
    have H3 : Hid (Tbz X w3 tb (rowsOf D T) ∧ w2.grownBy w3 none ∧ w2.heap.size ≤ tb) := ⟨by rw [← htb]; exact ht3, grown_trans G0.out g3, by rw [← htb]; exact G0.out.size⟩
    rw [htb]
    clear ht3 g3 htb
    go_wp2_with fail
    refine hK.out _ _ (fun _ => H3.out.2.1) ?_
    clear hK K
    try simp only [Act.put, List.setIfInBounds_toArray, List.set_cons_zero, List.set_cons_succ]
    refine wpHold_take (i := 8) (v := _) (H3.out.2.1) rfl rfl (by kernel_rfl) (by kernel_rfl) (by kernel_rfl) (by kernel_rfl) (by kernel_rfl) (fun _ _ _ h => h) (by rfl) (fun wk hk => by obtain ⟨m0, m1, m2, m3, m6, m7⟩ := HC.out wk hk; have ml := HL.out.1 wk (grown_trans G2.out.1 hk); go_simp; try rfl) ?_
    try simp only [Act.put, List.setIfInBounds_toArray, List.set_cons_zero, List.set_cons_succ]
    refine wpHold_done (by kernel_rfl) ?_
    refine (‹∀ (a : Act) (w : World), Code.wp Tryz.prog _ _ a w → _› _ _ ?_)
    obtain ⟨_, z1, z2, z3, _, _⟩ := HC.out w3 H3.out.2.1
    go_wp2_with fail
    refine (delete19z (X := X) tb _ (rowsOf D T) o.key (good_any HG.out T).1 (good_any HG.out T).2.2 w3 H3.out.1 (HO.out.1.key.grown (grown_trans G2.out.1 H3.out.2.1))).mono ?_
    rintro e w4 ⟨rfl, ht4, g4⟩
    have G4 : Hid (w2.grownBy w4 none) := grown_new H3.out.2.1 g4 (fun x hx => by simp at hx; have := H3.out.2.2; omega)
    have hda : delA (rowsOf D T) o.key = delL (rowsOf D T) o.key := by unfold delA; rw [HK0.out, if_pos rfl]
    rw [hda] at ht4
    have H4 : Hid (Tbz X w4 tb (delL (rowsOf D T) o.key) ∧ delB (rowsOf D T) o.key = hasD D T o.key) := ⟨ht4, rfl⟩
    clear hda
    rw [H4.out.2]
    clear ht4 g4 z1 z2 z3
    obtain ⟨_, z1, z2, z3, _, _⟩ := HC.out w4 G4.out
    go_wp2_with fail
    refine (stand48 b m q D HG.out.rise T HT0.out (.pointer (some ⟨tb, 0, none⟩)) true (delL (rowsOf D T) o.key) w4 (Blk.grown HM.out.1 (grown_trans G2.out.1 G4.out) (by simp)) (HM.out.2.grown (grown_trans G2.out.1 G4.out)) H4.out.1.old.tl (fun _ => ⟨tb, rfl, H4.out.1⟩)).mono ?_
    rintro e w5 ⟨rfl, hem5, g5⟩
    have hE5 : EngB w5 b q m := Blk.grown (Blk.grown HM.out.1 (grown_trans G2.out.1 G4.out) (by simp)) g5 (by intro e; simp at e; subst e; exact Blk.notMap HM.out.1 HM.out.2.choose_spec.1)
    have hB5 : Blk w5 ob 72 #[.bool false, .slice none 0 0, .slice none 0 0] := (G2.out.2.1.grown G4.out (by simp)).grown g5 (by intro e; simp at e; subst e; exact Blk.notMap G2.out.2.1 (HM.out.2.grown G2.out.1).choose_spec.1)
    have H5 : Hid (EngB w5 b q m ∧ EM X w5 m (standD D T (delL (rowsOf D T) o.key)) ∧ w.grownBy w5 (some m) ∧ Blk w5 ob 72 #[.bool false, .slice none 0 0, .slice none 0 0]) := ⟨hE5, hem5, grown_trans (grown_weak (grown_trans G2.out.1 G4.out) _) g5, hB5⟩
    clear hE5 hem5 g5
    have f0 := hB5.free 0
    have f1 := hB5.free 1
    have f2 := hB5.free 2
    have b0 := hB5.cell 0
    have b1 := hB5.cell 1
    have b2 := hB5.cell 2
    simp at b0 b1 b2
    clear hB5
    go_wp2_with fail
    refine bodyPost_ret (v := _) (results_cell_row rfl _ _ ob 72 _ (0, 0) _ rfl (((H5.out.2.2.2.store 0 (.bool (hasD D T o.key))).store 1 (.slice none 0 0)).store 2 (.slice none 0 0)) Tryz.underlying72 rfl (by kernel_rfl)) rfl ?_
    refine ⟨rfl, ?_, ?_⟩
    · exact em_set3 H5.out.2.1 H5.out.2.2.2
    · exact grown_new3 H5.out.2.2.1 (by have := G2.out.2.2; omega)
  · have HL : Hid ((∀ y, w.grownBy y none → (Instr.lookup 62 (.map (some m)) (Str T) false).run Tryz.prog y = .ok (.pointer none) y) ∧ rowsOf D T = [] ∧ T ∉ namesD D) := ⟨hl, hrn, hin⟩
    clear hl hrn hin
    refine wp_region_noPanic ?_
    refine wp_region_hold 1000 (fun y => w2.grownBy y none) (by kernel_rfl) ?_
    have G0 : Hid (w2.grownBy w2.drew none) := grown_drew _ _
    generalize w2.drew = wd at G0 ⊢
    refine wpHold_take (i := 0) (v := _) (G0.out) rfl rfl (by kernel_rfl) (by kernel_rfl) (by kernel_rfl) (by kernel_rfl) (by kernel_rfl) (fun _ _ _ h => h) (by rfl) (fun wk hk => by obtain ⟨m0, m1, m2, m3, m6, m7⟩ := HC.out wk hk; have ml := HL.out.1 wk (grown_trans G2.out.1 hk); go_simp; try rfl) ?_
    try simp only [Act.put, List.setIfInBounds_toArray, List.set_cons_zero, List.set_cons_succ]
    refine wpHold_take (i := 1) (v := _) (G0.out) rfl rfl (by kernel_rfl) (by kernel_rfl) (by kernel_rfl) (by kernel_rfl) (by kernel_rfl) (fun _ _ _ h => h) (by rfl) (fun wk hk => by obtain ⟨m0, m1, m2, m3, m6, m7⟩ := HC.out wk hk; have ml := HL.out.1 wk (grown_trans G2.out.1 hk); go_simp; try rfl) ?_
    try simp only [Act.put, List.setIfInBounds_toArray, List.set_cons_zero, List.set_cons_succ]
    refine wpHold_take (i := 2) (v := _) (G0.out) rfl rfl (by kernel_rfl) (by kernel_rfl) (by kernel_rfl) (by kernel_rfl) (by kernel_rfl) (fun _ _ _ h => h) (by rfl) (fun wk hk => by obtain ⟨m0, m1, m2, m3, m6, m7⟩ := HC.out wk hk; have ml := HL.out.1 wk (grown_trans G2.out.1 hk); go_simp; try rfl) ?_
    try simp only [Act.put, List.setIfInBounds_toArray, List.set_cons_zero, List.set_cons_succ]
    refine wpHold_take (i := 3) (v := _) (G0.out) rfl rfl (by kernel_rfl) (by kernel_rfl) (by kernel_rfl) (by kernel_rfl) (by kernel_rfl) (fun _ _ _ h => h) (by rfl) (fun wk hk => by obtain ⟨m0, m1, m2, m3, m6, m7⟩ := HC.out wk hk; have ml := HL.out.1 wk (grown_trans G2.out.1 hk); go_simp; try rfl) ?_
    try simp only [Act.put, List.setIfInBounds_toArray, List.set_cons_zero, List.set_cons_succ]
    refine wpHold_take (i := 4) (v := _) (G0.out) rfl rfl (by kernel_rfl) (by kernel_rfl) (by kernel_rfl) (by kernel_rfl) (by kernel_rfl) (fun _ _ _ h => h) (by rfl) (fun wk hk => by obtain ⟨m0, m1, m2, m3, m6, m7⟩ := HC.out wk hk; have ml := HL.out.1 wk (grown_trans G2.out.1 hk); go_simp; try rfl) ?_
    try simp only [Act.put, List.setIfInBounds_toArray, List.set_cons_zero, List.set_cons_succ]
    refine wpHold_take (i := 5) (v := _) (G0.out) rfl rfl (by kernel_rfl) (by kernel_rfl) (by kernel_rfl) (by kernel_rfl) (by kernel_rfl) (fun _ _ _ h => h) (by rfl) (fun wk hk => by obtain ⟨m0, m1, m2, m3, m6, m7⟩ := HC.out wk hk; have ml := HL.out.1 wk (grown_trans G2.out.1 hk); go_simp; try rfl) ?_
    try simp only [Act.put, List.setIfInBounds_toArray, List.set_cons_zero, List.set_cons_succ]
    refine wpHold_take (i := 6) (v := _) (G0.out) rfl rfl (by kernel_rfl) (by kernel_rfl) (by kernel_rfl) (by kernel_rfl) (by kernel_rfl) (fun _ _ _ h => h) (by rfl) (fun wk hk => by obtain ⟨m0, m1, m2, m3, m6, m7⟩ := HC.out wk hk; have ml := HL.out.1 wk (grown_trans G2.out.1 hk); go_simp; try rfl) ?_
    try simp only [Act.put, List.setIfInBounds_toArray, List.set_cons_zero, List.set_cons_succ]
    refine wpHold_one (i := 7) rfl (by kernel_rfl) (by rfl) (fun K hK => ?_)
    go_wp2_with (go_at_call 146; refine (copy10_no _ [] wd (NoTb.tl (.inl rfl))).mono ?_; rintro e w3 ⟨rfl, hw⟩; rw [hw]; clear hw)
    refine hK.out _ _ (fun _ => G0.out) ?_
    clear hK K
    try simp only [Act.put, List.setIfInBounds_toArray, List.set_cons_zero, List.set_cons_succ]
    refine wpHold_take (i := 8) (v := _) (G0.out) rfl rfl (by kernel_rfl) (by kernel_rfl) (by kernel_rfl) (by kernel_rfl) (by kernel_rfl) (fun _ _ _ h => h) (by rfl) (fun wk hk => by obtain ⟨m0, m1, m2, m3, m6, m7⟩ := HC.out wk hk; have ml := HL.out.1 wk (grown_trans G2.out.1 hk); go_simp; try rfl) ?_
    try simp only [Act.put, List.setIfInBounds_toArray, List.set_cons_zero, List.set_cons_succ]
    refine wpHold_done (by kernel_rfl) ?_
    refine (‹∀ (a : Act) (w : World), Code.wp Tryz.prog _ _ a w → _› _ _ ?_)
    have G4 : Hid (w2.grownBy wd none) := G0.out
    obtain ⟨_, z1, z2, z3, _, _⟩ := HC.out wd G0.out
    have HH : Hid (false = hasD D T o.key ∧ delL (rowsOf D T) o.key = []) := ⟨by unfold hasD; rw [HL.out.2.1, has_nil, Bool.and_false], by rw [HL.out.2.1]; unfold delL; simp⟩
    go_wp2_with (go_at_call 148; refine (delete19_no _ ⟨_, _, _, rfl⟩ wd).mono ?_; rintro e w3 ⟨rfl, hw⟩; rw [hw]; clear hw)
    refine (stand48 b m q D HG.out.rise T HT0.out (.pointer none) false [] wd (Blk.grown HM.out.1 (grown_trans G2.out.1 G4.out) (by simp)) (HM.out.2.grown (grown_trans G2.out.1 G4.out)) (NoTb.tl (.inl rfl)) (fun h => absurd rfl h)).mono ?_
    rw [← HH.out.2]
    rintro e w5 ⟨rfl, hem5, g5⟩
    generalize wd = w4 at G4 g5 ⊢
    rw [HH.out.1]
    have hE5 : EngB w5 b q m := Blk.grown (Blk.grown HM.out.1 (grown_trans G2.out.1 G4.out) (by simp)) g5 (by intro e; simp at e; subst e; exact Blk.notMap HM.out.1 HM.out.2.choose_spec.1)
    have hB5 : Blk w5 ob 72 #[.bool false, .slice none 0 0, .slice none 0 0] := (G2.out.2.1.grown G4.out (by simp)).grown g5 (by intro e; simp at e; subst e; exact Blk.notMap G2.out.2.1 (HM.out.2.grown G2.out.1).choose_spec.1)
    have H5 : Hid (EngB w5 b q m ∧ EM X w5 m (standD D T (delL (rowsOf D T) o.key)) ∧ w.grownBy w5 (some m) ∧ Blk w5 ob 72 #[.bool false, .slice none 0 0, .slice none 0 0]) := ⟨hE5, hem5, grown_trans (grown_weak (grown_trans G2.out.1 G4.out) _) g5, hB5⟩
    clear hE5 hem5 g5
    have f0 := hB5.free 0
    have f1 := hB5.free 1
    have f2 := hB5.free 2
    have b0 := hB5.cell 0
    have b1 := hB5.cell 1
    have b2 := hB5.cell 2
    simp at b0 b1 b2
    clear hB5
    go_wp2_with fail
    refine bodyPost_ret (v := _) (results_cell_row rfl _ _ ob 72 _ (0, 0) _ rfl (((H5.out.2.2.2.store 0 (.bool (hasD D T o.key))).store 1 (.slice none 0 0)).store 2 (.slice none 0 0)) Tryz.underlying72 rfl (by kernel_rfl)) rfl ?_
    refine ⟨rfl, ?_, ?_⟩
    · exact em_set3 H5.out.2.1 H5.out.2.2.2
    · exact grown_new3 H5.out.2.2.1 (by have := G2.out.2.2; omega)
end Go.Proofs.YtakmlhhapegpoaaGreat
