/-
  maps.Clone; answers in a list of the call's own; a frame that a panic leaves.
-/
import Derived.Test.YtakmlhhapegpoaaGreatMn
import Derived.Defers
import Derived.Recover
import Derived.Laws.Externs
namespace Go.Proofs.YtakmlhhapegpoaaGreat
open Go.RowKit Disk Table
open Names (Str)
open _root_.Go.Proofs.YtakmlhhapegpoaaGreat.Calls (POp POut PRes opV OpSeg mayOp)

theorem leaves_tmps {P : Program} {fn : Func} {t t' : Array Value} {R : Ending → World → Prop} (ht : ∀ w, (results fn t').run P w = (results fn t).run P w) : ∀ (ds : List Deferred) (u : FrameMode) (w : World), Leaves P fn t R ds u w → Leaves P fn t' R ds u w := by
  intro ds
  induction ds with
  | nil =>
    intro u w h
    cases u with
    | run => exact h
    | returning =>
      obtain ⟨v, hr, hR⟩ := h
      exact ⟨v, (ht w).trans hr, hR⟩
    | panicking c => exact h
  | cons d ds ih =>
    intro u w h
    obtain ⟨h1, fv, cap, f, args, h2, h3, h4⟩ := h
    refine ⟨h1, fv, cap, f, args, h2, h3, h4.mono ?_⟩
    intro e u' w' h
    cases e with
    | returned v => exact ih _ _ h
    | panicked c => exact ih _ _ h
    | outgrown => exact h
theorem leaves59 {R : Ending → World → Prop} {d : Nat} (h4 : d ≠ 4) (h5 : d ≠ 5) (v : Value) (c : List PanicEntry) (a : Act) (w : World) (h : bodyPostD Tryz.prog Tryz.f59 R (.panic c) (a.put (some d) v) w) : bodyPostD Tryz.prog Tryz.f59 R (.panic c) a w := by
  refine leaves_tmps (t := (a.put (some d) v).tmps) (fun w => ?_) _ _ _ h
  have e4 : (a.tmps.setIfInBounds d v)[4]? = a.tmps[4]? := Array.getElem?_setIfInBounds_ne h4
  have e5 : (a.tmps.setIfInBounds d v)[5]? = a.tmps[5]? := Array.getElem?_setIfInBounds_ne h5
  simp [results, Tryz.results59, Act.put, e4, e5]

theorem ext116 (w : World) {r : Nat} {es : Array MapEntry} {clock : Nat} (hb : w.heap[r]? = some (.map es clock)) :
    (Extern.MapsClone.clone #[.iface 62 (.map (some r))]).run Tryz.prog w = .ok (.iface 62 (.map (some w.heap.size))) (w.alloc (.map es clock)) := by
  have e : Extern.MapsClone.clone #[.iface 62 (.map (some r))] = (getObj r >>= fun o => match o with
      | .map entries clock => (newObj (.map entries clock) >>= fun n => pure (.iface 62 (.map (some n))))
      | _ => stuck "maps.clone: a map expected") := rfl
  rw [e]
  simp [MapKept.run_getObj_map hb, Result.andThen, go_sem]
theorem run_eql62 (w : World) (p : Nat) : (binOp .eql 62 (.map (some p)) (.map none)).run Tryz.prog w = .ok (.bool false) w := by
  have key : ∀ d, (Op.equalIn (d + 1) 62 (.map (some p)) (.map none)).run Tryz.prog w = .ok false w := fun d => by
    simp [Op.equalIn, run_underlying ut62]
  simp only [binOp]
  rw [show Op.equal 62 (.map (some p)) (.map none) = Op.equalIn (9999 + 1) 62 (.map (some p)) (.map none) from rfl]
  simp only [Sem.run_bind, key 9999, Result.andThen]
  rfl
theorem assert62 (p : Option Nat) (w : World) : (Instr.typeAssert (.iface 62 (.map p)) 20 62 false).run Tryz.prog w = .ok (.map p) w := by
  simp [Instr.typeAssert, run_underlying ut62, go_sem, Result.andThen]
set_option maxRecDepth 100000 in
set_option maxHeartbeats 2000000 in
theorem clone89 {X : Nat → Prop} (m : Nat) (D : DB) (w : World) (h : EM X w m D) : Calls Tryz.prog 89 #[.map (some m)] w fun e w' => e = .returned (.map (some w.heap.size)) ∧ EM X w' w.heap.size D ∧ w.grownBy w' none := by
  obtain ⟨E, h1, h2, h3⟩ := h
  obtain ⟨es, c, hb, hc⟩ := h1.clone
  have hx := ext116 w hb
  have hq := run_eql62
  have ha := assert62
  have HC : Hid (MapAt (w.alloc (.map es c)) w.heap.size E ∧ (∀ n, n ∈ E.map (·.1) ↔ n ∈ namesD D) ∧ ∀ x ∈ E, Tbz X w x.2 (rowsOf D x.1)) := ⟨hc, h2, h3⟩
  clear h1 h2 h3 hc
  go_enter Tryz.func89, Tryz.ntmps89
  go_wp2_with fail
  rw [run_callFunc_extern Tryz.func116 (by kernel_rfl) (by kernel_rfl) (by kernel_rfl) (e := Extern.MapsClone.clone) (by kernel_rfl), hx]
  simp only [Result.andThen]
  rw [Oper.upon_value]
  go_wp2_with fail
  go_ret
  exact ⟨rfl, ⟨E, HC.out.1, HC.out.2.1, fun x hx => (HC.out.2.2 x hx).grown (World.grownBy_alloc _ _ _)⟩, World.grownBy_alloc _ _ _⟩

/-- Answers' cells. -/
def ocells : List (Bool × Value × Value) → List Value
  | [] => []
  | k :: ks => .bool k.1 :: k.2.1 :: k.2.2 :: ocells ks
theorem ocells_append : ∀ ks ls, ocells (ks ++ ls) = ocells ks ++ ocells ls
  | [], ls => rfl
  | k :: ks, ls => by simp [ocells, ocells_append ks ls]
theorem ocells_at : ∀ (ks : List (Bool × Value × Value)) (j : Nat) (h : j < ks.length), (ocells ks)[j * 3]? = some (.bool ks[j].1) ∧ (ocells ks)[j * 3 + 1]? = some ks[j].2.1 ∧ (ocells ks)[j * 3 + 2]? = some ks[j].2.2
  | k :: ks, 0, _ => by simp [ocells]
  | k :: ks, j + 1, h => by
    have := ocells_at ks j (by simpa using h)
    have e : (j + 1) * 3 = j * 3 + 3 := by omega
    rw [e]
    simpa [ocells] using this
/-- An answer of the call's own. -/
structure OutN (w : World) (B : Nat) (k : Bool × Value × Value) (o : POut) : Prop where
  has : k.1 = o.has
  value : Disk.Own w B k.2.1 o.value
  rows : TRws w B k.2.2 o.rows
theorem OutN.grown {w w' : World} {B : Nat} {k : Bool × Value × Value} {o : POut} (h : OutN w B k o) (hg : w.grownBy w' none) : OutN w' B k o := ⟨h.has, h.value.grown hg, h.rows.grown hg⟩
theorem OutN.off {w w' : World} {B : Nat} {k : Bool × Value × Value} {o : POut} (h : OutN w B k o) {g t : Nat} {c : Array Value} (hg : w.grownBy w' (some g)) (hb : Blk w g t c) (h86 : t ≠ 86) (h5 : t ≠ 5) : OutN w' B k o := ⟨h.has, own_off h.value hg hb h5, trws_off h.rows hg hb h86 h5⟩
theorem trws_kept {w w' : World} {B : Nat} {v : Value} {l : List PRow} (h : TRws w B v l) (ht : Tn 0 w w') : TRws w' B v l := by
  obtain ⟨ks, h1, h2⟩ := h
  refine ⟨ks, ⟨h1.1, ?_⟩, h2.same fun k ⟨c, hk⟩ => ht.block k hk.lt (.inr ⟨_, _, _, hk⟩)⟩
  rcases h1.2 with e | ⟨g, cap, cur, e, hb, hg, rest⟩
  · exact .inl e
  · exact .inr ⟨g, cap, cur, e, hb, (ht.block g (Array.getElem?_eq_some_iff.1 hg).1 (.inr ⟨_, _, _, hg⟩)).trans hg, rest⟩
theorem OutN.kept {w w' : World} {B : Nat} {k : Bool × Value × Value} {o : POut} (h : OutN w B k o) (ht : Tn 0 w w') : OutN w' B k o := ⟨h.has, ht.own h.value, trws_kept h.rows ht⟩
def OutL (w : World) (B : Nat) (ks : List (Bool × Value × Value)) (l : List POut) : Prop := ks.length = l.length ∧ ∀ j (h : j < ks.length) (h' : j < l.length), OutN w B ks[j] l[j]
theorem OutL.snoc {w : World} {B : Nat} {ks : List (Bool × Value × Value)} {l : List POut} (h : OutL w B ks l) {k : Bool × Value × Value} {o : POut} (hk : OutN w B k o) : OutL w B (ks ++ [k]) (l ++ [o]) := by
  refine ⟨by simp [h.1], fun j a b => ?_⟩
  rw [List.getElem_append, List.getElem_append]
  have := h.1
  split <;> split
  · exact h.2 _ _ _
  · omega
  · omega
  · have hj : j = l.length := by simp at b; omega
    subst hj
    simpa [h.1] using hk
/-- No pointer to a block; a row's block that has none. -/
def noP (u : Value) : Prop := ∀ p, u ≠ ptr p
def Clean (w : World) (v : Value) : Prop := ∀ g c, v.ownBlock = some g → Blk w g 72 c → ∀ u ∈ c.toList, noP u
/-- A list of answers of the call's own. -/
def OutsN (w : World) (B : Nat) (v : Value) (l : List POut) : Prop := ∃ ks, w.ownsRow B 72 3 v l.length (ocells ks) ∧ OutL w B ks l ∧ Clean w v
theorem Clean.same {w w' : World} {v : Value} (h : Clean w v) (hs : ∀ g, v.ownBlock = some g → w'.heap[g]? = w.heap[g]?) : Clean w' v := fun g c hg hb => h g c hg (by unfold Blk at hb ⊢; rw [← hs g hg]; exact hb)
theorem OutsN.grown {w w' : World} {B : Nat} {v : Value} {l : List POut} (h : OutsN w B v l) (hg : w.grownBy w' none) : OutsN w' B v l := by
  obtain ⟨ks, h1, h2, h3⟩ := h
  exact ⟨ks, World.ownsRow.kept h1 hg (by cases v.ownBlock <;> simp), ⟨h2.1, fun j a b => (h2.2 j a b).grown hg⟩, h3.same fun g he => hg.block g (World.ownsRow.lt h1 g he).2 (by simp)⟩
theorem OutsN.kept {w w' : World} {B : Nat} {v : Value} {l : List POut} (h : OutsN w B v l) (ht : Tn 0 w w') : OutsN w' B v l := by
  obtain ⟨ks, h1, h2, h3⟩ := h
  have key : ∀ g, v.ownBlock = some g → w'.heap[g]? = w.heap[g]? := fun g he => by
    rcases h1.2 with ⟨e, _⟩ | ⟨g2, cap, cur, e, hb, hg, rest⟩
    · rw [e] at he; simp [Value.ownBlock] at he
    · rw [e] at he
      simp [Value.ownBlock] at he
      subst he
      exact ht.block g2 (Array.getElem?_eq_some_iff.1 hg).1 (.inr ⟨_, _, _, hg⟩)
  refine ⟨ks, ⟨h1.1, ?_⟩, ⟨h2.1, fun j a b => (h2.2 j a b).kept ht⟩, h3.same key⟩
  rcases h1.2 with e | ⟨g, cap, cur, e, hb, hg, rest⟩
  · exact .inl e
  · exact .inr ⟨g, cap, cur, e, hb, (key g (by rw [e]; rfl)).trans hg, rest⟩
/-- A block of another kind is written. -/
theorem OutsN.off {w w' : World} {B : Nat} {v : Value} {l : List POut} (h : OutsN w B v l) {g t : Nat} {c : Array Value} (hg : w.grownBy w' (some g)) (hb : Blk w g t c) (h72 : t ≠ 72) (h86 : t ≠ 86) (h5 : t ≠ 5) : OutsN w' B v l := by
  obtain ⟨ks, h1, h2, h3⟩ := h
  have key : v.ownBlock ≠ some g := fun e => by
    rcases h1.2 with ⟨e2, _⟩ | ⟨g2, cap2, cur2, e2, _, hg2, _⟩
    · rw [e2] at e; simp [Value.ownBlock] at e
    · rw [e2] at e
      simp [Value.ownBlock] at e
      subst e
      unfold Blk at hb
      rw [hg2] at hb
      simp at hb
      exact h72 hb.2.symm
  exact ⟨ks, World.ownsRow.kept h1 hg (.inr key), ⟨h2.1, fun j a b => (h2.2 j a b).off hg hb h86 h5⟩, h3.same fun g' he => hg.block g' (World.ownsRow.lt h1 g' he).2 (fun e => key (by rw [he, e]))⟩
theorem OutsN.nil (w : World) (B : Nat) : OutsN w B (.slice none 0 0) [] := ⟨[], World.ownsRow_nil _ _ _ _, ⟨rfl, fun j h => absurd h (by simp)⟩, fun g c hg => by simp [Value.ownBlock] at hg⟩
theorem OutsN.shape {w : World} {B : Nat} {v : Value} {l : List POut} (h : OutsN w B v l) : ∃ a n c, v = .slice a n c ∧ l.length = n ∧ n ≤ c ∧ c ≤ 9223372036854775807 := by
  obtain ⟨ks, h1, _⟩ := h
  obtain ⟨ao, cap, e, h2, h3, _⟩ := vec_of_owns h1
  unfold maxLen at h3
  exact ⟨ao, _, cap, e, rfl, h2, by omega⟩
theorem Tryz.info72 : (Tryz.prog.info? 72).map (fun i => (i.zero, i.size, i.bytes)) = some (some (.agg #[.bool false, .slice none 0 0, .slice none 0 0]), 3, 56) := by kernel_rfl
theorem ut47 : Tryz.prog.underlying 47 = some (.slice 72) := by kernel_rfl
theorem vec_three (w : World) (x y z : Value) (w1 : World) (hb : Blk w1 w.heap.size 72 #[x, y, z]) : Vec w1 3 (.slice (some ⟨w.heap.size, 0, none⟩) 1 1) 1 [x, y, z] := by
  refine ⟨_, 1, rfl, Nat.le_refl _, by unfold maxLen; omega, by simp, rfl, fun j u hj => ⟨_, 0, rfl, ?_⟩⟩
  rw [hb.cell, Nat.zero_add]
  simpa using hj
theorem noP_zero (k : Nat) : ∀ u ∈ (Builtin.zeroCells (Value.agg #[.bool false, .slice none 0 0, .slice none 0 0]).cells k).toList, noP u := by
  intro u hu
  simp [Builtin.zeroCells, Value.cells] at hu
  obtain ⟨i, _, rfl⟩ := hu
  have h3 : i % 3 < 3 := Nat.mod_lt _ (by decide)
  intro p
  match hi : i % 3, h3 with
  | 0, _ => simp [ptr]
  | 1, _ => simp [ptr]
  | 2, _ => simp [ptr]
theorem append_clean {w w' : World} {B ty : Nat} {v v' : Value} {n : Nat} {xs : List Value} (hown : w.ownsRow B 72 3 v n xs) (hc : Clean w v) (hxs : ∀ u ∈ xs, noP u) {ad : Addr} {c : Nat} {news : List Value} (hl : news.length = 3) (hnews : ∀ j u, news[j]? = some u → w.cell? (ad.add j) = some u) (h1 : ∀ u ∈ news, u.oneCell' = true) (hns : ∀ u ∈ news, noP u) (hn : n ≤ 1000000)
    (hr : (Builtin.append_ #[47, 47] ty #[v, .slice (some ad) 1 c]).run Tryz.prog w = .ok v' w') : Clean w' v' := by
  obtain ⟨i0, hi, hz0, hz1, hz2⟩ := info_parts Tryz.info72
  have hl' : news.length = 1 * i0.size := by rw [hz1, hl]
  have key : ∀ (cs : Array Value), (∀ u ∈ cs.toList, noP u) → ∀ (W : World), Clean (W.drew.alloc (.cells cs 72)) (.slice (some ⟨W.heap.size, 0, none⟩) 0 0) := by
    intro cs hcs W g c' hg hb u hu
    simp [Value.ownBlock] at hg
    subst hg
    have : (W.drew.alloc (.cells cs 72)).heap[W.heap.size]? = some (.cells cs 72) := heap_alloc_new W.drew _
    unfold Blk at hb
    rw [this] at hb
    simp at hb
    rw [← hb] at hu
    exact hcs u hu
  rcases hown.2 with ⟨rfl, rfl⟩ | ⟨g, cap, cur, rfl, hbg, hg, hnc, hcm, hcs, htake⟩
  · rw [run_append_nil (P := Tryz.prog) w 47 ty 72 i0 _ ut47 hi hz0 ad 1 c news hl' hnews (by omega) (by omega) (by rw [hz2]; omega)] at hr
    simp only [Result.ok.injEq] at hr
    obtain ⟨rfl, rfl⟩ := hr
    exact key _ (fun u hu => by
      simp only [Array.toList_append, List.mem_append] at hu
      rcases hu with hu | hu
      · exact hns u (by simpa using hu)
      · exact noP_zero _ u hu) w
  · by_cases hroom : n + 1 ≤ cap
    · have hfit : n * i0.size + news.length ≤ cur.size := by rw [hl, hcs, hz1]; have := Nat.mul_le_mul_right 3 hroom; omega
      rw [run_append_room (P := Tryz.prog) w 47 ty 72 i0 ut47 hi g n cap cur hg ad 1 c news hl' hnews h1 hroom hfit] at hr
      simp only [Result.ok.injEq] at hr
      obtain ⟨rfl, rfl⟩ := hr
      intro g' c' hg' hb u hu
      simp [Value.ownBlock] at hg'
      subst hg'
      have := setRow_heap w g cur (cur.toList.take (n * i0.size) ++ news ++ cur.toList.drop (n * i0.size + news.length)).toArray 72 _ hg
      unfold Blk at hb
      rw [this] at hb
      simp only [Option.some.injEq, Obj.cells.injEq] at hb
      rw [← hb.1] at hu
      simp only [List.mem_append] at hu
      rcases hu with (hu | hu) | hu
      · exact hc g cur rfl hg u (List.mem_of_mem_take hu)
      · exact hns u hu
      · exact hc g cur rfl hg u (List.mem_of_mem_drop hu)
    · have holds : ∀ j u, xs[j]? = some u → w.cell? ((⟨g, 0, none⟩ : Addr).add j) = some u := hown.cells (g := g) rfl
      rw [run_append_grow (P := Tryz.prog) w 47 ty 72 i0 _ ut47 hi hz0 ⟨g, 0, none⟩ n cap xs (by rw [hz1]; exact hown.1) holds ad 1 c news hl' hnews (by omega) (by omega) (growslice_fits (by omega) (by rw [hz2]; omega))] at hr
      simp only [Result.ok.injEq] at hr
      obtain ⟨rfl, rfl⟩ := hr
      exact key _ (fun u hu => by
        simp only [Array.toList_append, List.mem_append] at hu
        rcases hu with (hu | hu) | hu
        · exact hxs u (by simpa using hu)
        · exact hns u (by simpa using hu)
        · exact noP_zero _ u hu) w
theorem noP_slice (a : Option Addr) (n c : Nat) : noP (.slice a n c) := fun p => by simp [ptr]
theorem own_noP {w : World} {B : Nat} {v : Value} {L : Bs} (h : Disk.Own w B v L) : noP v := by
  obtain ⟨ao, cap, rfl, _⟩ := h.seg
  exact noP_slice _ _ _
theorem trws_noP {w : World} {B : Nat} {v : Value} {l : List PRow} (h : TRws w B v l) : noP v := by
  obtain ⟨ao, n, cap, rfl, _⟩ := rws_open h.rws
  exact noP_slice _ _ _
theorem outL_noP {w : World} {B : Nat} {ks : List (Bool × Value × Value)} {l : List POut} (h : OutL w B ks l) : ∀ u ∈ ocells ks, noP u := by
  have key : ∀ (ks : List (Bool × Value × Value)), (∀ k ∈ ks, noP k.2.1 ∧ noP k.2.2) → ∀ u ∈ ocells ks, noP u := by
    intro ks
    induction ks with
    | nil => intro _ u hu; simp [ocells] at hu
    | cons k ks ih =>
      intro hk u hu
      simp only [ocells, List.mem_cons] at hu
      rcases hu with rfl | rfl | rfl | hu
      · intro p; simp [ptr]
      · exact (hk k (by simp)).1
      · exact (hk k (by simp)).2
      · exact ih (fun x hx => hk x (by simp [hx])) u hu
  refine key ks fun k hk => ?_
  obtain ⟨j, hj, rfl⟩ := List.getElem_of_mem hk
  have := h.2 j hj (by rw [← h.1]; exact hj)
  exact ⟨own_noP this.value, trws_noP this.rows⟩
/-- An answer appended. -/
theorem appO_wp {o : Oper} {a : Act} {K : Act → World → Prop} {Q : Exit → Act → World → Prop} (w : World) (s x : Operand) (ho : o.op = .call { callee := .builtin .append, args := #[s, x], argTypes := #[47, 47] })
    (B : Nat) (v : Value) (l : List POut) (u : Value) (k : Bool × Value × Value) (r : POut) (hs : a.eval s = v) (hx : a.eval x = u) (hv : OutsN w B v l) (hu : Vec w 3 u 1 [.bool k.1, k.2.1, k.2.2]) (hk : OutN w B k r) (h1 : k.2.1.oneCell' = true) (h2 : k.2.2.oneCell' = true) (hb : l.length ≤ 1000000) (hB : B ≤ w.heap.size)
    (h : ∀ ao cap w' q, OutsN w' B (.slice ao (l.length + 1) cap) (l ++ [r]) → w.grownBy w' q → (∀ g, q = some g → B ≤ g ∧ ∃ c, Blk w g 72 c ∧ ∀ u ∈ c.toList, noP u) → K (a.put o.dst (.slice ao (l.length + 1) cap)) w') : o.wp Tryz.prog a w K Q := by
  obtain ⟨ks, h3, h4, hcl⟩ := hv
  have h5 := h4.snoc hk
  obtain ⟨i0, hi, hz0, hz1, hz2⟩ := info_parts Tryz.info72
  obtain ⟨ad, c, eu⟩ : ∃ ad c, u = .slice (some ad) 1 c := by
    obtain ⟨ao, c, e, k1, _, k3, _⟩ := hu
    cases ao with
    | none => have := k3 rfl; omega
    | some ad => exact ⟨ad, c, e⟩
  subst eu
  have hone : ∀ u ∈ [.bool k.1, k.2.1, k.2.2], u.oneCell' = true := by
    intro y hy
    simp at hy
    rcases hy with rfl | rfl | rfl
    · rfl
    · exact h1
    · exact h2
  have hnop : ∀ u ∈ [.bool k.1, k.2.1, k.2.2], noP u := by
    intro y hy
    simp at hy
    rcases hy with rfl | rfl | rfl
    · intro p; simp [ptr]
    · exact own_noP hk.value
    · exact trws_noP hk.rows
  obtain ⟨g, cap, w', hr, r1, r2, r3, _⟩ := run_append_lies (P := Tryz.prog) w 47 o.type B 72 i0 _ 3 56 ut47 hi hz0 hz1 hz2 rfl (by decide) v l.length (ocells ks) h3 ad 1 c [.bool k.1, k.2.1, k.2.2] rfl hu.news hone (by decide) (by unfold maxLen; omega) (by omega) hB w.heap.size rfl
  have hcl' := append_clean h3 hcl (outL_noP h4) rfl hu.news hone hnop hb hr
  have hq : ∀ g, v.ownBlock = some g → B ≤ g ∧ ∃ c, Blk w g 72 c ∧ ∀ u ∈ c.toList, noP u := fun g hg => by
    refine ⟨(World.ownsRow.lt h3 g hg).1, ?_⟩
    rcases h3.2 with ⟨e2, _⟩ | ⟨g2, cap2, cur2, e2, _, hg2, _⟩
    · rw [e2] at hg; simp [Value.ownBlock] at hg
    · have hg0 := hg
      rw [e2] at hg
      simp [Value.ownBlock] at hg
      subst hg
      exact ⟨cur2, hg2, hcl g2 cur2 hg0 hg2⟩
  unfold Oper.wp execOp
  simp only [ho, resolve, invoke, builtin, Sem.run_bind, Sem.run_pure, Result.andThen_ok, List.map_toArray, List.map_cons, List.map_nil, hs, hx, hr]
  refine h _ cap w' _ ⟨ks ++ [k], ?_, ⟨h5.1, fun j a b => ?_⟩, hcl'⟩ r2 hq
  · rw [ocells_append, List.length_append]
    exact r1
  · cases hob : v.ownBlock with
    | none =>
      rw [hob] at r2
      exact (h5.2 j a b).grown r2
    | some g =>
      rw [hob] at r2
      obtain ⟨_, c, hb, _⟩ := hq g hob
      exact (h5.2 j a b).off r2 hb (by decide) (by decide)
end Go.Proofs.YtakmlhhapegpoaaGreat
