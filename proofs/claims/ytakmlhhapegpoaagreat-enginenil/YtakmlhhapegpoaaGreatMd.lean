/-
  An engine looked at: byName, there, Quota, Len, Size, above.
-/
import Derived.Test.YtakmlhhapegpoaaGreatMc
import Derived.Test.YtakmlhhapegpoaaGreatTableAll
namespace Go.Proofs.YtakmlhhapegpoaaGreat
open Go.RowKit Disk Table
open Names (Str cmpL keyB valueB tabB)

theorem run_neq62 (w : World) (p : Option Nat) : (binOp .neq 62 (.map p) (.map none)).run Tryz.prog w = .ok (.bool p.isSome) w := by
  have key : ∀ d, (Op.equalIn (d + 1) 62 (.map p) (.map none)).run Tryz.prog w = .ok p.isNone w := fun d => by
    cases p <;> simp [Op.equalIn, run_underlying ut62]
  simp only [binOp]
  rw [show Op.equal 62 (.map p) (.map none) = Op.equalIn (9999 + 1) 62 (.map p) (.map none) from rfl]
  simp only [Sem.run_bind, key 9999, Result.andThen]
  cases p <;> rfl
set_option maxHeartbeats 400000 in
theorem byName42 (b m : Nat) (q : Int × Int) (w : World) (h : EngB w b q m) : Calls Tryz.prog 42 #[.pointer (some ⟨b, 0, none⟩)] w fun e w' => e = .returned (.map (some m)) ∧ w' = w := by
  unfold EngB at h
  have c2 := h.cell 2
  go_enter Tryz.func42, Tryz.ntmps42
  go_wp2
  go_ret
  exact ⟨rfl, rfl⟩
set_option maxHeartbeats 400000 in
theorem byName42_no (v : Value) (w : World) (h : NoEng w v) : Calls Tryz.prog 42 #[v] w fun e w' => e = .returned (.map none) ∧ w' = w := by
  rcases h with rfl | ⟨b, rfl, h⟩
  · go_enter Tryz.func42, Tryz.ntmps42
    go_wp2
    go_ret
    exact ⟨rfl, rfl⟩
  · have c2 := h.cell 2
    unfold ptr
    go_enter Tryz.func42, Tryz.ntmps42
    go_wp2
    go_ret
    exact ⟨rfl, rfl⟩
set_option maxHeartbeats 400000 in
theorem there31 (b m : Nat) (q : Int × Int) (w : World) (h : EngB w b q m) : Calls Tryz.prog 31 #[.pointer (some ⟨b, 0, none⟩)] w fun e w' => e = .returned (.bool true) ∧ w' = w := by
  have HB : Hid (EngB w b q m) := h
  have hq := fun w => run_neq62 w (some m)
  clear h
  go_enter Tryz.func31, Tryz.ntmps31
  go_wp2_with (go_at_call 42; refine (byName42 b m q w HB.out).mono ?_; rintro e w1 ⟨rfl, hw⟩; rw [hw]; clear hw)
  go_ret
  exact ⟨rfl, rfl⟩
set_option maxHeartbeats 400000 in
theorem there31_no (v : Value) (w : World) (h : NoEng w v) : Calls Tryz.prog 31 #[v] w fun e w' => e = .returned (.bool false) ∧ w' = w := by
  have HB : Hid (NoEng w v) := h
  have hq := fun w => run_neq62 w none
  clear h
  go_enter Tryz.func31, Tryz.ntmps31
  go_wp2_with (go_at_call 42; refine (byName42_no v w HB.out).mono ?_; rintro e w1 ⟨rfl, hw⟩; rw [hw]; clear hw)
  go_ret
  exact ⟨rfl, rfl⟩
theorem grown_set2 {w w1 : World} {B i j : Nat} {u v : Value} (h : w.grownBy w1 none) (hB : w.heap.size ≤ B) : w.grownBy ((w1.setCell ⟨B, i, none⟩ u).setCell ⟨B, j, none⟩ v) none :=
  grown_new (grown_new h (grown_setCell _ _ _ _) (fun x hx => by simp at hx; omega)) (grown_setCell _ _ _ _) (fun x hx => by simp at hx; omega)
set_option maxHeartbeats 400000 in
theorem quota38 (b m : Nat) (q : Int × Int) (w : World) (h : EngB w b q m) : Calls Tryz.prog 38 #[.pointer (some ⟨b, 0, none⟩)] w fun e w' => e = .returned (quoV q) ∧ w.grownBy w' none := by
  have HB : Hid (EngB w b q m) := h
  clear h
  go_enter Tryz.func38, Tryz.ntmps38
  go_wp2_with fail
  obtain ⟨w1, hw1, H1⟩ := al w #[.int .i64 0, .int .i64 0] 23
  rw [hw1]
  clear hw1
  have hE : EngB w1 b q m := Blk.grown HB.out H1.out.2.1 (by simp)
  have HE : Hid (EngB w1 b q m) := hE
  unfold EngB at hE
  have c0 := hE.cell 0
  have c1 := hE.cell 1
  have f0 := H1.out.1.free 0
  have f1 := H1.out.1.free 1
  have k0 := H1.out.1.cell 0
  have k1 := H1.out.1.cell 1
  clear hE
  go_wp2_with (go_at_call 31; refine (there31 b m q w1 HE.out).mono ?_; rintro e w2 ⟨rfl, hw⟩; rw [hw]; clear hw)
  refine bodyPost_ret (v := _) (results_cell_row rfl _ _ w.heap.size 23 _ (0, 0) _ rfl ((H1.out.1.store 0 (.int .i64 q.1)).store 1 (.int .i64 q.2)) Tryz.underlying23 rfl (by kernel_rfl)) rfl ?_
  exact ⟨rfl, grown_set2 H1.out.2.1 (Nat.le_refl _)⟩
set_option maxHeartbeats 400000 in
theorem quota38_no (v : Value) (w : World) (h : NoEng w v) : Calls Tryz.prog 38 #[v] w fun e w' => e = .returned (quoV (0, 0)) ∧ w.grownBy w' none := by
  have HB : Hid (NoEng w v) := h
  clear h
  go_enter Tryz.func38, Tryz.ntmps38
  go_wp2_with fail
  obtain ⟨w1, hw1, H1⟩ := al w #[.int .i64 0, .int .i64 0] 23
  rw [hw1]
  clear hw1
  have f0 := H1.out.1.free 0
  have f1 := H1.out.1.free 1
  have k0 := H1.out.1.cell 0
  have k1 := H1.out.1.cell 1
  go_wp2_with (go_at_call 31; refine (there31_no v w1 (HB.out.grown H1.out.2.1)).mono ?_; rintro e w2 ⟨rfl, hw⟩; rw [hw]; clear hw)
  refine bodyPost_ret (v := _) (results_cell_row rfl _ _ w.heap.size 23 _ (0, 0) _ rfl ((H1.out.1.store 0 (.int .i64 0)).store 1 (.int .i64 0)) Tryz.underlying23 rfl (by kernel_rfl)) rfl ?_
  exact ⟨rfl, grown_set2 H1.out.2.1 (Nat.le_refl _)⟩
/-- May a quota be? -/
def mayQ (q : Int × Int) : Bool := decide (1 ≤ q.1 ∧ q.1 ≤ 4096 ∧ 1 ≤ q.2 ∧ q.2 ≤ 1048576)
set_option maxHeartbeats 4000000 in
theorem quotaMayBe44 (q : Int × Int) (w : World) : Calls Tryz.prog 44 #[quoV q] w fun e w' => e = .returned (.bool (mayQ q)) ∧ w.grownBy w' none := by
  obtain ⟨a, b⟩ := q
  obtain ⟨R, hR⟩ : ∃ R, mayQ (a, b) = R := ⟨_, rfl⟩
  have HR : Hid (mayQ (a, b) = R) := hR
  rw [hR]
  clear hR
  have hr : decide (1 ≤ a ∧ a ≤ 4096 ∧ 1 ≤ b ∧ b ≤ 1048576) = R := HR.out
  unfold quoV
  by_cases c1 : 1 ≤ a
  · by_cases c2 : a ≤ 4096
    · by_cases c3 : 1 ≤ b
      · by_cases c4 : b ≤ 1048576
        · rw [decide_eq_true (by omega)] at hr
          subst hr
          go_enter Tryz.func44, Tryz.ntmps44
          go_wp2_with fail
          go_ret
          exact ⟨rfl, World.grownBy_alloc _ _ _⟩
        · rw [decide_eq_false (by omega)] at hr
          subst hr
          go_enter Tryz.func44, Tryz.ntmps44
          go_wp2_with fail
          go_ret
          exact ⟨rfl, World.grownBy_alloc _ _ _⟩
      · rw [decide_eq_false (by omega)] at hr
        subst hr
        go_enter Tryz.func44, Tryz.ntmps44
        go_wp2_with fail
        go_ret
        exact ⟨rfl, World.grownBy_alloc _ _ _⟩
    · rw [decide_eq_false (by omega)] at hr
      subst hr
      go_enter Tryz.func44, Tryz.ntmps44
      go_wp2_with fail
      go_ret
      exact ⟨rfl, World.grownBy_alloc _ _ _⟩
  · rw [decide_eq_false (by omega)] at hr
    subst hr
    go_enter Tryz.func44, Tryz.ntmps44
    go_wp2_with fail
    go_ret
    exact ⟨rfl, World.grownBy_alloc _ _ _⟩
def leftN (w : World) (it m : Nat) : Nat := match w.heap[it]?, w.heap[m]? with
  | some (.mapIter _ _ seen _), some (.map es _) => (leftOf es seen).size
  | _, _ => 0
theorem IterAt.left {w : World} {it m : Nat} {E left : List Ent} (h : IterAt w it m E left) : leftN w it m = left.length := by
  obtain ⟨es, c, seen, c0, h1, h2, _, _, _, _, h7⟩ := h
  unfold leftN
  rw [h1, h2]
  have := congrArg List.length h7
  simpa using this
/-- Len. -/
theorem sum_perm {α : Type} {l : List α} {x : α} {m : List α} (h : l.Perm (x :: m)) (f : α → Nat) : (l.map f).sum = f x + (m.map f).sum := by
  have := (h.map f).sum_nat
  simpa using this
theorem good_rows {D : DB} (h : GoodD D) {n : Bs} (hn : n ∈ namesD D) : Table.Good (rowsOf D n) := by
  obtain ⟨x, hx, rfl⟩ := List.mem_map.1 hn
  rw [rows_mem h.rise.nodup hx]
  exact h.good x hx
theorem size_few {D : DB} (h : GoodD D) : sizeD D ≤ 320000000 := by
  have key : ∀ (D : DB), (∀ x ∈ D, Table.Good x.2) → sizeD D ≤ lenD D * 320 := by
    intro D
    induction D with
    | nil => intro _; simp [sizeD, lenD]
    | cons x D ih =>
      intro hg
      have h1 := ih (fun y hy => hg y (by simp [hy]))
      have h2 := size_le (hg x (by simp)).2.1
      simp only [sizeD, lenD, List.map_cons, List.sum_cons] at h1 ⊢
      omega
  have := key D h.good
  have := h.few
  omega
set_option maxRecDepth 100000 in
set_option maxHeartbeats 4000000 in
theorem len19 {X : Nat → Prop} (b : Nat) (q : Int × Int) (D : DB) (hD : GoodD D) (w : World) (h : Eng X w b q D) : Calls Tryz.prog 19 #[.pointer (some ⟨b, 0, none⟩)] w fun e w' => e = .returned (.int .i64 (lenD D : Nat)) ∧ w.grownBy w' none := by
  obtain ⟨m, hb, E, h1, h2, h3⟩ := h
  have hsum : (E.map (fun x => List.length (rowsOf D x.1))).sum = lenD D := sum_names h1.nodup hD.rise h2 List.length
  obtain ⟨N, hN⟩ : ∃ N, lenD D = N := ⟨_, rfl⟩
  have hN6 : N ≤ 1000000 := by rw [← hN]; exact hD.few
  rw [hN] at hsum
  rw [hN]
  have HB : Hid (EngB w b q m) := hb
  have HG : Hid (∀ x ∈ E, Table.Good (rowsOf D x.1)) := fun x hx => good_rows hD ((h2 x.1).1 (List.mem_map.2 ⟨x, hx, rfl⟩))
  have H : Hid (MapAt w m E ∧ (∀ x ∈ E, Tbz X w x.2 (rowsOf D x.1)) ∧ (E.map (fun x => List.length (rowsOf D x.1))).sum = N) := ⟨h1, h3, hsum⟩
  clear hb h1 h2 h3 hsum hN hD
  obtain ⟨w0, hr0, hi0, hg0, _⟩ := run_range62 H.out.1
  have HI : Hid (IterAt w0 w.heap.size m E E ∧ w.grownBy w0 none) := ⟨hi0, hg0⟩
  clear hi0 hg0
  go_enter Tryz.func19, Tryz.ntmps19
  go_wp2_with (go_at_call 42; refine (byName42 b m q w HB.out).mono ?_; rintro e w1 ⟨rfl, hw⟩; rw [hw]; clear hw)
  go_loopw [3] (fun v wr => ∃ (left : List Ent) (s : Nat), v = .int .i64 (s : Int) ∧ Hid (IterAt wr w.heap.size m E left ∧ s + (left.map (fun x => List.length (rowsOf D x.1))).sum = N ∧ w.grownBy wr none ∧ ∀ x ∈ left, x ∈ E)) (fun _ wr => leftN wr w.heap.size m)
  case atStart => exact ⟨E, 0, rfl, HI.out.1, by rw [H.out.2.2]; omega, HI.out.2, fun x hx => hx⟩
  case round =>
    obtain ⟨left, s, rfl, HR⟩ := hrel
    by_cases hl : left = []
    · subst hl
      have hn := fun ty => run_next_no HR.out.1 ty
      go_wp2_with fail
      go_ret
      have := HR.out.2.1
      simp at this
      exact ⟨by rw [this]; rfl, HR.out.2.2.1⟩
    · obtain ⟨x, left', w1, hp, hn, he, hi, hg, hsz⟩ := run_next_some HR.out.1 hl 0
      have hxl : x ∈ left := hp.mem_iff.2 (by simp)
      have hxE : x ∈ E := HR.out.2.2.2 x hxl
      have hg1 : w.grownBy w1 none := grown_new HR.out.2.2.1 hg (fun y hy => by simp at hy; omega)
      have hs := sum_perm hp (fun x => List.length (rowsOf D x.1))
      have hsl : s + (List.length (rowsOf D x.1) + (left'.map (fun x => List.length (rowsOf D x.1))).sum) = N := by rw [← hs]; exact HR.out.2.1
      obtain ⟨y, hy⟩ : ∃ y, List.length (rowsOf D x.1) = y := ⟨_, rfl⟩
      have HX : Hid (IterAt w1 w.heap.size m E left' ∧ s + (y + (left'.map (fun x => List.length (rowsOf D x.1))).sum) = N ∧ w.grownBy w1 none ∧ (∀ x ∈ left', x ∈ E) ∧ left.length = left'.length + 1) := ⟨hi, by rw [← hy]; exact hsl, hg1, fun z hz => HR.out.2.2.2 z (hp.mem_iff.2 (by simp [hz])), by have := hp.length_eq; simpa using this⟩
      have HT : Hid (Tl w1 (ptr x.2) true (rowsOf D x.1)) := ((H.out.2.1 x hxE).grown hg1).old.tl
      have HC : Hid (Calls Tryz.prog 50 #[ptr x.2] w1 fun e w' => e = .returned (.int .i64 (y : Int)) ∧ ∃ k, w' = w1.drewN k) := by
        rw [← hy]
        exact (len23g _ true _ w1 HT.out).mono fun e w2 h => ⟨h.1, 0, h.2.trans rfl⟩
      have j0 : s ≤ N := by omega
      have j1 : y ≤ N := by omega
      have j2 : s + y ≤ N := by omega
      clear hp hi hg hsz hxl hxE hs hsl hy hg1 hl
      go_wp2_with fail
      refine HC.out.mono ?_
      rintro e w2 ⟨rfl, k, hw⟩
      rw [hw]
      clear hw
      go_wp2_with fail
      go_roundw
      case rel => exact ⟨left', s + y, by rw [Int.natCast_add], HX.out.1.grown (grown_drewN w1 k none) (by simp) (by simp), by rw [Nat.add_assoc]; exact HX.out.2.1, grown_trans HX.out.2.2.1 (grown_drewN w1 k none), HX.out.2.2.2.1⟩
      case measure =>
        have e1 := HR.out.1.left
        have e2 := (HX.out.1.grown (grown_drewN w1 k none) (by simp) (by simp)).left
        have := HX.out.2.2.2.2
        rw [e1, e2]
        omega
set_option maxRecDepth 100000 in
set_option maxHeartbeats 4000000 in
theorem size20 {X : Nat → Prop} (b : Nat) (q : Int × Int) (D : DB) (hD : GoodD D) (w : World) (h : Eng X w b q D) : Calls Tryz.prog 20 #[.pointer (some ⟨b, 0, none⟩)] w fun e w' => e = .returned (.int .i64 (sizeD D : Nat)) ∧ w.grownBy w' none := by
  obtain ⟨m, hb, E, h1, h2, h3⟩ := h
  have hsum : (E.map (fun x => sizeL (rowsOf D x.1))).sum = sizeD D := sum_names h1.nodup hD.rise h2 sizeL
  obtain ⟨N, hN⟩ : ∃ N, sizeD D = N := ⟨_, rfl⟩
  have hN6 : N ≤ 320000000 := by rw [← hN]; exact size_few hD
  rw [hN] at hsum
  rw [hN]
  have HB : Hid (EngB w b q m) := hb
  have HG : Hid (∀ x ∈ E, Table.Good (rowsOf D x.1)) := fun x hx => good_rows hD ((h2 x.1).1 (List.mem_map.2 ⟨x, hx, rfl⟩))
  have H : Hid (MapAt w m E ∧ (∀ x ∈ E, Tbz X w x.2 (rowsOf D x.1)) ∧ (E.map (fun x => sizeL (rowsOf D x.1))).sum = N) := ⟨h1, h3, hsum⟩
  clear hb h1 h2 h3 hsum hN hD
  obtain ⟨w0, hr0, hi0, hg0, _⟩ := run_range62 H.out.1
  have HI : Hid (IterAt w0 w.heap.size m E E ∧ w.grownBy w0 none) := ⟨hi0, hg0⟩
  clear hi0 hg0
  go_enter Tryz.func20, Tryz.ntmps20
  go_wp2_with (go_at_call 42; refine (byName42 b m q w HB.out).mono ?_; rintro e w1 ⟨rfl, hw⟩; rw [hw]; clear hw)
  go_loopw [3] (fun v wr => ∃ (left : List Ent) (s : Nat), v = .int .i64 (s : Int) ∧ Hid (IterAt wr w.heap.size m E left ∧ s + (left.map (fun x => sizeL (rowsOf D x.1))).sum = N ∧ w.grownBy wr none ∧ ∀ x ∈ left, x ∈ E)) (fun _ wr => leftN wr w.heap.size m)
  case atStart => exact ⟨E, 0, rfl, HI.out.1, by rw [H.out.2.2]; omega, HI.out.2, fun x hx => hx⟩
  case round =>
    obtain ⟨left, s, rfl, HR⟩ := hrel
    by_cases hl : left = []
    · subst hl
      have hn := fun ty => run_next_no HR.out.1 ty
      go_wp2_with fail
      go_ret
      have := HR.out.2.1
      simp at this
      exact ⟨by rw [this]; rfl, HR.out.2.2.1⟩
    · obtain ⟨x, left', w1, hp, hn, he, hi, hg, hsz⟩ := run_next_some HR.out.1 hl 0
      have hxl : x ∈ left := hp.mem_iff.2 (by simp)
      have hxE : x ∈ E := HR.out.2.2.2 x hxl
      have hg1 : w.grownBy w1 none := grown_new HR.out.2.2.1 hg (fun y hy => by simp at hy; omega)
      have hs := sum_perm hp (fun x => sizeL (rowsOf D x.1))
      have hsl : s + (sizeL (rowsOf D x.1) + (left'.map (fun x => sizeL (rowsOf D x.1))).sum) = N := by rw [← hs]; exact HR.out.2.1
      obtain ⟨y, hy⟩ : ∃ y, sizeL (rowsOf D x.1) = y := ⟨_, rfl⟩
      have HX : Hid (IterAt w1 w.heap.size m E left' ∧ s + (y + (left'.map (fun x => sizeL (rowsOf D x.1))).sum) = N ∧ w.grownBy w1 none ∧ (∀ x ∈ left', x ∈ E) ∧ left.length = left'.length + 1) := ⟨hi, by rw [← hy]; exact hsl, hg1, fun z hz => HR.out.2.2.2 z (hp.mem_iff.2 (by simp [hz])), by have := hp.length_eq; simpa using this⟩
      have HT : Hid (Tl w1 (ptr x.2) true (rowsOf D x.1)) := ((H.out.2.1 x hxE).grown hg1).old.tl
      have HC : Hid (Calls Tryz.prog 51 #[ptr x.2] w1 fun e w' => e = .returned (.int .i64 (y : Int)) ∧ ∃ k, w' = w1.drewN k) := by
        rw [← hy]
        exact size30 _ true _ (HG.out x hxE) w1 HT.out
      have j0 : s ≤ N := by omega
      have j1 : y ≤ N := by omega
      have j2 : s + y ≤ N := by omega
      clear hp hi hg hsz hxl hxE hs hsl hy hg1 hl
      go_wp2_with fail
      refine HC.out.mono ?_
      rintro e w2 ⟨rfl, k, hw⟩
      rw [hw]
      clear hw
      go_wp2_with fail
      go_roundw
      case rel => exact ⟨left', s + y, by rw [Int.natCast_add], HX.out.1.grown (grown_drewN w1 k none) (by simp) (by simp), by rw [Nat.add_assoc]; exact HX.out.2.1, grown_trans HX.out.2.2.1 (grown_drewN w1 k none), HX.out.2.2.2.1⟩
      case measure =>
        have e1 := HR.out.1.left
        have e2 := (HX.out.1.grown (grown_drewN w1 k none) (by simp) (by simp)).left
        have := HX.out.2.2.2.2
        rw [e1, e2]
        omega
end Go.Proofs.YtakmlhhapegpoaaGreat
