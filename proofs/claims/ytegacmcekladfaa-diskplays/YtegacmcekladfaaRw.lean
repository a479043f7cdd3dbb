/-
  The document's disk: the steps, and looking.
-/
import Derived.Test.YtegacmcekladfaaR
namespace Go.Proofs.Ytegacmcekladfaa
open Go.RowKit
attribute [local go_sem ↓] run_max0 run_maxn run_minn

set_option maxRecDepth 100000 in
set_option maxHeartbeats 400000 in
theorem ref34 (F : Nat → Prop) (v u : Value) (S : St) (M : List UInt8) (w : World) (h : RK w F v S) (hm : S.steps < 9223372036854775807) (hu : Seg w u M) (hd : M ≠ [] → ∀ k, u.ownBlock = some k → ¬ F k) :
    Calls Try.prog 34 #[v, u] w fun e w' => e = .returned (.int .i64 (S.writeCode M)) ∧ RAft w F w' v (S.write M) := by
  have hul := hu.len
  obtain ⟨au, cu, huv⟩ := hu.shape
  subst huv
  obtain ⟨b, lv, v0, v1, rfl, h⟩ := h
  obtain ⟨c0, c1, c2, c3, c4, c5, c6, c7, c8⟩ := h.cells
  have hf := h.blk.free 8
  have h1 := h.stepped
  obtain ⟨ao, cap, hsv⟩ := h.log.seg.shape
  subst hsv
  have HS : Hid (RKb (w.setCell ⟨b, 8, none⟩ (.int .i64 ((S.steps + 1 : Nat) : Int))) F b (.slice ao S.log.length cap) v0 v1 S.step ∧ Aft w F (w.setCell ⟨b, 8, none⟩ (.int .i64 ((S.steps + 1 : Nat) : Int))) F ∧ Seg (w.setCell ⟨b, 8, none⟩ (.int .i64 ((S.steps + 1 : Nat) : Int))) (.slice au M.length cu) M) := ⟨h1, aft_set h.inb _ _, hu.far (aft_set (F := F) h.inb _ _).fr hd⟩
  have HO : Hid S.Ok := h.ok
  have hl := h.ok.log
  have hsl := h.ok.sure
  have hcp : S.log.length ≤ cap ∧ cap ≤ 9223372036854775807 := by
    obtain ⟨ao', cap', hv, q1, q2, _⟩ := h.log.seg
    simp at hv; unfold maxLen at q2; omega
  obtain ⟨hcp1, hcp2⟩ := hcp
  rw [show ((S.steps + 1 : Nat) : Int) = (S.steps : Int) + 1 by omega] at HS
  have hcap := h.ok.cap2
  have hc1 := h.ok.cap1
  have k0 : (w.setCell ⟨b, 8, none⟩ (.int .i64 ((S.steps : Int) + 1))).cell? ⟨b, 0, none⟩ = some (.int .i64 S.cap) := HS.out.1.cells.1
  have k1 := HS.out.1.cells.2.1
  clear h h1 c0 c1 c2 c3 c4 c5 c6 c7 hu
  cases hfull : S.full M with
  | true =>
    have h1 : S.cap - S.log.length < M.length := by simpa [St.full] using hfull
    have hb0 : decide (0 < M.length) = true := decide_eq_true (by omega)
    have hb1 : 0 < M.length := by omega
    have hb : (S.cap : Int) - (S.log.length : Int) < (M.length : Int) := by omega
    have e1 : Hid (S.write M = S.step) := by unfold Hid St.write; rw [hfull]; rfl
    have e2 : Hid (S.writeCode M = 7) := by unfold Hid St.writeCode; rw [hfull]; rfl
    clear hfull
    go_enter Try.func34, Try.ntmps34
    go_wp2_with fail
    generalize w.setCell ⟨b, 8, none⟩ (.int .i64 ((S.steps : Int) + 1)) = w1 at HS k0 k1 ⊢
    go_quiet (fail)
    go_wp2_with fail
    go_ret
    rw [e1.out, e2.out]
    exact ⟨rfl, F, ⟨b, _, v0, v1, rfl, HS.out.1.grown (grown_drewN _ _ none)⟩, HS.out.2.1.trans (aft_grown (grown_drewN _ _ none))⟩
  | false =>
    have h1 : ¬ S.cap - S.log.length < M.length := by simpa [St.full] using hfull
    have e1 : Hid (S.write M = { S.step with log := S.log ++ M }) := by unfold Hid St.write; rw [hfull]; rfl
    have e2 : Hid (S.writeCode M = 0) := by unfold Hid St.writeCode; rw [hfull]; rfl
    have HOK : Hid (S.write M).Ok := St.write_ok HO.out
    rw [e1.out] at HOK
    clear hfull
    by_cases hz : M.length = 0
    · have hb1 : ¬ 0 < M.length := by omega
      have hb0 : decide (0 < M.length) = false := decide_eq_false (by omega)
      clear hz
      go_enter Try.func34, Try.ntmps34
      go_wp2_with fail
      generalize w.setCell ⟨b, 8, none⟩ (.int .i64 ((S.steps : Int) + 1)) = w1 at HS k0 k1 ⊢
      go_quiet (fail)
      generalize hw2 : w1.drewN _ = w2
      have HS2 : Hid (RKb w2 F b (.slice ao S.log.length cap) v0 v1 S.step ∧ Aft w F w2 F ∧ Seg w2 (.slice au M.length cu) M) := by
        rw [← hw2]
        exact ⟨HS.out.1.grown (grown_drewN _ _ none), HS.out.2.1.trans (aft_grown (grown_drewN _ _ none)), HS.out.2.2.grown (grown_drewN _ _ none)⟩
      clear hw2 HS k0 k1
      have k1 := HS2.out.1.cells.2.1
      go_wp2_with (at_builtin; refine app22 _ rfl _ _ rfl 0 _ S.log _ M rfl rfl HS2.out.1.log HS2.out.2.2 ?c0 ?c1 ?_)
      case c0 => have := HO.out.log; have := HO.out.cap2; omega
      case c1 => omega
      intro v3 w3 o3 g3 l3
      obtain ⟨a3, cp3, hv3⟩ := o3.seg.shape
      subst hv3
      have hb3 : Blk w3 b 63 (rC S.step (.slice ao S.log.length cap) v0 v1) := HS2.out.1.blk.grown g3 (HS2.out.1.log.other HS2.out.1.blk (by decide))
      have q1 := hb3.cell 1
      have f1 := hb3.free 1
      simp [rC] at q1
      have HF : Hid (RAft w F (w3.setCell ⟨b, 1, none⟩ (.slice a3 (S.log ++ M).length cp3)) (.pointer (some ⟨b, 0, none⟩)) { S.step with log := S.log ++ M }) := by
        have hk := HS2.out.1
        have g4 := grown_setCell w3 b 1 (.slice a3 (S.log ++ M).length cp3)
        have q : ∀ {u L}, Own w2 0 u L → (∀ k, (Value.slice ao S.log.length cap).ownBlock = some k → u.ownBlock ≠ some k) → Own w3 0 u L := fun {u L} ho ha => by
          refine World.ownsRow.kept ho g3 ?_
          cases hx : u.ownBlock with
          | none => exact .inl rfl
          | some k => exact .inr (fun e => ha k e.symm hx)
        have q' : ∀ {u L}, Own w3 0 u L → Own (w3.setCell ⟨b, 1, none⟩ (.slice a3 (S.log ++ M).length cp3)) 0 u L := fun {u L} ho => World.ownsRow.kept ho g4 (.inr (ho.other hb3 (by decide)))
        have hlt : ∀ k, (Value.slice a3 (S.log ++ M).length cp3).ownBlock = some k → F k ∨ w2.heap.size ≤ k := fun k hk2 => by
          rcases l3 k hk2 with h5 | h5
          · exact .inl (hk.inl k h5)
          · exact .inr h5
        have hap : ∀ {u : Value}, In F u → (∀ k, (Value.slice ao S.log.length cap).ownBlock = some k → u.ownBlock ≠ some k) → ∀ k, (Value.slice a3 (S.log ++ M).length cp3).ownBlock = some k → u.ownBlock ≠ some k := fun {u} hin ha k hk2 e => by
          rcases l3 k hk2 with h5 | h5
          · exact ha k h5 e
          · have := hk.lt k (hin k e); omega
        refine ⟨fun k => F k ∨ (Value.slice a3 (S.log ++ M).length cp3).ownBlock = some k, ⟨b, _, v0, v1, rfl, ⟨hb3.store 1 _, q' o3, q' (q hk.p0 hk.a0), q' (q hk.p1 hk.a1), hap hk.in0 hk.a0, hap hk.in1 hk.a1, .inl hk.inb, fun k h => .inr h, fun k h => .inl (hk.in0 k h), fun k h => .inl (hk.in1 k h), ?_, HOK.out⟩⟩, ?_⟩
        · intro k h
          have hs3 := g3.size
          have hs4 := g4.size
          rcases h with h | h
          · have := hk.lt k h; omega
          · have := (o3.lt k h).2; omega
        · refine HS2.out.2.1.trans ⟨Fr.trans (Fr.of g3 (fun k h => hk.inl k h)) (Fr.of (F := F) g4 (fun k h => by simp at h; subst h; exact hk.inb)) (fun k h => .inl h), fun k h => ?_⟩
          rcases h with h | h
          · exact .inl h
          · exact hlt k h
      clear o3 g3 l3 hb3
      rw [List.length_append] at HF
      go_wp2_with fail
      go_ret
      rw [e1.out, e2.out]
      exact ⟨rfl, HF.out⟩
    · have hb1 : 0 < M.length := by omega
      have hb0 : decide (0 < M.length) = true := decide_eq_true (by omega)
      have hb : ¬ (S.cap : Int) - (S.log.length : Int) < (M.length : Int) := by omega
      go_enter Try.func34, Try.ntmps34
      go_wp2_with fail
      generalize w.setCell ⟨b, 8, none⟩ (.int .i64 ((S.steps : Int) + 1)) = w1 at HS k0 k1 ⊢
      go_quiet (fail)
      generalize hw2 : w1.drewN _ = w2
      have HS2 : Hid (RKb w2 F b (.slice ao S.log.length cap) v0 v1 S.step ∧ Aft w F w2 F ∧ Seg w2 (.slice au M.length cu) M) := by
        rw [← hw2]
        exact ⟨HS.out.1.grown (grown_drewN _ _ none), HS.out.2.1.trans (aft_grown (grown_drewN _ _ none)), HS.out.2.2.grown (grown_drewN _ _ none)⟩
      clear hw2 HS k0 k1
      have k1 := HS2.out.1.cells.2.1
      go_wp2_with (at_builtin; refine app22 _ rfl _ _ rfl 0 _ S.log _ M rfl rfl HS2.out.1.log HS2.out.2.2 ?c0 ?c1 ?_)
      case c0 => have := HO.out.log; have := HO.out.cap2; omega
      case c1 => omega
      intro v3 w3 o3 g3 l3
      obtain ⟨a3, cp3, hv3⟩ := o3.seg.shape
      subst hv3
      have hb3 : Blk w3 b 63 (rC S.step (.slice ao S.log.length cap) v0 v1) := HS2.out.1.blk.grown g3 (HS2.out.1.log.other HS2.out.1.blk (by decide))
      have q1 := hb3.cell 1
      have f1 := hb3.free 1
      simp [rC] at q1
      have HF : Hid (RAft w F (w3.setCell ⟨b, 1, none⟩ (.slice a3 (S.log ++ M).length cp3)) (.pointer (some ⟨b, 0, none⟩)) { S.step with log := S.log ++ M }) := by
        have hk := HS2.out.1
        have g4 := grown_setCell w3 b 1 (.slice a3 (S.log ++ M).length cp3)
        have q : ∀ {u L}, Own w2 0 u L → (∀ k, (Value.slice ao S.log.length cap).ownBlock = some k → u.ownBlock ≠ some k) → Own w3 0 u L := fun {u L} ho ha => by
          refine World.ownsRow.kept ho g3 ?_
          cases hx : u.ownBlock with
          | none => exact .inl rfl
          | some k => exact .inr (fun e => ha k e.symm hx)
        have q' : ∀ {u L}, Own w3 0 u L → Own (w3.setCell ⟨b, 1, none⟩ (.slice a3 (S.log ++ M).length cp3)) 0 u L := fun {u L} ho => World.ownsRow.kept ho g4 (.inr (ho.other hb3 (by decide)))
        have hlt : ∀ k, (Value.slice a3 (S.log ++ M).length cp3).ownBlock = some k → F k ∨ w2.heap.size ≤ k := fun k hk2 => by
          rcases l3 k hk2 with h5 | h5
          · exact .inl (hk.inl k h5)
          · exact .inr h5
        have hap : ∀ {u : Value}, In F u → (∀ k, (Value.slice ao S.log.length cap).ownBlock = some k → u.ownBlock ≠ some k) → ∀ k, (Value.slice a3 (S.log ++ M).length cp3).ownBlock = some k → u.ownBlock ≠ some k := fun {u} hin ha k hk2 e => by
          rcases l3 k hk2 with h5 | h5
          · exact ha k h5 e
          · have := hk.lt k (hin k e); omega
        refine ⟨fun k => F k ∨ (Value.slice a3 (S.log ++ M).length cp3).ownBlock = some k, ⟨b, _, v0, v1, rfl, ⟨hb3.store 1 _, q' o3, q' (q hk.p0 hk.a0), q' (q hk.p1 hk.a1), hap hk.in0 hk.a0, hap hk.in1 hk.a1, .inl hk.inb, fun k h => .inr h, fun k h => .inl (hk.in0 k h), fun k h => .inl (hk.in1 k h), ?_, HOK.out⟩⟩, ?_⟩
        · intro k h
          have hs3 := g3.size
          have hs4 := g4.size
          rcases h with h | h
          · have := hk.lt k h; omega
          · have := (o3.lt k h).2; omega
        · refine HS2.out.2.1.trans ⟨Fr.trans (Fr.of g3 (fun k h => hk.inl k h)) (Fr.of (F := F) g4 (fun k h => by simp at h; subst h; exact hk.inb)) (fun k h => .inl h), fun k h => ?_⟩
          rcases h with h | h
          · exact .inl h
          · exact hlt k h
      clear o3 g3 l3 hb3
      rw [List.length_append] at HF
      go_wp2_with fail
      go_ret
      rw [e1.out, e2.out]
      exact ⟨rfl, HF.out⟩

set_option maxRecDepth 100000 in
set_option maxHeartbeats 400000 in
theorem ref37 (F : Nat → Prop) (v : Value) (S : St) (n : Int) (w : World) (h : RK w F v S) (hm : S.steps < 9223372036854775807) :
    Calls Try.prog 37 #[v, .int .i64 n] w fun e w' => e = .returned (.int .i64 (S.trimCode n)) ∧ RAft w F w' v (S.trim n) := by
  obtain ⟨b, lv, v0, v1, rfl, h⟩ := h
  obtain ⟨c0, c1, c2, c3, c4, c5, c6, c7, c8⟩ := h.cells
  have hf := h.blk.free 8
  have h1 := h.stepped
  obtain ⟨ao, cap, hsv⟩ := h.log.seg.shape
  subst hsv
  have HS : Hid (RKb (w.setCell ⟨b, 8, none⟩ (.int .i64 ((S.steps + 1 : Nat) : Int))) F b (.slice ao S.log.length cap) v0 v1 S.step ∧ Aft w F (w.setCell ⟨b, 8, none⟩ (.int .i64 ((S.steps + 1 : Nat) : Int))) F) := ⟨h1, aft_set h.inb _ _⟩
  have HO : Hid S.Ok := h.ok
  have hl := h.ok.log
  have hsl := h.ok.sure
  have hcp : S.log.length ≤ cap ∧ cap ≤ 9223372036854775807 := by
    obtain ⟨ao', cap', hv, q1, q2, _⟩ := h.log.seg
    simp at hv; unfold maxLen at q2; omega
  obtain ⟨hcp1, hcp2⟩ := hcp
  rw [show ((S.steps + 1 : Nat) : Int) = (S.steps : Int) + 1 by omega] at HS
  have k1 := HS.out.1.cells.2.1
  have k2 : (w.setCell ⟨b, 8, none⟩ (.int .i64 ((S.steps : Int) + 1))).cell? ⟨b, 2, none⟩ = some (.int .i64 S.sure) := HS.out.1.cells.2.2.1
  clear h h1 c0 c1 c2 c3 c4 c5 c6 c7
  cases hbad : S.trimBad n with
  | true =>
    have q : n < 0 ∨ (S.log.length : Int) < n := by simpa [St.trimBad] using hbad
    have e1 : Hid (S.trim n = S.step) := by unfold Hid St.trim; rw [hbad]; rfl
    have e2 : Hid (S.trimCode n = 2) := by unfold Hid St.trimCode; rw [hbad]; rfl
    clear hbad
    by_cases hneg : n < 0
    · clear q
      go_enter Try.func37, Try.ntmps37
      go_wp2_with fail
      go_ret
      rw [e1.out, e2.out]
      exact ⟨rfl, F, ⟨b, _, v0, v1, rfl, HS.out.1⟩, HS.out.2⟩
    · have q2 : (S.log.length : Int) < n := by omega
      clear q
      go_enter Try.func37, Try.ntmps37
      go_wp2_with fail
      go_ret
      rw [e1.out, e2.out]
      exact ⟨rfl, F, ⟨b, _, v0, v1, rfl, HS.out.1⟩, HS.out.2⟩
  | false =>
    have q : ¬ (n < 0 ∨ (S.log.length : Int) < n) := by simpa [St.trimBad] using hbad
    obtain ⟨m, rfl⟩ : ∃ m : Nat, n = m := ⟨n.toNat, by omega⟩
    have hm1 : m ≤ S.log.length := by omega
    have hm2 : m ≤ S.log.length := by omega
    have HOK : Hid (S.trim m).Ok := St.trim_ok HO.out
    have e1 : Hid (S.trim (m : Int) = { S.step with log := S.log.take m, sure := m }) := by unfold Hid St.trim; rw [hbad]; rfl
    have e2 : Hid (S.trimCode (m : Int) = 0) := by unfold Hid St.trimCode; rw [hbad]; rfl
    rw [e1.out] at HOK
    clear hbad q
    have i1 : (m : Int) ≤ (S.log.length : Int) := by omega
    have i2 : (m : Int) ≤ (cap : Int) := by omega
    go_enter Try.func37, Try.ntmps37
    go_wp2_with fail
    generalize w.setCell ⟨b, 8, none⟩ (.int .i64 ((S.steps : Int) + 1)) = w1 at HS k1 k2 ⊢
    refine (copy27 _ (S.log.take m) _ (seg_take m hm2 HS.out.1.log.seg) (by simp; omega)).mono ?_
    rintro e w3 ⟨u3, rfl, o, g⟩
    obtain ⟨a3, c3, e3⟩ := o.seg.shape
    subst e3
    have hb := HS.out.1.blk.grown g (by simp)
    have q1 := hb.cell 1
    have q2 := hb.cell 2
    have f1 := hb.free 1
    have f2 := hb.free 2
    simp [rC] at q1 q2
    have HF : Hid (RAft w F ((w3.setCell ⟨b, 1, none⟩ (.slice a3 (S.log.take m).length c3)).setCell ⟨b, 2, none⟩ (.int .i64 (m : Int))) (.pointer (some ⟨b, 0, none⟩)) { S.step with log := S.log.take m, sure := m }) := RAft.after (RKb.held (S' := { S.step with log := S.log.take m, sure := m }) HS.out.1 g o rfl HOK.out) HS.out.2
    rw [List.length_take, Nat.min_eq_left hm2] at HF
    clear o g hb
    go_wp2_with fail
    go_ret
    rw [e1.out, e2.out]
    exact ⟨rfl, HF.out⟩

set_option maxRecDepth 100000 in
set_option maxHeartbeats 400000 in
theorem ref38 (F : Nat → Prop) (v : Value) (S : St) (n : Int) (w : World) (h : RK w F v S) (hm : S.steps < 9223372036854775807) :
    Calls Try.prog 38 #[v, .int .i64 n] w fun e w' => e = .returned (.int .i64 (S.dropCode n)) ∧ RAft w F w' v (S.drop n) := by
  obtain ⟨b, lv, v0, v1, rfl, h⟩ := h
  obtain ⟨c0, c1, c2, c3, c4, c5, c6, c7, c8⟩ := h.cells
  have hf := h.blk.free 8
  have h1 := h.stepped
  obtain ⟨ao, cap, hsv⟩ := h.log.seg.shape
  subst hsv
  have HS : Hid (RKb (w.setCell ⟨b, 8, none⟩ (.int .i64 ((S.steps + 1 : Nat) : Int))) F b (.slice ao S.log.length cap) v0 v1 S.step ∧ Aft w F (w.setCell ⟨b, 8, none⟩ (.int .i64 ((S.steps + 1 : Nat) : Int))) F) := ⟨h1, aft_set h.inb _ _⟩
  have HO : Hid S.Ok := h.ok
  have hl := h.ok.log
  have hsl := h.ok.sure
  have hcp : S.log.length ≤ cap ∧ cap ≤ 9223372036854775807 := by
    obtain ⟨ao', cap', hv, q1, q2, _⟩ := h.log.seg
    simp at hv; unfold maxLen at q2; omega
  obtain ⟨hcp1, hcp2⟩ := hcp
  rw [show ((S.steps + 1 : Nat) : Int) = (S.steps : Int) + 1 by omega] at HS
  have k1 := HS.out.1.cells.2.1
  have k2 : (w.setCell ⟨b, 8, none⟩ (.int .i64 ((S.steps : Int) + 1))).cell? ⟨b, 2, none⟩ = some (.int .i64 S.sure) := HS.out.1.cells.2.2.1
  clear h h1 c0 c1 c2 c3 c4 c5 c6 c7
  cases hbad : S.dropBad n with
  | true =>
    have q : n < 0 ∨ (S.sure : Int) < n := by simpa [St.dropBad] using hbad
    have e1 : Hid (S.drop n = S.step) := by unfold Hid St.drop; rw [hbad]; rfl
    have e2 : Hid (S.dropCode n = 2) := by unfold Hid St.dropCode; rw [hbad]; rfl
    clear hbad
    by_cases hneg : n < 0
    · clear q
      go_enter Try.func38, Try.ntmps38
      go_wp2_with fail
      go_ret
      rw [e1.out, e2.out]
      exact ⟨rfl, F, ⟨b, _, v0, v1, rfl, HS.out.1⟩, HS.out.2⟩
    · have q2 : (S.sure : Int) < n := by omega
      clear q
      go_enter Try.func38, Try.ntmps38
      go_wp2_with fail
      go_ret
      rw [e1.out, e2.out]
      exact ⟨rfl, F, ⟨b, _, v0, v1, rfl, HS.out.1⟩, HS.out.2⟩
  | false =>
    have q : ¬ (n < 0 ∨ (S.sure : Int) < n) := by simpa [St.dropBad] using hbad
    obtain ⟨m, rfl⟩ : ∃ m : Nat, n = m := ⟨n.toNat, by omega⟩
    have hm1 : m ≤ S.sure := by omega
    have hm2 : m ≤ S.log.length := by omega
    have HOK : Hid (S.drop m).Ok := St.drop_ok HO.out
    have e1 : Hid (S.drop (m : Int) = { S.step with log := S.log.drop m, sure := S.sure - m }) := by unfold Hid St.drop; rw [hbad]; rfl
    have e2 : Hid (S.dropCode (m : Int) = 0) := by unfold Hid St.dropCode; rw [hbad]; rfl
    rw [e1.out] at HOK
    clear hbad q
    have i1 : (m : Int) ≤ (S.log.length : Int) := by omega
    have i2 : (m : Int) ≤ (cap : Int) := by omega
    have i3 : (m : Int) ≤ (S.sure : Int) := by omega
    have hsub : Hid ((S.sure : Int) - (m : Int) = ((S.sure - m : Nat) : Int)) := by unfold Hid; omega
    go_enter Try.func38, Try.ntmps38
    go_wp2_with fail
    all_goals
      generalize w.setCell ⟨b, 8, none⟩ (.int .i64 ((S.steps : Int) + 1)) = w1 at HS k1 k2 ⊢
      refine (copy27 _ (S.log.drop m) _ (by first | exact seg_drop_all m hm2 ‹cap = m› HS.out.1.log.seg | exact seg_drop m hm2 HS.out.1.log.seg) (by simp; omega)).mono ?_
      rintro e w3 ⟨u3, rfl, o, g⟩
      obtain ⟨a3, c3, e3⟩ := o.seg.shape
      subst e3
      have hb := HS.out.1.blk.grown g (by simp)
      have q1 := hb.cell 1
      have q2 : w3.cell? ⟨b, 2, none⟩ = some (.int .i64 S.sure) := hb.cell 2
      have f1 := hb.free 1
      have f2 := hb.free 2
      simp [rC] at q1
      have HF : Hid (RAft w F ((w3.setCell ⟨b, 1, none⟩ (.slice a3 (S.log.drop m).length c3)).setCell ⟨b, 2, none⟩ (.int .i64 ((S.sure - m : Nat) : Int))) (.pointer (some ⟨b, 0, none⟩)) { S.step with log := S.log.drop m, sure := S.sure - m }) := RAft.after (RKb.held (S' := { S.step with log := S.log.drop m, sure := S.sure - m }) HS.out.1 g o rfl HOK.out) HS.out.2
      rw [List.length_drop, ← hsub.out] at HF
      clear o g hb
      go_wp2_with fail
      go_ret
      rw [e1.out, e2.out]
      exact ⟨rfl, HF.out⟩
end Go.Proofs.Ytegacmcekladfaa
