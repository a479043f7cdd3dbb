/-
  The program's disk: Trim, Drop, Put, Switch.
-/
import Derived.Test.YtegacmcekladfaaG
namespace Go.Proofs.Ytegacmcekladfaa
open Go.RowKit

def St.trimBad (S : St) (n : Int) : Bool := decide (n < 0 ∨ (S.log.length : Int) < n)
def St.trim (S : St) (n : Int) : St := if S.trimBad n then S.step else { S.step with log := S.log.take n.toNat, sure := n.toNat }
def St.trimCode (S : St) (n : Int) : Int := if S.trimBad n then 2 else 0
def St.dropBad (S : St) (n : Int) : Bool := decide (n < 0 ∨ (S.sure : Int) < n)
def St.drop (S : St) (n : Int) : St := if S.dropBad n then S.step else { S.step with log := S.log.drop n.toNat, sure := S.sure - n.toNat }
def St.dropCode (S : St) (n : Int) : Int := if S.dropBad n then 2 else 0

theorem St.trim_ok {S : St} {n : Int} (h : S.Ok) : (S.trim n).Ok := by
  unfold St.trim
  cases hf : S.trimBad n with
  | true => exact h.step
  | false =>
    have h1 : ¬ (n < 0 ∨ (S.log.length : Int) < n) := by simpa [St.trimBad] using hf
    have h3 := h.log
    refine ⟨h.cap1, h.cap2, ?_, ?_, h.l0, h.l1, h.last, h.first, h.e0, h.e1⟩
    · simp; omega
    · simp; omega
theorem St.drop_ok {S : St} {n : Int} (h : S.Ok) : (S.drop n).Ok := by
  unfold St.drop
  cases hf : S.dropBad n with
  | true => exact h.step
  | false =>
    have h1 : ¬ (n < 0 ∨ (S.sure : Int) < n) := by simpa [St.dropBad] using hf
    have h3 := h.log
    have h4 := h.sure
    refine ⟨h.cap1, h.cap2, ?_, ?_, h.l0, h.l1, h.last, h.first, h.e0, h.e1⟩
    · simp; omega
    · simp; omega

/-- Behind hold. -/
theorem DKb.held {w w1 : World} {F : Nat → Prop} {b : Nat} {lv v0 v1 v' : Value} {S S' : St} {n : Nat} (h : DKb w F b lv v0 v1 S) (g : w.grownBy w1 none) (o : Own w1 w.heap.size v' S'.log) (hS : S' = { S with log := S'.log, sure := n }) (ok : S'.Ok) :
    DAft w F ((w1.setCell ⟨b, 1, none⟩ v').setCell ⟨b, 2, none⟩ (.int .i64 (n : Int))) (.pointer (some ⟨b, 0, none⟩)) S' := by
  have h1 := h.grown g
  have g2 : w1.grownBy ((w1.setCell ⟨b, 1, none⟩ v').setCell ⟨b, 2, none⟩ (.int .i64 (n : Int))) (some b) := grown_trans (grown_setCell _ _ _ _) (grown_setCell _ _ _ _)
  have hb : Blk ((w1.setCell ⟨b, 1, none⟩ v').setCell ⟨b, 2, none⟩ (.int .i64 (n : Int))) b 54 (dC S' v' v0 v1) := by
    rw [hS]
    exact (h1.blk.store 1 _).store 2 _
  have hn : ∀ k, v'.ownBlock = some k → ¬ F k := fun k hk hF => by
    have := (o.lt k hk).1
    have := h.lt k hF
    omega
  refine ⟨fun k => F k ∨ v'.ownBlock = some k, ⟨b, v', v0, v1, rfl, h1.relog (o.mono (Nat.zero_le _)) (fun k hk => .inr (hn k hk)) g2 hb (by rw [hS]) (by rw [hS]) ok⟩, ⟨Fr.trans (Fr.of (F := F) g (by simp)) (Fr.of (F := F) g2 (fun k hk => by simp at hk; subst hk; exact h.inb)) (fun k hk => .inl hk), fun k hk => ?_⟩⟩
  rcases hk with hk | hk
  · exact .inl hk
  · exact .inr (o.lt k hk).1

theorem DAft.after {w w1 w' : World} {F : Nat → Prop} {v : Value} {S : St} (h : DAft w1 F w' v S) (ha : Aft w F w1 F) : DAft w F w' v S := by
  obtain ⟨F', h1, h2⟩ := h
  exact ⟨F', h1, ha.trans h2⟩

set_option maxRecDepth 100000 in
set_option maxHeartbeats 400000 in
theorem trim20 (F : Nat → Prop) (v : Value) (S : St) (n : Int) (w : World) (h : DK w F v S) (hm : S.steps < 9223372036854775807) :
    Calls Try.prog 20 #[v, .int .i64 n] w fun e w' => e = .returned (.int .i64 (S.trimCode n)) ∧ DAft w F w' v (S.trim n) := by
  obtain ⟨b, lv, v0, v1, rfl, h⟩ := h
  obtain ⟨c0, c1, c2, c3, c4, c5, c6, c7, c8⟩ := h.cells
  have hf := h.blk.free 8
  have h1 := h.stepped
  have hl := h.ok.log
  obtain ⟨ao, cap, hsv⟩ := h.log.seg.shape
  subst hsv
  have hcp : S.log.length ≤ cap ∧ cap ≤ 9223372036854775807 := by
    obtain ⟨ao', cap', hv, q1, q2, _⟩ := h.log.seg
    simp at hv; unfold maxLen at q2; omega
  obtain ⟨hcp1, hcp2⟩ := hcp
  have HS : Hid (DKb (w.setCell ⟨b, 8, none⟩ (.int .i64 ((S.steps + 1 : Nat) : Int))) F b (.slice ao S.log.length cap) v0 v1 S.step ∧ Aft w F (w.setCell ⟨b, 8, none⟩ (.int .i64 ((S.steps + 1 : Nat) : Int))) F) := ⟨h1, aft_set h.inb _ _⟩
  have HO : Hid S.Ok := h.ok
  have hc1 := h.ok.cap1
  clear h h1 c2 c3 c4 c5 c6 c7
  cases hbad : S.trimBad n with
  | true =>
    have q : n < 0 ∨ (S.log.length : Int) < n := by simpa [St.trimBad] using hbad
    have e1 : Hid (S.trim n = S.step) := by unfold Hid St.trim; rw [hbad]; rfl
    have e2 : Hid (S.trimCode n = 2) := by unfold Hid St.trimCode; rw [hbad]; rfl
    clear hbad
    by_cases hneg : n < 0
    · clear q
      go_enter Try.func20, Try.ntmps20
      go_wp2_with fail
      refine (step46 _ _ _ _ c0 hc1 c8 hf hm).mono ?_
      rintro e w1 ⟨rfl, he⟩
      rw [← he] at HS
      clear he c0 c1 c8 hf hm
      have k1 := HS.out.1.cells.2.1
      go_wp2_with fail
      go_ret
      rw [e1.out, e2.out]
      exact ⟨rfl, F, ⟨b, _, v0, v1, rfl, HS.out.1⟩, HS.out.2⟩
    · have q2 : (S.log.length : Int) < n := by omega
      clear q
      go_enter Try.func20, Try.ntmps20
      go_wp2_with fail
      refine (step46 _ _ _ _ c0 hc1 c8 hf hm).mono ?_
      rintro e w1 ⟨rfl, he⟩
      rw [← he] at HS
      clear he c0 c1 c8 hf hm
      have k1 := HS.out.1.cells.2.1
      go_wp2_with fail
      go_ret
      rw [e1.out, e2.out]
      exact ⟨rfl, F, ⟨b, _, v0, v1, rfl, HS.out.1⟩, HS.out.2⟩
  | false =>
    have q : ¬ (n < 0 ∨ (S.log.length : Int) < n) := by simpa [St.trimBad] using hbad
    obtain ⟨m, rfl⟩ : ∃ m : Nat, n = m := ⟨n.toNat, by omega⟩
    have hm1 : m ≤ S.log.length := by omega
    have e1 : Hid (S.trim (m : Int) = { S.step with log := S.log.take m, sure := m }) := by unfold Hid St.trim; rw [hbad]; rfl
    have e2 : Hid (S.trimCode (m : Int) = 0) := by unfold Hid St.trimCode; rw [hbad]; rfl
    have HOK : Hid (S.trim m).Ok := St.trim_ok HO.out
    rw [e1.out] at HOK
    clear hbad q
    have i1 : (m : Int) ≤ (S.log.length : Int) := by omega
    have i2 : (m : Int) ≤ (cap : Int) := by omega
    go_enter Try.func20, Try.ntmps20
    go_wp2_with fail
    refine (step46 _ _ _ _ c0 hc1 c8 hf hm).mono ?_
    rintro e w1 ⟨rfl, he⟩
    rw [← he] at HS
    clear he c0 c1 c8 hf hm
    have k1 := HS.out.1.cells.2.1
    go_wp2_with fail
    refine (hold48 b _ _ (S.log.take m) m _ HS.out.1.blk rfl (seg_take m hm1 HS.out.1.log.seg) (by simp; omega)).mono ?_
    rintro e w2 ⟨rfl, v', w3, o, g, he⟩
    have HF : Hid (DAft w F w2 (.pointer (some ⟨b, 0, none⟩)) { S.step with log := S.log.take m, sure := m }) := by
      rw [he]
      exact DAft.after (DKb.held (S' := { S.step with log := S.log.take m, sure := m }) HS.out.1 g o rfl HOK.out) HS.out.2
    clear he o g
    go_wp2_with fail
    go_ret
    rw [e1.out, e2.out]
    exact ⟨rfl, HF.out⟩

set_option maxRecDepth 100000 in
set_option maxHeartbeats 400000 in
theorem drop21 (F : Nat → Prop) (v : Value) (S : St) (n : Int) (w : World) (h : DK w F v S) (hm : S.steps < 9223372036854775807) :
    Calls Try.prog 21 #[v, .int .i64 n] w fun e w' => e = .returned (.int .i64 (S.dropCode n)) ∧ DAft w F w' v (S.drop n) := by
  obtain ⟨b, lv, v0, v1, rfl, h⟩ := h
  obtain ⟨c0, c1, c2, c3, c4, c5, c6, c7, c8⟩ := h.cells
  have hf := h.blk.free 8
  have h1 := h.stepped
  have hl := h.ok.log
  have hsl := h.ok.sure
  obtain ⟨ao, cap, hsv⟩ := h.log.seg.shape
  subst hsv
  have hcp : S.log.length ≤ cap ∧ cap ≤ 9223372036854775807 := by
    obtain ⟨ao', cap', hv, q1, q2, _⟩ := h.log.seg
    simp at hv; unfold maxLen at q2; omega
  obtain ⟨hcp1, hcp2⟩ := hcp
  have HS : Hid (DKb (w.setCell ⟨b, 8, none⟩ (.int .i64 ((S.steps + 1 : Nat) : Int))) F b (.slice ao S.log.length cap) v0 v1 S.step ∧ Aft w F (w.setCell ⟨b, 8, none⟩ (.int .i64 ((S.steps + 1 : Nat) : Int))) F) := ⟨h1, aft_set h.inb _ _⟩
  have HO : Hid S.Ok := h.ok
  have hc1 := h.ok.cap1
  clear h h1 c2 c3 c4 c5 c6 c7
  cases hbad : S.dropBad n with
  | true =>
    have q : n < 0 ∨ (S.sure : Int) < n := by simpa [St.dropBad] using hbad
    have e1 : Hid (S.drop n = S.step) := by unfold Hid St.drop; rw [hbad]; rfl
    have e2 : Hid (S.dropCode n = 2) := by unfold Hid St.dropCode; rw [hbad]; rfl
    clear hbad
    by_cases hneg : n < 0
    · clear q
      go_enter Try.func21, Try.ntmps21
      go_wp2_with fail
      refine (step46 _ _ _ _ c0 hc1 c8 hf hm).mono ?_
      rintro e w1 ⟨rfl, he⟩
      rw [← he] at HS
      clear he c0 c1 c8 hf hm
      have k2 := HS.out.1.cells.2.2.1
      go_wp2_with fail
      go_ret
      rw [e1.out, e2.out]
      exact ⟨rfl, F, ⟨b, _, v0, v1, rfl, HS.out.1⟩, HS.out.2⟩
    · have q2 : (S.sure : Int) < n := by omega
      clear q
      go_enter Try.func21, Try.ntmps21
      go_wp2_with fail
      refine (step46 _ _ _ _ c0 hc1 c8 hf hm).mono ?_
      rintro e w1 ⟨rfl, he⟩
      rw [← he] at HS
      clear he c0 c1 c8 hf hm
      have k2 : w1.cell? ⟨b, 2, none⟩ = some (.int .i64 S.sure) := HS.out.1.cells.2.2.1
      go_wp2_with fail
      go_ret
      rw [e1.out, e2.out]
      exact ⟨rfl, F, ⟨b, _, v0, v1, rfl, HS.out.1⟩, HS.out.2⟩
  | false =>
    have q : ¬ (n < 0 ∨ (S.sure : Int) < n) := by simpa [St.dropBad] using hbad
    obtain ⟨m, rfl⟩ : ∃ m : Nat, n = m := ⟨n.toNat, by omega⟩
    have hm1 : m ≤ S.sure := by omega
    have hm2 : m ≤ S.log.length := by omega
    have e1 : Hid (S.drop (m : Int) = { S.step with log := S.log.drop m, sure := S.sure - m }) := by unfold Hid St.drop; rw [hbad]; rfl
    have e2 : Hid (S.dropCode (m : Int) = 0) := by unfold Hid St.dropCode; rw [hbad]; rfl
    have HOK : Hid (S.drop m).Ok := St.drop_ok HO.out
    rw [e1.out] at HOK
    clear hbad q
    have i1 : (m : Int) ≤ (S.log.length : Int) := by omega
    have i2 : (m : Int) ≤ (cap : Int) := by omega
    have i3 : (m : Int) ≤ (S.sure : Int) := by omega
    go_enter Try.func21, Try.ntmps21
    go_wp2_with fail
    refine (step46 _ _ _ _ c0 hc1 c8 hf hm).mono ?_
    rintro e w1 ⟨rfl, he⟩
    rw [← he] at HS
    clear he c0 c1 c8 hf hm
    have k2 : w1.cell? ⟨b, 2, none⟩ = some (.int .i64 S.sure) := HS.out.1.cells.2.2.1
    have k1 := HS.out.1.cells.2.1
    go_wp2_with fail
    have HC : Hid (∀ x : World, w1.grownBy x none → x.cell? ⟨b, 1, none⟩ = some (.slice ao S.log.length cap) ∧ x.cell? ⟨b, 2, none⟩ = some (.int .i64 S.sure)) := fun x hx => ⟨hx.cell k1 (by simp), hx.cell k2 (by simp)⟩
    have hsub : IntKind.i64.wrap ((S.sure : Int) - (m : Int)) = ((S.sure - m : Nat) : Int) := by
      simp only [IntKind.wrap, IntKind.bits, IntKind.signed]; simp; omega
    by_cases hcm : cap = m
    · have HSG : Hid (Seg w1 (.slice ao (S.log.length - m) 0) (S.log.drop m)) := seg_drop_all m hm2 hcm HS.out.1.log.seg
      refine wp_region_noPanic ?_
      refine wp_region_hold 13 (fun x => w1.grownBy x none) (by kernel_rfl) ?_
      refine wpHold_take (i := 0) (v := _) (grown_drew _ _) rfl rfl (by kernel_rfl) (by kernel_rfl) (by kernel_rfl) (by kernel_rfl) (by kernel_rfl) (fun _ _ _ h => h) (by rfl) (fun wk hk => by obtain ⟨k0, k1⟩ := HC.out wk hk; go_simp; try rfl) ?_
      try simp only [Act.put, List.setIfInBounds_toArray, List.set_cons_zero, List.set_cons_succ]
      refine wpHold_take (i := 1) (v := _) (grown_drew _ _) rfl rfl (by kernel_rfl) (by kernel_rfl) (by kernel_rfl) (by kernel_rfl) (by kernel_rfl) (fun _ _ _ h => h) (by rfl) (fun wk hk => by obtain ⟨k0, k1⟩ := HC.out wk hk; go_simp; try rfl) ?_
      try simp only [Act.put, List.setIfInBounds_toArray, List.set_cons_zero, List.set_cons_succ]
      refine wpHold_take (i := 2) (v := _) (grown_drew _ _) rfl rfl (by kernel_rfl) (by kernel_rfl) (by kernel_rfl) (by kernel_rfl) (by kernel_rfl) (fun _ _ _ h => h) (by rfl) (fun wk hk => by obtain ⟨k0, k1⟩ := HC.out wk hk; go_simp; try rfl) ?_
      try simp only [Act.put, List.setIfInBounds_toArray, List.set_cons_zero, List.set_cons_succ]
      refine wpHold_take (i := 3) (v := _) (grown_drew _ _) rfl rfl (by kernel_rfl) (by kernel_rfl) (by kernel_rfl) (by kernel_rfl) (by kernel_rfl) (fun _ _ _ h => h) (by rfl) (fun wk hk => by obtain ⟨k0, k1⟩ := HC.out wk hk; go_simp; try rfl) ?_
      try simp only [Act.put, List.setIfInBounds_toArray, List.set_cons_zero, List.set_cons_succ]
      refine wpHold_take (i := 4) (v := _) (grown_drew _ _) rfl rfl (by kernel_rfl) (by kernel_rfl) (by kernel_rfl) (by kernel_rfl) (by kernel_rfl) (fun _ _ _ h => h) (by rfl) (fun wk hk => by obtain ⟨k0, k1⟩ := HC.out wk hk; go_simp; try rfl) ?_
      try simp only [Act.put, List.setIfInBounds_toArray, List.set_cons_zero, List.set_cons_succ]
      refine wpHold_take (i := 5) (v := _) (grown_drew _ _) rfl rfl (by kernel_rfl) (by kernel_rfl) (by kernel_rfl) (by kernel_rfl) (by kernel_rfl) (fun _ _ _ h => h) (by rfl) (fun wk hk => by obtain ⟨k0, k1⟩ := HC.out wk hk; go_simp; try rfl) ?_
      try simp only [Act.put, List.setIfInBounds_toArray, List.set_cons_zero, List.set_cons_succ]
      refine wpHold_take (i := 6) (v := _) (grown_drew _ _) rfl rfl (by kernel_rfl) (by kernel_rfl) (by kernel_rfl) (by kernel_rfl) (by kernel_rfl) (fun _ _ _ h => h) (by rfl) (fun wk hk => by obtain ⟨k0, k1⟩ := HC.out wk hk; go_simp; try rfl) ?_
      try simp only [Act.put, List.setIfInBounds_toArray, List.set_cons_zero, List.set_cons_succ]
      refine wpHold_take (i := 7) (v := _) (grown_drew _ _) rfl rfl (by kernel_rfl) (by kernel_rfl) (by kernel_rfl) (by kernel_rfl) (by kernel_rfl) (fun _ _ _ h => h) (by rfl) (fun wk hk => by obtain ⟨k0, k1⟩ := HC.out wk hk; go_simp; try rfl) ?_
      try simp only [Act.put, List.setIfInBounds_toArray, List.set_cons_zero, List.set_cons_succ]
      refine wpHold_take (i := 8) (v := _) (grown_drew _ _) rfl rfl (by kernel_rfl) (by kernel_rfl) (by kernel_rfl) (by kernel_rfl) (by kernel_rfl) (fun _ _ _ h => h) (by rfl) (fun wk hk => by obtain ⟨k0, k1⟩ := HC.out wk hk; go_simp; try rfl) ?_
      try simp only [Act.put, List.setIfInBounds_toArray, List.set_cons_zero, List.set_cons_succ]
      refine wpHold_take (i := 9) (v := _) (grown_drew _ _) rfl rfl (by kernel_rfl) (by kernel_rfl) (by kernel_rfl) (by kernel_rfl) (by kernel_rfl) (fun _ _ _ h => h) (by rfl) (fun wk hk => by obtain ⟨k0, k1⟩ := HC.out wk hk; go_simp; try rfl) ?_
      try simp only [Act.put, List.setIfInBounds_toArray, List.set_cons_zero, List.set_cons_succ]
      refine wpHold_take (i := 10) (v := _) (grown_drew _ _) rfl rfl (by kernel_rfl) (by kernel_rfl) (by kernel_rfl) (by kernel_rfl) (by kernel_rfl) (fun _ _ _ h => h) (by rfl) (fun wk hk => by obtain ⟨k0, k1⟩ := HC.out wk hk; go_simp; try rfl) ?_
      try simp only [Act.put, List.setIfInBounds_toArray, List.set_cons_zero, List.set_cons_succ]
      refine wpHold_take (i := 11) (v := _) (grown_drew _ _) rfl rfl (by kernel_rfl) (by kernel_rfl) (by kernel_rfl) (by kernel_rfl) (by kernel_rfl) (fun _ _ _ h => h) (by rfl) (fun wk hk => by obtain ⟨k0, k1⟩ := HC.out wk hk; go_simp; try rfl) ?_
      try simp only [Act.put, List.setIfInBounds_toArray, List.set_cons_zero, List.set_cons_succ]
      refine wpHold_take (i := 12) (v := _) (grown_drew _ _) rfl rfl (by kernel_rfl) (by kernel_rfl) (by kernel_rfl) (by kernel_rfl) (by kernel_rfl) (fun _ _ _ h => h) (by rfl) (fun wk hk => by obtain ⟨k0, k1⟩ := HC.out wk hk; go_simp; try rfl) ?_
      try simp only [Act.put, List.setIfInBounds_toArray, List.set_cons_zero, List.set_cons_succ]
      refine wpHold_one (i := 13) rfl (by kernel_rfl) (by rfl) (fun K hK => ?_)
      go_simp
      refine (hold48 b _ _ (S.log.drop m) ((S.sure - m : Nat) : Int) _ (HS.out.1.blk.grown (grown_drew _ none) (by simp)) rfl (Seg.grown HSG.out (grown_drew _ none)) (by simp; omega)).mono ?_
      rintro e w2 ⟨rfl, v', w3, o, g, he⟩
      have HF : Hid (DAft w F w2 (.pointer (some ⟨b, 0, none⟩)) { S.step with log := S.log.drop m, sure := S.sure - m }) := by
        rw [he]
        exact DAft.after (DKb.held (S' := { S.step with log := S.log.drop m, sure := S.sure - m }) (HS.out.1.grown (grown_drew _ none)) g o rfl HOK.out) (HS.out.2.trans (aft_grown (grown_drew _ none)))
      clear he o g
      go_wp2_with fail
      refine hK.out _ _ (fun h => absurd rfl h) ?_
      clear hK K
      try simp only [Act.put, List.setIfInBounds_toArray, List.set_cons_zero, List.set_cons_succ]
      refine wpHold_done (by kernel_rfl) ?_
      refine (‹∀ (a : Act) (w : World), Code.wp Try.prog _ _ a w → _› _ _ ?_)
      go_wp2_with fail
      go_ret
      rw [e1.out, e2.out]
      exact ⟨rfl, HF.out⟩
    · have HSG : Hid (Seg w1 (.slice (Option.map (fun x => x.add m) ao) (S.log.length - m) (cap - m)) (S.log.drop m)) := seg_drop m hm2 HS.out.1.log.seg
      refine wp_region_noPanic ?_
      refine wp_region_hold 13 (fun x => w1.grownBy x none) (by kernel_rfl) ?_
      refine wpHold_take (i := 0) (v := _) (grown_drew _ _) rfl rfl (by kernel_rfl) (by kernel_rfl) (by kernel_rfl) (by kernel_rfl) (by kernel_rfl) (fun _ _ _ h => h) (by rfl) (fun wk hk => by obtain ⟨k0, k1⟩ := HC.out wk hk; go_simp; try rfl) ?_
      try simp only [Act.put, List.setIfInBounds_toArray, List.set_cons_zero, List.set_cons_succ]
      refine wpHold_take (i := 1) (v := _) (grown_drew _ _) rfl rfl (by kernel_rfl) (by kernel_rfl) (by kernel_rfl) (by kernel_rfl) (by kernel_rfl) (fun _ _ _ h => h) (by rfl) (fun wk hk => by obtain ⟨k0, k1⟩ := HC.out wk hk; go_simp; try rfl) ?_
      try simp only [Act.put, List.setIfInBounds_toArray, List.set_cons_zero, List.set_cons_succ]
      refine wpHold_take (i := 2) (v := _) (grown_drew _ _) rfl rfl (by kernel_rfl) (by kernel_rfl) (by kernel_rfl) (by kernel_rfl) (by kernel_rfl) (fun _ _ _ h => h) (by rfl) (fun wk hk => by obtain ⟨k0, k1⟩ := HC.out wk hk; go_simp; try rfl) ?_
      try simp only [Act.put, List.setIfInBounds_toArray, List.set_cons_zero, List.set_cons_succ]
      refine wpHold_take (i := 3) (v := _) (grown_drew _ _) rfl rfl (by kernel_rfl) (by kernel_rfl) (by kernel_rfl) (by kernel_rfl) (by kernel_rfl) (fun _ _ _ h => h) (by rfl) (fun wk hk => by obtain ⟨k0, k1⟩ := HC.out wk hk; go_simp; try rfl) ?_
      try simp only [Act.put, List.setIfInBounds_toArray, List.set_cons_zero, List.set_cons_succ]
      refine wpHold_take (i := 4) (v := _) (grown_drew _ _) rfl rfl (by kernel_rfl) (by kernel_rfl) (by kernel_rfl) (by kernel_rfl) (by kernel_rfl) (fun _ _ _ h => h) (by rfl) (fun wk hk => by obtain ⟨k0, k1⟩ := HC.out wk hk; go_simp; try rfl) ?_
      try simp only [Act.put, List.setIfInBounds_toArray, List.set_cons_zero, List.set_cons_succ]
      refine wpHold_take (i := 5) (v := _) (grown_drew _ _) rfl rfl (by kernel_rfl) (by kernel_rfl) (by kernel_rfl) (by kernel_rfl) (by kernel_rfl) (fun _ _ _ h => h) (by rfl) (fun wk hk => by obtain ⟨k0, k1⟩ := HC.out wk hk; go_simp; try rfl) ?_
      try simp only [Act.put, List.setIfInBounds_toArray, List.set_cons_zero, List.set_cons_succ]
      refine wpHold_take (i := 6) (v := _) (grown_drew _ _) rfl rfl (by kernel_rfl) (by kernel_rfl) (by kernel_rfl) (by kernel_rfl) (by kernel_rfl) (fun _ _ _ h => h) (by rfl) (fun wk hk => by obtain ⟨k0, k1⟩ := HC.out wk hk; go_simp; try rfl) ?_
      try simp only [Act.put, List.setIfInBounds_toArray, List.set_cons_zero, List.set_cons_succ]
      refine wpHold_take (i := 7) (v := _) (grown_drew _ _) rfl rfl (by kernel_rfl) (by kernel_rfl) (by kernel_rfl) (by kernel_rfl) (by kernel_rfl) (fun _ _ _ h => h) (by rfl) (fun wk hk => by obtain ⟨k0, k1⟩ := HC.out wk hk; go_simp; try rfl) ?_
      try simp only [Act.put, List.setIfInBounds_toArray, List.set_cons_zero, List.set_cons_succ]
      refine wpHold_take (i := 8) (v := _) (grown_drew _ _) rfl rfl (by kernel_rfl) (by kernel_rfl) (by kernel_rfl) (by kernel_rfl) (by kernel_rfl) (fun _ _ _ h => h) (by rfl) (fun wk hk => by obtain ⟨k0, k1⟩ := HC.out wk hk; go_simp; try rfl) ?_
      try simp only [Act.put, List.setIfInBounds_toArray, List.set_cons_zero, List.set_cons_succ]
      refine wpHold_take (i := 9) (v := _) (grown_drew _ _) rfl rfl (by kernel_rfl) (by kernel_rfl) (by kernel_rfl) (by kernel_rfl) (by kernel_rfl) (fun _ _ _ h => h) (by rfl) (fun wk hk => by obtain ⟨k0, k1⟩ := HC.out wk hk; go_simp; try rfl) ?_
      try simp only [Act.put, List.setIfInBounds_toArray, List.set_cons_zero, List.set_cons_succ]
      refine wpHold_take (i := 10) (v := _) (grown_drew _ _) rfl rfl (by kernel_rfl) (by kernel_rfl) (by kernel_rfl) (by kernel_rfl) (by kernel_rfl) (fun _ _ _ h => h) (by rfl) (fun wk hk => by obtain ⟨k0, k1⟩ := HC.out wk hk; go_simp; try rfl) ?_
      try simp only [Act.put, List.setIfInBounds_toArray, List.set_cons_zero, List.set_cons_succ]
      refine wpHold_take (i := 11) (v := _) (grown_drew _ _) rfl rfl (by kernel_rfl) (by kernel_rfl) (by kernel_rfl) (by kernel_rfl) (by kernel_rfl) (fun _ _ _ h => h) (by rfl) (fun wk hk => by obtain ⟨k0, k1⟩ := HC.out wk hk; go_simp; try rfl) ?_
      try simp only [Act.put, List.setIfInBounds_toArray, List.set_cons_zero, List.set_cons_succ]
      refine wpHold_take (i := 12) (v := _) (grown_drew _ _) rfl rfl (by kernel_rfl) (by kernel_rfl) (by kernel_rfl) (by kernel_rfl) (by kernel_rfl) (fun _ _ _ h => h) (by rfl) (fun wk hk => by obtain ⟨k0, k1⟩ := HC.out wk hk; go_simp; try rfl) ?_
      try simp only [Act.put, List.setIfInBounds_toArray, List.set_cons_zero, List.set_cons_succ]
      refine wpHold_one (i := 13) rfl (by kernel_rfl) (by rfl) (fun K hK => ?_)
      go_simp
      refine (hold48 b _ _ (S.log.drop m) ((S.sure - m : Nat) : Int) _ (HS.out.1.blk.grown (grown_drew _ none) (by simp)) rfl (Seg.grown HSG.out (grown_drew _ none)) (by simp; omega)).mono ?_
      rintro e w2 ⟨rfl, v', w3, o, g, he⟩
      have HF : Hid (DAft w F w2 (.pointer (some ⟨b, 0, none⟩)) { S.step with log := S.log.drop m, sure := S.sure - m }) := by
        rw [he]
        exact DAft.after (DKb.held (S' := { S.step with log := S.log.drop m, sure := S.sure - m }) (HS.out.1.grown (grown_drew _ none)) g o rfl HOK.out) (HS.out.2.trans (aft_grown (grown_drew _ none)))
      clear he o g
      go_wp2_with fail
      refine hK.out _ _ (fun h => absurd rfl h) ?_
      clear hK K
      try simp only [Act.put, List.setIfInBounds_toArray, List.set_cons_zero, List.set_cons_succ]
      refine wpHold_done (by kernel_rfl) ?_
      refine (‹∀ (a : Act) (w : World), Code.wp Try.prog _ _ a w → _› _ _ ?_)
      go_wp2_with fail
      go_ret
      rw [e1.out, e2.out]
      exact ⟨rfl, HF.out⟩

def St.spareHas (S : St) : Bool := S.spare.2
def St.switch (S : St) : St := if S.spareHas then { S.step with last := 1 - S.last } else S.step
def St.switchCode (S : St) : Int := if S.spareHas then 0 else 5
theorem St.switch_ok {S : St} (h : S.Ok) : S.switch.Ok := by
  unfold St.switch
  cases hf : S.spareHas with
  | false => exact h.step
  | true =>
    refine ⟨h.cap1, h.cap2, h.log, h.sure, h.l0, h.l1, by simp, fun e => ?_, h.e0, h.e1⟩
    have hl := h.last
    have e1 : 1 - S.last = 0 := e
    have e2 : ¬ S.last = 0 := by omega
    unfold St.spareHas St.spare at hf
    rw [if_neg e2] at hf
    exact hf
def St.put (S : St) (M : List UInt8) : St := if S.last = 0 then { S.step with h1 := true, b1 := M } else { S.step with h0 := true, b0 := M }
theorem St.put_ok {S : St} {M : List UInt8} (h : S.Ok) (hM : M.length ≤ 140737488351232) : (S.put M).Ok := by
  unfold St.put
  by_cases e : S.last = 0
  · rw [if_pos e]
    exact ⟨h.cap1, h.cap2, h.log, h.sure, h.l0, hM, h.last, h.first, h.e0, fun x => by cases x⟩
  · rw [if_neg e]
    exact ⟨h.cap1, h.cap2, h.log, h.sure, hM, h.l1, h.last, fun _ => rfl, fun x => (by cases x), h.e1⟩

set_option maxRecDepth 100000 in
set_option maxHeartbeats 400000 in
theorem switch22 (F : Nat → Prop) (v : Value) (S : St) (w : World) (h : DK w F v S) (hm : S.steps < 9223372036854775807) :
    Calls Try.prog 22 #[v] w fun e w' => e = .returned (.int .i64 S.switchCode) ∧ DAft w F w' v S.switch := by
  obtain ⟨b, lv, v0, v1, rfl, h⟩ := h
  obtain ⟨c0, c1, c2, c3, c4, c5, c6, c7, c8⟩ := h.cells
  have hf := h.blk.free 8
  have h1 := h.stepped
  have HS : Hid (DKb (w.setCell ⟨b, 8, none⟩ (.int .i64 ((S.steps + 1 : Nat) : Int))) F b lv v0 v1 S.step ∧ Aft w F (w.setCell ⟨b, 8, none⟩ (.int .i64 ((S.steps + 1 : Nat) : Int))) F) := ⟨h1, aft_set h.inb _ _⟩
  have HOK : Hid S.switch.Ok := St.switch_ok h.ok
  have HO : Hid S.Ok := h.ok
  have hl := h.ok.last
  have hc1 := h.ok.cap1
  clear h h1 c1 c2 c3 c4 c5 c6 c7
  cases hh : S.spareHas with
  | false =>
    by_cases e : S.last = 0
    · have el : S.last = 0 := by omega
      have es : S.h1 = false := by unfold St.spareHas St.spare at hh; rw [if_pos e] at hh; exact hh
      have e1 : Hid (S.switch = S.step) := by unfold Hid St.switch; rw [hh]; rfl
      have e2 : Hid (S.switchCode = 5) := by unfold Hid St.switchCode; rw [hh]; rfl
      clear hh
      go_enter Try.func22, Try.ntmps22
      go_wp2_with fail
      refine (step46 _ _ _ _ c0 hc1 c8 hf hm).mono ?_
      rintro e w1 ⟨rfl, he⟩
      rw [← he] at HS
      clear he c0 c8 hf hm
      have k5 : w1.cell? ⟨b, 5, none⟩ = some (.bool false) := by rw [← es]; exact HS.out.1.blk.cell 5
      have k7 : w1.cell? ⟨b, 7, none⟩ = some (.int .i64 ((0 : Nat) : Int)) := by rw [← el]; exact HS.out.1.blk.cell 7
      have f7 := HS.out.1.blk.free 7
      clear e es
      go_wp2_with fail
      go_quiet ((go_at_call 47; exact Calls.quiet_of_same (spare47 b 0 _ k7 (by omega))))
      go_wp2_with fail
      go_ret
      rw [e1.out, e2.out]
      exact ⟨rfl, F, ⟨b, lv, v0, v1, rfl, HS.out.1.grown (grown_drewN _ _ none)⟩, HS.out.2.trans (aft_grown (grown_drewN _ _ none))⟩
    · have el : S.last = 1 := by omega
      have es : S.h0 = false := by unfold St.spareHas St.spare at hh; rw [if_neg e] at hh; exact hh
      have e1 : Hid (S.switch = S.step) := by unfold Hid St.switch; rw [hh]; rfl
      have e2 : Hid (S.switchCode = 5) := by unfold Hid St.switchCode; rw [hh]; rfl
      clear hh
      go_enter Try.func22, Try.ntmps22
      go_wp2_with fail
      refine (step46 _ _ _ _ c0 hc1 c8 hf hm).mono ?_
      rintro e w1 ⟨rfl, he⟩
      rw [← he] at HS
      clear he c0 c8 hf hm
      have k3 : w1.cell? ⟨b, 3, none⟩ = some (.bool false) := by rw [← es]; exact HS.out.1.blk.cell 3
      have k7 : w1.cell? ⟨b, 7, none⟩ = some (.int .i64 ((1 : Nat) : Int)) := by rw [← el]; exact HS.out.1.blk.cell 7
      have f7 := HS.out.1.blk.free 7
      clear e es
      go_wp2_with fail
      go_quiet ((go_at_call 47; exact Calls.quiet_of_same (spare47 b 1 _ k7 (by omega))))
      go_wp2_with fail
      go_ret
      rw [e1.out, e2.out]
      exact ⟨rfl, F, ⟨b, lv, v0, v1, rfl, HS.out.1.grown (grown_drewN _ _ none)⟩, HS.out.2.trans (aft_grown (grown_drewN _ _ none))⟩
  | true =>
    by_cases e : S.last = 0
    · have el : S.last = 0 := by omega
      have es : S.h1 = true := by unfold St.spareHas St.spare at hh; rw [if_pos e] at hh; exact hh
      have e1 : Hid (S.switch = { S.step with last := 1 - S.last }) := by unfold Hid St.switch; rw [hh]; rfl
      have e2 : Hid (S.switchCode = 0) := by unfold Hid St.switchCode; rw [hh]; rfl
      clear hh
      go_enter Try.func22, Try.ntmps22
      go_wp2_with fail
      refine (step46 _ _ _ _ c0 hc1 c8 hf hm).mono ?_
      rintro e w1 ⟨rfl, he⟩
      rw [← he] at HS
      clear he c0 c8 hf hm
      have k5 : w1.cell? ⟨b, 5, none⟩ = some (.bool true) := by rw [← es]; exact HS.out.1.blk.cell 5
      have k7 : w1.cell? ⟨b, 7, none⟩ = some (.int .i64 ((0 : Nat) : Int)) := by rw [← el]; exact HS.out.1.blk.cell 7
      have f7 := HS.out.1.blk.free 7
      clear e es
      go_wp2_with fail
      go_quiet ((go_at_call 47; exact Calls.quiet_of_same (spare47 b 0 _ k7 (by omega))))
      go_wp2_with fail
      refine (spare47 b 0 _ (World.grownBy.cell (grown_drewN _ _ none) k7 (by simp)) (by omega)).mono ?_
      rintro e w2 ⟨rfl, he⟩
      have HS2 : Hid (DKb w2 F b lv v0 v1 S.step ∧ Aft w F w2 F) := by
        rw [he]
        exact ⟨HS.out.1.grown (grown_drewN _ _ none), HS.out.2.trans (aft_grown (grown_drewN _ _ none))⟩
      have q7 : w2.cell? ⟨b, 7, none⟩ = some (.int .i64 ((0 : Nat) : Int)) := by rw [he]; exact k7
      have g7 : w2.frozen? ⟨b, 7, none⟩ = false := by rw [he]; exact f7
      clear he HS k7 f7
      go_wp2_with fail
      go_ret
      rw [e2.out]
      refine ⟨rfl, F, ⟨b, lv, v0, v1, rfl, HS2.out.1.set (S' := S.switch) 7 _ ?_ ?_ ?_ ?_ HOK.out⟩, HS2.out.2.trans (aft_set HS2.out.1.inb _ _)⟩
      · rw [e1.out]; unfold dC; simp only [el]; rfl
      all_goals rw [e1.out]
    · have el : S.last = 1 := by omega
      have es : S.h0 = true := by unfold St.spareHas St.spare at hh; rw [if_neg e] at hh; exact hh
      have e1 : Hid (S.switch = { S.step with last := 1 - S.last }) := by unfold Hid St.switch; rw [hh]; rfl
      have e2 : Hid (S.switchCode = 0) := by unfold Hid St.switchCode; rw [hh]; rfl
      clear hh
      go_enter Try.func22, Try.ntmps22
      go_wp2_with fail
      refine (step46 _ _ _ _ c0 hc1 c8 hf hm).mono ?_
      rintro e w1 ⟨rfl, he⟩
      rw [← he] at HS
      clear he c0 c8 hf hm
      have k3 : w1.cell? ⟨b, 3, none⟩ = some (.bool true) := by rw [← es]; exact HS.out.1.blk.cell 3
      have k7 : w1.cell? ⟨b, 7, none⟩ = some (.int .i64 ((1 : Nat) : Int)) := by rw [← el]; exact HS.out.1.blk.cell 7
      have f7 := HS.out.1.blk.free 7
      clear e es
      go_wp2_with fail
      go_quiet ((go_at_call 47; exact Calls.quiet_of_same (spare47 b 1 _ k7 (by omega))))
      go_wp2_with fail
      refine (spare47 b 1 _ (World.grownBy.cell (grown_drewN _ _ none) k7 (by simp)) (by omega)).mono ?_
      rintro e w2 ⟨rfl, he⟩
      have HS2 : Hid (DKb w2 F b lv v0 v1 S.step ∧ Aft w F w2 F) := by
        rw [he]
        exact ⟨HS.out.1.grown (grown_drewN _ _ none), HS.out.2.trans (aft_grown (grown_drewN _ _ none))⟩
      have q7 : w2.cell? ⟨b, 7, none⟩ = some (.int .i64 ((1 : Nat) : Int)) := by rw [he]; exact k7
      have g7 : w2.frozen? ⟨b, 7, none⟩ = false := by rw [he]; exact f7
      clear he HS k7 f7
      go_wp2_with fail
      go_ret
      rw [e2.out]
      refine ⟨rfl, F, ⟨b, lv, v0, v1, rfl, HS2.out.1.set (S' := S.switch) 7 _ ?_ ?_ ?_ ?_ HOK.out⟩, HS2.out.2.trans (aft_set HS2.out.1.inb _ _)⟩
      · rw [e1.out]; unfold dC; simp only [el]; rfl
      all_goals rw [e1.out]

set_option maxRecDepth 100000 in
set_option maxHeartbeats 400000 in
theorem put17 (F : Nat → Prop) (v u : Value) (S : St) (M : List UInt8) (w : World) (h : DK w F v S) (hm : S.steps < 9223372036854775807) (hu : Seg w u M) (hd : M ≠ [] → ∀ k, u.ownBlock = some k → ¬ F k) (hM : M.length ≤ 140737488351232) :
    Calls Try.prog 17 #[v, u] w fun e w' => e = .returned (.int .i64 0) ∧ DAft w F w' v (S.put M) := by
  obtain ⟨b, lv, v0, v1, rfl, h⟩ := h
  obtain ⟨c0, c1, c2, c3, c4, c5, c6, c7, c8⟩ := h.cells
  have hf := h.blk.free 8
  have h1 := h.stepped
  obtain ⟨au, cu, huv⟩ := hu.shape
  subst huv
  have HS : Hid (DKb (w.setCell ⟨b, 8, none⟩ (.int .i64 ((S.steps + 1 : Nat) : Int))) F b lv v0 v1 S.step ∧ Aft w F (w.setCell ⟨b, 8, none⟩ (.int .i64 ((S.steps + 1 : Nat) : Int))) F ∧ Seg (w.setCell ⟨b, 8, none⟩ (.int .i64 ((S.steps + 1 : Nat) : Int))) (.slice au M.length cu) M) := ⟨h1, aft_set h.inb _ _, hu.far (aft_set (F := F) h.inb _ _).fr hd⟩
  have HOK : Hid (S.put M).Ok := St.put_ok h.ok hM
  have hl := h.ok.last
  have hc1 := h.ok.cap1
  clear h h1 c1 c2 c3 c4 c5 c6 c7 hu
  by_cases e : S.last = 0
  · have el : S.last = 0 := by omega
    have e1 : Hid (S.put M = { S.step with h1 := true, b1 := M }) := by unfold Hid St.put; rw [if_pos e]
    clear e
    go_enter Try.func17, Try.ntmps17
    go_wp2_with fail
    refine (step46 _ _ _ _ c0 hc1 c8 hf hm).mono ?_
    rintro e w1 ⟨rfl, he⟩
    rw [← he] at HS
    clear he c0 c8 hf hm
    have k7 : w1.cell? ⟨b, 7, none⟩ = some (.int .i64 ((0 : Nat) : Int)) := by rw [← el]; exact HS.out.1.blk.cell 7
    have HL : Hid (S.last = 0) := el
    clear el
    go_wp2_with fail
    refine wp_region_noPanic ?_
    refine wp_region_hold 8 (fun x => w1.grownBy x none) (by kernel_rfl) ?_
    refine wpHold_take (i := 0) (v := _) (grown_drew _ _) rfl rfl (by kernel_rfl) (by kernel_rfl) (by kernel_rfl) (by kernel_rfl) (by kernel_rfl) (fun _ _ _ h => h) (by rfl) (fun wk hk => by skip; go_simp; try rfl) ?_
    try simp only [Act.put, List.setIfInBounds_toArray, List.set_cons_zero, List.set_cons_succ]
    refine wpHold_take (i := 1) (v := _) (grown_drew _ _) rfl rfl (by kernel_rfl) (by kernel_rfl) (by kernel_rfl) (by kernel_rfl) (by kernel_rfl) (fun _ _ _ h => h) (by rfl) (fun wk hk => by skip; go_simp; try rfl) ?_
    try simp only [Act.put, List.setIfInBounds_toArray, List.set_cons_zero, List.set_cons_succ]
    refine wpHold_take (i := 3) (v := _) (grown_drew _ _) rfl rfl (by kernel_rfl) (by kernel_rfl) (by kernel_rfl) (by kernel_rfl) (by kernel_rfl) (fun _ _ _ h => h) (by rfl) (fun wk hk => by skip; go_simp; try rfl) ?_
    try simp only [Act.put, List.setIfInBounds_toArray, List.set_cons_zero, List.set_cons_succ]
    refine wpHold_take (i := 5) (v := _) (grown_drew _ _) rfl rfl (by kernel_rfl) (by kernel_rfl) (by kernel_rfl) (by kernel_rfl) (by kernel_rfl) (fun _ _ _ h => h) (by rfl) (fun wk hk => by skip; go_simp; try rfl) ?_
    try simp only [Act.put, List.setIfInBounds_toArray, List.set_cons_zero, List.set_cons_succ]
    refine wpHold_take (i := 6) (v := _) (grown_drew _ _) rfl rfl (by kernel_rfl) (by kernel_rfl) (by kernel_rfl) (by kernel_rfl) (by kernel_rfl) (fun _ _ _ h => h) (by rfl) (fun wk hk => by skip; go_simp; try rfl) ?_
    try simp only [Act.put, List.setIfInBounds_toArray, List.set_cons_zero, List.set_cons_succ]
    refine wpHold_one (i := 2) rfl (by kernel_rfl) (by rfl) (fun K hK => ?_)
    go_simp
    refine (spare47 b 0 _ (World.grownBy.cell (grown_drew w1 none) k7 (by simp)) (by omega)).mono ?_
    rintro e w2 ⟨rfl, he⟩
    subst he
    go_wp2_with fail
    refine hK.out _ _ (fun _ => grown_drew _ _) ?_
    clear hK K
    try simp only [Act.put, List.setIfInBounds_toArray, List.set_cons_zero, List.set_cons_succ]
    refine wpHold_one (i := 4) rfl (by kernel_rfl) (by rfl) (fun K hK => ?_)
    go_simp
    refine (holding24 _ M _ (Seg.grown HS.out.2.2 (grown_drew _ none)) (by omega)).mono ?_
    rintro e w3 ⟨u3, rfl, o3, g3⟩
    obtain ⟨a3, cp3, hv3⟩ := o3.seg.shape
    subst hv3
    have G3 : Hid (w1.grownBy w3 none) := grown_trans (grown_drew _ none) g3
    have O3 : Hid (Own w3 w1.heap.size (.slice a3 M.length cp3) M) := o3
    clear o3 g3
    go_wp2_with fail
    refine hK.out _ _ (fun _ => G3.out) ?_
    clear hK K
    try simp only [Act.put, List.setIfInBounds_toArray, List.set_cons_zero, List.set_cons_succ]
    refine wpHold_take (i := 7) (v := _) (G3.out) rfl rfl (by kernel_rfl) (by kernel_rfl) (by kernel_rfl) (by kernel_rfl) (by kernel_rfl) (fun _ _ _ h => h) (by rfl) (fun wk hk => by skip; go_simp; try rfl) ?_
    try simp only [Act.put, List.setIfInBounds_toArray, List.set_cons_zero, List.set_cons_succ]
    refine wpHold_one (i := 8) rfl (by kernel_rfl) (by rfl) (fun K hK => ?_)
    have hb := HS.out.1.blk.grown G3.out (by simp)
    have q0 := hb.cell 5
    have q1 := hb.cell 6
    have f0 := hb.free 5
    have f1 := hb.free 6
    simp [dC] at q0 q1
    have HF : Hid (DAft w F ((w3.setCell ⟨b, 5, none⟩ (.bool true)).setCell ⟨b, 6, none⟩ (.slice a3 M.length cp3)) (.pointer (some ⟨b, 0, none⟩)) (S.put M)) := by
      have h1 := HS.out.1.grown G3.out
      have g2 : w3.grownBy ((w3.setCell ⟨b, 5, none⟩ (.bool true)).setCell ⟨b, 6, none⟩ (.slice a3 M.length cp3)) (some b) := grown_trans (grown_setCell _ _ _ _) (grown_setCell _ _ _ _)
      have hn : ∀ k, (Value.slice a3 M.length cp3).ownBlock = some k → ¬ F k := fun k hk hF => by
        have := (O3.out.lt k hk).1
        have := HS.out.1.lt k hF
        omega
      have hok := HOK.out
      rw [e1.out] at hok ⊢
      refine DAft.after ⟨fun k => F k ∨ (Value.slice a3 M.length cp3).ownBlock = some k, ⟨b, lv, v0, _, rfl, h1.reput1 (O3.out.mono (Nat.zero_le _)) hn g2 ((h1.blk.store 5 _).store 6 _) rfl rfl hok⟩, ⟨Fr.trans (Fr.of (F := F) G3.out (by simp)) (Fr.of (F := F) g2 (fun k hk => by simp at hk; subst hk; exact HS.out.1.inb)) (fun k hk => .inl hk), fun k hk => ?_⟩⟩ HS.out.2.1
      rcases hk with hk | hk
      · exact .inl hk
      · exact .inr (O3.out.lt k hk).1
    go_wp2_with fail
    refine hK.out _ _ (fun h => absurd rfl h) ?_
    clear hK K
    try simp only [Act.put, List.setIfInBounds_toArray, List.set_cons_zero, List.set_cons_succ]
    refine wpHold_done (by kernel_rfl) ?_
    refine (‹∀ (a : Act) (w : World), Code.wp Try.prog _ _ a w → _› _ _ ?_)
    go_wp2_with fail
    go_ret
    exact ⟨rfl, HF.out⟩
  · have el : S.last = 1 := by omega
    have e1 : Hid (S.put M = { S.step with h0 := true, b0 := M }) := by unfold Hid St.put; rw [if_neg e]
    clear e
    go_enter Try.func17, Try.ntmps17
    go_wp2_with fail
    refine (step46 _ _ _ _ c0 hc1 c8 hf hm).mono ?_
    rintro e w1 ⟨rfl, he⟩
    rw [← he] at HS
    clear he c0 c8 hf hm
    have k7 : w1.cell? ⟨b, 7, none⟩ = some (.int .i64 ((1 : Nat) : Int)) := by rw [← el]; exact HS.out.1.blk.cell 7
    have HL : Hid (S.last = 1) := el
    clear el
    go_wp2_with fail
    refine wp_region_noPanic ?_
    refine wp_region_hold 8 (fun x => w1.grownBy x none) (by kernel_rfl) ?_
    refine wpHold_take (i := 0) (v := _) (grown_drew _ _) rfl rfl (by kernel_rfl) (by kernel_rfl) (by kernel_rfl) (by kernel_rfl) (by kernel_rfl) (fun _ _ _ h => h) (by rfl) (fun wk hk => by skip; go_simp; try rfl) ?_
    try simp only [Act.put, List.setIfInBounds_toArray, List.set_cons_zero, List.set_cons_succ]
    refine wpHold_take (i := 1) (v := _) (grown_drew _ _) rfl rfl (by kernel_rfl) (by kernel_rfl) (by kernel_rfl) (by kernel_rfl) (by kernel_rfl) (fun _ _ _ h => h) (by rfl) (fun wk hk => by skip; go_simp; try rfl) ?_
    try simp only [Act.put, List.setIfInBounds_toArray, List.set_cons_zero, List.set_cons_succ]
    refine wpHold_take (i := 3) (v := _) (grown_drew _ _) rfl rfl (by kernel_rfl) (by kernel_rfl) (by kernel_rfl) (by kernel_rfl) (by kernel_rfl) (fun _ _ _ h => h) (by rfl) (fun wk hk => by skip; go_simp; try rfl) ?_
    try simp only [Act.put, List.setIfInBounds_toArray, List.set_cons_zero, List.set_cons_succ]
    refine wpHold_take (i := 5) (v := _) (grown_drew _ _) rfl rfl (by kernel_rfl) (by kernel_rfl) (by kernel_rfl) (by kernel_rfl) (by kernel_rfl) (fun _ _ _ h => h) (by rfl) (fun wk hk => by skip; go_simp; try rfl) ?_
    try simp only [Act.put, List.setIfInBounds_toArray, List.set_cons_zero, List.set_cons_succ]
    refine wpHold_take (i := 6) (v := _) (grown_drew _ _) rfl rfl (by kernel_rfl) (by kernel_rfl) (by kernel_rfl) (by kernel_rfl) (by kernel_rfl) (fun _ _ _ h => h) (by rfl) (fun wk hk => by skip; go_simp; try rfl) ?_
    try simp only [Act.put, List.setIfInBounds_toArray, List.set_cons_zero, List.set_cons_succ]
    refine wpHold_one (i := 2) rfl (by kernel_rfl) (by rfl) (fun K hK => ?_)
    go_simp
    refine (spare47 b 1 _ (World.grownBy.cell (grown_drew w1 none) k7 (by simp)) (by omega)).mono ?_
    rintro e w2 ⟨rfl, he⟩
    subst he
    go_wp2_with fail
    refine hK.out _ _ (fun _ => grown_drew _ _) ?_
    clear hK K
    try simp only [Act.put, List.setIfInBounds_toArray, List.set_cons_zero, List.set_cons_succ]
    refine wpHold_one (i := 4) rfl (by kernel_rfl) (by rfl) (fun K hK => ?_)
    go_simp
    refine (holding24 _ M _ (Seg.grown HS.out.2.2 (grown_drew _ none)) (by omega)).mono ?_
    rintro e w3 ⟨u3, rfl, o3, g3⟩
    obtain ⟨a3, cp3, hv3⟩ := o3.seg.shape
    subst hv3
    have G3 : Hid (w1.grownBy w3 none) := grown_trans (grown_drew _ none) g3
    have O3 : Hid (Own w3 w1.heap.size (.slice a3 M.length cp3) M) := o3
    clear o3 g3
    go_wp2_with fail
    refine hK.out _ _ (fun _ => G3.out) ?_
    clear hK K
    try simp only [Act.put, List.setIfInBounds_toArray, List.set_cons_zero, List.set_cons_succ]
    refine wpHold_take (i := 7) (v := _) (G3.out) rfl rfl (by kernel_rfl) (by kernel_rfl) (by kernel_rfl) (by kernel_rfl) (by kernel_rfl) (fun _ _ _ h => h) (by rfl) (fun wk hk => by skip; go_simp; try rfl) ?_
    try simp only [Act.put, List.setIfInBounds_toArray, List.set_cons_zero, List.set_cons_succ]
    refine wpHold_one (i := 8) rfl (by kernel_rfl) (by rfl) (fun K hK => ?_)
    have hb := HS.out.1.blk.grown G3.out (by simp)
    have q0 := hb.cell 3
    have q1 := hb.cell 4
    have f0 := hb.free 3
    have f1 := hb.free 4
    simp [dC] at q0 q1
    have HF : Hid (DAft w F ((w3.setCell ⟨b, 3, none⟩ (.bool true)).setCell ⟨b, 4, none⟩ (.slice a3 M.length cp3)) (.pointer (some ⟨b, 0, none⟩)) (S.put M)) := by
      have h1 := HS.out.1.grown G3.out
      have g2 : w3.grownBy ((w3.setCell ⟨b, 3, none⟩ (.bool true)).setCell ⟨b, 4, none⟩ (.slice a3 M.length cp3)) (some b) := grown_trans (grown_setCell _ _ _ _) (grown_setCell _ _ _ _)
      have hn : ∀ k, (Value.slice a3 M.length cp3).ownBlock = some k → ¬ F k := fun k hk hF => by
        have := (O3.out.lt k hk).1
        have := HS.out.1.lt k hF
        omega
      have hok := HOK.out
      rw [e1.out] at hok ⊢
      refine DAft.after ⟨fun k => F k ∨ (Value.slice a3 M.length cp3).ownBlock = some k, ⟨b, lv, _, v1, rfl, h1.reput0 (O3.out.mono (Nat.zero_le _)) hn g2 ((h1.blk.store 3 _).store 4 _) rfl rfl hok⟩, ⟨Fr.trans (Fr.of (F := F) G3.out (by simp)) (Fr.of (F := F) g2 (fun k hk => by simp at hk; subst hk; exact HS.out.1.inb)) (fun k hk => .inl hk), fun k hk => ?_⟩⟩ HS.out.2.1
      rcases hk with hk | hk
      · exact .inl hk
      · exact .inr (O3.out.lt k hk).1
    go_wp2_with fail
    refine hK.out _ _ (fun h => absurd rfl h) ?_
    clear hK K
    try simp only [Act.put, List.setIfInBounds_toArray, List.set_cons_zero, List.set_cons_succ]
    refine wpHold_done (by kernel_rfl) ?_
    refine (‹∀ (a : Act) (w : World), Code.wp Try.prog _ _ a w → _› _ _ ?_)
    go_wp2_with fail
    go_ret
    exact ⟨rfl, HF.out⟩
end Go.Proofs.Ytegacmcekladfaa
