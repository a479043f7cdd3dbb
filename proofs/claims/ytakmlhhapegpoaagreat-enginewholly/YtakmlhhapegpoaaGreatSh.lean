/-
  The first op that a call is given up at: tried with ever longer calls.
-/
import Derived.Test.YtakmlhhapegpoaaGreatSeAll
namespace Go.Proofs.YtakmlhhapegpoaaGreat
open Go.RowKit Disk Table
open Names (Str cmpL keyB valueB tabB)
open _root_.Go.Proofs.YtakmlhhapegpoaaGreat.Calls (POp POut PRes opV OpSeg mayOp Ops OpAt ops_at ops_open chk rds mayCall callForm opForm)

theorem callD_err {q : Int × Int} : ∀ {l : List POp} {D : DB} {outs : List POut} {c : Int} {p : Nat}, callD q D outs l = .error (c, p) → ∃ j, p = outs.length + j ∧ j < l.length ∧ (∀ k, k ≤ j → ∃ o' D', callD q D outs (l.take k) = .ok (o', D')) ∧ (∀ k, j < k → callD q D outs (l.take k) = .error (c, p)) ∧ c ≠ 0
  | [], D, outs, c, p, h => by simp [callD] at h
  | o :: l, D, outs, c, p, h => by
    unfold callD at h
    cases ho : opD q D o with
    | error c' =>
      rw [ho] at h
      simp at h
      obtain ⟨rfl, rfl⟩ := h
      refine ⟨0, rfl, by simp, fun k hk => ?_, fun k hk => ?_, ?_⟩
      · obtain rfl : k = 0 := by omega
        exact ⟨outs, D, rfl⟩
      · obtain ⟨k, rfl⟩ : ∃ k', k = k' + 1 := ⟨k - 1, by omega⟩
        simp [callD, ho]
      · unfold opD at ho
        split at ho
        · cases ho
        · split at ho
          · cases ho
          · split at ho
            · cases ho
            · split at ho
              · simp at ho
                omega
              · unfold putR at ho
                split at ho
                · cases ho
                · rename_i h1
                  simp at ho
                  rw [← ho]
                  exact h1
    | ok x =>
      rw [ho] at h
      obtain ⟨j, h1, h2, h3, h4, h5⟩ := callD_err h
      refine ⟨j + 1, by simp at h1; omega, by simp; omega, fun k hk => ?_, fun k hk => ?_, h5⟩
      · cases k with
        | zero => exact ⟨outs, D, rfl⟩
        | succ k =>
          obtain ⟨o', D', e⟩ := h3 k (by omega)
          exact ⟨o', D', by simp [callD, ho]; exact e⟩
      · obtain ⟨k, rfl⟩ : ∃ k', k = k' + 1 := ⟨k - 1, by omega⟩
        simp [callD, ho]
        exact h4 k (by omega)
theorem ops_take {w : World} {ao : Option Addr} {n cap : Nat} {l : List POp} (h : Ops w (.slice ao n cap) l) (k : Nat) (hk : k ≤ l.length) : Ops w (.slice ao k cap) (l.take k) := by
  obtain ⟨ao', cap', e, h2, h3⟩ := h
  simp at e
  obtain ⟨rfl, rfl, rfl⟩ := e
  refine ⟨ao, cap, by simp; omega, by simp; omega, fun j hj => ?_⟩
  have hj' : j < l.length := by simp at hj; omega
  have := h3 j hj'
  simpa using this
theorem form_take (l : List POp) (k : Nat) : ((l.take k).flatMap opForm).length ≤ (l.flatMap opForm).length := by
  conv => rhs; rw [← List.take_append_drop k l]
  rw [List.flatMap_append, List.length_append]
  omega
theorem num_one : ∀ k, k < 17 → (Wire.numForm k).length = 1 := by decide
theorem chk_take {l : List POp} (h : chk l = 0) (k : Nat) (h1 : 1 ≤ k) (hk : k ≤ l.length) : chk (l.take k) = 0 := by
  have hm := chk_may h
  have hf : (callForm l).length ≤ 4096 := by
    unfold chk at h
    split at h
    · split at h
      · assumption
      · cases h
    · cases h
  have hmc : mayCall (l.take k) = true := by
    unfold mayCall
    simp only [Bool.and_eq_true, decide_eq_true_eq, List.length_take, List.all_eq_true]
    exact ⟨⟨by omega, by omega⟩, fun o ho => hm.1 o (List.mem_of_mem_take ho)⟩
  unfold chk
  rw [if_pos hmc, if_pos]
  have e1 := num_one l.length (by omega)
  have e2 := num_one (l.take k).length (by rw [List.length_take]; omega)
  have e3 := form_take l k
  unfold callForm at hf ⊢
  rw [List.length_append] at hf ⊢
  omega
set_option maxRecDepth 100000 in
set_option maxHeartbeats 8000000 in
theorem least22 {X : Nat → Prop} (b m : Nat) (q : Int × Int) (D : DB) (hD : DbQ q D) (ao : Option Addr) (n cap : Nat) (l : List POp) (c : Int) (p : Nat) (hn : l.length = n) (hcap : n ≤ cap) (hcap2 : cap ≤ 9223372036854775807) (hchk : chk l = 0) (hcall : callD q D [] l = .error (c, p)) (w : World) (hX : ∀ g, X g → g < w.heap.size) (hb : EngB w b q m) (hm : EM X w m D) (hv : Ops w (.slice ao n cap) l) (sz : Option Addr) (kz zz : Nat) : Calls Tryz.prog 22 #[.pointer (some ⟨b, 0, none⟩), .agg #[.slice ao n cap], .agg #[.int .i64 c, .int .i64 (p : Int), .slice sz kz zz]] w fun e w' => e = .returned (.bool true) ∧ w.grownBy w' none := by
  obtain ⟨j, hj, hjl, hok, herr, hc0⟩ := callD_err hcall
  simp at hj
  subst hj
  have hl16 := (chk_may hchk).2.2
  have hpn : p < n := by omega
  have hn16 : n ≤ 16 := by omega
  have HH : Hid (DbQ q D ∧ (∀ g, X g → g < w.heap.size) ∧ EngB w b q m ∧ EM X w m D ∧ Ops w (.slice ao n cap) l ∧ l.length = n ∧ chk l = 0 ∧ (∀ k, k ≤ p → ∃ o' D', callD q D [] (l.take k) = .ok (o', D')) ∧ (∀ k, p < k → callD q D [] (l.take k) = .error (c, p)) ∧ c ≠ 0) := ⟨hD, hX, hb, hm, hv, hn, hchk, hok, herr, hc0⟩
  clear hD hX hb hm hv hn hchk hok herr hc0 hcall hjl hl16
  go_enter Tryz.func22, Tryz.ntmps22
  go_wp2_with fail
  obtain ⟨w1, hw1, H1⟩ := al w #[.slice ao n cap] 37
  rw [hw1]
  clear hw1
  obtain ⟨w2, hw2, H2⟩ := al w1 #[.int .i64 c, .int .i64 (p : Int), .slice sz kz zz] 49
  rw [hw2]
  clear hw2
  have H0 : Hid (Blk w2 w.heap.size 37 #[.slice ao n cap] ∧ Blk w2 (w.heap.size + 1) 49 #[.int .i64 c, .int .i64 (p : Int), .slice sz kz zz] ∧ w.grownBy w2 none) := ⟨H1.out.1.grown H2.out.2.1 (by simp), by rw [← H1.out.2.2]; exact H2.out.1, grown_trans H1.out.2.1 H2.out.2.1⟩
  clear H1 H2
  generalize w.heap.size = cb at H0 ⊢
  have d1 : decide ((p : Int) < 0) = false := by simp
  have d2 : decide (n ≤ p) = false := by simp; omega
  simp only [d1, d2, Bool.or_false]
  clear d1 d2
  go_loopw [7] (fun u wr => ∃ (k : Nat), u = .int .i64 (k : Int) ∧ 1 ≤ k ∧ k ≤ p + 2 ∧ Hid (w2.grownBy wr none)) (fun u _ => p + 2 - (intOf u).toNat)
  case atStart => exact ⟨1, rfl, Nat.le_refl _, by omega, grown_refl _ _⟩
  case round =>
    obtain ⟨k, rfl, hk1, hk2, HG⟩ := hrel
    have c0 := (H0.out.1.grown HG.out (by simp)).cell 0
    have r1 := (H0.out.2.1.grown HG.out (by simp)).cell 1
    simp at c0 r1
    rcases Nat.lt_or_ge k (p + 2) with hlt | hge
    · have i0 : (0 : Int) ≤ (k : Int) := by omega
      have i1 : (k : Int) ≤ (cap : Int) := by omega
      have i2 : (k : Int) ≤ (p : Int) + 1 := by omega
      go_wp2_with fail
      have G0 : Hid (w.grownBy wr none) := grown_trans H0.out.2.2 HG.out
      refine (try34 (X := X) b m q D HH.out.1 (.slice ao k cap) (l.take k) wr (fun g hg => by have := HH.out.2.1 g hg; have := G0.out.size; omega) (Blk.grown HH.out.2.2.1 G0.out (by simp)) (HH.out.2.2.2.1.grown G0.out) ((ops_take HH.out.2.2.2.2.1 k (by have := HH.out.2.2.2.2.2.1; omega)).grown G0.out)).mono ?_
      have hck := chk_take HH.out.2.2.2.2.2.2.1 k hk1 (by have := HH.out.2.2.2.2.2.1; omega)
      rintro e w3 ⟨g3, ⟨h0, _⟩ | ⟨_, outs, D', hok, _, db, v, rfl, _, _, hO⟩ | ⟨_, c', p', her, cb', rfl, _, _⟩⟩
      · exact absurd hck h0
      · have hkp : k ≤ p := by
          rcases Nat.lt_or_ge p k with h | h
          · have := HH.out.2.2.2.2.2.2.2.2.1 k h
            rw [this] at hok
            cases hok
          · exact h
        obtain ⟨s3, n3, c3, rfl, _, _, _⟩ := hO.shape
        have H3 : Hid (wr.grownBy w3 none) := g3
        clear g3 hO hok hck
        have hne : ¬ ((k : Int) = (p : Int) + 1) := by omega
        have r3 : (w3.alloc (.cells #[.int .i64 0, .int .i64 0, .slice s3 n3 c3] 49)).cell? ⟨cb + 1, 1, none⟩ = some (.int .i64 (p : Int)) := ((H0.out.2.1.grown (grown_trans HG.out H3.out) (by simp)).grown (World.grownBy_alloc _ _ none) (by simp)).cell 1
        unfold resV3
        go_wp2_with (go_at_call 16; refine (num16 0 _).mono ?_; rintro e w4 ⟨rfl, hw⟩; rw [hw]; clear hw)
        go_roundw
        case rel => exact ⟨k + 1, by go_num, by omega, by omega, grown_trans (grown_trans HG.out H3.out) (World.grownBy_alloc _ _ _)⟩
        case measure =>
          simp [intOf]
          omega
      · have hkp : k = p + 1 := by
          rcases Nat.lt_or_ge p k with h | h
          · omega
          · obtain ⟨o', D', h2⟩ := HH.out.2.2.2.2.2.2.2.1 k h
            rw [h2] at her
            cases her
        rw [HH.out.2.2.2.2.2.2.2.2.1 k (by omega)] at her
        simp at her
        obtain ⟨rfl, rfl⟩ := her
        have H3 : Hid (wr.grownBy w3 none) := g3
        have hc0 : (c != 0) = true := by simpa using HH.out.2.2.2.2.2.2.2.2.2
        clear g3 hck
        subst hkp
        have r3 : (w3.alloc (.cells #[.int .i64 c, .int .i64 (p : Int), .slice none 0 0] 49)).cell? ⟨cb + 1, 1, none⟩ = some (.int .i64 (p : Int)) := ((H0.out.2.1.grown (grown_trans HG.out H3.out) (by simp)).grown (World.grownBy_alloc _ _ none) (by simp)).cell 1
        unfold resV3
        go_wp2_with (go_at_call 16; refine (num16 0 _).mono ?_; rintro e w4 ⟨rfl, hw⟩; rw [hw]; clear hw)
        go_roundw
        case rel => exact ⟨p + 1 + 1, by go_num, by omega, by omega, grown_trans (grown_trans HG.out H3.out) (World.grownBy_alloc _ _ _)⟩
        case measure =>
          simp [intOf]
          omega
    · obtain rfl : k = p + 2 := by omega
      have i2 : ¬ (((p + 2 : Nat) : Int) ≤ (p : Int) + 1) := by omega
      go_wp2_with fail
      go_ret
      exact ⟨rfl, grown_trans H0.out.2.2 HG.out⟩
end Go.Proofs.YtakmlhhapegpoaaGreat
