/-
  'known': some of the chapter's rows.
-/
import Derived.Test.YtakmlhhapegpoaaGreatNa
namespace Go.Proofs.YtakmlhhapegpoaaGreat
open Go.RowKit Disk Table
open Names (Str cmpL keyB valueB tabB)
open _root_.Go.Proofs.YtakmlhhapegpoaaGreat.Calls (POp POut PRes opV OpSeg OpIn mayOp Ops OpAt ops_at ops_open chk rds mayCall)

/-- In no block. -/
def X0 : Nat → Prop := fun _ => False
theorem x0 (w : World) : ∀ g, X0 g → g < w.heap.size := fun _ h => h.elim
def D1 : DB := [([116], [([97], [49])])]
theorem new_nil : newD [] [] [] = some [] := by unfold newD; rfl
theorem chk_a : chk [putO [97] [49]] = 0 := by kernel_rfl
theorem chk_bc : chk [putO [98] [50, 50], putO [99] [51]] = 0 := by kernel_rfl
theorem chk_g : chk [getO [97]] = 0 := by kernel_rfl
theorem rds_g : rds [getO [97]] = true := by kernel_rfl
theorem chk_l : chk [putO [97] [49, 50, 51, 52, 53, 54, 55, 56, 57]] = 0 := by kernel_rfl
theorem call_a : callD (2, 9) [] [] [putO [97] [49]] = .ok ([⟨false, [], []⟩], D1) := by kernel_rfl
theorem call_bc : callD (2, 9) D1 [] [putO [98] [50, 50], putO [99] [51]] = .error (2, 1) := by kernel_rfl
theorem call_g : callD (2, 9) D1 [] [getO [97]] = .ok ([⟨true, [49], []⟩], D1) := by kernel_rfl
theorem call_l : callD (2, 9) D1 [] [putO [97] [49, 50, 51, 52, 53, 54, 55, 56, 57]] = .error (3, 0) := by kernel_rfl
theorem len_D1 : lenD D1 = 1 := by kernel_rfl
theorem size_D1 : sizeD D1 = 2 := by kernel_rfl
theorem dbq_nil {q : Int × Int} (h : mayQ q = true) : DbQ q [] := by
  refine ⟨good_nil, h, ?_⟩
  unfold mayQ at h
  simp at h
  unfold aboveD
  rw [if_neg (by simp [lenD]; omega), if_neg (by simp [sizeD]; omega)]
/-- New without rows. -/
theorem new15_nil (q : Int × Int) (w : World) (hq : mayQ q = true) : Calls Tryz.prog 15 #[quoV q, .slice none 0 0] w fun e w' => ∃ b, e = .returned (.tuple #[.pointer (some ⟨b, 0, none⟩), .int .i64 0]) ∧ w.heap.size ≤ b ∧ Eng X0 w' b q [] ∧ w.grownBy w' none := by
  refine (new15 (X := X0) q (.slice none 0 0) [] (by simp) (by simp) w (x0 w) (nms_nil w)).mono ?_
  rintro e w' ⟨g, h | h | h⟩
  · obtain ⟨_, D, b, hD, _, _, rfl, hb, hE⟩ := h
    rw [new_nil] at hD
    simp at hD
    subst hD
    exact ⟨b, rfl, hb, hE, g⟩
  · obtain ⟨_, D, hD, ha, _⟩ := h
    rw [new_nil] at hD
    simp at hD
    subst hD
    exact absurd (dbq_nil hq).within ha
  · obtain ⟨h, _⟩ := h
    rcases h with h | h
    · rw [hq] at h; cases h
    · rw [new_nil] at h; cases h
/-- One answer. -/
theorem outs_one {w : World} {B : Nat} {v : Value} {o : POut} (h : OutsN w B v [o]) : ∃ g cap x y, v = .slice (some ⟨g, 0, none⟩) 1 cap ∧ 1 ≤ cap ∧ Hid (OutsN w B (.slice (some ⟨g, 0, none⟩) 1 cap) [o] ∧ ∀ w', OutsN w' B (.slice (some ⟨g, 0, none⟩) 1 cap) [o] → True) ∧ w.cell? ⟨g, 0, none⟩ = some (.bool o.has) ∧ w.cell? ⟨g, 1, none⟩ = some x ∧ w.cell? ⟨g, 2, none⟩ = some y ∧ Disk.Own w B x o.value := by
  have h' := h
  obtain ⟨ks, h1, h2, _⟩ := h
  rcases h1.2 with ⟨_, e⟩ | ⟨g, cap, cur, e, hb, hg, hc, _⟩
  · simp at e
  · have hl : 0 < ks.length := by rw [h2.1]; simp
    obtain ⟨c0, c1, c2⟩ := ocells_at ks 0 hl
    have hk := h2.2 0 hl (by simp)
    have cell := World.ownsRow.cells h1 (g := g) (by rw [e]; rfl)
    subst e
    refine ⟨g, cap, ks[0].2.1, ks[0].2.2, rfl, hc, ⟨h', fun _ _ => trivial⟩, ?_, ?_, ?_, hk.value⟩
    · have := cell 0 _ c0
      rw [hk.has] at this
      simpa [addr_add] using this
    · have := cell 1 _ c1
      simpa [addr_add] using this
    · have := cell 2 _ c2
      simpa [addr_add] using this
/-- What lasts of a Do: answers that were told before. -/
theorem outs_do {w w' : World} {b m B : Nat} {q : Int × Int} {v : Value} {l : List POut} (h : OutsN w B v l) (hb : EngB w b q m) (hg : w.grownBy w' (some b)) : OutsN w' B v l := h.off hg hb (by decide) (by decide) (by decide)
theorem blk_do {w w' : World} {b m x : Nat} {q : Int × Int} {c : Array Value} (h : Blk w x 49 c) (hb : EngB w b q m) (hg : w.grownBy w' (some b)) : Blk w' x 49 c := h.grown hg (fun e => by
  simp at e
  subst e
  unfold EngB Blk at hb
  unfold Blk at h
  rw [h] at hb
  simp at hb)
theorem field37 (a : Option Addr) (n c : Nat) (w : World) : (Instr.field 37 (.agg #[.slice a n c]) 0).run Tryz.prog w = .ok (.slice a n c) w := by kernel_rfl
set_option maxRecDepth 100000 in
set_option maxHeartbeats 16000000 in
theorem known7 (w : World) : Calls Tryz.prog 7 #[] w fun e w' => e = .returned (.bool true) ∧ w.grownBy w' none := by
  have hfd := field37
  go_enter Tryz.func7, Tryz.ntmps7
  go_wp2_with fail
  refine (new15_nil (2, 9) w (by kernel_rfl)).mono ?_
  rintro e w1 ⟨b, rfl, hb, hE, g1⟩
  obtain ⟨m1, he1, hm1⟩ := hE
  have H1 : Hid (EngB w1 b (2, 9) m1 ∧ EM X0 w1 m1 [] ∧ w.grownBy w1 none ∧ w.heap.size ≤ b) := ⟨he1, hm1, g1, hb⟩
  clear he1 hm1 g1 hb
  go_wp2_with (go_at_call 16; refine (num16 0 w1).mono ?_; rintro e w3 ⟨rfl, hw⟩; rw [hw]; clear hw)
  refine (put25 [97] [49] (by decide) (by decide) w1).mono ?_
  rintro e w2 ⟨u2, rfl, ho2, g2⟩
  obtain ⟨a2, _, _, _, _, rfl, _, _⟩ := id ho2
  have H2 : Hid (One w2 (.slice a2 1 1) (putO [97] [49]) ∧ EngB w2 b (2, 9) m1 ∧ EM X0 w2 m1 [] ∧ w.grownBy w2 none) := ⟨ho2, Blk.grown H1.out.1 g2 (by simp), H1.out.2.1.grown g2, grown_trans H1.out.2.2.1 g2⟩
  clear ho2 g2
  go_wp2_with fail
  refine (do17 (X := X0) b m1 (2, 9) [] (dbq_nil (by kernel_rfl)) (.slice a2 1 1) [putO [97] [49]] w2 (x0 w2) H2.out.2.1 H2.out.2.2.1 H2.out.1.ops).mono ?_
  rintro e w3 (⟨hC, _⟩ | ⟨_, g3, ⟨outs, D', hcall, hdb, hE3, v3, rfl, hO3⟩ | ⟨_, _, hcall, _⟩⟩)
  · exact absurd chk_a hC
  case inr.inr => rw [call_a] at hcall; cases hcall
  rw [call_a] at hcall
  simp at hcall
  obtain ⟨rfl, rfl⟩ := hcall
  obtain ⟨m3, he3, hm3⟩ := hE3
  obtain ⟨s3, n3, c3, rfl, hn3, _, _⟩ := hO3.shape
  simp at hn3
  subst hn3
  have H3 : Hid (EngB w3 b (2, 9) m3 ∧ EM X0 w3 m3 D1 ∧ DbQ (2, 9) D1 ∧ w.grownBy w3 none ∧ OutsN w3 w2.heap.size (.slice s3 1 c3) [⟨false, [], []⟩]) := ⟨he3, hm3, hdb, grown_new H2.out.2.2.2 g3 (fun x hx => by simp at hx; have := H1.out.2.2.2; omega), hO3⟩
  clear he3 hm3 hdb g3 hO3
  unfold resV3
  go_wp2_with fail
  obtain ⟨w4, hw4, H4⟩ := al w3 #[.int .i64 0, .int .i64 0, .slice s3 1 c3] 49
  rw [hw4]
  clear hw4
  obtain ⟨r1, hr1⟩ : ∃ r, w3.heap.size = r := ⟨_, rfl⟩
  have K4 : Hid (EngB w4 b (2, 9) m3 ∧ EM X0 w4 m3 D1 ∧ w.grownBy w4 none ∧ OutsN w4 w2.heap.size (.slice s3 1 c3) [⟨false, [], []⟩] ∧ Blk w4 r1 49 #[.int .i64 0, .int .i64 0, .slice s3 1 c3]) := ⟨Blk.grown H3.out.1 H4.out.2.1 (by simp), H3.out.2.1.grown H4.out.2.1, grown_trans H3.out.2.2.2.1 H4.out.2.1, H3.out.2.2.2.2.grown H4.out.2.1, by rw [← hr1]; exact H4.out.1⟩
  rw [hr1]
  clear hr1 H4
  refine (put25 [98] [50, 50] (by decide) (by decide) w4).mono ?_
  rintro e w5 ⟨u5, rfl, ho5, g5⟩
  obtain ⟨a5, _, _, _, _, rfl, _, _⟩ := id ho5
  have H5 : Hid (One w5 (.slice a5 1 1) (putO [98] [50, 50]) ∧ w4.grownBy w5 none) := ⟨ho5, g5⟩
  clear ho5 g5
  go_wp2_with fail
  refine (put25 [99] [51] (by decide) (by decide) w5).mono ?_
  rintro e w6 ⟨u6, rfl, ho6, g6⟩
  obtain ⟨a6, _, _, _, _, rfl, _, _⟩ := id ho6
  have H6 : Hid (One w6 (.slice a5 1 1) (putO [98] [50, 50]) ∧ One w6 (.slice a6 1 1) (putO [99] [51]) ∧ w4.grownBy w6 none) := ⟨H5.out.1.grown g6, ho6, grown_trans H5.out.2 g6⟩
  clear ho6 g6
  go_wp2_with (at_builtin; refine appP_at w6 rfl _ _ rfl (.slice a5 1 1) (.slice a6 1 1) (putO [98] [50, 50]) (putO [99] [51]) rfl rfl H6.out.1 H6.out.2.1 ?_)
  intro u7 w7 ho7 g7
  obtain ⟨a7, n7, c7, rfl, hn7, _, _⟩ := ops_open ho7
  simp at hn7
  subst hn7
  have H7 : Hid (Ops w7 (.slice a7 2 c7) [putO [98] [50, 50], putO [99] [51]] ∧ w4.grownBy w7 none) := ⟨ho7, grown_trans H6.out.2.2 g7⟩
  clear ho7 g7
  go_wp2_with fail
  refine (do17 (X := X0) b m3 (2, 9) D1 H3.out.2.2.1 (.slice a7 2 c7) [putO [98] [50, 50], putO [99] [51]] w7 (x0 w7) (Blk.grown K4.out.1 H7.out.2 (by simp)) (K4.out.2.1.grown H7.out.2) H7.out.1).mono ?_
  rintro e w8 (⟨hC, _⟩ | ⟨_, g8, ⟨outs, D', hcall, _⟩ | ⟨c8, n8, hcall, he8, hm8, rfl⟩⟩)
  · exact absurd chk_bc hC
  · rw [call_bc] at hcall; cases hcall
  rw [call_bc] at hcall
  simp at hcall
  obtain ⟨rfl, rfl⟩ := hcall
  have hbw7 : EngB w7 b (2, 9) m3 := Blk.grown K4.out.1 H7.out.2 (by simp)
  have H8 : Hid (EngB w8 b (2, 9) m3 ∧ EM X0 w8 m3 D1 ∧ w.grownBy w8 none ∧ OutsN w8 w2.heap.size (.slice s3 1 c3) [⟨false, [], []⟩] ∧ Blk w8 r1 49 #[.int .i64 0, .int .i64 0, .slice s3 1 c3]) := ⟨he8, hm8, grown_new (grown_trans K4.out.2.2.1 H7.out.2) g8 (fun x hx => by simp at hx; have := H1.out.2.2.2; omega), outs_do (K4.out.2.2.2.1.grown H7.out.2) hbw7 g8, blk_do (K4.out.2.2.2.2.grown H7.out.2 (by simp)) hbw7 g8⟩
  clear he8 hm8 g8 hbw7
  unfold resV3
  go_wp2_with fail
  obtain ⟨w9, hw9, H9⟩ := al w8 #[.int .i64 2, .int .i64 1, .slice none 0 0] 49
  rw [hw9]
  clear hw9
  obtain ⟨r2, hr2⟩ : ∃ r, w8.heap.size = r := ⟨_, rfl⟩
  have K9 : Hid (EngB w9 b (2, 9) m3 ∧ EM X0 w9 m3 D1 ∧ w.grownBy w9 none ∧ OutsN w9 w2.heap.size (.slice s3 1 c3) [⟨false, [], []⟩] ∧ Blk w9 r1 49 #[.int .i64 0, .int .i64 0, .slice s3 1 c3] ∧ Blk w9 r2 49 #[.int .i64 2, .int .i64 1, .slice none 0 0]) := ⟨Blk.grown H8.out.1 H9.out.2.1 (by simp), H8.out.2.1.grown H9.out.2.1, grown_trans H8.out.2.2.1 H9.out.2.1, H8.out.2.2.2.1.grown H9.out.2.1, H8.out.2.2.2.2.grown H9.out.2.1 (by simp), by rw [← hr2]; exact H9.out.1⟩
  rw [hr2]
  clear hr2 H9
  refine (get27 [97] (by decide) w9).mono ?_
  rintro e w10 ⟨u10, rfl, ho10, g10⟩
  obtain ⟨a10, _, _, _, _, rfl, _, _⟩ := id ho10
  have H10 : Hid (One w10 (.slice a10 1 1) (getO [97]) ∧ w9.grownBy w10 none) := ⟨ho10, g10⟩
  clear ho10 g10
  go_wp2_with fail
  refine (look26 (X := X0) b m3 (2, 9) D1 H3.out.2.2.1 (.slice a10 1 1) [getO [97]] w10 (x0 w10) (Blk.grown K9.out.1 H10.out.2 (by simp)) (K9.out.2.1.grown H10.out.2) H10.out.1.ops).mono ?_
  rintro e w11 ⟨g11, ⟨hC, _⟩ | ⟨_, hC, _⟩ | ⟨_, _, outs, D', hcall, v11, rfl, hO11⟩ | ⟨_, _, _, _, hcall, _⟩⟩
  · exact absurd chk_g hC
  · rw [rds_g] at hC; cases hC
  case inr.inr.inr => rw [call_g] at hcall; cases hcall
  rw [call_g] at hcall
  simp at hcall
  obtain ⟨rfl, _⟩ := hcall
  obtain ⟨s11, n11, c11, rfl, hn11, _, _⟩ := hO11.shape
  simp at hn11
  subst hn11
  have H11 : Hid (EngB w11 b (2, 9) m3 ∧ EM X0 w11 m3 D1 ∧ w.grownBy w11 none ∧ OutsN w11 w2.heap.size (.slice s3 1 c3) [⟨false, [], []⟩] ∧ Blk w11 r1 49 #[.int .i64 0, .int .i64 0, .slice s3 1 c3] ∧ Blk w11 r2 49 #[.int .i64 2, .int .i64 1, .slice none 0 0] ∧ OutsN w11 w10.heap.size (.slice s11 1 c11) [⟨true, [49], []⟩]) := by
    have g := grown_trans H10.out.2 g11
    exact ⟨Blk.grown K9.out.1 g (by simp), K9.out.2.1.grown g, grown_trans K9.out.2.2.1 g, K9.out.2.2.2.1.grown g, K9.out.2.2.2.2.1.grown g (by simp), K9.out.2.2.2.2.2.grown g (by simp), hO11⟩
  clear hO11 g11
  unfold resV3
  go_wp2_with fail
  obtain ⟨w12, hw12, H12⟩ := al w11 #[.int .i64 0, .int .i64 0, .slice s11 1 c11] 49
  rw [hw12]
  clear hw12
  obtain ⟨r3, hr3⟩ : ∃ r, w11.heap.size = r := ⟨_, rfl⟩
  have K12 : Hid (EngB w12 b (2, 9) m3 ∧ EM X0 w12 m3 D1 ∧ w.grownBy w12 none ∧ OutsN w12 w2.heap.size (.slice s3 1 c3) [⟨false, [], []⟩] ∧ Blk w12 r1 49 #[.int .i64 0, .int .i64 0, .slice s3 1 c3] ∧ Blk w12 r2 49 #[.int .i64 2, .int .i64 1, .slice none 0 0] ∧ OutsN w12 w10.heap.size (.slice s11 1 c11) [⟨true, [49], []⟩] ∧ Blk w12 r3 49 #[.int .i64 0, .int .i64 0, .slice s11 1 c11]) := by
    have g := H12.out.2.1
    exact ⟨Blk.grown H11.out.1 g (by simp), H11.out.2.1.grown g, grown_trans H11.out.2.2.1 g, H11.out.2.2.2.1.grown g, H11.out.2.2.2.2.1.grown g (by simp), H11.out.2.2.2.2.2.1.grown g (by simp), H11.out.2.2.2.2.2.2.grown g, by rw [← hr3]; exact H12.out.1⟩
  rw [hr3]
  clear hr3 H12
  refine (put25 [97] [49, 50, 51, 52, 53, 54, 55, 56, 57] (by decide) (by decide) w12).mono ?_
  rintro e w13 ⟨u13, rfl, ho13, g13⟩
  obtain ⟨a13, _, _, _, _, rfl, _, _⟩ := id ho13
  have H13 : Hid (One w13 (.slice a13 1 1) (putO [97] [49, 50, 51, 52, 53, 54, 55, 56, 57]) ∧ w12.grownBy w13 none) := ⟨ho13, g13⟩
  clear ho13 g13
  go_wp2_with fail
  refine (do17 (X := X0) b m3 (2, 9) D1 H3.out.2.2.1 (.slice a13 1 1) [putO [97] [49, 50, 51, 52, 53, 54, 55, 56, 57]] w13 (x0 w13) (Blk.grown K12.out.1 H13.out.2 (by simp)) (K12.out.2.1.grown H13.out.2) H13.out.1.ops).mono ?_
  rintro e w14 (⟨hC, _⟩ | ⟨_, g14, ⟨outs, D', hcall, _⟩ | ⟨c8, n8, hcall, he8, hm8, rfl⟩⟩)
  · exact absurd chk_l hC
  · rw [call_l] at hcall; cases hcall
  rw [call_l] at hcall
  simp at hcall
  obtain ⟨rfl, rfl⟩ := hcall
  have hb13 : EngB w13 b (2, 9) m3 := Blk.grown K12.out.1 H13.out.2 (by simp)
  have H14 : Hid (EngB w14 b (2, 9) m3 ∧ EM X0 w14 m3 D1 ∧ w.grownBy w14 none ∧ OutsN w14 w2.heap.size (.slice s3 1 c3) [⟨false, [], []⟩] ∧ Blk w14 r1 49 #[.int .i64 0, .int .i64 0, .slice s3 1 c3] ∧ Blk w14 r2 49 #[.int .i64 2, .int .i64 1, .slice none 0 0] ∧ OutsN w14 w10.heap.size (.slice s11 1 c11) [⟨true, [49], []⟩] ∧ Blk w14 r3 49 #[.int .i64 0, .int .i64 0, .slice s11 1 c11]) := by
    have g := H13.out.2
    exact ⟨he8, hm8, grown_new (grown_trans K12.out.2.2.1 g) g14 (fun x hx => by simp at hx; have := H1.out.2.2.2; omega), outs_do (K12.out.2.2.2.1.grown g) hb13 g14, blk_do (K12.out.2.2.2.2.1.grown g (by simp)) hb13 g14, blk_do (K12.out.2.2.2.2.2.1.grown g (by simp)) hb13 g14, outs_do (K12.out.2.2.2.2.2.2.1.grown g) hb13 g14, blk_do (K12.out.2.2.2.2.2.2.2.grown g (by simp)) hb13 g14⟩
  clear he8 hm8 g14 hb13
  unfold resV3
  have H15 : Hid (Blk (w14.alloc (.cells #[.int .i64 3, .int .i64 0, .slice none 0 0] 49)) w14.heap.size 49 #[.int .i64 3, .int .i64 0, .slice none 0 0] ∧ w14.grownBy (w14.alloc (.cells #[.int .i64 3, .int .i64 0, .slice none 0 0] 49)) none) := ⟨heap_alloc_new _ _, World.grownBy_alloc _ _ _⟩
  obtain ⟨g1, k1, x1, y1, e1, hk1, _, q10, q11, q12, _⟩ := outs_one (H14.out.2.2.2.1.grown H15.out.2)
  simp at e1
  obtain ⟨rfl, rfl⟩ := e1
  obtain ⟨g3, k3, x3, y3, e3, hk3, _, q30, q31, q32, hx3⟩ := outs_one (H14.out.2.2.2.2.2.2.1.grown H15.out.2)
  simp at e3
  obtain ⟨rfl, rfl⟩ := e3
  have hcv := seg_str hx3.seg
  have t12 := (H14.out.2.2.2.2.1.grown H15.out.2 (by simp)).cell 2
  have t20 := (H14.out.2.2.2.2.2.1.grown H15.out.2 (by simp)).cell 0
  have t21 := (H14.out.2.2.2.2.2.1.grown H15.out.2 (by simp)).cell 1
  have t32 := (H14.out.2.2.2.2.2.2.2.grown H15.out.2 (by simp)).cell 2
  have t40 := H15.out.1.cell 0
  simp only [List.getElem?_toArray, List.getElem?_cons_zero, List.getElem?_cons_succ] at t12 t20 t21 t32 t40
  have KL : Hid (Eng X0 (w14.alloc (.cells #[.int .i64 3, .int .i64 0, .slice none 0 0] 49)) b (2, 9) D1 ∧ GoodD D1 ∧ w.grownBy (w14.alloc (.cells #[.int .i64 3, .int .i64 0, .slice none 0 0] 49)) none) := ⟨⟨m3, Blk.grown H14.out.1 H15.out.2 (by simp), H14.out.2.1.grown H15.out.2⟩, H3.out.2.2.1.good, grown_trans H14.out.2.2.1 H15.out.2⟩
  clear hx3
  go_wp2_with (go_at_call 16; refine (num16 0 _).mono ?_; rintro e w3 ⟨rfl, hw⟩; rw [hw]; clear hw)
  refine (len19 (X := X0) b (2, 9) D1 KL.out.2.1 _ KL.out.1).mono ?_
  rw [len_D1]
  rintro e w16 ⟨rfl, g16⟩
  have K16 : Hid (Eng X0 w16 b (2, 9) D1 ∧ w.grownBy w16 none) := ⟨KL.out.1.grown g16, grown_trans KL.out.2.2 g16⟩
  clear g16
  go_wp2_with fail
  refine (size20 (X := X0) b (2, 9) D1 KL.out.2.1 _ K16.out.1).mono ?_
  rw [size_D1]
  rintro e w17 ⟨rfl, g17⟩
  have K17 : Hid (w.grownBy w17 none) := grown_trans K16.out.2 g17
  clear g17
  go_wp2_with fail
  go_ret
  exact ⟨rfl, K17.out⟩
end Go.Proofs.YtakmlhhapegpoaaGreat
