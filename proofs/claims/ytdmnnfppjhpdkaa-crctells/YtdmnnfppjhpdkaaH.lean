/-
  A register behind n bytes 0, by squares: the document's way.
-/
import Derived.Test.YtdmnnfppjhpdkaaG
namespace Go.Proofs.Ytdmnnfppjhpdkaa
open Go.RowKit
attribute [local go_sem ↓] Go.wp_at_zero Go.wp_at_succ

theorem matV_size (N : Nat) : (matV N).size = 32 := rowV_size _ _
theorem matV_size43 (N : Nat) : (Try.prog.info? 43).map (·.size) = some (matV N).size := by rw [matV_size]; exact Try.size43
theorem matV_size46 (N : Nat) : (Try.prog.info? 46).map (·.size) = some (matV N).size := by rw [matV_size]; exact Try.size46

/-- What is left to do, behind an odd bit and behind an even one. -/
theorem sq_odd {N m t G : Nat} (h : Tn (N * m) t = G) (ho : m % 2 = 1) : Tn ((N + N) * (m / 2)) (Tn N t) = G := by
  rw [← h, ← Tn_add]
  congr 1
  have e : m = 1 + 2 * (m / 2) := by omega
  calc N + (N + N) * (m / 2) = N * (1 + 2 * (m / 2)) := by rw [Nat.mul_add, Nat.mul_one, ← Nat.mul_assoc, Nat.mul_comm N 2, Nat.two_mul]
    _ = N * m := by rw [← e]

theorem sq_even {N m t G : Nat} (h : Tn (N * m) t = G) (ho : m % 2 = 0) : Tn ((N + N) * (m / 2)) t = G := by
  rw [← h]
  congr 1
  have e : m = 2 * (m / 2) := by omega
  calc (N + N) * (m / 2) = N * (2 * (m / 2)) := by rw [← Nat.mul_assoc, Nat.mul_comm N 2, Nat.two_mul]
    _ = N * m := by rw [← e]

set_option maxRecDepth 100000 in
set_option maxHeartbeats 1000000 in
theorem far12 (s n : Nat) (w : World) (hs : s < 4294967296) (hn : n ≤ 9223372036854775807) :
    Calls Try.prog 12 #[.int .u32 s, .int .i64 n] w fun e w' => e = .returned (.int .u32 (zeros s n)) ∧ w.grownBy w' none := by
  go_enter Try.func12, Try.ntmps12
  go_wp2_with fail
  go_loopw [6] (fun i wr => ∃ (k : Nat) (cc : Array Value), k ≤ 32 ∧ i = .int .i64 k ∧ Filled 32 k (fun j => Tn 8 (2 ^ j)) cc ∧ wr = w.alloc (.cells cc 43)) (fun i _ => 32 - (intOf i).toNat)
  case atStart => exact ⟨0, _, by omega, rfl, filled_zero 32 _, rfl⟩
  case round =>
    obtain ⟨k, cc, hk, rfl, hf, rfl⟩ := hrel
    by_cases hlt : k < 32
    · have i1 : (0 : Int) ≤ (k : Int) := by omega
      have i2 : (k : Int) < 32 := by omega
      have hsh := shl_one hlt
      have hp := pow_lt hlt
      obtain ⟨p, hpk⟩ : ∃ p : Nat, 2 ^ k = p := ⟨_, rfl⟩
      rw [hpk] at hsh hp
      have HP : Hid (2 ^ k = p) := hpk
      have HF : Hid _ := hf
      obtain ⟨x0, hx0⟩ := HF.out.2.1 k hlt
      have hsz := HF.out.1
      have hkc : k < cc.size := by omega
      clear hpk hf
      go_wp2_with fail
      refine (step19 p hp _).mono ?_
      rintro e w1 ⟨rfl, he⟩; subst he
      go_wp2_with fail
      go_roundw
      case rel => exact ⟨k + 1, _, by omega, by go_num, Filled.set HF.out _ (by rw [HP.out]) hlt, rfl⟩
      case measure => simp [intOf]; omega
    · have e : k = 32 := by omega
      subst e
      have e2 := hf.all
      subst e2
      have HB : Hid (Blk (w.alloc (.cells (matV 8) 43)) w.heap.size 43 (matV 8) ∧ w.grownBy (w.alloc (.cells (matV 8) 43)) none) := ⟨heap_alloc_new _ _, World.grownBy_alloc _ _ _⟩
      have e3 : rowV 32 (fun j => Tn 8 (2 ^ j)) = matV 8 := rfl
      rw [e3]
      clear hf e3
      go_wp2_with fail
      obtain ⟨W, hW⟩ : ∃ W, w.alloc (.cells (matV 8) 43) = W := ⟨_, rfl⟩
      rw [hW] at HB ⊢
      clear hW
      go_loopw [0, 1] (fun sv nv wr => ∃ t m N : Nat, sv = .int .u32 t ∧ nv = .int .i64 m ∧ t < 4294967296 ∧ m ≤ n ∧ Tn (N * m) t = zeros s n ∧ Blk wr w.heap.size 43 (matV N) ∧ w.grownBy wr none) (fun _ nv _ => (intOf nv).toNat)
      case atStart => exact ⟨s, n, 8, rfl, rfl, hs, by omega, rfl, HB.out.1, HB.out.2⟩
      case round =>
        obtain ⟨t, m, N, rfl, rfl, ht, hm, hinv, hblk, hgr⟩ := hrel
        have HI : Hid _ := hinv
        have HR : Hid (Blk wr w.heap.size 43 (matV N) ∧ w.grownBy wr none) := ⟨hblk, hgr⟩
        clear hinv hblk hgr
        by_cases hpos : 0 < m
        · by_cases ho : m % 2 = 1
          · have g0 : decide ((m : Int) > 0) = true := by simp; omega
            have g1 : ((m : Int) % 2 == 1) = true := by simp; omega
            go_wp2_with (first | (refine wpList_load_row _ rfl (.tmp 5) 43 rfl w.heap.size 32 23 (matV N) Try.underlying43 (matV_size43 N) rfl HR.out.1 ?_))
            refine (through20 N t _ ht).mono ?_
            rintro e w2 ⟨rfl, g2⟩
            have HR2 : Hid (Blk w2 w.heap.size 43 (matV N) ∧ w.grownBy w2 none) := ⟨HR.out.1.kept g2 (by simp), grown_trans HR.out.2 g2⟩
            have HI2 : Hid _ := sq_odd HI.out ho
            have ht2 := Tn_lt N ht
            obtain ⟨t2, het2⟩ : ∃ t2, Tn N t = t2 := ⟨_, rfl⟩
            rw [het2] at HI2 ht2 ⊢
            clear g2 HR het2 HI
            go_wp2_with fail
            have HBQ : Hid (Blk (w2.alloc (.cells (Array.replicate 32 (.int .u32 0)) 43)) w2.heap.size 43 (Array.replicate 32 (.int .u32 0)) ∧ Blk (w2.alloc (.cells (Array.replicate 32 (.int .u32 0)) 43)) w.heap.size 43 (matV N) ∧ w.grownBy (w2.alloc (.cells (Array.replicate 32 (.int .u32 0)) 43)) none) :=
              ⟨heap_alloc_new _ _, HR2.out.1.kept (World.grownBy_alloc _ _ none) (by simp), grown_trans HR2.out.2 (World.grownBy_alloc _ _ _)⟩
            have hq0 : w.heap.size < w2.heap.size := (Array.getElem?_eq_some_iff.1 HR2.out.1).1
            go_loopw [8] (fun i wq => ∃ (k : Nat) (cc : Array Value), k ≤ 32 ∧ i = .int .i64 k ∧ Filled 32 k (fun j => Tn (N + N) (2 ^ j)) cc ∧ Blk wq w2.heap.size 43 cc ∧ Blk wq w.heap.size 43 (matV N) ∧ w.grownBy wq none) (fun i _ => 32 - (intOf i).toNat)
            case atStart => exact ⟨0, _, by omega, rfl, filled_zero 32 _, HBQ.out.1, HBQ.out.2.1, HBQ.out.2.2⟩
            case round =>
              obtain ⟨k, cc, hk, rfl, hf, hb1, hb2, hg⟩ := hrel
              by_cases hlt2 : k < 32
              · have S : Hid (Filled 32 k (fun j => Tn (N + N) (2 ^ j)) cc ∧ Blk wr w2.heap.size 43 cc ∧ Blk wr w.heap.size 43 (matV N) ∧ w.grownBy wr none) := ⟨hf, hb1, hb2, hg⟩
                have i1 : (0 : Int) ≤ (k : Int) := by omega
                have i2 : (k : Int) < 32 := by omega
                have HCL : Hid (∀ w', Calls Try.prog 20 #[.agg (matV N), .int .u32 (Tn N (2 ^ k))] w' fun e w'' => e = .returned (.int .u32 (Tn (N + N) (2 ^ k))) ∧ w'.grownBy w'' none) := by
                  intro w'
                  have h := through20 N (Tn N (2 ^ k)) w' (mat_lt N hlt2)
                  rw [← Tn_add] at h
                  exact h
                clear hf hb1 hb2 hg
                go_wp2_with fail
                refine wp_region_noPanic ?_
                refine wp_region_grow 7 (by kernel_rfl) ?_
                refine wpGrow_take (i := 0) (d := some 32) (v := .int .i64 k) rfl rfl (by kernel_rfl) (by kernel_rfl) (by kernel_rfl) (by kernel_rfl) (fun _ _ _ h => h) (by rfl) ?_ ?_
                · intro wk hk
                  go_simp
                  try with_reducible rfl
                try simp only [Act.put, List.setIfInBounds_toArray, List.set_cons_zero, List.set_cons_succ]
                refine wpGrow_take (i := 1) (d := some 33) (v := .agg (matV N)) rfl rfl (by kernel_rfl) (by kernel_rfl) (by kernel_rfl) (by kernel_rfl) (fun _ _ _ h => h) (by rfl) ?_ ?_
                · intro wk hk
                  exact exec_load_row wk _ (.tmp 5) 43 rfl w.heap.size 32 23 (matV N) Try.underlying43 (matV_size43 N) rfl (S.out.2.2.1.kept (grown_trans (grown_drew wr none) hk) (by simp))
                try simp only [Act.put, List.setIfInBounds_toArray, List.set_cons_zero, List.set_cons_succ]
                refine wpGrow_take (i := 2) (d := some 34) (v := .int .i64 k) rfl rfl (by kernel_rfl) (by kernel_rfl) (by kernel_rfl) (by kernel_rfl) (fun _ _ _ h => h) (by rfl) ?_ ?_
                · intro wk hk
                  go_simp
                  try with_reducible rfl
                try simp only [Act.put, List.setIfInBounds_toArray, List.set_cons_zero, List.set_cons_succ]
                refine wpGrow_take (i := 3) (d := some 35) (v := .pointer (some ⟨w.heap.size, k, none⟩)) rfl rfl (by kernel_rfl) (by kernel_rfl) (by kernel_rfl) (by kernel_rfl) (fun _ _ _ h => h) (by rfl) ?_ ?_
                · intro wk hk
                  go_simp
                  try with_reducible rfl
                try simp only [Act.put, List.setIfInBounds_toArray, List.set_cons_zero, List.set_cons_succ]
                refine wpGrow_take (i := 4) (d := some 36) (v := .int .u32 (Tn N (2 ^ k))) rfl rfl (by kernel_rfl) (by kernel_rfl) (by kernel_rfl) (by kernel_rfl) (fun _ _ _ h => h) (by rfl) ?_ ?_
                · intro wk hk
                  have cc1 : wk.cell? ⟨w.heap.size, k, none⟩ = some (.int .u32 (Tn N (2 ^ k))) := by
                    rw [(S.out.2.2.1.kept (grown_trans (grown_drew wr none) hk) (by simp)).cell]
                    exact rowV_get 32 _ k hlt2
                  go_simp
                  try with_reducible rfl
                try simp only [Act.put, List.setIfInBounds_toArray, List.set_cons_zero, List.set_cons_succ]
                refine wpGrow_one (i := 5) rfl (by kernel_rfl) (by rfl) (fun K hK => ?_)
                go_simp
                refine Calls.mono (HCL.out _) ?_
                rintro e w3 ⟨rfl, g3⟩
                have ga : wr.grownBy w3 none := grown_trans (grown_drew wr none) g3
                have S3 : Hid (Filled 32 k (fun j => Tn (N + N) (2 ^ j)) cc ∧ Blk w3 w2.heap.size 43 cc ∧ Blk w3 w.heap.size 43 (matV N) ∧ w.grownBy w3 none) := by
                  obtain ⟨h1, h2, h3, h4⟩ := S.out
                  exact ⟨h1, h2.kept ga (by simp), h3.kept ga (by simp), grown_trans h4 ga⟩
                go_wp2_with fail
                refine hK.out _ _ (fun _ => g3) ?_
                clear hK K g3 ga
                obtain ⟨x0, hx0⟩ := S3.out.1.2.1 k hlt2
                have c2 : w3.cell? ⟨w2.heap.size, k, none⟩ = some (.int .u32 x0) := by rw [S3.out.2.1.cell, hx0]
                have f2 := S3.out.2.1.free k
                clear hx0
                try simp only [Act.put, List.setIfInBounds_toArray, List.set_cons_zero, List.set_cons_succ]
                refine wpGrow_one (i := 6) rfl (by kernel_rfl) (by rfl) (fun K hK => ?_)
                go_wp2_with fail
                refine hK.out _ _ (fun _ => grown_refl _ _) ?_
                clear hK K
                try simp only [Act.put, List.setIfInBounds_toArray, List.set_cons_zero, List.set_cons_succ]
                refine wpGrow_one (i := 7) rfl (by kernel_rfl) (by rfl) (fun K hK => ?_)
                go_wp2_with fail
                refine hK.out _ _ (fun h => absurd rfl h) ?_
                clear hK K
                refine wpGrow_done (by kernel_rfl) ?_
                refine (‹∀ (a : Act) (w : World), Code.wp Try.prog (Code.region 13 _ _) _ a w → _› _ _ ?_)
                go_wp2_with fail
                go_roundw
                case rel =>
                  obtain ⟨h1, h2, h3, h4⟩ := S3.out
                  have gs := grown_setCell w3 w2.heap.size k (.int .u32 (Tn (N + N) (2 ^ k)))
                  exact ⟨k + 1, _, by omega, by go_num, h1.set _ rfl hlt2, h2.store k _, h3.kept gs (by simp; omega), grown_new h4 gs (by intro x hx; simp at hx; omega)⟩
                case measure => simp [intOf]; omega
              · have e : k = 32 := by omega
                subst e
                have e2 := hf.all
                subst e2
                have S : Hid (Blk wr w2.heap.size 43 (matV (N + N)) ∧ Blk wr w.heap.size 43 (matV N) ∧ w.grownBy wr none) := ⟨hb1, hb2, hg⟩
                obtain ⟨m2, hm2⟩ : ∃ m2 : Nat, m / 2 = m2 := ⟨_, rfl⟩
                have hd2 : (m : Int) / 2 = (m2 : Int) := by omega
                have HM2 : Hid (m / 2 = m2) := hm2
                clear hm2
                clear hf hb1 hb2 hg
                go_wp2_with (first | (refine wpList_load_row _ rfl (.tmp 7) 43 rfl w2.heap.size 32 23 (matV (N + N)) Try.underlying43 (matV_size43 _) rfl S.out.1 ?_) | (refine wpList_store_row _ rfl rfl (.tmp 5) (.tmp 39) 43 rfl w.heap.size (matV (N + N)) (matV N) (matV_size43 _) (by rw [matV_size, matV_size]) (rowV_one _ _) rfl rfl S.out.2.1 ?_))
                have S4 : Hid (Blk (wr.setRow w.heap.size (matV (N + N))) w.heap.size 43 (matV (N + N)) ∧ w.grownBy (wr.setRow w.heap.size (matV (N + N))) none) := ⟨S.out.2.1.row _, grown_new S.out.2.2 (grown_setRow _ _ _) (by intro x hx; simp at hx; omega)⟩
                have HI3 := HI2.out
                rw [HM2.out] at HI3
                have hlm := HM2.out
                go_roundw
                case rel => exact ⟨_, _, _, _, _, _, _, _, _, _, _, _, _, _, _, _, _, _, _, _, _, _, _, _, _, _, ⟨t2, m2, N + N, rfl, by go_num, ht2, by omega, HI3, S4.out.1, S4.out.2⟩, rfl⟩
                case measure => simp [intOf]; omega
          · have g0 : decide ((m : Int) > 0) = true := by simp; omega
            have g1 : ((m : Int) % 2 == 1) = false := by simp; omega
            have HI2 : Hid _ := sq_even HI.out (by omega)
            obtain ⟨w2, hw2⟩ : ∃ w2, w2 = wr := ⟨_, rfl⟩
            subst hw2
            obtain ⟨t2, het2⟩ : ∃ t2, t2 = t := ⟨_, rfl⟩
            subst het2
            have HR2 : Hid (Blk w2 w.heap.size 43 (matV N) ∧ w.grownBy w2 none) := HR.out
            have ht2 := ht
            clear HR HI ht
            go_wp2_with fail
            have HBQ : Hid (Blk (w2.alloc (.cells (Array.replicate 32 (.int .u32 0)) 43)) w2.heap.size 43 (Array.replicate 32 (.int .u32 0)) ∧ Blk (w2.alloc (.cells (Array.replicate 32 (.int .u32 0)) 43)) w.heap.size 43 (matV N) ∧ w.grownBy (w2.alloc (.cells (Array.replicate 32 (.int .u32 0)) 43)) none) :=
              ⟨heap_alloc_new _ _, HR2.out.1.kept (World.grownBy_alloc _ _ none) (by simp), grown_trans HR2.out.2 (World.grownBy_alloc _ _ _)⟩
            have hq0 : w.heap.size < w2.heap.size := (Array.getElem?_eq_some_iff.1 HR2.out.1).1
            go_loopw [8] (fun i wq => ∃ (k : Nat) (cc : Array Value), k ≤ 32 ∧ i = .int .i64 k ∧ Filled 32 k (fun j => Tn (N + N) (2 ^ j)) cc ∧ Blk wq w2.heap.size 43 cc ∧ Blk wq w.heap.size 43 (matV N) ∧ w.grownBy wq none) (fun i _ => 32 - (intOf i).toNat)
            case atStart => exact ⟨0, _, by omega, rfl, filled_zero 32 _, HBQ.out.1, HBQ.out.2.1, HBQ.out.2.2⟩
            case round =>
              obtain ⟨k, cc, hk, rfl, hf, hb1, hb2, hg⟩ := hrel
              by_cases hlt2 : k < 32
              · have S : Hid (Filled 32 k (fun j => Tn (N + N) (2 ^ j)) cc ∧ Blk wr w2.heap.size 43 cc ∧ Blk wr w.heap.size 43 (matV N) ∧ w.grownBy wr none) := ⟨hf, hb1, hb2, hg⟩
                have i1 : (0 : Int) ≤ (k : Int) := by omega
                have i2 : (k : Int) < 32 := by omega
                have HCL : Hid (∀ w', Calls Try.prog 20 #[.agg (matV N), .int .u32 (Tn N (2 ^ k))] w' fun e w'' => e = .returned (.int .u32 (Tn (N + N) (2 ^ k))) ∧ w'.grownBy w'' none) := by
                  intro w'
                  have h := through20 N (Tn N (2 ^ k)) w' (mat_lt N hlt2)
                  rw [← Tn_add] at h
                  exact h
                clear hf hb1 hb2 hg
                go_wp2_with fail
                refine wp_region_noPanic ?_
                refine wp_region_grow 7 (by kernel_rfl) ?_
                refine wpGrow_take (i := 0) (d := some 32) (v := .int .i64 k) rfl rfl (by kernel_rfl) (by kernel_rfl) (by kernel_rfl) (by kernel_rfl) (fun _ _ _ h => h) (by rfl) ?_ ?_
                · intro wk hk
                  go_simp
                  try with_reducible rfl
                try simp only [Act.put, List.setIfInBounds_toArray, List.set_cons_zero, List.set_cons_succ]
                refine wpGrow_take (i := 1) (d := some 33) (v := .agg (matV N)) rfl rfl (by kernel_rfl) (by kernel_rfl) (by kernel_rfl) (by kernel_rfl) (fun _ _ _ h => h) (by rfl) ?_ ?_
                · intro wk hk
                  exact exec_load_row wk _ (.tmp 5) 43 rfl w.heap.size 32 23 (matV N) Try.underlying43 (matV_size43 N) rfl (S.out.2.2.1.kept (grown_trans (grown_drew wr none) hk) (by simp))
                try simp only [Act.put, List.setIfInBounds_toArray, List.set_cons_zero, List.set_cons_succ]
                refine wpGrow_take (i := 2) (d := some 34) (v := .int .i64 k) rfl rfl (by kernel_rfl) (by kernel_rfl) (by kernel_rfl) (by kernel_rfl) (fun _ _ _ h => h) (by rfl) ?_ ?_
                · intro wk hk
                  go_simp
                  try with_reducible rfl
                try simp only [Act.put, List.setIfInBounds_toArray, List.set_cons_zero, List.set_cons_succ]
                refine wpGrow_take (i := 3) (d := some 35) (v := .pointer (some ⟨w.heap.size, k, none⟩)) rfl rfl (by kernel_rfl) (by kernel_rfl) (by kernel_rfl) (by kernel_rfl) (fun _ _ _ h => h) (by rfl) ?_ ?_
                · intro wk hk
                  go_simp
                  try with_reducible rfl
                try simp only [Act.put, List.setIfInBounds_toArray, List.set_cons_zero, List.set_cons_succ]
                refine wpGrow_take (i := 4) (d := some 36) (v := .int .u32 (Tn N (2 ^ k))) rfl rfl (by kernel_rfl) (by kernel_rfl) (by kernel_rfl) (by kernel_rfl) (fun _ _ _ h => h) (by rfl) ?_ ?_
                · intro wk hk
                  have cc1 : wk.cell? ⟨w.heap.size, k, none⟩ = some (.int .u32 (Tn N (2 ^ k))) := by
                    rw [(S.out.2.2.1.kept (grown_trans (grown_drew wr none) hk) (by simp)).cell]
                    exact rowV_get 32 _ k hlt2
                  go_simp
                  try with_reducible rfl
                try simp only [Act.put, List.setIfInBounds_toArray, List.set_cons_zero, List.set_cons_succ]
                refine wpGrow_one (i := 5) rfl (by kernel_rfl) (by rfl) (fun K hK => ?_)
                go_simp
                refine Calls.mono (HCL.out _) ?_
                rintro e w3 ⟨rfl, g3⟩
                have ga : wr.grownBy w3 none := grown_trans (grown_drew wr none) g3
                have S3 : Hid (Filled 32 k (fun j => Tn (N + N) (2 ^ j)) cc ∧ Blk w3 w2.heap.size 43 cc ∧ Blk w3 w.heap.size 43 (matV N) ∧ w.grownBy w3 none) := by
                  obtain ⟨h1, h2, h3, h4⟩ := S.out
                  exact ⟨h1, h2.kept ga (by simp), h3.kept ga (by simp), grown_trans h4 ga⟩
                go_wp2_with fail
                refine hK.out _ _ (fun _ => g3) ?_
                clear hK K g3 ga
                obtain ⟨x0, hx0⟩ := S3.out.1.2.1 k hlt2
                have c2 : w3.cell? ⟨w2.heap.size, k, none⟩ = some (.int .u32 x0) := by rw [S3.out.2.1.cell, hx0]
                have f2 := S3.out.2.1.free k
                clear hx0
                try simp only [Act.put, List.setIfInBounds_toArray, List.set_cons_zero, List.set_cons_succ]
                refine wpGrow_one (i := 6) rfl (by kernel_rfl) (by rfl) (fun K hK => ?_)
                go_wp2_with fail
                refine hK.out _ _ (fun _ => grown_refl _ _) ?_
                clear hK K
                try simp only [Act.put, List.setIfInBounds_toArray, List.set_cons_zero, List.set_cons_succ]
                refine wpGrow_one (i := 7) rfl (by kernel_rfl) (by rfl) (fun K hK => ?_)
                go_wp2_with fail
                refine hK.out _ _ (fun h => absurd rfl h) ?_
                clear hK K
                refine wpGrow_done (by kernel_rfl) ?_
                refine (‹∀ (a : Act) (w : World), Code.wp Try.prog (Code.region 13 _ _) _ a w → _› _ _ ?_)
                go_wp2_with fail
                go_roundw
                case rel =>
                  obtain ⟨h1, h2, h3, h4⟩ := S3.out
                  have gs := grown_setCell w3 w2.heap.size k (.int .u32 (Tn (N + N) (2 ^ k)))
                  exact ⟨_, _, _, _, _, _, _, _, _, _, _, _, ⟨k + 1, _, by omega, by go_num, h1.set _ rfl hlt2, h2.store k _, h3.kept gs (by simp; omega), grown_new h4 gs (by intro x hx; simp at hx; omega)⟩, rfl⟩
                case measure => simp [intOf]; omega
              · have e : k = 32 := by omega
                subst e
                have e2 := hf.all
                subst e2
                have S : Hid (Blk wr w2.heap.size 43 (matV (N + N)) ∧ Blk wr w.heap.size 43 (matV N) ∧ w.grownBy wr none) := ⟨hb1, hb2, hg⟩
                obtain ⟨m2, hm2⟩ : ∃ m2 : Nat, m / 2 = m2 := ⟨_, rfl⟩
                have hd2 : (m : Int) / 2 = (m2 : Int) := by omega
                have HM2 : Hid (m / 2 = m2) := hm2
                clear hm2
                clear hf hb1 hb2 hg
                go_wp2_with (first | (refine wpList_load_row _ rfl (.tmp 7) 43 rfl w2.heap.size 32 23 (matV (N + N)) Try.underlying43 (matV_size43 _) rfl S.out.1 ?_) | (refine wpList_store_row _ rfl rfl (.tmp 5) (.tmp 39) 43 rfl w.heap.size (matV (N + N)) (matV N) (matV_size43 _) (by rw [matV_size, matV_size]) (rowV_one _ _) rfl rfl S.out.2.1 ?_))
                have S4 : Hid (Blk (wr.setRow w.heap.size (matV (N + N))) w.heap.size 43 (matV (N + N)) ∧ w.grownBy (wr.setRow w.heap.size (matV (N + N))) none) := ⟨S.out.2.1.row _, grown_new S.out.2.2 (grown_setRow _ _ _) (by intro x hx; simp at hx; omega)⟩
                have HI3 := HI2.out
                rw [HM2.out] at HI3
                have hlm := HM2.out
                go_roundw
                case rel => exact ⟨_, _, _, _, _, _, _, _, _, _, _, _, _, _, _, _, _, _, _, _, _, _, _, _, _, _, ⟨t2, m2, N + N, rfl, by go_num, ht2, by omega, HI3, S4.out.1, S4.out.2⟩, rfl⟩
                case measure => simp [intOf]; omega
        · have e : m = 0 := by omega
          subst e
          have e4 : t = zeros s n := HI.out
          go_wp2_with fail
          go_ret
          exact ⟨by rw [e4]; rfl, HR.out.2⟩
end Go.Proofs.Ytdmnnfppjhpdkaa
