/-
  The exported functions, and the document's: Sum, More, Holds, Zeros, Join.
-/
import Derived.Test.YtdfdlkpljgpckaaCrcI
namespace Go.Proofs.Ytdfdlkpljgpckaa.Crc
open Go.RowKit
attribute [local go_sem ↓] Go.wp_at_zero Go.wp_at_succ

/-- A list of slices of bytes. -/
def Segs (w : World) (v : Value) (Ls : List (List UInt8)) : Prop :=
  ∃ ao cap, v = .slice ao Ls.length cap ∧ Ls.length ≤ 9223372036854775807 ∧ ∀ j (hj : j < Ls.length), ∃ b off x, ao = some ⟨b, off, none⟩ ∧ w.cell? ⟨b, off + j, none⟩ = some x ∧ Seg w x Ls[j]

theorem Segs.grown {w w' : World} {v : Value} {Ls : List (List UInt8)} (h : Segs w v Ls) (hg : w.grownBy w' none) : Segs w' v Ls := by
  obtain ⟨ao, cap, h1, h2, h3⟩ := h
  refine ⟨ao, cap, h1, h2, fun j hj => ?_⟩
  obtain ⟨b, off, x, q1, q2, q3⟩ := h3 j hj
  exact ⟨b, off, x, q1, hg.cell q2 (by simp), q3.grown hg⟩

theorem max32 : IntKind.u32.max = ((4294967295 : Nat) : Int) := by decide
theorem ones_xor {a : Nat} (h : a < 4294967296) : bits .xor .u32 IntKind.u32.max (a : Int) = (inv a : Int) := by
  rw [max32, u32_xor_nat 4294967295 a (by omega) h, Nat.xor_comm]
  rfl
theorem xor_ones {a : Nat} (h : a < 4294967296) : bits .xor .u32 (a : Int) 4294967295 = (inv a : Int) := u32_xor_nat a 4294967295 h (by omega)
theorem inv0 : inv 0 = 4294967295 := by decide

set_option maxRecDepth 100000 in
set_option maxHeartbeats 400000 in
theorem sum7 (v : Value) (Ls : List (List UInt8)) (w : World) (hL : Segs w v Ls) :
    Calls Try.prog 31 #[v] w fun e w' => e = .returned (.int .u32 (sum Ls.flatten)) ∧ w.grownBy w' none := by
  obtain ⟨ao, cap, rfl, hlen, hcells⟩ := hL
  have HC : Hid _ := hcells
  clear hcells
  go_enter Try.func31, Try.ntmps31
  go_wp2_with fail
  refine (nibbles17 _).mono ?_
  rintro e w1 ⟨rfl, g1⟩
  have G1 : Hid (w.grownBy (w1.alloc (.cells tabV 68)) none ∧ Blk (w1.alloc (.cells tabV 68)) w1.heap.size 68 tabV) := ⟨grown_trans g1 (World.grownBy_alloc _ _ _), heap_alloc_new _ _⟩
  clear g1
  go_wp2_with (first | (refine wpList_store_row _ rfl rfl (.tmp 3) (.tmp 7) 68 rfl w1.heap.size tabV (Array.replicate 16 (.int .u32 0)) (by rw [tabV_size]; exact Try.size68) (by rw [tabV_size]; simp) (rowV_one _ _) rfl rfl (heap_alloc_new w1 _) ?_; rw [World.setRow_alloc_new]))
  go_loopw [4, 10] (fun s i wr => ∃ k : Nat, k ≤ Ls.length ∧ s = .int .u32 (crcL 4294967295 (Ls.take k).flatten) ∧ i = .int .i64 k ∧ Blk wr w1.heap.size 68 tabV ∧ w.grownBy wr none) (fun _ i _ => Ls.length - (intOf i).toNat)
  case atStart => exact ⟨0, by omega, rfl, rfl, G1.out.2, G1.out.1⟩
  case round =>
    obtain ⟨k, hk, rfl, rfl, hb, hg⟩ := hrel
    have hlt32 := crcL_lt (Ls.take k).flatten (s := 4294967295) (by omega)
    by_cases hlt : k < Ls.length
    · have HE : Hid (crcL 4294967295 (Ls.take (k + 1)).flatten = crcL (crcL 4294967295 (Ls.take k).flatten) Ls[k]) := by
        unfold Hid
        rw [List.take_succ_eq_append_getElem hlt, List.flatten_append, crcL_append]
        simp
      obtain ⟨bb, off, x, rfl, hcell, hseg⟩ := HC.out k hlt
      have c1 := hg.cell hcell (by simp)
      have HS : Hid (Seg wr x Ls[k]) := hseg.grown hg
      have HR : Hid (Blk wr w1.heap.size 68 tabV ∧ w.grownBy wr none) := ⟨hb, hg⟩
      obtain ⟨a, hea⟩ : ∃ a, crcL 4294967295 (Ls.take k).flatten = a := ⟨_, rfl⟩
      rw [hea] at HE hlt32 ⊢
      have i1 : (0 : Int) ≤ (k : Int) := by omega
      have i2 : (k : Int) < (Ls.length : Int) := by omega
      clear hb hg hcell hseg hea
      go_wp2_with (first | (refine wpList_load_row _ rfl (.tmp 3) 68 rfl w1.heap.size 16 50 tabV Try.underlying68 (by rw [tabV_size]; exact Try.size68) rfl HR.out.1 ?_))
      refine (behind18 a _ _ _ hlt32 HS.out).mono ?_
      rw [← HE.out]
      rintro e w2 ⟨rfl, g2⟩
      have HR2 : Hid (Blk w2 w1.heap.size 68 tabV ∧ w.grownBy w2 none) := ⟨HR.out.1.kept g2 (by simp), grown_trans HR.out.2 g2⟩
      clear g2 HR HS
      go_wp2_with fail
      go_roundw
      case rel => exact ⟨k + 1, by omega, rfl, by go_num, HR2.out.1, HR2.out.2⟩
      case measure => simp [intOf]; omega
    · have e : k = Ls.length := by omega
      subst e
      rw [List.take_length] at hlt32 ⊢
      have e2 : Hid (sum Ls.flatten = inv (crcL 4294967295 Ls.flatten)) := by
        unfold Hid sum more
        rw [inv0]
      have ox := ones_xor hlt32
      obtain ⟨a, hea⟩ : ∃ a, crcL 4294967295 Ls.flatten = a := ⟨_, rfl⟩
      rw [hea] at ox e2 hlt32 ⊢
      obtain ⟨r, her⟩ : ∃ r, inv a = r := ⟨_, rfl⟩
      rw [her] at ox e2
      have HG : Hid _ := hg
      clear hb hg hea her
      go_wp2_with fail
      go_ret
      exact ⟨by rw [e2.out]; rfl, HG.out⟩

set_option maxRecDepth 100000 in
set_option maxHeartbeats 400000 in
theorem more10 (s : Nat) (v : Value) (L : List UInt8) (w : World) (hs : s < 4294967296) (hL : Seg w v L) :
    Calls Try.prog 30 #[.int .u32 s, v] w fun e w' => e = .returned (.int .u32 (more s L)) ∧ w' = w := by
  obtain ⟨ao, cap, rfl⟩ := hL.shape
  have hlen := hL.len
  have HL : Hid _ := hL
  have x1 := xor_ones hs
  have hi := inv_lt hs
  have HM : Hid (more s L = inv (crcL (inv s) L)) := rfl
  obtain ⟨s0, hs0⟩ : ∃ s0, inv s = s0 := ⟨_, rfl⟩
  rw [hs0] at x1 hi HM
  clear hL hs0
  go_enter Try.func30, Try.ntmps30
  go_wp2_with fail
  go_loopw [5, 6] (fun x i wr => ∃ k : Nat, k ≤ L.length ∧ x = .int .u32 (crcL s0 (L.take k)) ∧ i = .int .i64 k ∧ wr = w) (fun _ i _ => L.length - (intOf i).toNat)
  case atStart => exact ⟨0, by omega, rfl, rfl, rfl⟩
  case round =>
    obtain ⟨k, hk, rfl, rfl, rfl⟩ := hrel
    have ha := crcL_lt (L.take k) hi
    by_cases hlt : k < L.length
    · have e1 : crcL s0 (L.take (k + 1)) = crcB (crcL s0 (L.take k)) L[k] := by
        rw [List.take_succ_eq_append_getElem hlt, crcL_snoc]
      obtain ⟨a, hea⟩ : ∃ a, crcL s0 (L.take k) = a := ⟨_, rfl⟩
      obtain ⟨_, _, hv, _, _, _, h4⟩ := HL.out
      simp at hv
      obtain ⟨rfl, rfl⟩ := hv
      obtain ⟨bb, off, rfl, hcell⟩ := h4 k hlt
      obtain ⟨c, hc⟩ : ∃ c : UInt8, L[k] = c := ⟨_, rfl⟩
      rw [hc] at hcell e1
      have hx := byte_lt c
      rw [hea] at ha e1 ⊢
      unfold crcB at e1
      obtain ⟨x, hex⟩ : ∃ x : Nat, c.toNat = x := ⟨_, rfl⟩
      rw [hex] at hcell e1 hx
      have f1 : bits .xor .u32 (a : Int) (x : Int) = ((a ^^^ x : Nat) : Int) := u32_xor_nat a x ha (by omega)
      have hy1 : a ^^^ x < 4294967296 := Nat.xor_lt_two_pow (n := 32) ha (by omega)
      obtain ⟨y1, hey1⟩ : ∃ y, a ^^^ x = y := ⟨_, rfl⟩
      rw [hey1] at f1 hy1 e1
      have HE : Hid _ := e1
      have i1 : (0 : Int) ≤ (k : Int) := by omega
      have i2 : (k : Int) < (L.length : Int) := by omega
      have wx : IntKind.u32.wrap (x : Int) = (x : Int) := by rw [IntKind.wrap_u32']; omega
      clear e1 hea h4 hc hex hey1
      go_wp2_with fail
      refine (step19 y1 hy1 _).mono ?_
      rw [← HE.out]
      rintro e w1 ⟨rfl, he⟩; subst he
      go_wp2_with fail
      go_roundw
      case rel => exact ⟨k + 1, by omega, rfl, by go_num, trivial⟩
      case measure => simp [intOf]; omega
    · have e : k = L.length := by omega
      subst e
      rw [List.take_length] at ha ⊢
      have ox := xor_ones ha
      rw [← HM.out] at ox
      obtain ⟨a, hea⟩ : ∃ a, crcL s0 L = a := ⟨_, rfl⟩
      rw [hea] at ox ⊢
      clear hea
      go_wp2_with fail
      go_ret
      exact ⟨rfl, rfl⟩

set_option maxRecDepth 100000 in
set_option maxHeartbeats 400000 in
theorem sum8 (v : Value) (L : List UInt8) (w : World) (hL : Seg w v L) :
    Calls Try.prog 21 #[v] w fun e w' => e = .returned (.int .u32 (sum L)) ∧ w' = w := by
  have HL : Hid _ := hL
  obtain ⟨ao, cap, rfl⟩ := hL.shape
  have HS : Hid (sum L = more 0 L) := rfl
  clear hL
  go_enter Try.func21, Try.ntmps21
  go_wp2_with fail
  refine (more10 0 _ L _ (by omega) HL.out).mono ?_
  rw [← HS.out]
  rintro e w1 ⟨rfl, he⟩; subst he
  go_wp2_with fail
  go_ret
  exact ⟨rfl, rfl⟩

theorem segs_one {w : World} {v : Value} {L : List UInt8} (h : Seg w v L) : Segs (w.alloc (.cells #[v] 22)) (.slice (some ⟨w.heap.size, 0, none⟩) 1 1) [L] := by
  refine ⟨_, 1, rfl, by simp, fun j hj => ⟨w.heap.size, 0, v, rfl, ?_, ?_⟩⟩
  · have e : j = 0 := by simp at hj; omega
    subst e
    rw [cell_of_row _ _ _ _ _ _ (heap_alloc_new w _)]
    rfl
  · have e : j = 0 := by simp at hj; omega
    subst e
    exact seg_alloc h _

theorem segs_two {w : World} {v u : Value} {L M : List UInt8} (h : Seg w v L) (hu : Seg w u M) : Segs (w.alloc (.cells #[v, u] 22)) (.slice (some ⟨w.heap.size, 0, none⟩) 2 2) [L, M] := by
  refine ⟨_, 2, rfl, by simp, fun j hj => ?_⟩
  have hj2 : j < 2 := hj
  match j, hj2 with
  | 0, _ => exact ⟨w.heap.size, 0, v, rfl, by rw [cell_of_row _ _ _ _ _ _ (heap_alloc_new w _)]; rfl, seg_alloc h _⟩
  | 1, _ => exact ⟨w.heap.size, 0, u, rfl, by rw [cell_of_row _ _ _ _ _ _ (heap_alloc_new w _)]; rfl, seg_alloc hu _⟩

theorem segs_nil (w : World) : Segs w (.slice none 0 0) [] := ⟨none, 0, rfl, by simp, fun j hj => absurd hj (by simp)⟩

end Go.Proofs.Ytdfdlkpljgpckaa.Crc
