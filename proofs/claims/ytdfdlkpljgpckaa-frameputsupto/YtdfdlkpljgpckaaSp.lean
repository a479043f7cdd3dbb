/-
  What a header says; bytes split into a header and a body.
-/
import Derived.Test.YtdfdlkpljgpckaaHd
namespace Go.Proofs.Ytdfdlkpljgpckaa
open Go.RowKit Disk
open Crc (sum sum_lt)

theorem or_add (i a b : Nat) (h : b < 2 ^ i) : a * 2 ^ i ||| b = a * 2 ^ i + b := by
  have := Nat.two_pow_add_eq_or_of_lt h a
  rw [Nat.mul_comm a, ← this]
theorem or_word (b1 b2 b3 b4 : Nat) (h1 : b1 < 256) (h2 : b2 < 256) (h3 : b3 < 256) (h4 : b4 < 256) : bits .or .u32 (bits .or .u32 (bits .or .u32 ((b1 : Int) * 16777216) ((b2 : Int) * 65536)) ((b3 : Int) * 256)) (b4 : Int) = ((b1 * 16777216 + b2 * 65536 + b3 * 256 + b4 : Nat) : Int) := by
  have e1 : bits .or .u32 ((b1 : Int) * 16777216) ((b2 : Int) * 65536) = ((b1 * 16777216 + b2 * 65536 : Nat) : Int) := by
    have := u32_or_nat (b1 * 16777216) (b2 * 65536) (by omega) (by omega)
    rw [or_add 24 b1 (b2 * 65536) (by omega)] at this
    exact this
  have e2 : bits .or .u32 ((b1 * 16777216 + b2 * 65536 : Nat) : Int) ((b3 : Int) * 256) = ((b1 * 16777216 + b2 * 65536 + b3 * 256 : Nat) : Int) := by
    have := u32_or_nat (b1 * 16777216 + b2 * 65536) (b3 * 256) (by omega) (by omega)
    rw [show b1 * 16777216 + b2 * 65536 = (b1 * 256 + b2) * 2 ^ 16 from by omega, or_add 16 _ (b3 * 256) (by omega)] at this
    rw [show b1 * 16777216 + b2 * 65536 = (b1 * 256 + b2) * 2 ^ 16 from by omega]
    exact this
  rw [e1, e2]
  have := u32_or_nat (b1 * 16777216 + b2 * 65536 + b3 * 256) b4 (by omega) (by omega)
  rw [show b1 * 16777216 + b2 * 65536 + b3 * 256 = (b1 * 65536 + b2 * 256 + b3) * 2 ^ 8 from by omega, or_add 8 _ b4 (by omega)] at this
  rw [show b1 * 16777216 + b2 * 65536 + b3 * 256 = (b1 * 65536 + b2 * 256 + b3) * 2 ^ 8 from by omega]
  exact this

set_option maxRecDepth 100000 in
set_option maxHeartbeats 4000000 in
theorem length37 (a0 a1 a2 a3 a4 a5 a6 a7 a8 : UInt8) (w : World) : Calls Try.prog 37 #[.agg #[.int .u8 a0.toNat, .int .u8 a1.toNat, .int .u8 a2.toNat, .int .u8 a3.toNat, .int .u8 a4.toNat, .int .u8 a5.toNat, .int .u8 a6.toNat, .int .u8 a7.toNat, .int .u8 a8.toNat]] w fun e w' => e = .returned (.int .u32 (unbe a1 a2 a3 a4 : Nat)) ∧ w.grownBy w' none := by
  have h1 := a1.toNat_lt
  have h2 := a2.toNat_lt
  have h3 := a3.toNat_lt
  have h4 := a4.toNat_lt
  have HU : Hid (unbe a1 a2 a3 a4 = a1.toNat * 16777216 + a2.toNat * 65536 + a3.toNat * 256 + a4.toNat) := rfl
  obtain ⟨n, hn⟩ : ∃ n, unbe a1 a2 a3 a4 = n := ⟨_, rfl⟩
  rw [hn] at HU ⊢
  clear hn
  generalize a0.toNat = b0 at *
  generalize a1.toNat = b1 at *
  generalize a2.toNat = b2 at *
  generalize a3.toNat = b3 at *
  generalize a4.toNat = b4 at *
  generalize a5.toNat = b5 at *
  generalize a6.toNat = b6 at *
  generalize a7.toNat = b7 at *
  generalize a8.toNat = b8 at *
  go_enter Try.func37, Try.ntmps37
  go_wp2_with fail
  go_ret
  refine ⟨?_, World.grownBy_alloc _ _ _⟩
  rw [HU.out, ← or_word b1 b2 b3 b4 h1 h2 h3 h4]
  rfl

/-- How bytes are split. -/
def SplPost (L : List UInt8) (w : World) (e : Ending) (w' : World) : Prop :=
  ∃ H bv, H.length = 9 ∧ e = .returned (.tuple #[.agg (BV H).toArray, bv, .int .i64 (spl L : Nat)]) ∧ w.grownBy w' none ∧ (spl L ≠ 0 → bv = .slice none 0 0) ∧ (spl L = 0 → H = L.take 9 ∧ Seg w' bv (bodyOf L))

theorem nine_of {H : List UInt8} (h : H.length = 9) : ∃ a0 a1 a2 a3 a4 a5 a6 a7 a8, H = [a0, a1, a2, a3, a4, a5, a6, a7, a8] := by
  match H, h with
  | [a0, a1, a2, a3, a4, a5, a6, a7, a8], _ => exact ⟨_, _, _, _, _, _, _, _, _, rfl⟩
theorem bv_zeros (n : Nat) : List.replicate n (Value.int .u8 0) = BV (List.replicate n 0) := by
  induction n with
  | zero => rfl
  | succ n ih => rw [List.replicate_succ, List.replicate_succ, ih]; rfl

theorem Try.size5 : (Try.prog.info? 5).map (·.size) = some 1 := by kernel_rfl

/-- The beginning of bytes, laid over nine bytes 0. -/
def top9 (L : List UInt8) : List UInt8 := L.take 9 ++ List.replicate (9 - L.length) 0
theorem top9_len (L : List UInt8) : (top9 L).length = 9 := by unfold top9; simp; omega
theorem top9_take {L : List UInt8} (h : 9 ≤ L.length) : top9 L = L.take 9 := by unfold top9; rw [show 9 - L.length = 0 from by omega]; simp

theorem copy9 {ops : Array Oper} {rest : List Oper} {o : Oper} {a : Act} {Q : Exit → Act → World → Prop} {w : World} (hgd : o.guard = none) (d s : Operand)
    (ho : o.op = .call { callee := .builtin .copy, args := #[d, s], argTypes := #[22, 22] }) (g : Nat) (v : Value) (L : List UInt8) (hd : a.eval d = .slice (some ⟨g, 0, none⟩) 9 9) (hs : a.eval s = v) (hv : Seg w v L)
    (hg : Blk w g 54 #[.int .u8 0, .int .u8 0, .int .u8 0, .int .u8 0, .int .u8 0, .int .u8 0, .int .u8 0, .int .u8 0, .int .u8 0]) (w0 : World) (hb : w0.grownBy w none) (hlt : w0.heap.size ≤ g)
    (h : ∀ w', Hid (Blk w' g 54 (BV (top9 L)).toArray) → Hid (w0.grownBy w' none) → wpList Try.prog ops Q rest (a.put o.dst (.int .i64 (Nat.min L.length 9 : Nat))) w') : wpList Try.prog ops Q (o :: rest) a w := by
  obtain ⟨ao, cap, hv'⟩ := hv.shape
  have hs2 : a.eval s = .slice ao L.length cap := by rw [hs, hv']
  have hl : (BV (L.take 9)).length = Nat.min L.length 9 := by rw [BV_len, List.length_take]; exact Nat.min_comm _ _
  refine wpList_copy_splice hgd d s 22 22 ho 5 Try.underlying22 Try.size5 _ _ 9 9 L.length cap hd hs2 g 0 [.int .u8 0, .int .u8 0, .int .u8 0, .int .u8 0, .int .u8 0, .int .u8 0, .int .u8 0, .int .u8 0, .int .u8 0] 54 hg (BV (L.take 9)) hl ?_ ?_ (BV_one _) w0.heap.size w0 (grown_below hb) hlt ?_
  · intro hpos
    refine ⟨rfl, ?_⟩
    rw [hv'] at hv
    have hsg := seg_take (Nat.min L.length 9) (Nat.min_le_left _ _) hv
    have e9 : L.take (Nat.min L.length 9) = L.take 9 := by
      by_cases h9 : 9 ≤ L.length
      · rw [show Nat.min L.length 9 = 9 from Nat.min_eq_right h9]
      · rw [show Nat.min L.length 9 = L.length from Nat.min_eq_left (by omega), List.take_length, List.take_of_length_le (by omega)]
    rw [e9] at hsg
    cases ao with
    | none =>
      obtain ⟨ao', cap', hvv, h1, h2, h3, h4⟩ := hsg
      simp at hvv
      have := h3 hvv.1.symm
      rw [BV_len] at hpos
      omega
    | some ad => exact ⟨ad, rfl, (seg_news hsg).2⟩
  · rw [hl]
    have := Nat.min_le_right L.length 9
    simp
    omega
  · intro w' hG hB
    rw [hl]
    refine h w' ?_ ⟨hB.os, hB.tape, hB.output, hB.size, fun k hk _ => hB.block k hk⟩
    unfold Hid
    have e : splice [Value.int .u8 0, .int .u8 0, .int .u8 0, .int .u8 0, .int .u8 0, .int .u8 0, .int .u8 0, .int .u8 0, .int .u8 0] 0 (BV (L.take 9)) = BV (top9 L) := by
      unfold splice top9
      rw [BV_append, hl, ← bv_zeros]
      simp only [List.take_zero, List.nil_append, Nat.zero_add]
      congr 1
      show (List.replicate 9 (Value.int .u8 0)).drop _ = _
      rw [List.drop_replicate]
      congr 1
      have e : Nat.min L.length 9 = min L.length 9 := rfl
      rw [e]
      omega
    rw [← e]
    exact hG.out

theorem load54 {w : World} {g : Nat} {C : Array Value} (hg : Blk w g 54 C) (hi : (Try.prog.info? 54).map (·.size) = some C.size) : (loadVar 54 ⟨g, 0, none⟩).run Try.prog w = .ok (.agg C) w := run_loadVar_row w g 54 54 C (0, 0) _ hg Try.underlying54 rfl hi
theorem load25 {w : World} {g : Nat} {x y : Value} (hg : Blk w g 25 #[x, y]) : (loadVar 25 ⟨g, 0, none⟩).run Try.prog w = .ok (.agg #[x, y]) w := run_loadVar_row w g 25 25 #[x, y] (0, 0) _ hg Try.underlying25 rfl (by kernel_rfl)
/-- Three results, the first through its block. -/
theorem told3 {fn : Func} {p u x : Tmp} {ty : TypeId} (h : fn.results = #[.cell p ty, .tmp u, .tmp x]) {tmps : Array Value} {w : World} {g : Nat} {C a b : Value} (hl : (loadVar ty ⟨g, 0, none⟩).run Try.prog w = .ok C w) (hp : tmps.getD p undef = .pointer (some ⟨g, 0, none⟩)) (ha : tmps.getD u undef = a) (hb : tmps.getD x undef = b) :
    (results fn tmps).run Try.prog w = .ok (.tuple #[C, a, b]) w := by
  simp only [Array.getD_eq_getD_getElem?] at hp ha hb
  simp only [results, h]
  simp [Result.andThen, hp, ha, hb, asAddr, hl]
/-- Two results, the first through its block. -/
theorem told2 {fn : Func} {p u : Tmp} {ty : TypeId} (h : fn.results = #[.cell p ty, .tmp u]) {tmps : Array Value} {w : World} {g : Nat} {C a : Value} (hl : (loadVar ty ⟨g, 0, none⟩).run Try.prog w = .ok C w) (hp : tmps.getD p undef = .pointer (some ⟨g, 0, none⟩)) (ha : tmps.getD u undef = a) :
    (results fn tmps).run Try.prog w = .ok (.tuple #[C, a]) w := by
  simp only [Array.getD_eq_getD_getElem?] at hp ha
  simp only [results, h]
  simp [Result.andThen, hp, ha, asAddr, hl]

theorem bv_all (L : List UInt8) : (BV L).toArray.all (·.oneCell') = true := by
  rw [List.all_toArray]
  exact List.all_eq_true.2 fun u hu => BV_one _ u hu
theorem bv_size {L : List UInt8} (h : L.length = 9) : (Try.prog.info? 54).map (·.size) = some (BV L).toArray.size := by
  rw [show (BV L).toArray.size = 9 from by simp [BV_len, h]]
  exact Try.size54

set_option maxRecDepth 100000 in
set_option maxHeartbeats 4000000 in
theorem split33_few (v : Value) (L : List UInt8) (w : World) (hs : Seg w v L) (hL : L.length < 9) : Calls Try.prog 33 #[v] w (SplPost L w) := by
  obtain ⟨ao, cap, hv⟩ := hs.shape
  subst hv
  obtain ⟨n, hn⟩ : ∃ n, L.length = n := ⟨_, rfl⟩
  have HS : Hid (Seg w (.slice ao n cap) L) := by rw [← hn]; exact hs
  have HN : Hid _ := hn
  rw [hn] at hL ⊢
  clear hn hs
  have HZ : Hid _ := bv_size (top9_len L)
  obtain ⟨C, hC⟩ : ∃ C, (BV (top9 L)).toArray = C := ⟨_, rfl⟩
  have HA : Hid _ := bv_all (top9 L)
  have HC : Hid _ := hC
  rw [hC] at HZ HA
  clear hC
  go_enter Try.func33, Try.ntmps33
  go_wp2_with (refine copy9 rfl (.tmp 7) (.tmp 8) rfl w.heap.size _ L rfl rfl (HS.out.grown (World.grownBy_alloc _ _ _)) (heap_alloc_new _ _) w (World.grownBy_alloc _ _ _) (Nat.le_refl _) ?_)
  intro w2 HB HG
  rw [HC.out] at HB
  rw [HN.out, show Nat.min n 9 = n from Nat.min_eq_left (by omega)]
  have hi : (n : Int) < 9 := by omega
  go_wp2_with (first | (refine Crc.wpList_load_row _ rfl (.tmp 2) 54 rfl w.heap.size 9 5 C Try.underlying54 HZ.out rfl HB.out ?_) | (refine Crc.wpList_store_row _ rfl rfl (.tmp 2) (.tmp 11) 54 rfl w.heap.size C C HZ.out rfl HA.out rfl rfl HB.out ?_; rw [setRow_self _ _ _ _ _ HB.out]))
  refine bodyPost_ret (told3 rfl (load54 HB.out HZ.out) rfl rfl rfl) rfl ?_
  have e : spl L = 140 := by unfold spl; rw [HN.out, if_pos (by omega)]
  refine ⟨top9 L, _, top9_len L, ?_, HG.out, fun _ => rfl, fun h => absurd h (by omega)⟩
  rw [e, HC.out]
  rfl
end Go.Proofs.Ytdfdlkpljgpckaa
