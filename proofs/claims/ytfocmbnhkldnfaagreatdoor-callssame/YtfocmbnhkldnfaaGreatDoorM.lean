/-
  Lists of ops are read: Take and what it calls.
-/
import Derived.Test.YtfocmbnhkldnfaaGreatDoorL
namespace Go.Proofs.YtfocmbnhkldnfaaGreatDoor
open Go.RowKit Disk
open Names (Str)
open Wire (RdB RdG)

theorem OpsOwn.slice {w : World} {B : Nat} {v : Value} {l : List POp} (h : OpsOwn w B v l) : ∃ x n y, v = .slice x n y ∧ n = l.length := by obtain ⟨x, y, e⟩ := h.1.shape; exact ⟨x, _, y, e, rfl⟩

set_option maxRecDepth 100000 in
set_option maxHeartbeats 4000000 in
theorem things170 (b f n : Nat) (L : Bs) (w : World) (hn : n ≤ 100) (hz : L.length ≤ 140737488355328) (hr : RR w b L) (hf : Blk w f 129 #[.func (.func 89) #[] #[]]) :
    Calls Tryz.prog 170 #[.pointer (some ⟨b, 0, none⟩), .int .u64 n, .func (.func 134) #[] #[.pointer (some ⟨f, 0, none⟩)]] w (RdPost b w (pMany pOp n L) (fun l v w' => ∃ u, v = .tuple #[u, .int .i64 0] ∧ OpsOwn w' w.heap.size u l)) := by
  have HR : Hid (RR w b L ∧ Blk w f 129 #[.func (.func 89) #[] #[]]) := ⟨hr, hf⟩
  have hblt : b < w.heap.size := by obtain ⟨s, hs⟩ := hr.blk; exact hs.lt
  have hfb : f ≠ b := hr.ne hf (by decide)
  clear hr hf
  go_enter Tryz.func170, Tryz.ntmps170
  go_wp2_with fail
  go_loopw [8, 12] (fun v i wr => ∃ (k : Nat) (xs : List POp) (M : Bs), k ≤ n ∧ i = .int .u64 k ∧ Hid (pMany pOp k L = some (xs, M)) ∧ OpsOwn wr w.heap.size v xs ∧ RR wr b M ∧ w.grownBy wr (some b)) (fun _ i _ => n - (intOf i).toNat)
  case atStart => exact ⟨0, [], L, by omega, rfl, rfl, ⟨lrow_nil _ _, by simp⟩, HR.out.1, grown_refl _ _⟩
  case round =>
    obtain ⟨k, xs, M, hk, rfl, hp, hown, hrr, hg⟩ := hrel
    obtain ⟨hlen, hxs⟩ := pMany_len pOp_le k L xs M hp.out
    have hf1 : Blk wr f 129 #[.func (.func 89) #[] #[]] := HR.out.2.grown hg (fun e => hfb (by simpa using e.symm))
    by_cases hlt : k < n
    · have i2 : (k : Int) < (n : Int) := by omega
      have HO : Hid (OpsOwn wr w.heap.size u8 xs ∧ RR wr b M ∧ w.grownBy wr (some b) ∧ Blk wr f 129 #[.func (.func 89) #[] #[]]) := ⟨hown, hrr, hg, hf1⟩
      have hzM : M.length ≤ 140737488355328 := by omega
      clear hown hrr hg hf1
      go_wp2_with (go_at_call 134; refine (one134 b f M _ hzM HO.out.2.1 HO.out.2.2.2).mono ?_)
      intro e w1 h
      rcases h.symm with ⟨hx, rfl, hg1⟩ | ⟨o, M1, v, hx, rfl, ⟨u, rfl, k1, x1, ol1, t1, rfl, ho⟩, hR, hg1⟩
      · have F : Hid (pMany pOp n L = none ∧ w.grownBy w1 (some b)) := ⟨pMany_none k n L xs M hp.out hx hlt, grown_trans HO.out.2.2.1 hg1⟩
        clear hx hg1 h
        unfold Pan
        go_wp2_with fail
        exact ⟨rfl, .inr ⟨F.out.1, rfl, F.out.2⟩⟩
      clear h
      obtain ⟨s, hs⟩ := HO.out.2.1.blk
      have hown1 := HO.out.1.set hs (by decide) (by decide) hg1
      have HP : Hid (pMany pOp (k + 1) L = some (xs ++ [o], M1)) := by rw [pMany_snoc k L xs M hp.out, hx]; rfl
      obtain ⟨xa, na, ya, rfl⟩ := cut_slice ho.key
      obtain ⟨xb, nb, yb, rfl⟩ := cut_slice ho.value
      obtain ⟨xc, nc, yc, rfl⟩ := cut_slice ho.old
      obtain ⟨xd, nd, yd, rfl⟩ := cut_slice ho.tos
      have HQ : Hid (OpsOwn w1 w.heap.size u8 xs ∧ OpOwn w1 w.heap.size (.slice xa na ya) (.slice xb nb yb) (.slice xc nc yc) (.slice xd nd yd) o ∧ RR w1 b M1 ∧ w.grownBy w1 (some b) ∧ w.heap.size ≤ w1.heap.size) := ⟨hown1, ho.mono HO.out.2.2.1.size, hR, grown_trans HO.out.2.2.1 hg1, Nat.le_trans HO.out.2.2.1.size hg1.size⟩
      clear hx hg1 ho hR hown1 hs
      unfold opV Str
      have HX : Hid (OpsOwn ((w1.alloc (.cells #[.int .i64 o.kind, .string ⟨o.table.toArray⟩, .slice xa na ya, .slice xb nb yb, .bool o.has, .slice xc nc yc, .slice xd nd yd, .int .i64 o.most] 71)).alloc (.cells #[.int .i64 o.kind, .string ⟨o.table.toArray⟩, .slice xa na ya, .slice xb nb yb, .bool o.has, .slice xc nc yc, .slice xd nd yd, .int .i64 o.most] 71)) w.heap.size u8 xs) := HQ.out.1.grown (grown_trans (World.grownBy_alloc _ _ none) (World.grownBy_alloc _ _ none))
      have HY : Hid (OpOwn ((w1.alloc (.cells #[.int .i64 o.kind, .string ⟨o.table.toArray⟩, .slice xa na ya, .slice xb nb yb, .bool o.has, .slice xc nc yc, .slice xd nd yd, .int .i64 o.most] 71)).alloc (.cells #[.int .i64 o.kind, .string ⟨o.table.toArray⟩, .slice xa na ya, .slice xb nb yb, .bool o.has, .slice xc nc yc, .slice xd nd yd, .int .i64 o.most] 71)) w.heap.size (.slice xa na ya) (.slice xb nb yb) (.slice xc nc yc) (.slice xd nd yd) o) := HQ.out.2.1.grown (grown_trans (World.grownBy_alloc _ _ none) (World.grownBy_alloc _ _ none))
      have HZ : Hid (Blk ((w1.alloc (.cells #[.int .i64 o.kind, .string ⟨o.table.toArray⟩, .slice xa na ya, .slice xb nb yb, .bool o.has, .slice xc nc yc, .slice xd nd yd, .int .i64 o.most] 71)).alloc (.cells #[.int .i64 o.kind, .string ⟨o.table.toArray⟩, .slice xa na ya, .slice xb nb yb, .bool o.has, .slice xc nc yc, .slice xd nd yd, .int .i64 o.most] 71)) (w1.heap.size + 1) 71 #[.int .i64 o.kind, .string ⟨o.table.toArray⟩, .slice xa na ya, .slice xb nb yb, .bool o.has, .slice xc nc yc, .slice xd nd yd, .int .i64 o.most]) := by
        have := heap_alloc_new (w1.alloc (.cells #[.int .i64 o.kind, .string ⟨o.table.toArray⟩, .slice xa na ya, .slice xb nb yb, .bool o.has, .slice xc nc yc, .slice xd nd yd, .int .i64 o.most] 71)) (.cells #[.int .i64 o.kind, .string ⟨o.table.toArray⟩, .slice xa na ya, .slice xb nb yb, .bool o.has, .slice xc nc yc, .slice xd nd yd, .int .i64 o.most] 71)
        simpa [Blk, Hid] using this
      have HU : Hid (w.heap.size ≤ ((w1.alloc (.cells #[.int .i64 o.kind, .string ⟨o.table.toArray⟩, .slice xa na ya, .slice xb nb yb, .bool o.has, .slice xc nc yc, .slice xd nd yd, .int .i64 o.most] 71)).alloc (.cells #[.int .i64 o.kind, .string ⟨o.table.toArray⟩, .slice xa na ya, .slice xb nb yb, .bool o.has, .slice xc nc yc, .slice xd nd yd, .int .i64 o.most] 71)).heap.size) := by have := HQ.out.2.2.2.2; unfold Hid; simp; omega
      go_wp2_with (at_builtin; refine app71 _ rfl (.tmp 23) (.tmp 25) rfl w.heap.size u8 xs o _ _ _ _ _ rfl rfl HX.out HZ.out HY.out (by omega) HU.out ?_; intro g' cap' w3 o3 g3 l3)
      have S4 : Hid (OpsOwn w3 w.heap.size (.slice (some ⟨g', 0, none⟩) (xs.length + 1) cap') (xs ++ [o]) ∧ RR w3 b M1 ∧ w.grownBy w3 (some b)) := by
        have q1 : RR ((w1.alloc (.cells #[.int .i64 o.kind, .string ⟨o.table.toArray⟩, .slice xa na ya, .slice xb nb yb, .bool o.has, .slice xc nc yc, .slice xd nd yd, .int .i64 o.most] 71)).alloc (.cells #[.int .i64 o.kind, .string ⟨o.table.toArray⟩, .slice xa na ya, .slice xb nb yb, .bool o.has, .slice xc nc yc, .slice xd nd yd, .int .i64 o.most] 71)) b M1 := HQ.out.2.2.1.grown (grown_trans (World.grownBy_alloc _ _ none) (World.grownBy_alloc _ _ none))
        have q2 := grown_trans HQ.out.2.2.2.1 (grown_weak (grown_trans (World.grownBy_alloc w1 (.cells #[.int .i64 o.kind, .string ⟨o.table.toArray⟩, .slice xa na ya, .slice xb nb yb, .bool o.has, .slice xc nc yc, .slice xd nd yd, .int .i64 o.most] 71) none) (World.grownBy_alloc _ (.cells #[.int .i64 o.kind, .string ⟨o.table.toArray⟩, .slice xa na ya, .slice xb nb yb, .bool o.has, .slice xc nc yc, .slice xd nd yd, .int .i64 o.most] 71) none)) (some b))
        refine ⟨o3, ?_, grown_new q2 g3 (fun y hy => (HX.out.1.lt y hy).1)⟩
        cases hv : Value.ownBlock u8 with
        | none => rw [hv] at g3; exact q1.grown g3
        | some y =>
          rw [hv] at g3
          obtain ⟨vs, hvs, _⟩ := HX.out.1
          obtain ⟨cur, hcur⟩ := owns_blk hvs hv
          exact q1.set hcur g3 (by decide) (by decide)
      clear o3 g3 l3 HX HY HQ
      go_wp2_with fail
      go_roundw
      case rel => exact ⟨k + 1, xs ++ [o], M1, by omega, by go_num, HP.out, by have := S4.out.1; rw [hxs] at this; exact this, S4.out.2.1, S4.out.2.2⟩
      case measure => simp [intOf]; omega
    · have e : k = n := by omega
      subst e
      have HO : Hid (OpsOwn wr w.heap.size u8 xs ∧ RR wr b M ∧ w.grownBy wr (some b)) := ⟨hown, hrr, hg⟩
      clear hown hrr hg
      go_wp2_with fail
      go_ret2
      exact .inl ⟨xs, M, _, hp.out, rfl, ⟨_, rfl, HO.out.1⟩, HO.out.2.1, HO.out.2.2⟩

/-- The count that stands ahead. -/
theorem count169 (b : Nat) (L : Bs) (most : Nat) (w : World) (hm : most ≤ 9223372036854775807) (hr : RR w b L) :
    Calls Tryz.prog 169 #[.pointer (some ⟨b, 0, none⟩), .int .i64 most] w fun e w' => (∃ n M, pNum most L = some (n, M) ∧ e = .returned (.tuple #[.int .u64 n, .int .i64 0]) ∧ n ≤ most ∧ RR w' b M ∧ w.grownBy w' (some b)) ∨ (∃ er : Int, pNum most L = none ∧ (er != 0) = true ∧ e = .returned (.tuple #[.int .u64 0, .int .i64 er]) ∧ (∃ s2, Blk w' b 167 #[.bool true, s2]) ∧ w.grownBy w' (some b)) := by
  obtain ⟨g, hg, hk⟩ := rr_of hr
  obtain ⟨s, h1, h2, h3⟩ := hg
  unfold pNum
  cases hs : Wire.scan 0 0 L with
  | none =>
    refine (Wire.count50_none b true s L most w h1 h2 (by omega) hs).mono ?_
    rintro e w' ⟨rfl, rfl⟩
    exact .inr ⟨4, rfl, rfl, rfl, ⟨s, h1⟩, grown_refl _ _⟩
  | some nk =>
    obtain ⟨n, k⟩ := nk
    refine (Wire.count50_g b true s L n k most w h1 h2 g h3 (by omega) (by omega) hs).mono ?_
    rintro e w' ⟨rfl, t, ht, hit, rfl⟩
    by_cases hle : n ≤ most
    · rw [Wire.rdCount_ok (by omega) hs (by omega)]
      refine .inl ⟨n, L.drop k, by simp [hle], rfl, hle, hk _ _ ?_ (grown_setCell _ _ _ _) (fun h => by rw [h]; simp), grown_setCell _ _ _ _⟩
      exact Wire.after_count g n k h1 h2 h3 t ht hit
    · rw [Wire.rdCount_long (by omega) hs (by omega)]
      exact .inr ⟨3, by simp [hle], rfl, rfl, ⟨t, h1.store t⟩, grown_setCell _ _ _ _⟩
end Go.Proofs.YtfocmbnhkldnfaaGreatDoor
