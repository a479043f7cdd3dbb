/-
  The document's reader's other methods, and Open with the block of its bytes.
-/
import Derived.Test.YtneppkbbnajpnaaY
import Derived.Test.YtneppkbbnajpnaaEs
import Derived.Test.YtneppkbbnajpnaaJ
namespace Go.Proofs.Ytneppkbbnajpnaa
open Go.RowKit
attribute [local go_sem ↓] Go.wp_at_zero Go.wp_at_succ

set_option maxHeartbeats 400000 in
theorem open19_g (v : Value) (L : List UInt8) (w : World) (hs : Seg w v L) (hsz : L.length ≤ 140737488355328) :
    Calls Try.prog 19 #[v] w fun e w' => ∃ b, e = .returned (.pointer (some ⟨b, 0, none⟩)) ∧ w.heap.size ≤ b ∧ w.grownBy w' none ∧ ∃ g, g < w'.heap.size ∧ RdG w' b g L := by
  have HC : Hid _ := clone_any v L w hs (by omega)
  clear hs hsz
  go_enter Try.func19, Try.ntmps19
  go_wp2_with fail
  refine Calls.mono HC.out ?_
  rintro e w1 ⟨u, rfl, h1, h2⟩
  have hg : ∃ g, g < w1.heap.size + 1 ∧ InB g u := by
    cases hu : u.ownBlock with
    | none => exact ⟨w1.heap.size, by omega, fun y hy => by rw [hu] at hy; cases hy⟩
    | some k => exact ⟨k, Nat.lt_succ_of_lt (World.ownsRow.lt h1 k hu).2, fun y hy => by rw [hu] at hy; simp at hy; exact hy.symm⟩
  obtain ⟨g, hgl, hi⟩ := hg
  obtain ⟨ao, cap, rfl⟩ := h1.seg.shape
  have F : Hid (RdG (w1.alloc (.cells #[.bool true, .slice ao L.length cap] 73)) w1.heap.size g L ∧ g < (w1.alloc (.cells #[.bool true, .slice ao L.length cap] 73)).heap.size) := ⟨⟨_, heap_alloc_new w1 _, seg_alloc h1.seg _, hi⟩, by simpa using hgl⟩
  have G : Hid _ := h2
  clear h1 h2 HC hi hgl
  go_wp2_with fail
  go_ret
  exact ⟨w1.heap.size, rfl, G.out.size, grown_trans G.out (World.grownBy_alloc _ _ _), g, F.out.2, F.out.1⟩

/-- Where the document's reader is behind a step: k' of L, with M before it. -/
def RfPost (d : Nat) (sv : Value) (L M : List UInt8) (w w' : World) : Prop := ∃ k', k' ≤ L.length ∧ L.drop k' = M ∧ RfB w' d sv k' ∧ w.grownBy w' (some d)

theorem number39 (d : Nat) (ao : Option Addr) (cap k : Nat) (L : List UInt8) (w : World) (hr : RfB w d (.slice ao L.length cap) k) (hs : Seg w (.slice ao L.length cap) L) (hk : k ≤ L.length) :
    Calls Try.prog 39 #[.pointer (some ⟨d, 0, none⟩)] w fun e w' => e = .returned (.tuple #[.int .u64 (rdNum (L.drop k)).1, .int .i64 (rdNum (L.drop k)).2.1]) ∧ RfPost d (.slice ao L.length cap) L (rdNum (L.drop k)).2.2 w w' := by
  cases h : scan 0 0 (L.drop k) with
  | none =>
    rw [rdNum_none h]
    refine (number39_none d ao cap k L w hr hs hk h).mono ?_
    rintro e w' ⟨rfl, q, rfl⟩
    exact ⟨rfl, k, hk, rfl, hr.kept (grown_drewN w q none) (by simp), grown_drewN w q _⟩
  | some x =>
    obtain ⟨n, m⟩ := x
    rw [rdNum_some h]
    refine (number39_some d ao cap k L n m w hr hs hk h).mono ?_
    rintro e w' ⟨rfl, q, rfl⟩
    have hb := scan_bound (L.drop k) 0 0 (by omega) (by simp) n m h
    refine ⟨rfl, k + m, ?_, ?_, RfB.store (hr.kept (grown_drewN w q none) (by simp)) (k + m), grown_trans (grown_drewN w q _) (grown_setCell _ d 1 _)⟩
    · simp at hb; omega
    · simp [List.drop_drop]

set_option maxHeartbeats 400000 in
theorem unfolded60 (n : Nat) (hn64 : n ≤ 18446744073709551615) (w : World) : Calls Try.prog 60 #[.int .u64 n] w fun e w' => e = .returned (.int .i64 (unfoldZ n)) ∧ w' = w := by
  by_cases h2 : n % 2 = 1
  · have e2 : Hid (-((n : Int) / 2) - 1 = unfoldZ n) := by simp [Hid, unfoldZ, h2]
    have h2' : ((n : Int) % 2 == 1) = true := by simp; omega
    clear h2
    go_enter Try.func60, Try.ntmps60
    go_wp2_with fail
    go_ret
    exact ⟨by rw [← e2.out]; rfl, rfl⟩
  · have e2 : Hid ((n : Int) / 2 = unfoldZ n) := by simp [Hid, unfoldZ, h2]
    have h2' : ((n : Int) % 2 == 1) = false := by simp; omega
    clear h2
    go_enter Try.func60, Try.ntmps60
    go_wp2_with fail
    go_ret
    exact ⟨by rw [← e2.out]; rfl, rfl⟩

set_option maxHeartbeats 400000 in
theorem signed40_of (d n : Nat) (er : Int) (Φ : World → Prop) (w : World) (hn64 : n ≤ 18446744073709551615)
    (hC : Calls Try.prog 39 #[.pointer (some ⟨d, 0, none⟩)] w fun e w' => e = .returned (.tuple #[.int .u64 n, .int .i64 er]) ∧ Φ w') :
    Calls Try.prog 40 #[.pointer (some ⟨d, 0, none⟩)] w fun e w' => e = .returned (.tuple #[.int .i64 (unfoldZ n), .int .i64 er]) ∧ Φ w' := by
  have HC : Hid _ := hC
  clear hC
  go_enter Try.func40, Try.ntmps40
  go_wp2_with fail
  refine Calls.mono HC.out ?_
  rintro e w' ⟨rfl, h1⟩
  have F : Hid _ := h1
  clear h1
  go_wp2_with fail
  refine (unfolded60 n hn64 _).mono ?_
  rintro e w2 ⟨rfl, he⟩
  subst he
  go_wp2_with fail
  go_ret2
  exact ⟨rfl, F.out⟩

set_option maxRecDepth 100000 in
set_option maxHeartbeats 1000000 in
theorem flag41 (d : Nat) (ao : Option Addr) (cap k : Nat) (L : List UInt8) (w : World) (hr : RfB w d (.slice ao L.length cap) k) (hs : Seg w (.slice ao L.length cap) L) (hk : k ≤ L.length) :
    Calls Try.prog 41 #[.pointer (some ⟨d, 0, none⟩)] w fun e w' => e = .returned (.tuple #[.bool (rdFlag (L.drop k)).1, .int .i64 (rdFlag (L.drop k)).2.1]) ∧ RfPost d (.slice ao L.length cap) L (rdFlag (L.drop k)).2.2 w w' := by
  have hlen := hs.len
  have h0 := hr.cell0
  have h1 := hr.cell1
  have hfz := hr.free 1
  have HR : Hid (RfB w d (.slice ao L.length cap) k) := hr
  have HL : Hid (∀ n, Calls Try.prog 22 #[.pointer (some ⟨d, 0, none⟩)] (w.drewN n) fun e w'' => e = .returned (.int .i64 ((L.length - k : Nat) : Int)) ∧ ∃ m, w'' = w.drewN m) := fun n =>
    (left22 d ao cap k L (w.drewN n) (hr.kept (grown_drewN w n none) (by simp)) hk hlen).mono (fun e w' ⟨he, q, hq⟩ => ⟨he, n + q, by rw [hq, World.drewN_drewN]⟩)
  by_cases hM : k = L.length
  · have e1 : L.drop k = [] := List.drop_eq_nil_of_le (by omega)
    rw [e1]
    have z : ((L.length - k : Nat) : Int) = 0 := by omega
    rw [z] at HL
    clear hr hs
    go_enter Try.func41, Try.ntmps41
    go_wp2_with fail
    go_quiet ((go_at_call 22; exact HL.out _))
    go_wp2_with fail
    go_ret2
    exact ⟨rfl, k, hk, e1, HR.out.kept (grown_drewN w _ none) (by simp), grown_drewN w _ _⟩
  · have hlt : k < L.length := by omega
    obtain ⟨_, _, hv, _, _, _, h4⟩ := hs
    simp at hv
    obtain ⟨rfl, rfl⟩ := hv
    obtain ⟨bb, off, rfl, hcell⟩ := h4 k hlt
    have e1 : L.drop k = L[k] :: L.drop (k + 1) := List.drop_eq_getElem_cons hlt
    obtain ⟨c, hc⟩ : ∃ c : UInt8, L[k] = c := ⟨_, rfl⟩
    rw [hc] at hcell e1
    obtain ⟨x, hx⟩ : ∃ x : Nat, c.toNat = x := ⟨_, rfl⟩
    rw [hx] at hcell
    have nz : ((((L.length - k : Nat) : Int)) == 0) = false := by simp; omega
    have i1 : (0 : Int) ≤ (k : Int) := by omega
    have i2 : (k : Int) < (L.length : Int) := by omega
    have E1 : Hid _ := e1
    have HX : Hid _ := hx
    obtain ⟨df, hdf⟩ : ∃ df : Int, ((L.length - k : Nat) : Int) = df := ⟨_, rfl⟩
    rw [hdf] at HL nz
    rw [e1]
    clear hr h4 e1 hc hx hM hdf
    by_cases hbig : 1 < x
    · have e2 : rdFlag (c :: L.drop (k + 1)) = (false, 4, c :: L.drop (k + 1)) := by simp [rdFlag, HX.out, hbig]
      rw [e2]
      clear e2
      have b1 : decide ((1 : Int) < (x : Int)) = true := by simp; omega
      go_enter Try.func41, Try.ntmps41
      go_wp2_with fail
      go_quiet ((go_at_call 22; exact HL.out _))
      go_wp2_with fail
      go_ret2
      exact ⟨rfl, k, hk, E1.out, RfB.kept HR.out (grown_drewN w _ none) (by simp), grown_drewN w _ _⟩
    · have e2 : rdFlag (c :: L.drop (k + 1)) = (x == 1, 0, L.drop (k + 1)) := by simp [rdFlag, HX.out, hbig]
      rw [e2]
      clear e2
      have b1 : decide ((1 : Int) < (x : Int)) = false := by simp; omega
      have wr1 : IntKind.i64.wrap ((k : Int) + 1) = (k : Int) + 1 := by
        simp only [IntKind.wrap, IntKind.bits, IntKind.signed]; simp; omega
      have wr2 : IntKind.i64.wrap ((k : Int) + 1 - 1) = (k : Int) := by
        simp only [IntKind.wrap, IntKind.bits, IntKind.signed]; simp; omega
      have wr3 : IntKind.i64.wrap (k : Int) = (k : Int) := by
        simp only [IntKind.wrap, IntKind.bits, IntKind.signed]; simp; omega
      have hcd : Hid (bb ≠ d) := by
        intro e
        subst e
        have q := cell_of_row w bb (off + k) _ _ _ HR.out
        rw [hcell] at q
        generalize off + k = z at q
        match z, q with
        | 0, q => simp at q
        | 1, q => simp at q
        | z + 2, q => simp at q
      go_enter Try.func41, Try.ntmps41
      go_wp2_with fail
      go_quiet ((go_at_call 22; exact HL.out _))
      go_wp2_with fail
      have hw1 : Hid (RfB ((w.drewN nq).setCell ⟨d, 1, none⟩ (.int .i64 ((k + 1 : Nat) : Int))) d (.slice (some ⟨bb, off, none⟩) L.length cap) (k + 1) ∧ w.grownBy ((w.drewN nq).setCell ⟨d, 1, none⟩ (.int .i64 ((k + 1 : Nat) : Int))) (some d)) :=
        ⟨RfB.store (RfB.kept HR.out (grown_drewN w nq none) (by simp)) (k + 1), grown_trans (grown_drewN w _ _) (grown_setCell _ d 1 _)⟩
      have e5 : ((k + 1 : Nat) : Int) = (k : Int) + 1 := by omega
      rw [e5] at hw1
      obtain ⟨wz, hwz⟩ : ∃ wz, (w.drewN nq).setCell ⟨d, 1, none⟩ (.int .i64 ((k : Int) + 1)) = wz := ⟨_, rfl⟩
      rw [hwz] at hw1 ⊢
      have f0 := RfB.cell0 hw1.out.1
      have f1 : wz.cell? ⟨d, 1, none⟩ = some (.int .i64 ((k : Int) + 1)) := by
        have h := RfB.cell1 hw1.out.1
        rw [e5] at h; exact h
      have f2 : wz.cell? ⟨bb, off + k, none⟩ = some (.int .u8 x) := hw1.out.2.cell hcell (by have := hcd.out; simp; exact this)
      clear hwz h0 h1 hfz hcell HL e5
      go_quiet (fail)
      go_wp2_with fail
      go_ret2
      refine ⟨ret_flag (by rw [Bool.eq_iff_iff]; simp; omega), k + 1, by omega, rfl, RfB.kept hw1.out.1 (grown_drewN wz _ none) (by simp), grown_trans hw1.out.2 (grown_drewN wz _ _)⟩
end Go.Proofs.Ytneppkbbnajpnaa
