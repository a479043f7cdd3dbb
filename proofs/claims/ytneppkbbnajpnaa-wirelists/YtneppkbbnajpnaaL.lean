/-
  The document's reader's Bytes.
-/
import Derived.Test.YtneppkbbnajpnaaH
namespace Go.Proofs.Ytneppkbbnajpnaa
open Go.RowKit
attribute [local go_sem ↓] Go.wp_at_zero Go.wp_at_succ

theorem seg_mid2 {w : World} {ao : Option Addr} {cap : Nat} {L : List UInt8} (k m : Nat) (hm : k + m ≤ L.length) (h : Seg w (.slice ao L.length cap) L) : Seg w (.slice (Option.map (fun x => x.add k) ao) m (cap - k)) ((L.drop k).take m) := by
  have h1 := seg_drop k (by omega) h
  have e : L.length - k = (L.drop k).length := by simp
  rw [e] at h1
  exact seg_take m (by simp; omega) h1

theorem seg_mid_end2 {w : World} {ao : Option Addr} {cap : Nat} {L : List UInt8} (k : Nat) (hm : k ≤ L.length) (hc : cap = k) (h : Seg w (.slice ao L.length cap) L) : Seg w (.slice ao 0 0) [] := by
  have h1 := seg_drop_all k hm hc h
  obtain ⟨ao', cap', hv, h3, _⟩ := h
  simp at hv
  have e : L.length = k := by omega
  have e2 : L.drop k = [] := List.drop_eq_nil_of_le (by omega)
  rw [e2] at h1
  rw [show L.length - k = 0 by omega] at h1
  exact h1

theorem app23_wpf {o : Oper} {a : Act} {K : Act → World → Prop} {Q : Exit → Act → World → Prop} (w : World) (s x : Operand)
    (ho : o.op = .call { callee := .builtin .append, args := #[s, x], argTypes := #[23, 23] })
    (B : Nat) (v : Value) (L : List UInt8) (u : Value) (M : List UInt8) (hs : a.eval s = v) (hx : a.eval x = u) (hown : Own w B v L) (hseg : Seg w u M) (hb : L.length + M.length ≤ 225179981368000) (hB : B ≤ w.heap.size)
    (h : ∀ v' w', Own w' B v' (L ++ M) → w.grownBy w' v.ownBlock → K (a.put o.dst v') w') : o.wp Try.prog a w K Q := by
  obtain ⟨i0, hi, hz0, hz1, hz2⟩ := info_parts Try.info5
  have hsg := hseg
  obtain ⟨ao, cap, rfl, h1, h2, h3, h4⟩ := hsg
  cases ao with
  | none =>
    have hM0 : M = [] := List.eq_nil_of_length_eq_zero (by have := h3 rfl; omega)
    have hc0 : cap = 0 := h3 rfl
    subst hM0; subst hc0
    have hrun := run_append_owned_none (P := Try.prog) (w := w) B 23 o.type 5 i0 1 Try.underlying23 hi v _ _ hown
    have hx' : a.eval x = .slice none 0 0 := hx
    unfold Oper.wp
    simp only [execOp, ho, resolve, invoke, builtin, Sem.run_bind, Sem.run_pure, Result.andThen_ok, List.map_toArray, List.map_cons, List.map_nil, hs, hx', hrun]
    exact h v w (by simpa using hown) (grown_refl _ _)
  | some ad =>
    obtain ⟨_, hnews⟩ := seg_news hseg
    refine wp_append_fine w s x 23 ho B 5 i0 (.int .u8 0) Try.underlying23 hi hz0 hz1 hz2 rfl v L.length (BV L) hs hown ad M.length cap (BV M) hx (by simp [BV]) hnews (BV_one M) (by unfold maxLen; omega) (by omega) hB ?_
    intro v' w' h1 h2
    exact h v' w' (by unfold Own; rw [BV_append, List.length_append]; exact h1) h2

theorem app23_wp {o : Oper} {a : Act} {K : Act → World → Prop} {Q : Exit → Act → World → Prop} (w : World) (s x : Operand)
    (ho : o.op = .call { callee := .builtin .append, args := #[s, x], argTypes := #[23, 23] })
    (B : Nat) (v : Value) (L : List UInt8) (u : Value) (M : List UInt8) (hs : a.eval s = v) (hx : a.eval x = u) (hown : Own w B v L) (hseg : Seg w u M) (hb : L.length + M.length ≤ 140737488355328) (hB : B ≤ w.heap.size)
    (h : ∀ v' w', Own w' B v' (L ++ M) → w.grownBy w' v.ownBlock → K (a.put o.dst v') w') : o.wp Try.prog a w K Q :=
  app23_wpf w s x ho B v L u M hs hx hown hseg (by omega) hB h

section
variable (d : Nat) (ao : Option Addr) (cap k : Nat) (L : List UInt8) (most : Int) (w : World)

set_option maxRecDepth 100000 in
set_option maxHeartbeats 1000000 in
theorem bytes42_none (hr : RfB w d (.slice ao L.length cap) k) (hs : Seg w (.slice ao L.length cap) L) (hk : k ≤ L.length) (hn : scan 0 0 (L.drop k) = none) :
    Calls Try.prog 42 #[.pointer (some ⟨d, 0, none⟩), .int .i64 most] w fun e w' => e = .returned (.tuple #[.slice none 0 0, .int .i64 4]) ∧ RfB w' d (.slice ao L.length cap) k ∧ w.grownBy w' (some d) := by
  have h1 := hr.cell1
  have HC : Hid _ := number39_none d ao cap k L w hr hs hk hn
  have HR : Hid (RfB w d (.slice ao L.length cap) k) := hr
  clear hr hs hn
  go_enter Try.func42, Try.ntmps42
  go_wp2_with fail
  refine Calls.mono HC.out ?_
  rintro e w1 ⟨rfl, q, hq⟩
  have S1 : Hid (RfB w1 d (.slice ao L.length cap) k ∧ w.grownBy w1 (some d)) := by subst hq; exact ⟨RfB.kept HR.out (grown_drewN w q none) (by simp), grown_drewN w q _⟩
  have f1 := RfB.cell1 S1.out.1
  have fz := RfB.free S1.out.1 1
  clear hq
  go_wp2_with fail
  go_ret2
  exact ⟨rfl, RfB.store S1.out.1 k, grown_trans S1.out.2 (grown_setCell _ d 1 _)⟩

set_option maxRecDepth 100000 in
set_option maxHeartbeats 1000000 in
theorem bytes42_long (n m : Nat) (hr : RfB w d (.slice ao L.length cap) k) (hs : Seg w (.slice ao L.length cap) L) (hk : k ≤ L.length) (h0 : 0 ≤ most) (hm : most ≤ 9223372036854775807) (hn : scan 0 0 (L.drop k) = some (n, m)) (hl : most < (n : Int)) :
    Calls Try.prog 42 #[.pointer (some ⟨d, 0, none⟩), .int .i64 most] w fun e w' => e = .returned (.tuple #[.slice none 0 0, .int .i64 3]) ∧ RfB w' d (.slice ao L.length cap) k ∧ w.grownBy w' (some d) := by
  have h1 := hr.cell1
  have HC : Hid _ := number39_some d ao cap k L n m w hr hs hk hn
  have HR : Hid (RfB w d (.slice ao L.length cap) k) := hr
  have hn64 : n ≤ 18446744073709551615 := by have := (scan_bound _ 0 0 (by omega) (by simp) n m hn).1; omega
  clear hr hs hn
  go_enter Try.func42, Try.ntmps42
  go_wp2_with fail
  refine Calls.mono HC.out ?_
  rintro e w1 ⟨rfl, q, hq⟩
  have S1 : Hid (RfB w1 d (.slice ao L.length cap) (k + m) ∧ w.grownBy w1 (some d)) := by subst hq; exact ⟨RfB.store (RfB.kept HR.out (grown_drewN w q none) (by simp)) (k + m), grown_trans (grown_drewN w q _) (grown_setCell _ d 1 _)⟩
  have f1 := RfB.cell1 S1.out.1
  have fz := RfB.free S1.out.1 1
  clear hq
  go_wp2_with fail
  go_ret2
  exact ⟨rfl, RfB.store S1.out.1 k, grown_trans S1.out.2 (grown_setCell _ d 1 _)⟩

set_option maxRecDepth 100000 in
set_option maxHeartbeats 1000000 in
theorem bytes42_few (n m : Nat) (hr : RfB w d (.slice ao L.length cap) k) (hs : Seg w (.slice ao L.length cap) L) (hk : k ≤ L.length) (h0 : 0 ≤ most) (hm : most ≤ 9223372036854775807) (hn : scan 0 0 (L.drop k) = some (n, m)) (hl : ¬ most < (n : Int)) (hf : L.length - (k + m) < n) :
    Calls Try.prog 42 #[.pointer (some ⟨d, 0, none⟩), .int .i64 most] w fun e w' => e = .returned (.tuple #[.slice none 0 0, .int .i64 4]) ∧ RfB w' d (.slice ao L.length cap) k ∧ w.grownBy w' (some d) := by
  have h1 := hr.cell1
  have hlen := hs.len
  have HC : Hid _ := number39_some d ao cap k L n m w hr hs hk hn
  have HR : Hid (RfB w d (.slice ao L.length cap) k) := hr
  have hb := scan_bound _ 0 0 (by omega) (by simp) n m hn
  have hkm : k + m ≤ L.length := by simp at hb; omega
  clear hr hs hn hb
  obtain ⟨lf, hlf⟩ : ∃ lf : Nat, L.length - (k + m) = lf := ⟨_, rfl⟩
  have hlz : lf ≤ 9223372036854775807 := by omega
  have hfz2 : lf < n := by omega
  go_enter Try.func42, Try.ntmps42
  go_wp2_with fail
  refine Calls.mono HC.out ?_
  rintro e w1 ⟨rfl, q, hq⟩
  have S1 : Hid (RfB w1 d (.slice ao L.length cap) (k + m) ∧ w.grownBy w1 (some d)) := by subst hq; exact ⟨RfB.store (RfB.kept HR.out (grown_drewN w q none) (by simp)) (k + m), grown_trans (grown_drewN w q _) (grown_setCell _ d 1 _)⟩
  clear hq hf
  go_wp2_with fail
  refine (left22 d ao cap (k + m) L _ S1.out.1 hkm hlen).mono ?_
  rw [hlf]
  rintro e w2 ⟨rfl, q2, hq2⟩
  have S2 : Hid (RfB w2 d (.slice ao L.length cap) (k + m) ∧ w.grownBy w2 (some d)) := by subst hq2; exact ⟨RfB.kept S1.out.1 (grown_drewN w1 q2 none) (by simp), grown_trans S1.out.2 (grown_drewN w1 q2 _)⟩
  have f1 := RfB.cell1 S2.out.1
  have fz := RfB.free S2.out.1 1
  clear hq2 S1 hlf
  go_wp2_with fail
  go_ret2
  exact ⟨rfl, RfB.store S2.out.1 k, grown_trans S2.out.2 (grown_setCell _ d 1 _)⟩

set_option maxRecDepth 100000 in
set_option maxHeartbeats 2000000 in
theorem bytes42_ok (n m : Nat) (hr : RfB w d (.slice ao L.length cap) k) (hs : Seg w (.slice ao L.length cap) L) (hk : k ≤ L.length) (h0 : 0 ≤ most) (hm : most ≤ 9223372036854775807) (hn : scan 0 0 (L.drop k) = some (n, m)) (hl : ¬ most < (n : Int)) (hf : ¬ L.length - (k + m) < n) (hz : L.length ≤ 1048576) :
    Calls Try.prog 42 #[.pointer (some ⟨d, 0, none⟩), .int .i64 most] w fun e w' => ∃ v, e = .returned (.tuple #[v, .int .i64 0]) ∧ Own w' w.heap.size v ((L.drop (k + m)).take n) ∧ RfB w' d (.slice ao L.length cap) (k + m + n) ∧ w.grownBy w' (some d) := by
  have h1 := hr.cell1
  have hlen := hs.len
  have HC : Hid _ := number39_some d ao cap k L n m w hr hs hk hn
  have HR : Hid (RfB w d (.slice ao L.length cap) k) := hr
  have HS : Hid (Seg w (.slice ao L.length cap) L) := hs
  have HZ : Hid (L.length ≤ 1048576) := hz
  have hb := scan_bound _ 0 0 (by omega) (by simp) n m hn
  have hkm : k + m ≤ L.length := by simp at hb; omega
  have hcap : L.length ≤ cap ∧ cap ≤ 9223372036854775807 := by
    obtain ⟨ao', cap', hv, q1, q2, _⟩ := hs
    simp at hv; unfold maxLen at q2; omega
  obtain ⟨hcap1, hcap2⟩ := hcap
  obtain ⟨a, ha⟩ : ∃ a, k + m = a := ⟨_, rfl⟩
  rw [ha] at HC hkm hf ⊢
  clear hr hs hn hb ha
  obtain ⟨lf, hlf⟩ : ∃ lf : Nat, L.length - a = lf := ⟨_, rfl⟩
  have hlz : lf ≤ 9223372036854775807 := by omega
  have hfz2 : n ≤ lf := by omega
  go_enter Try.func42, Try.ntmps42
  go_wp2_with fail
  refine Calls.mono HC.out ?_
  rintro e w1 ⟨rfl, q, hq⟩
  have S1 : Hid (RfB w1 d (.slice ao L.length cap) a ∧ w.grownBy w1 (some d)) := by subst hq; exact ⟨RfB.store (RfB.kept HR.out (grown_drewN w q none) (by simp)) a, grown_trans (grown_drewN w q _) (grown_setCell _ d 1 _)⟩
  clear hq hf
  go_wp2_with fail
  refine (left22 d ao cap a L _ S1.out.1 hkm hlen).mono ?_
  rw [hlf]
  rintro e w2 ⟨rfl, q2, hq2⟩
  have S2 : Hid (RfB w2 d (.slice ao L.length cap) a ∧ w.grownBy w2 (some d)) := by subst hq2; exact ⟨RfB.kept S1.out.1 (grown_drewN w1 q2 none) (by simp), grown_trans S1.out.2 (grown_drewN w1 q2 _)⟩
  have f1 := RfB.cell1 S2.out.1
  have fz := RfB.free S2.out.1 1
  have hsum : a + n ≤ L.length := by omega
  have wr0 : IntKind.i64.wrap (((a : Nat) : Int) + (n : Int)) = (a : Int) + (n : Int) := by
    simp only [IntKind.wrap, IntKind.bits, IntKind.signed]; simp; omega
  have wrn : IntKind.i64.wrap (n : Int) = (n : Int) := by
    simp only [IntKind.wrap, IntKind.bits, IntKind.signed]; simp; omega
  clear hq2 S1 hlf
  have wr5 : IntKind.i64.wrap ((a : Int) + (n : Int) - (n : Int)) = (a : Int) := by
    simp only [IntKind.wrap, IntKind.bits, IntKind.signed]; simp; omega
  have wr6 : IntKind.i64.wrap (a : Int) = (a : Int) := by
    simp only [IntKind.wrap, IntKind.bits, IntKind.signed]; simp; omega
  have i1 : (a : Int) ≤ (a : Int) + (n : Int) := by omega
  have i2 : (a : Int) + (n : Int) ≤ (cap : Int) := by omega
  have i3 : (0 : Int) ≤ (a : Int) := by omega
  go_wp2_with fail
  have S3 : Hid (RfB (w2.setCell ⟨d, 1, none⟩ (.int .i64 ((a + n : Nat) : Int))) d (.slice ao L.length cap) (a + n) ∧ w.grownBy (w2.setCell ⟨d, 1, none⟩ (.int .i64 ((a + n : Nat) : Int))) (some d) ∧ Seg (w2.setCell ⟨d, 1, none⟩ (.int .i64 ((a + n : Nat) : Int))) (.slice ao L.length cap) L) :=
    ⟨RfB.store S2.out.1 (a + n), grown_trans S2.out.2 (grown_setCell _ d 1 _), Seg.grownF HS.out HR.out (grown_trans S2.out.2 (grown_setCell _ d 1 _))⟩
  have e5 : ((a + n : Nat) : Int) = (a : Int) + (n : Int) := by omega
  rw [e5] at S3
  obtain ⟨wz, hwz⟩ : ∃ wz, w2.setCell ⟨d, 1, none⟩ (.int .i64 ((a : Int) + (n : Int))) = wz := ⟨_, rfl⟩
  rw [hwz] at S3 ⊢
  have f0 := RfB.cell0 S3.out.1
  have f1 : wz.cell? ⟨d, 1, none⟩ = some (.int .i64 ((a : Int) + (n : Int))) := by
    have h := RfB.cell1 S3.out.1
    rw [e5] at h; exact h
  have HB : Hid (w.heap.size ≤ wz.drew.heap.size) := S3.out.2.1.size
  clear hwz e5 fz S2
  by_cases hck : cap = a
  · obtain rfl : n = 0 := by omega
    have HSG : Hid (Seg wz (.slice ao 0 0) ((L.drop a).take 0)) := by
      have h := seg_mid_end2 a (by omega) hck S3.out.2.2
      simpa [Hid] using h
    have wr7 : IntKind.i64.wrap ((a : Int) + 0) = (a : Int) := by rw [Int.add_zero]; exact wr6
    have wr9 : IntKind.i64.wrap 0 = 0 := by decide
    have wr8 : IntKind.i64.wrap ((a : Int) - 0) = (a : Int) := by rw [Int.sub_zero]; exact wr6
    refine wp_region_noPanic ?_
    refine wp_region_grow (by kernel_rfl) ?_
    refine wpGrow_take (i := 0) (d := some 52) (v := ?_) rfl rfl (by kernel_rfl) (by kernel_rfl) (by kernel_rfl) (fun _ _ _ h => h) (by rfl) ?_ ?_
    rotate_left
    · intro wk hk
      go_simp
      try with_reducible rfl
    try simp only [Act.put, List.setIfInBounds_toArray, List.set_cons_zero, List.set_cons_succ]
    refine wpGrow_take (i := 1) (d := some 53) (v := ?_) rfl rfl (by kernel_rfl) (by kernel_rfl) (by kernel_rfl) (fun _ _ _ h => h) (by rfl) ?_ ?_
    rotate_left
    · intro wk hk
      go_simp
      try with_reducible rfl
    try simp only [Act.put, List.setIfInBounds_toArray, List.set_cons_zero, List.set_cons_succ]
    refine wpGrow_take (i := 2) (d := some 54) (v := ?_) rfl rfl (by kernel_rfl) (by kernel_rfl) (by kernel_rfl) (fun _ _ _ h => h) (by rfl) ?_ ?_
    rotate_left
    · intro wk hk
      go_simp
      try with_reducible rfl
    try simp only [Act.put, List.setIfInBounds_toArray, List.set_cons_zero, List.set_cons_succ]
    refine wpGrow_take (i := 3) (d := some 55) (v := ?_) rfl rfl (by kernel_rfl) (by kernel_rfl) (by kernel_rfl) (fun _ _ _ h => h) (by rfl) ?_ ?_
    rotate_left
    · intro wk hk
      have j0 := hk.cell f0 (by simp)
      have j1 := hk.cell f1 (by simp)
      go_simp
      try with_reducible rfl
    try simp only [Act.put, List.setIfInBounds_toArray, List.set_cons_zero, List.set_cons_succ]
    refine wpGrow_take (i := 4) (d := some 56) (v := ?_) rfl rfl (by kernel_rfl) (by kernel_rfl) (by kernel_rfl) (fun _ _ _ h => h) (by rfl) ?_ ?_
    rotate_left
    · intro wk hk
      go_simp
      try with_reducible rfl
    try simp only [Act.put, List.setIfInBounds_toArray, List.set_cons_zero, List.set_cons_succ]
    refine wpGrow_take (i := 5) (d := some 57) (v := ?_) rfl rfl (by kernel_rfl) (by kernel_rfl) (by kernel_rfl) (fun _ _ _ h => h) (by rfl) ?_ ?_
    rotate_left
    · intro wk hk
      go_simp
      try with_reducible rfl
    try simp only [Act.put, List.setIfInBounds_toArray, List.set_cons_zero, List.set_cons_succ]
    refine wpGrow_take (i := 6) (d := some 58) (v := ?_) rfl rfl (by kernel_rfl) (by kernel_rfl) (by kernel_rfl) (fun _ _ _ h => h) (by rfl) ?_ ?_
    rotate_left
    · intro wk hk
      go_simp
      try with_reducible rfl
    try simp only [Act.put, List.setIfInBounds_toArray, List.set_cons_zero, List.set_cons_succ]
    refine wpGrow_take (i := 7) (d := some 59) (v := ?_) rfl rfl (by kernel_rfl) (by kernel_rfl) (by kernel_rfl) (fun _ _ _ h => h) (by rfl) ?_ ?_
    rotate_left
    · intro wk hk
      have j0 := hk.cell f0 (by simp)
      have j1 := hk.cell f1 (by simp)
      go_simp
      try with_reducible rfl
    try simp only [Act.put, List.setIfInBounds_toArray, List.set_cons_zero, List.set_cons_succ]
    refine wpGrow_take (i := 8) (d := some 60) (v := ?_) rfl rfl (by kernel_rfl) (by kernel_rfl) (by kernel_rfl) (fun _ _ _ h => h) (by rfl) ?_ ?_
    rotate_left
    · intro wk hk
      go_simp
      try with_reducible rfl
    try simp only [Act.put, List.setIfInBounds_toArray, List.set_cons_zero, List.set_cons_succ]
    refine wpGrow_take (i := 9) (d := some 61) (v := ?_) rfl rfl (by kernel_rfl) (by kernel_rfl) (by kernel_rfl) (fun _ _ _ h => h) (by rfl) ?_ ?_
    rotate_left
    · intro wk hk
      go_simp
      try with_reducible rfl
    try simp only [Act.put, List.setIfInBounds_toArray, List.set_cons_zero, List.set_cons_succ]
    refine wpGrow_take (i := 10) (d := some 62) (v := ?_) rfl rfl (by kernel_rfl) (by kernel_rfl) (by kernel_rfl) (fun _ _ _ h => h) (by rfl) ?_ ?_
    rotate_left
    · intro wk hk
      go_simp
      try with_reducible rfl
    try simp only [Act.put, List.setIfInBounds_toArray, List.set_cons_zero, List.set_cons_succ]
    refine wpGrow_take (i := 11) (d := some 63) (v := ?_) rfl rfl (by kernel_rfl) (by kernel_rfl) (by kernel_rfl) (fun _ _ _ h => h) (by rfl) ?_ ?_
    rotate_left
    · intro wk hk
      go_simp
      try with_reducible rfl
    try simp only [Act.put, List.setIfInBounds_toArray, List.set_cons_zero, List.set_cons_succ]
    refine wpGrow_take (i := 12) (d := some 64) (v := ?_) rfl rfl (by kernel_rfl) (by kernel_rfl) (by kernel_rfl) (fun _ _ _ h => h) (by rfl) ?_ ?_
    rotate_left
    · intro wk hk
      go_simp
      try with_reducible rfl
    try simp only [Act.put, List.setIfInBounds_toArray, List.set_cons_zero, List.set_cons_succ]
    refine wpGrow_take (i := 13) (d := some 65) (v := ?_) rfl rfl (by kernel_rfl) (by kernel_rfl) (by kernel_rfl) (fun _ _ _ h => h) (by rfl) ?_ ?_
    rotate_left
    · intro wk hk
      go_simp
      try with_reducible rfl
    try simp only [Act.put, List.setIfInBounds_toArray, List.set_cons_zero, List.set_cons_succ]
    refine wpGrow_take (i := 14) (d := some 66) (v := ?_) rfl rfl (by kernel_rfl) (by kernel_rfl) (by kernel_rfl) (fun _ _ _ h => h) (by rfl) ?_ ?_
    rotate_left
    · intro wk hk
      have j0 := hk.cell f0 (by simp)
      have j1 := hk.cell f1 (by simp)
      go_simp
      try with_reducible rfl
    try simp only [Act.put, List.setIfInBounds_toArray, List.set_cons_zero, List.set_cons_succ]
    refine wpGrow_take (i := 15) (d := some 67) (v := ?_) rfl rfl (by kernel_rfl) (by kernel_rfl) (by kernel_rfl) (fun _ _ _ h => h) (by rfl) ?_ ?_
    rotate_left
    · intro wk hk
      go_simp
      try with_reducible rfl
    try simp only [Act.put, List.setIfInBounds_toArray, List.set_cons_zero, List.set_cons_succ]
    refine wpGrow_one (i := 16) rfl (by kernel_rfl) (by rfl) (fun K hK => ?_)
    refine app23_wp _ (.const (.slice none 0 0)) (.tmp 67) rfl w.heap.size (.slice none 0 0) [] (.slice ao 0 0) ((L.drop a).take 0) rfl rfl (Own.nil _ _) (HSG.out.grown (grown_drew _ _)) ?_ ?_ ?_
    · have := HZ.out; first | (simp; omega) | simp
    · exact HB.out
    intro v2 w2 o2 g2
    have S5 : Hid (Own w2 w.heap.size v2 ((L.drop a).take 0) ∧ wz.grownBy w2 none) := by
      rw [List.nil_append] at o2
      exact ⟨o2, grown_trans (grown_drew _ _) (by exact grown_weak g2 _)⟩
    clear o2
    refine hK.out _ _ (grown_weak g2 none) ?_
    clear g2
    clear hK K
    try simp only [Act.put, List.setIfInBounds_toArray, List.set_cons_zero, List.set_cons_succ]
    refine wpGrow_take (i := 17) (d := some 4) (v := ?_) rfl rfl (by kernel_rfl) (by kernel_rfl) (by kernel_rfl) (fun _ _ _ h => h) (by rfl) ?_ ?_
    rotate_left
    · intro wk hk
      go_simp
      try with_reducible rfl
    try simp only [Act.put, List.setIfInBounds_toArray, List.set_cons_zero, List.set_cons_succ]
    refine wpGrow_take (i := 18) (d := some 5) (v := ?_) rfl rfl (by kernel_rfl) (by kernel_rfl) (by kernel_rfl) (fun _ _ _ h => h) (by rfl) ?_ ?_
    rotate_left
    · intro wk hk
      go_simp
      try with_reducible rfl
    try simp only [Act.put, List.setIfInBounds_toArray, List.set_cons_zero, List.set_cons_succ]
    refine wpGrow_done (by kernel_rfl) ?_
    refine NoPanic.normal ?_
    go_wp2_with fail
    go_ret2
    exact ⟨_, rfl, S5.out.1, RfB.kept S3.out.1 S5.out.2 (by simp), grown_trans S3.out.2.1 (grown_weak S5.out.2 _)⟩
  · have HSG : Hid (Seg wz (.slice (Option.map (fun x => x.add a) ao) (((a : Int) + (n : Int)).toNat - a) (cap - a)) ((L.drop a).take n)) := by
      have en : ((a : Int) + (n : Int)).toNat - a = n := by omega
      rw [en]
      exact seg_mid2 a n (by omega) S3.out.2.2
    refine wp_region_noPanic ?_
    refine wp_region_grow (by kernel_rfl) ?_
    refine wpGrow_take (i := 0) (d := some 52) (v := ?_) rfl rfl (by kernel_rfl) (by kernel_rfl) (by kernel_rfl) (fun _ _ _ h => h) (by rfl) ?_ ?_
    rotate_left
    · intro wk hk
      go_simp
      try with_reducible rfl
    try simp only [Act.put, List.setIfInBounds_toArray, List.set_cons_zero, List.set_cons_succ]
    refine wpGrow_take (i := 1) (d := some 53) (v := ?_) rfl rfl (by kernel_rfl) (by kernel_rfl) (by kernel_rfl) (fun _ _ _ h => h) (by rfl) ?_ ?_
    rotate_left
    · intro wk hk
      go_simp
      try with_reducible rfl
    try simp only [Act.put, List.setIfInBounds_toArray, List.set_cons_zero, List.set_cons_succ]
    refine wpGrow_take (i := 2) (d := some 54) (v := ?_) rfl rfl (by kernel_rfl) (by kernel_rfl) (by kernel_rfl) (fun _ _ _ h => h) (by rfl) ?_ ?_
    rotate_left
    · intro wk hk
      go_simp
      try with_reducible rfl
    try simp only [Act.put, List.setIfInBounds_toArray, List.set_cons_zero, List.set_cons_succ]
    refine wpGrow_take (i := 3) (d := some 55) (v := ?_) rfl rfl (by kernel_rfl) (by kernel_rfl) (by kernel_rfl) (fun _ _ _ h => h) (by rfl) ?_ ?_
    rotate_left
    · intro wk hk
      have j0 := hk.cell f0 (by simp)
      have j1 := hk.cell f1 (by simp)
      go_simp
      try with_reducible rfl
    try simp only [Act.put, List.setIfInBounds_toArray, List.set_cons_zero, List.set_cons_succ]
    refine wpGrow_take (i := 4) (d := some 56) (v := ?_) rfl rfl (by kernel_rfl) (by kernel_rfl) (by kernel_rfl) (fun _ _ _ h => h) (by rfl) ?_ ?_
    rotate_left
    · intro wk hk
      go_simp
      try with_reducible rfl
    try simp only [Act.put, List.setIfInBounds_toArray, List.set_cons_zero, List.set_cons_succ]
    refine wpGrow_take (i := 5) (d := some 57) (v := ?_) rfl rfl (by kernel_rfl) (by kernel_rfl) (by kernel_rfl) (fun _ _ _ h => h) (by rfl) ?_ ?_
    rotate_left
    · intro wk hk
      go_simp
      try with_reducible rfl
    try simp only [Act.put, List.setIfInBounds_toArray, List.set_cons_zero, List.set_cons_succ]
    refine wpGrow_take (i := 6) (d := some 58) (v := ?_) rfl rfl (by kernel_rfl) (by kernel_rfl) (by kernel_rfl) (fun _ _ _ h => h) (by rfl) ?_ ?_
    rotate_left
    · intro wk hk
      go_simp
      try with_reducible rfl
    try simp only [Act.put, List.setIfInBounds_toArray, List.set_cons_zero, List.set_cons_succ]
    refine wpGrow_take (i := 7) (d := some 59) (v := ?_) rfl rfl (by kernel_rfl) (by kernel_rfl) (by kernel_rfl) (fun _ _ _ h => h) (by rfl) ?_ ?_
    rotate_left
    · intro wk hk
      have j0 := hk.cell f0 (by simp)
      have j1 := hk.cell f1 (by simp)
      go_simp
      try with_reducible rfl
    try simp only [Act.put, List.setIfInBounds_toArray, List.set_cons_zero, List.set_cons_succ]
    refine wpGrow_take (i := 8) (d := some 60) (v := ?_) rfl rfl (by kernel_rfl) (by kernel_rfl) (by kernel_rfl) (fun _ _ _ h => h) (by rfl) ?_ ?_
    rotate_left
    · intro wk hk
      go_simp
      try with_reducible rfl
    try simp only [Act.put, List.setIfInBounds_toArray, List.set_cons_zero, List.set_cons_succ]
    refine wpGrow_take (i := 9) (d := some 61) (v := ?_) rfl rfl (by kernel_rfl) (by kernel_rfl) (by kernel_rfl) (fun _ _ _ h => h) (by rfl) ?_ ?_
    rotate_left
    · intro wk hk
      go_simp
      try with_reducible rfl
    try simp only [Act.put, List.setIfInBounds_toArray, List.set_cons_zero, List.set_cons_succ]
    refine wpGrow_take (i := 10) (d := some 62) (v := ?_) rfl rfl (by kernel_rfl) (by kernel_rfl) (by kernel_rfl) (fun _ _ _ h => h) (by rfl) ?_ ?_
    rotate_left
    · intro wk hk
      go_simp
      try with_reducible rfl
    try simp only [Act.put, List.setIfInBounds_toArray, List.set_cons_zero, List.set_cons_succ]
    refine wpGrow_take (i := 11) (d := some 63) (v := ?_) rfl rfl (by kernel_rfl) (by kernel_rfl) (by kernel_rfl) (fun _ _ _ h => h) (by rfl) ?_ ?_
    rotate_left
    · intro wk hk
      go_simp
      try with_reducible rfl
    try simp only [Act.put, List.setIfInBounds_toArray, List.set_cons_zero, List.set_cons_succ]
    refine wpGrow_take (i := 12) (d := some 64) (v := ?_) rfl rfl (by kernel_rfl) (by kernel_rfl) (by kernel_rfl) (fun _ _ _ h => h) (by rfl) ?_ ?_
    rotate_left
    · intro wk hk
      go_simp
      try with_reducible rfl
    try simp only [Act.put, List.setIfInBounds_toArray, List.set_cons_zero, List.set_cons_succ]
    refine wpGrow_take (i := 13) (d := some 65) (v := ?_) rfl rfl (by kernel_rfl) (by kernel_rfl) (by kernel_rfl) (fun _ _ _ h => h) (by rfl) ?_ ?_
    rotate_left
    · intro wk hk
      go_simp
      try with_reducible rfl
    try simp only [Act.put, List.setIfInBounds_toArray, List.set_cons_zero, List.set_cons_succ]
    refine wpGrow_take (i := 14) (d := some 66) (v := ?_) rfl rfl (by kernel_rfl) (by kernel_rfl) (by kernel_rfl) (fun _ _ _ h => h) (by rfl) ?_ ?_
    rotate_left
    · intro wk hk
      have j0 := hk.cell f0 (by simp)
      have j1 := hk.cell f1 (by simp)
      go_simp
      try with_reducible rfl
    try simp only [Act.put, List.setIfInBounds_toArray, List.set_cons_zero, List.set_cons_succ]
    refine wpGrow_take (i := 15) (d := some 67) (v := ?_) rfl rfl (by kernel_rfl) (by kernel_rfl) (by kernel_rfl) (fun _ _ _ h => h) (by rfl) ?_ ?_
    rotate_left
    · intro wk hk
      go_simp
      try with_reducible rfl
    try simp only [Act.put, List.setIfInBounds_toArray, List.set_cons_zero, List.set_cons_succ]
    refine wpGrow_one (i := 16) rfl (by kernel_rfl) (by rfl) (fun K hK => ?_)
    refine app23_wp _ (.const (.slice none 0 0)) (.tmp 67) rfl w.heap.size (.slice none 0 0) [] (.slice (Option.map (fun x => x.add a) ao) (((a : Int) + (n : Int)).toNat - a) (cap - a)) ((L.drop a).take n) rfl rfl (Own.nil _ _) (HSG.out.grown (grown_drew _ _)) ?_ ?_ ?_
    · have := HZ.out; first | (simp; omega) | simp
    · exact HB.out
    intro v2 w2 o2 g2
    have S5 : Hid (Own w2 w.heap.size v2 ((L.drop a).take n) ∧ wz.grownBy w2 none) := by
      rw [List.nil_append] at o2
      exact ⟨o2, grown_trans (grown_drew _ _) (by exact grown_weak g2 _)⟩
    clear o2
    refine hK.out _ _ (grown_weak g2 none) ?_
    clear g2
    clear hK K
    try simp only [Act.put, List.setIfInBounds_toArray, List.set_cons_zero, List.set_cons_succ]
    refine wpGrow_take (i := 17) (d := some 4) (v := ?_) rfl rfl (by kernel_rfl) (by kernel_rfl) (by kernel_rfl) (fun _ _ _ h => h) (by rfl) ?_ ?_
    rotate_left
    · intro wk hk
      go_simp
      try with_reducible rfl
    try simp only [Act.put, List.setIfInBounds_toArray, List.set_cons_zero, List.set_cons_succ]
    refine wpGrow_take (i := 18) (d := some 5) (v := ?_) rfl rfl (by kernel_rfl) (by kernel_rfl) (by kernel_rfl) (fun _ _ _ h => h) (by rfl) ?_ ?_
    rotate_left
    · intro wk hk
      go_simp
      try with_reducible rfl
    try simp only [Act.put, List.setIfInBounds_toArray, List.set_cons_zero, List.set_cons_succ]
    refine wpGrow_done (by kernel_rfl) ?_
    refine NoPanic.normal ?_
    go_wp2_with fail
    go_ret2
    exact ⟨_, rfl, S5.out.1, RfB.kept S3.out.1 S5.out.2 (by simp), grown_trans S3.out.2.1 (grown_weak S5.out.2 _)⟩
end
end Go.Proofs.Ytneppkbbnajpnaa
