/-
  Where a range's rows stand; the row of a key; a row of the call's own.
-/
import Derived.Test.YtlehikdlkdbacaaQ
import Derived.Test.YtlehikdlkdbacaaNamesAll
namespace Go.Proofs.Ytlehikdlkdbacaa
open Go.RowKit Disk
open Names (cmpL)

theorem run_max2 (ts : Array TypeId) (t : TypeId) (m n : Nat) (w : World) : (Builtin.max_ ts t #[.int .i64 m, .int .i64 n]).run Try.prog w = .ok (.int .i64 ((max m n : Nat) : Int)) w := by
  by_cases h : m ≤ n
  · rw [Nat.max_eq_right h]
    simp [Builtin.max_, Builtin.max2]
    try omega
  · rw [Nat.max_eq_left (by omega)]
    simp [Builtin.max_, Builtin.max2]
    try omega
attribute [local go_sem ↓] run_max2

set_option maxRecDepth 100000 in
set_option maxHeartbeats 4000000 in
theorem span50 (tv : Value) (is : Bool) (f t : Value) (l : List PRow) (F T : Bs) (hr : Rise l) (hz : l.length ≤ 1000000) (w : World) (ht : Tl w tv is l) (hf : Seg w f F) (hT : Seg w t T) :
    Calls Try.prog 50 #[tv, f, t] w fun e w' => e = .returned (.tuple #[.int .i64 (rankL l F : Nat), .int .i64 (spanE l F T : Nat)]) ∧ w.grownBy w' none := by
  have HT : Hid (Tl w tv is l ∧ Seg w f F) := ⟨ht, hf⟩
  have HR : Hid (Rise l ∧ l.length ≤ 1000000) := ⟨hr, hz⟩
  obtain ⟨ao, nt, ct, rfl, hnt, _, HS⟩ := Names.seg_open hT
  have HNT : Hid (T.length = nt) := hnt
  obtain ⟨n, hn⟩ : ∃ n, l.length = n := ⟨_, rfl⟩
  have HN : Hid (l.length = n) := hn
  obtain ⟨rf, hrf⟩ : ∃ n, rankL l F = n := ⟨_, rfl⟩
  have HF : Hid (rankL l F = rf) := hrf
  obtain ⟨rt, hrt⟩ : ∃ n, rankL l T = n := ⟨_, rfl⟩
  have HRT : Hid (rankL l T = rt) := hrt
  rw [hrf]
  clear ht hf hT hr hz hnt hn hrf hrt
  go_enter Try.func50, Try.ntmps50
  go_wp2_with fail
  refine (rank25 tv is f l F HR.out.1 HR.out.2 w HT.out.1 HT.out.2).mono ?_
  rintro e w1 ⟨rfl, g1⟩
  have G1 : Hid (w.grownBy w1 none) := g1
  clear g1
  rw [HF.out]
  go_wp2_with fail
  refine (len23g tv is l w1 (HT.out.1.grown G1.out)).mono ?_
  rintro e w2 ⟨rfl, hw2⟩
  rw [hw2, HN.out]
  clear hw2
  by_cases h0 : nt = 0
  · subst h0
    have hE : spanE l F T = n := by unfold spanE; rw [if_pos HNT.out, HN.out]
    have HE : Hid (spanE l F T = n) := hE
    clear hE
    go_wp2_with fail
    go_ret2
    exact ⟨by rw [HE.out]; rfl, G1.out⟩
  · have hE : spanE l F T = max rf rt := by unfold spanE; rw [if_neg (by rw [HNT.out]; exact h0), HF.out, HRT.out]
    have HE : Hid (spanE l F T = max rf rt) := hE
    clear hE
    have h1 : (0 : Int) < (nt : Int) := by omega
    go_wp2_with fail
    refine (rank25 tv is _ l T HR.out.1 HR.out.2 w1 (HT.out.1.grown G1.out) (HS.out.grown G1.out)).mono ?_
    rintro e w2 ⟨rfl, g2⟩
    rw [HRT.out]
    have G2 : Hid (w.grownBy w2 none) := grown_trans G1.out g2
    clear g2
    go_wp2_with fail
    go_ret2
    exact ⟨by rw [HE.out]; rfl, G2.out⟩

set_option maxRecDepth 100000 in
set_option maxHeartbeats 4000000 in
theorem row64 (b : Nat) (kv : Value) (l : List PRow) (key : Bs) (hr : Rise l) (hz : l.length ≤ 1000000) (hkl : key.length ≤ 100000) (w : World) (ht : Tb w b l) (hk : Seg w kv key) :
    Calls Try.prog 64 #[.pointer (some ⟨b, 0, none⟩), kv] w fun e w' => e = .returned (.tuple #[.int .i64 (rankL l key : Nat), .int .i64 (endL l key : Nat)]) ∧ w.grownBy w' none := by
  have HT : Hid (Tb w b l ∧ Seg w kv key) := ⟨ht, hk⟩
  have HR : Hid (Rise l ∧ l.length ≤ 1000000) := ⟨hr, hz⟩
  have HE : Hid (spanE l key (key ++ [0]) = endL l key) := span_row hr key
  clear ht hk hr hz
  go_enter Try.func64, Try.ntmps64
  go_wp2_with fail
  refine (Names.next21 kv key w HT.out.2 (by omega)).mono ?_
  rintro e w1 ⟨x, rfl, hx, g1⟩
  have G1 : Hid (w.grownBy w1 none ∧ Seg w1 x (key ++ [0])) := ⟨g1, hx.seg⟩
  clear g1 hx
  go_wp2_with fail
  refine (span50 _ true kv x l key (key ++ [0]) HR.out.1 HR.out.2 w1 (HT.out.1.grown G1.out.1).tl (HT.out.2.grown G1.out.1) G1.out.2).mono ?_
  rintro e w2 ⟨rfl, g2⟩
  have G2 : Hid (w.grownBy w2 none) := grown_trans G1.out.1 g2
  clear g2
  rw [HE.out]
  go_wp2_with fail
  go_ret2
  exact ⟨rfl, G2.out⟩

set_option maxRecDepth 100000 in
set_option maxHeartbeats 4000000 in
theorem ownRow55 (kv vv : Value) (k v : Bs) (w : World) (hk : Seg w kv k) (hv : Seg w vv v) (hkl : k.length ≤ 140737488355328) (hvl : v.length ≤ 140737488355328) :
    Calls Try.prog 55 #[kv, vv] w fun e w' => ∃ p, e = .returned (.pointer (some ⟨p, 0, none⟩)) ∧ w.heap.size ≤ p ∧ (∃ x y, Blk w' p 45 #[x, y] ∧ Disk.Own w' w.heap.size x k ∧ Disk.Own w' w.heap.size y v ∧ (∀ g, x.ownBlock = some g → y.ownBlock ≠ some g)) ∧ w.grownBy w' none := by
  have HS : Hid (Seg w kv k ∧ Seg w vv v) := ⟨hk, hv⟩
  clear hk hv
  go_enter Try.func55, Try.ntmps55
  go_wp2_with fail
  refine (Disk.clone25 kv k w HS.out.1 hkl).mono ?_
  rintro e w1 ⟨x, rfl, ox, g1⟩
  have G1 : Hid (w.grownBy w1 none ∧ Disk.Own w1 w.heap.size x k) := ⟨g1, ox⟩
  obtain ⟨ax, cx, ex⟩ := ox.seg.shape
  subst ex
  clear g1 ox
  go_wp2_with fail
  refine (Disk.clone25 vv v w1 (HS.out.2.grown G1.out.1) hvl).mono ?_
  rintro e w2 ⟨y, rfl, oy, g2⟩
  have G2 : Hid (w1.grownBy w2 none ∧ Disk.Own w2 w1.heap.size y v) := ⟨g2, oy⟩
  obtain ⟨ay, cy, ey⟩ := oy.seg.shape
  subst ey
  clear g2 oy
  go_wp2_with fail
  obtain ⟨w3, hw3, H3⟩ := al w2 #[.slice ax k.length cx, .slice ay v.length cy] 45
  rw [hw3]
  clear hw3
  go_wp2_with fail
  go_ret
  have s1 := G1.out.1.size
  have s2 := G2.out.1.size
  refine ⟨_, rfl, by omega, ⟨_, _, H3.out.1, (G1.out.2.grown G2.out.1).grown H3.out.2.1, (G2.out.2.grown H3.out.2.1).mono s1, fun g hg hg' => ?_⟩, grown_trans G1.out.1 (grown_trans G2.out.1 H3.out.2.1)⟩
  have := (G1.out.2.lt g hg).2
  have := (G2.out.2.lt g hg').1
  omega

set_option maxRecDepth 100000 in
theorem mayBe53 (kv vv : Value) (k v : Bs) (w : World) (hk : Seg w kv k) (hv : Seg w vv v) :
    Calls Try.prog 53 #[kv, vv] w fun e w' => e = .returned (.bool (Names.keyB k && Names.valueB v)) ∧ w' = w := by
  have HS : Hid (Seg w kv k ∧ Seg w vv v) := ⟨hk, hv⟩
  clear hk hv
  go_enter Try.func53, Try.ntmps53
  go_wp2_with fail
  refine (Names.key11 kv k w HS.out.1).mono ?_
  rintro e w1 ⟨rfl, hw1⟩
  rw [hw1]
  clear hw1
  cases hkk : Names.keyB k
  · go_wp2_with fail
    go_ret
    exact ⟨by simp [hkk], rfl⟩
  · go_wp2_with fail
    refine (Names.value13 vv v w HS.out.2).mono ?_
    rintro e w1 ⟨rfl, hw1⟩
    rw [hw1]
    clear hw1
    go_wp2_with fail
    go_ret
    exact ⟨by simp [hkk], rfl⟩
end Go.Proofs.Ytlehikdlkdbacaa
