/-
  The form of a pair; Put at pairs.
-/
import Derived.Test.YtneppkbbnajpnaaXp
import Derived.Test.YtneppkbbnajpnaaJh
import Derived.Deep.RegionHeld3
import Derived.Deep.DrawnRows
import Derived.Deep.QuietTactic
import Derived.BigQuiet
namespace Go.Proofs.Ytneppkbbnajpnaa
open Go.RowKit
attribute [local go_sem ↓] Go.wp_at_zero Go.wp_at_succ

/-- The form of a pair. -/
def pairForm (p : Nat × Nat) : List UInt8 := numForm p.1 ++ numForm p.2

theorem pairForm_len (p : Nat × Nat) (h1 : p.1 < 2 ^ 64) (h2 : p.2 < 2 ^ 64) : (pairForm p).length ≤ 20 := by
  have := numForm_len10 p.1 h1
  have := numForm_len10 p.2 h2
  unfold pairForm
  simp; omega

set_option maxRecDepth 100000 in
set_option maxHeartbeats 1000000 in
theorem form30 (a c : Nat) (ha : a < 2 ^ 64) (hc : c < 2 ^ 64) (w : World) :
    Calls Try.prog 30 #[.agg #[.int .u64 a, .int .u64 c]] w (FormPost (pairForm (a, c)) w) := by
  obtain ⟨w0, hw0⟩ : ∃ w0, w0 = w.alloc (.cells #[.int .u64 (a : Int), .int .u64 (c : Int)] 59) := ⟨_, rfl⟩
  have c0 : w0.cell? ⟨w.heap.size, 0, none⟩ = some (.int .u64 a) := by rw [hw0]; simp
  have c1 : w0.cell? ⟨w.heap.size, 1, none⟩ = some (.int .u64 c) := by rw [hw0]; simp
  have HG : Hid (w.grownBy w0 none) := by rw [hw0]; exact World.grownBy_alloc _ _ _
  have HA : Hid (a < 2 ^ 64 ∧ c < 2 ^ 64) := ⟨ha, hc⟩
  have HC : Hid (∀ x, w0.grownBy x none → x.cell? ⟨w.heap.size, 0, none⟩ = some (.int .u64 a) ∧ x.cell? ⟨w.heap.size, 1, none⟩ = some (.int .u64 c)) := fun x hx => ⟨hx.cell c0 (by simp), hx.cell c1 (by simp)⟩
  have HW : Hid _ := hw0
  clear hw0 ha hc c0 c1
  go_enter Try.func30, Try.ntmps30
  go_wp2_with fail
  rw [← HW.out]
  refine wp_region_noPanic ?_
  refine wp_region_hold (fun x => w0.grownBy x none) (by kernel_rfl) ?_
  refine wpHold_take (i := 0) (d := some 3) (v := .pointer (some ⟨w.heap.size, 0, none⟩)) (grown_drew _ _) rfl rfl (by kernel_rfl) (by kernel_rfl) (by kernel_rfl) (fun _ _ _ h => h) (by rfl) ?_ ?_
  · intro wk hk
    go_simp
    try with_reducible rfl
  try simp only [Act.put, List.setIfInBounds_toArray, List.set_cons_zero, List.set_cons_succ]
  refine wpHold_take (i := 1) (d := some 4) (v := .int .u64 a) (grown_drew _ _) rfl rfl (by kernel_rfl) (by kernel_rfl) (by kernel_rfl) (fun _ _ _ h => h) (by rfl) ?_ ?_
  · intro wk hk
    obtain ⟨k0, k1⟩ := HC.out wk hk
    go_simp
    try with_reducible rfl
  try simp only [Act.put, List.setIfInBounds_toArray, List.set_cons_zero, List.set_cons_succ]
  refine wpHold_take (i := 3) (d := some 6) (v := .pointer (some ⟨w.heap.size, 1, none⟩)) (grown_drew _ _) rfl rfl (by kernel_rfl) (by kernel_rfl) (by kernel_rfl) (fun _ _ _ h => h) (by rfl) ?_ ?_
  · intro wk hk
    go_simp
    try with_reducible rfl
  try simp only [Act.put, List.setIfInBounds_toArray, List.set_cons_zero, List.set_cons_succ]
  refine wpHold_take (i := 4) (d := some 7) (v := .int .u64 c) (grown_drew _ _) rfl rfl (by kernel_rfl) (by kernel_rfl) (by kernel_rfl) (fun _ _ _ h => h) (by rfl) ?_ ?_
  · intro wk hk
    obtain ⟨k0, k1⟩ := HC.out wk hk
    go_simp
    try with_reducible rfl
  try simp only [Act.put, List.setIfInBounds_toArray, List.set_cons_zero, List.set_cons_succ]
  refine wpHold_one (i := 2) rfl (by kernel_rfl) (by rfl) (fun K hK => ?_)
  go_simp
  refine (number9_int _ a rfl HA.out.1 w0.drew).mono ?_
  rintro e w1 ⟨r1, rfl, o1, g1⟩
  have G1 : w0.grownBy w1 none := grown_trans (grown_drew _ _) g1
  go_wp2_with fail
  refine hK.out _ _ G1 ?_
  clear hK K
  try simp only [Act.put, List.setIfInBounds_toArray, List.set_cons_zero, List.set_cons_succ]
  refine wpHold_one (i := 5) rfl (by kernel_rfl) (by rfl) (fun K hK => ?_)
  go_simp
  refine (number9_int _ c rfl HA.out.2 w1).mono ?_
  rintro e w2 ⟨r2, rfl, o2, g2⟩
  have G2 : w0.grownBy w2 none := grown_trans G1 g2
  go_wp2_with fail
  refine hK.out _ _ G2 ?_
  clear hK K
  try simp only [Act.put, List.setIfInBounds_toArray, List.set_cons_zero, List.set_cons_succ]
  refine wpHold_one (i := 6) rfl (by kernel_rfl) (by rfl) (fun K hK => ?_)
  refine app23_wp _ (.tmp 5) (.tmp 8) rfl w0.heap.size r1 (numForm a) r2 (numForm c) rfl rfl (o1.grown g2) o2.seg ?_ G2.size ?_
  · have h1 := numForm_len10 a HA.out.1
    have h2 := numForm_len10 c HA.out.2
    omega
  intro v3 w3 o3 g3
  have G3 : w0.grownBy w3 none := grown_new G2 g3 (fun x hx => o1.lt x hx)
  refine hK.out _ _ G3 ?_
  clear hK K
  try simp only [Act.put, List.setIfInBounds_toArray, List.set_cons_zero, List.set_cons_succ]
  have S3 : Hid (Own w3 w.heap.size v3 (pairForm (a, c)) ∧ w.grownBy w3 none) := ⟨o3.mono HG.out.size, grown_trans HG.out G3⟩
  have HG3 : Hid (w0.grownBy w3 none) := G3
  clear o1 o2 o3 g1 g2 g3 G1 G2 G3
  refine wpHold_one (i := 7) rfl (by kernel_rfl) (by rfl) (fun K hK => ?_)
  go_wp2_with fail
  refine hK.out _ _ HG3.out ?_
  clear hK K
  refine wpHold_done (by kernel_rfl) ?_
  refine (‹∀ (a : Act) (w : World), Code.wp Try.prog Code.ret _ a w → _› _ _ ?_)
  go_wp2_with fail
  go_ret
  exact ⟨_, rfl, S3.out⟩

/-- The form of pairs, one behind the other, and of a list of them. -/
def pairsForm (ps : List (Nat × Nat)) : List UInt8 := (ps.map pairForm).flatten
def listForm (ps : List (Nat × Nat)) : List UInt8 := numForm ps.length ++ pairsForm ps

/-- Numbers of eight bytes. -/
def Small (ps : List (Nat × Nat)) : Prop := ∀ p ∈ ps, p.1 < 2 ^ 64 ∧ p.2 < 2 ^ 64

theorem pairsForm_take {ps : List (Nat × Nat)} {k : Nat} (h : k < ps.length) : pairsForm (ps.take (k + 1)) = pairsForm (ps.take k) ++ pairForm ps[k] := by
  unfold pairsForm
  rw [List.take_succ_eq_append_getElem h, List.map_append, List.flatten_append, List.map_cons, List.map_nil, List.flatten_cons, List.flatten_nil, List.append_nil]

theorem pairsForm_len : ∀ (ps : List (Nat × Nat)), Small ps → (pairsForm ps).length ≤ ps.length * 20
  | [], _ => by simp [pairsForm]
  | p :: ps, h => by
    have h1 := pairForm_len p (h p (by simp)).1 (h p (by simp)).2
    have h2 := pairsForm_len ps (fun q hq => h q (by simp [hq]))
    unfold pairsForm at h2 ⊢
    simp at h2 ⊢
    omega

theorem Small.take {ps : List (Nat × Nat)} (h : Small ps) (k : Nat) : Small (ps.take k) := fun p hp => h p (List.mem_of_mem_take hp)

theorem ne61 (w : World) : (binOp .eql 61 (.func (.func 30) #[] #[]) .nilFunc).run Try.prog w = .ok (.bool false) w := by kernel_rfl

set_option maxRecDepth 100000 in
set_option maxHeartbeats 1000000 in
theorem put29 (v : Value) (ps : List (Nat × Nat)) (w : World) (hv : SegP w v ps) (hs : Small ps) (hz : ps.length ≤ 8796093021952) :
    Calls Try.prog 29 #[v, .func (.func 30) #[] #[]] w fun e w' => ∃ u, e = .returned (.tuple #[u, .int .i64 0]) ∧ Own w' w.heap.size u (listForm ps) ∧ w.grownBy w' none := by
  obtain ⟨ao, cap, rfl⟩ := hv.shape
  have HV : Hid (SegP w (.slice ao ps.length cap) ps) := hv
  have HSm : Hid (Small ps) := hs
  have q1 := ne61
  have wu : IntKind.u64.wrap (ps.length : Int) = (ps.length : Int) := by rw [IntKind.wrap_u64]; omega
  clear hv hs
  go_enter Try.func29, Try.ntmps29
  go_wp2_with fail
  refine (number9_int _ ps.length rfl (by omega) w).mono ?_
  rintro e w1 ⟨r1, rfl, o1, g1⟩
  have S1 : Hid (Own w1 w.heap.size r1 (numForm ps.length) ∧ w.grownBy w1 none) := ⟨o1, g1⟩
  clear o1 g1
  go_wp2_with fail
  go_loopw [6, 17] (fun x i wr => ∃ k : Nat, k ≤ ps.length ∧ i = .int .i64 k ∧ Own wr w.heap.size x (numForm ps.length ++ pairsForm (ps.take k)) ∧ w.grownBy wr none) (fun _ i _ => ps.length - (intOf i).toNat)
  case atStart => exact ⟨0, by omega, rfl, by simpa [pairsForm] using S1.out.1, S1.out.2⟩
  case round =>
    obtain ⟨k, hk, rfl, hown, hg⟩ := hrel
    by_cases hlt : k < ps.length
    · obtain ⟨_, _, hvv, _, _, _, h4⟩ := SegP.grown HV.out hg
      simp at hvv
      obtain ⟨rfl, rfl⟩ := hvv
      obtain ⟨bb, off, rfl, c0, c1⟩ := h4 k hlt
      have hsm := HSm.out ps[k] (List.getElem_mem hlt)
      have HE : Hid _ := pairsForm_take hlt
      obtain ⟨p, hp⟩ : ∃ p, ps[k] = p := ⟨_, rfl⟩
      rw [hp] at c0 c1 hsm HE
      obtain ⟨a, c⟩ := p
      simp only at c0 c1 hsm
      have hl1 := pairsForm_len (ps.take k) (Small.take HSm.out k)
      have hl2 := numForm_len10 ps.length (by omega)
      have hl3 := pairForm_len (a, c) hsm.1 hsm.2
      have HLL : Hid ((numForm ps.length ++ pairsForm (ps.take k)).length + (pairForm (a, c)).length ≤ 225179981368000) := by
        unfold Hid
        simp at hl1 ⊢
        omega
      have S2 : Hid (Own (wr.alloc (.cells #[.int .u64 (a : Int), .int .u64 (c : Int)] 59)) w.heap.size u6 (numForm ps.length ++ pairsForm (ps.take k)) ∧ w.grownBy (wr.alloc (.cells #[.int .u64 (a : Int), .int .u64 (c : Int)] 59)) none) := ⟨hown.grown (World.grownBy_alloc _ _ _), grown_trans hg (World.grownBy_alloc _ _ _)⟩
      have HF : Hid _ := form30 a c hsm.1 hsm.2 (wr.alloc (.cells #[.int .u64 (a : Int), .int .u64 (c : Int)] 59))
      have i1 : (0 : Int) ≤ (k : Int) := by omega
      have i2 : (k : Int) < (ps.length : Int) := by omega
      clear hown hg h4 hp hl1 hl2 hl3 hsm
      go_wp2_with fail
      refine Calls.mono HF.out ?_
      rintro e w2 ⟨r2, rfl, o2, g2⟩
      have S3 : Hid (Own w2 w.heap.size u6 (numForm ps.length ++ pairsForm (ps.take k)) ∧ w.grownBy w2 none ∧ Own w2 w.heap.size r2 (pairForm (a, c))) := ⟨S2.out.1.grown g2, grown_trans S2.out.2 g2, o2.mono S2.out.2.size⟩
      clear o2 g2 S2 HF
      go_wp2_with (at_builtin; refine app23f _ rfl (.tmp 21) (.tmp 24) rfl w.heap.size _ _ _ _ rfl rfl S3.out.1 S3.out.2.2.seg HLL.out S3.out.2.1.size ?_; intro v3 w3 o3 g3)
      have S4 : Hid (Own w3 w.heap.size v3 (numForm ps.length ++ pairsForm (ps.take (k + 1))) ∧ w.grownBy w3 none) := by
        refine ⟨by rw [HE.out, ← List.append_assoc]; exact o3, grown_new S3.out.2.1 g3 (fun x hx => S3.out.1.lt x hx)⟩
      clear o3 g3 S3
      go_roundw
      case rel => exact ⟨k + 1, by omega, by go_num, S4.out.1, S4.out.2⟩
      case measure => simp [intOf]; omega
    · have e : k = ps.length := by omega
      subst e
      rw [List.take_length] at hown
      have S2 : Hid (Own wr w.heap.size u6 (listForm ps) ∧ w.grownBy wr none) := ⟨hown, hg⟩
      clear hown hg
      go_wp2_with fail
      go_ret2
      exact ⟨_, rfl, S2.out⟩
end Go.Proofs.Ytneppkbbnajpnaa
