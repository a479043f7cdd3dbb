/-
  CallsReads' walk.
-/
import Derived.Test.YtfocmbnhkldnfaaGreatDoorSp
import Derived.Test.YtfocmbnhkldnfaaGreatDoorPr
import Derived.Test.YtfocmbnhkldnfaaGreatDoorKn
import Derived.Deep.DeepCutAuto
namespace Go.Proofs.YtfocmbnhkldnfaaGreatDoor
open Go.RowKit Disk
open Names (Str)

theorem opsOwn_same {w w' : World} {B : Nat} {v : Value} {l : List POp} (h : OpsOwn w B v l) (hs : ∀ k, B ≤ k → k < w.heap.size → w'.heap[k]? = w.heap[k]?) : OpsOwn w' B v l := by
  obtain ⟨⟨vs, h1, h2, h3, h4⟩, h5⟩ := h
  have hlt := fun k hk => World.ownsRow.lt h1 k hk
  refine ⟨⟨vs, ⟨h1.1, ?_⟩, h2, h3, fun j hj hj' => ?_⟩, h5⟩
  · rcases h1.2 with h | ⟨g, cap, cur, e, hb, hg, r⟩
    · exact .inl h
    · refine .inr ⟨g, cap, cur, e, hb, ?_, r⟩
      rw [hs g hb (hlt g (by rw [e]; simp [Value.ownBlock])).2]
      exact hg
  · obtain ⟨k, x, ol, t, e, ho⟩ := h4 j hj hj'
    have cs : ∀ {y : Value} {L : Bs}, Names.Cut w B y L → Names.Cut w' B y L := fun hy => hy.same fun k hk => hs k (hy.lt k hk).1 (hy.lt k hk).2
    exact ⟨k, x, ol, t, e, cs ho.key, cs ho.value, cs ho.old, cs ho.tos, ho.fits⟩
theorem same19_me (a b : Value) (A : List POp) (w : World) (ha : Ops w a A) (hb : Ops w b A) : Calls Tryz.prog 19 #[.agg #[a], .agg #[b]] w fun e w' => e = .returned (.bool true) ∧ w.grownBy w' none := by simpa using same19 a b A A w ha hb
def RPost (w : World) (l : List POp) (c : Int) (e : Ending) (w' : World) : Prop := ∃ xo xn xc, e = .returned (.tuple #[.agg #[.slice xo xn xc], .int .i64 c]) ∧ OpsOwn w' w.heap.size (.slice xo xn xc) l ∧ w.grownBy w' none
theorem rpost_of {w : World} {r : List POp × Int} {e : Ending} {w' : World} {l : List POp} {c : Int} (h : ReadPost w r e w') (hr : r = (l, c)) : RPost w l c e w' := by
  subst hr
  obtain ⟨u, he, ho, hg⟩ := h
  obtain ⟨x, n, y, rfl, _⟩ := ho.slice
  exact ⟨x, n, y, he, ho, hg⟩

set_option maxRecDepth 100000 in
set_option maxHeartbeats 16000000 in
theorem reads4 (v : Value) (L s : Bs) (w : World) (hv : Seg w v L) (hE : EnvF w) (hls : s.length ≤ 9223372036854775807) :
    Calls Tryz.prog 4 #[v, .string ⟨s.toArray⟩] w fun e w' => e = .returned (.bool true) ∧ w.grownBy w' none := by
  have HE : Hid (EnvF w) := hE
  have HV : Hid (Seg w v L) := hv
  have hlv := hv.len
  obtain ⟨f, q, e⟩ := hv.shape
  obtain ⟨n, hn⟩ : ∃ n, L.length = n := ⟨_, rfl⟩
  rw [hn] at e hlv
  subst e
  have HN : Hid (L.length = n) := hn
  obtain ⟨X, hX⟩ : ∃ X : ByteArray, X = ⟨s.toArray⟩ := ⟨_, rfl⟩
  obtain ⟨sn, hsn⟩ : ∃ n, s.length = n := ⟨_, rfl⟩
  have hsz : X.size = sn := by rw [hX]; simp [ByteArray.size, hsn]
  have HX : Hid (X = ⟨s.toArray⟩ ∧ s.length = sn) := ⟨hX, hsn⟩
  rw [hsn] at hls
  rw [← hX]
  clear hX hsn hn hv hE
  by_cases hbig : 5000 < n ∨ 13000 < sn
  case pos =>
    rcases hbig with h | h
    case inl =>
      have i1 : (5000 : Int) < (n : Int) := by omega
      go_enter Tryz.func4, Tryz.ntmps4
      go_wp2_with (go_at_call 10; refine (known10 _ HE.out).mono ?_)
      rintro e w1 ⟨rfl, hg⟩
      go_wp2_with fail
      go_ret
      exact ⟨rfl, hg⟩
    case inr =>
      have i2 : (13000 : Int) < (sn : Int) := by omega
      by_cases h5 : 5000 < n
      case pos =>
        have i1 : (5000 : Int) < (n : Int) := by omega
        go_enter Tryz.func4, Tryz.ntmps4
        go_wp2_with (go_at_call 10; refine (known10 _ HE.out).mono ?_)
        rintro e w1 ⟨rfl, hg⟩
        go_wp2_with fail
        go_ret
        exact ⟨rfl, hg⟩
      have i1 : ((5000 : Int) < (n : Int)) = False := eq_false (by omega)
      go_enter Tryz.func4, Tryz.ntmps4
      go_wp2_with (go_at_call 10; refine (known10 _ HE.out).mono ?_)
      rintro e w1 ⟨rfl, hg⟩
      go_wp2_with fail
      go_ret
      exact ⟨rfl, hg⟩
  have i1 : ((5000 : Int) < (n : Int)) = False := eq_false (by omega)
  have i2 : ((13000 : Int) < (sn : Int)) = False := eq_false (by omega)
  have n5 : n ≤ 5000 := by omega
  have s13 : sn ≤ 13000 := by omega
  clear hbig hlv hls
  obtain ⟨A, c, hA⟩ : ∃ A c, readC L = (A, c) := ⟨_, _, rfl⟩
  have HA : Hid (readC L = (A, c)) := hA
  clear hA
  go_enter Tryz.func4, Tryz.ntmps4
  go_upto_region 3 with fail
  go_wp2_with (at_builtin; refine app22 _ rfl _ _ rfl w.heap.size (.slice none 0 0) [] _ L rfl rfl (Own.nil _ _) HV.out ?c0 ?c1 ?_)
  case c0 => rw [HN.out]; simp; omega
  case c1 => omega
  intro v1 w1 ho hg _
  have P1 : Hid (Own w1 w.heap.size v1 L ∧ w.grownBy w1 none) := ⟨ho, grown_new (grown_refl _ _) hg (fun x hx => by simp [Value.ownBlock] at hx)⟩
  clear ho hg
  go_wp2_with (at_builtin; refine app22 _ rfl _ _ rfl w.heap.size _ L _ [119] rfl rfl (P1.out.1.alloc _) (Wire.own_lit w1 119 119 rfl).seg ?c0 ?c1 ?_)
  case c0 => rw [HN.out]; simp; omega
  case c1 => have := P1.out.2.size; simp; omega
  intro v2 w2 ho hg _
  have P2 : Hid (Own w2 w.heap.size v2 (L ++ [119]) ∧ w.grownBy w2 none) := ⟨ho, grown_new (grown_trans P1.out.2 (World.grownBy_alloc _ _ none)) hg (fun x hx => (P1.out.1.lt x hx).1)⟩
  clear ho hg P1
  obtain ⟨f0, q0, e0⟩ := P2.out.1.seg.shape
  rw [List.length_append, HN.out] at e0
  simp only [List.length_cons, List.length_nil, Nat.zero_add] at e0
  subst e0
  have z1 : n ≤ q0 := by have := P2.out.1.seg; obtain ⟨_, _, h1, h2, _⟩ := this; simp [HN.out] at h1 h2; omega
  have OWB : Hid (∀ k, (Value.slice f0 (n + 1) q0).ownBlock = some k → w.heap.size ≤ k ∧ k < w2.heap.size) := fun k hk => P2.out.1.lt k hk
  have HT : Hid (∀ x : World, w2.grownBy x none → Seg x (.slice f0 n q0) L) := fun x hx => by
    have h := (P2.out.1.grown hx).seg
    have h2 : Seg x (.slice f0 (L ++ [119]).length q0) (L ++ [119]) := by rw [List.length_append, HN.out]; exact h
    have h3 := seg_take n (by rw [List.length_append, HN.out]; simp) h2
    rw [List.take_append_of_le_length (by rw [HN.out]; omega), List.take_of_length_le (by rw [HN.out]; omega)] at h3
    exact h3
  go_upto_region 4 with fail
  have z0 : (0 : Int) ≤ (n : Int) := by omega
  have z2 : (n : Int) ≤ (q0 : Int) := by omega
  go_wp2_with fail
  go_simp
  refine ((read22 _ L _ (by rw [HN.out]; omega) (HT.out _ (grown_refl _ _))).mono (fun _ _ h => rpost_of h HA.out)).mono ?_
  rintro e w3 ⟨xo, xn, xc, rfl, hx, hg⟩
  have P3 : Hid (OpsOwn w3 w2.heap.size (.slice xo xn xc) A ∧ w2.grownBy w3 none) := ⟨hx, hg⟩
  clear hx hg
  go_simp
  go_upto_region 5 with fail
  have P4 : Hid (w2.grownBy (w3.alloc (.cells #[.slice xo xn xc] 24)) none ∧ w3.grownBy (w3.alloc (.cells #[.slice xo xn xc] 24)) none ∧ Blk (w3.alloc (.cells #[.slice xo xn xc] 24)) w3.heap.size 24 #[.slice xo xn xc]) := ⟨grown_trans P3.out.2 (World.grownBy_alloc _ _ none), World.grownBy_alloc _ _ none, heap_alloc_new w3 _⟩
  have SZ4 : Hid ((w3.alloc (.cells #[.slice xo xn xc] 24)).heap.size = w3.heap.size + 1) := by unfold Hid; simp
  generalize (w3.alloc (.cells #[.slice xo xn xc] 24)) = w4 at P4 SZ4 ⊢
  go_wp2_with fail
  go_simp
  refine ((read22 _ L _ (by rw [HN.out]; omega) (HT.out _ P4.out.1)).mono (fun _ _ h => rpost_of h HA.out)).mono ?_
  rintro e w5 ⟨do_, dn, dc, rfl, hx, hg⟩
  have P5 : Hid (OpsOwn w5 w4.heap.size (.slice do_ dn dc) A ∧ w4.grownBy w5 none) := ⟨hx, hg⟩
  clear hx hg
  go_simp
  go_upto_region 6 with fail
  have P6 : Hid (w5.grownBy (w5.alloc (.cells #[.slice do_ dn dc] 24)) none ∧ Blk (w5.alloc (.cells #[.slice do_ dn dc] 24)) w5.heap.size 24 #[.slice do_ dn dc]) := ⟨World.grownBy_alloc _ _ none, heap_alloc_new w5 _⟩
  generalize (w5.alloc (.cells #[.slice do_ dn dc] 24)) = w6 at P6 ⊢
  have GA : Hid (w.grownBy w6 none) := grown_trans P2.out.2 (grown_trans P4.out.1 (grown_trans P5.out.2 P6.out.1))
  go_wp2_with (go_at_call 23; refine ((read23 _ L _ (HV.out.grown GA.out) (by rw [HN.out]; omega)).mono (fun _ _ h => rpost_of h HA.out)).mono ?_)
  rintro e w7 ⟨wo, wn, wc, rfl, hx, hg⟩
  have P7 : Hid (OpsOwn w7 w6.heap.size (.slice wo wn wc) A ∧ w6.grownBy w7 none) := ⟨hx, hg⟩
  clear hx hg
  go_upto_region 7 with fail
  have P8 : Hid (w7.grownBy (w7.alloc (.cells #[.slice wo wn wc] 24)) none ∧ Blk (w7.alloc (.cells #[.slice wo wn wc] 24)) w7.heap.size 24 #[.slice wo wn wc]) := ⟨World.grownBy_alloc _ _ none, heap_alloc_new w7 _⟩
  generalize (w7.alloc (.cells #[.slice wo wn wc] 24)) = w8 at P8 ⊢
  obtain ⟨b6, hb6⟩ : ∃ k, w3.heap.size = k := ⟨_, rfl⟩
  obtain ⟨b8, hb8⟩ : ∃ k, w5.heap.size = k := ⟨_, rfl⟩
  obtain ⟨b10, hb10⟩ : ∃ k, w7.heap.size = k := ⟨_, rfl⟩
  have ORD : Hid (w.heap.size ≤ w2.heap.size ∧ w2.heap.size ≤ b6 ∧ w4.heap.size = b6 + 1 ∧ w4.heap.size ≤ b8 ∧ b8 < w6.heap.size ∧ w6.heap.size ≤ b10) := by
    refine ⟨P2.out.2.size, by rw [← hb6]; exact P3.out.2.size, by rw [← hb6]; exact SZ4.out, by rw [← hb8]; exact P5.out.2.size, by have := P6.out.2.lt; rw [hb8] at this; exact this, by rw [← hb10]; exact P7.out.2.size⟩
  have Q0 : Hid (Own w8 w.heap.size (.slice f0 (n + 1) q0) (L ++ [119]) ∧ OpsOwn w8 w4.heap.size (.slice do_ dn dc) A ∧ OpsOwn w8 w6.heap.size (.slice wo wn wc) A ∧ Ops w8 (.slice xo xn xc) A ∧ Blk w8 b6 24 #[.slice xo xn xc] ∧ Blk w8 b8 24 #[.slice do_ dn dc] ∧ Blk w8 b10 24 #[.slice wo wn wc] ∧ w.grownBy w8 none ∧ w3.grownBy w8 none) := by
    have g4 := grown_trans P5.out.2 (grown_trans P6.out.1 (grown_trans P7.out.2 P8.out.1))
    have g6 := grown_trans P7.out.2 P8.out.1
    have g2 := grown_trans P4.out.1 g4
    have g3 := grown_trans P4.out.2.1 g4
    exact ⟨P2.out.1.grown g2, P5.out.1.grown (grown_trans P6.out.1 g6), P7.out.1.grown P8.out.1, P3.out.1.ops.grown g3, by rw [← hb6]; exact P4.out.2.2.grown g4 (by simp), by rw [← hb8]; exact P6.out.2.grown g6 (by simp), by rw [← hb10]; exact P8.out.2, grown_trans P2.out.2 g2, g3⟩
  have HSP : Hid (∀ x, w3.grownBy x none → Calls Tryz.prog 24 #[.agg #[.slice xo xn xc]] x fun e w' => e = .returned (.tuple #[]) ∧ Fr x w' (fun i => w2.heap.size ≤ i ∧ i < b6)) := fun x hx => by rw [← hb6]; exact spoil24 _ A w2.heap.size w3 x P3.out.1 hx
  rw [hb6, hb8, hb10]
  clear hb6 hb8 hb10 P3 P4 P5 P6 P7 P8 SZ4 GA P2
  have c6 := Q0.out.2.2.2.2.1.cell 0
  have c10 := Q0.out.2.2.2.2.2.2.1.cell 0
  go_wp2_with (go_at_call 19; refine (same19_me _ _ A _ Q0.out.2.2.2.1 Q0.out.2.2.1.ops).mono ?_)
  rintro e w9 ⟨rfl, hg⟩
  clear c6 c10
  have Q1 : Hid (Own w9 w.heap.size (.slice f0 (n + 1) q0) (L ++ [119]) ∧ OpsOwn w9 w4.heap.size (.slice do_ dn dc) A ∧ OpsOwn w9 w6.heap.size (.slice wo wn wc) A ∧ Blk w9 b6 24 #[.slice xo xn xc] ∧ Blk w9 b8 24 #[.slice do_ dn dc] ∧ Blk w9 b10 24 #[.slice wo wn wc] ∧ w.grownBy w9 none ∧ w3.grownBy w9 none) := ⟨Q0.out.1.grown hg, Q0.out.2.1.grown hg, Q0.out.2.2.1.grown hg, Q0.out.2.2.2.2.1.grown hg (by simp), Q0.out.2.2.2.2.2.1.grown hg (by simp), Q0.out.2.2.2.2.2.2.1.grown hg (by simp), grown_trans Q0.out.2.2.2.2.2.2.2.1 hg, grown_trans Q0.out.2.2.2.2.2.2.2.2 hg⟩
  clear hg Q0
  have e1 := seg_str Q1.out.1.seg
  have e2 := seg_str (HV.out.grown Q1.out.2.2.2.2.2.2.1)
  obtain ⟨L7, hL7⟩ : ∃ M, L ++ [119] = M := ⟨_, rfl⟩
  have HL7 : Hid (L ++ [119] = L7) := hL7
  have e3 : ∀ wk, (Op.stringOp .add ⟨L.toArray⟩ ⟨#[119]⟩).run Tryz.prog wk = .ok (.string ⟨L7.toArray⟩) wk := fun wk => by rw [← hL7]; exact Names.str_add L [119] wk (by rw [HN.out]; simp; omega)
  rw [hL7] at e1
  clear hL7
  go_upto_region 9 with (go_at_call 15; refine (num15 _ _).mono ?_; rintro e wnn ⟨rfl, hw⟩; rw [hw]; clear hw)
  clear e1 e2 e3
  have c6 := Q1.out.2.2.2.1.cell 0
  go_wp2_with (go_at_call 24; refine (HSP.out _ Q1.out.2.2.2.2.2.2.2).mono ?_)
  rintro e w10 ⟨rfl, hf⟩
  clear c6
  have Q2 : Hid (Own w10 w.heap.size (.slice f0 (n + 1) q0) (L ++ [119]) ∧ OpsOwn w10 w4.heap.size (.slice do_ dn dc) A ∧ OpsOwn w10 w6.heap.size (.slice wo wn wc) A ∧ (∃ u, Blk w10 b6 24 #[u]) ∧ Blk w10 b8 24 #[.slice do_ dn dc] ∧ Blk w10 b10 24 #[.slice wo wn wc] ∧ w.grownBy w10 none) := by
    obtain ⟨o1, o2, o3, o4, o5, o6⟩ := ORD.out
    have far : ∀ k, b6 ≤ k → k < w9.heap.size → w10.heap[k]? = w9.heap[k]? := fun k h1 h2 => hf.block k h2 (fun e => by omega)
    refine ⟨Q1.out.1.same fun k hk => hf.block k (Q1.out.1.lt k hk).2 (fun e => by have := (OWB.out k hk).2; omega), opsOwn_same Q1.out.2.1 (fun k h1 h2 => far k (by omega) h2), opsOwn_same Q1.out.2.2.1 (fun k h1 h2 => far k (by omega) h2), ⟨_, Q1.out.2.2.2.1.same (far _ (by omega) Q1.out.2.2.2.1.lt)⟩, Q1.out.2.2.2.2.1.same (far _ (by omega) Q1.out.2.2.2.2.1.lt), Q1.out.2.2.2.2.2.1.same (far _ (by omega) Q1.out.2.2.2.2.2.1.lt), ?_⟩
    have g := Q1.out.2.2.2.2.2.2.1
    exact ⟨hf.os.trans g.os, hf.tape.trans g.tape, hf.output.trans g.output, Nat.le_trans g.size hf.size, fun i hi _ => (hf.block i (Nat.lt_of_lt_of_le hi g.size) (fun e => by omega)).trans (g.block i hi (by simp))⟩
  clear hf Q1 HSP
  obtain ⟨go, rfl, hgo⟩ : ∃ go, f0 = some ⟨go, 0, none⟩ ∧ w.heap.size ≤ go ∧ go < w2.heap.size := by
    rcases Q2.out.1.shape with ⟨h1, _⟩ | ⟨g, cap, h1, _⟩
    · simp at h1
    · simp at h1
      obtain ⟨rfl, _, rfl⟩ := h1
      exact ⟨g, rfl, OWB.out g (by simp [Value.ownBlock])⟩
  have HGO : Hid (w.heap.size ≤ go ∧ go < w2.heap.size) := hgo
  clear hgo OWB HT
  go_wp2_with fail
  go_loopw [12] (fun i wr => ∃ k : Nat, k ≤ n + 1 ∧ i = .int .i64 k ∧ Hid ((∃ M : Bs, M.length = n + 1 ∧ Own wr w.heap.size (.slice (some ⟨go, 0, none⟩) (n + 1) q0) M) ∧ OpsOwn wr w4.heap.size (.slice do_ dn dc) A ∧ OpsOwn wr w6.heap.size (.slice wo wn wc) A ∧ (∃ u, Blk wr b6 24 #[u]) ∧ Blk wr b8 24 #[.slice do_ dn dc] ∧ Blk wr b10 24 #[.slice wo wn wc] ∧ w.grownBy wr none)) (fun i _ => n + 1 - (intOf i).toNat)
  case atStart => exact ⟨0, by omega, rfl, ⟨_, by rw [List.length_append, HN.out]; rfl, Q2.out.1⟩, Q2.out.2⟩
  case round =>
    obtain ⟨k, hk, rfl, HR⟩ := hrel
    clear Q2
    by_cases hlt : k < n + 1
    · have i0 : (0 : Int) ≤ (k : Int) := by omega
      have i3 : (k : Int) < ((n + 1 : Nat) : Int) := by omega
      have i4 : (k : Int) < (n : Int) + 1 := by omega
      obtain ⟨M, hM, ho⟩ := HR.out.1
      obtain ⟨dx, d0⟩ : ∃ x, wr.cell? ⟨go, k, none⟩ = some x := ⟨_, (Names.own_cell ho k (by omega)).1⟩
      have d1 := (Names.own_cell ho k (by omega)).2
      have R2 : Hid ((∃ M : Bs, M.length = n + 1 ∧ Own (wr.setCell ⟨go, k, none⟩ (.int .u8 102)) w.heap.size (.slice (some ⟨go, 0, none⟩) (n + 1) q0) M) ∧ OpsOwn (wr.setCell ⟨go, k, none⟩ (.int .u8 102)) w4.heap.size (.slice do_ dn dc) A ∧ OpsOwn (wr.setCell ⟨go, k, none⟩ (.int .u8 102)) w6.heap.size (.slice wo wn wc) A ∧ (∃ u, Blk (wr.setCell ⟨go, k, none⟩ (.int .u8 102)) b6 24 #[u]) ∧ Blk (wr.setCell ⟨go, k, none⟩ (.int .u8 102)) b8 24 #[.slice do_ dn dc] ∧ Blk (wr.setCell ⟨go, k, none⟩ (.int .u8 102)) b10 24 #[.slice wo wn wc] ∧ w.grownBy (wr.setCell ⟨go, k, none⟩ (.int .u8 102)) none) := by
        obtain ⟨o1, o2, o3, o4, o5, o6⟩ := ORD.out
        have h2 := HGO.out.2
        have hg := grown_setCell wr go k (.int .u8 102)
        obtain ⟨u, hu⟩ := HR.out.2.2.2.1
        refine ⟨⟨M.set k 102, by rw [List.length_set]; exact hM, Names.own_store ho k 102 102 rfl⟩, opsOwn_same HR.out.2.1 (fun i h3 h4 => hg.block i h4 (by simp; omega)), opsOwn_same HR.out.2.2.1 (fun i h3 h4 => hg.block i h4 (by simp; omega)), ⟨u, hu.grown hg (by simp; omega)⟩, HR.out.2.2.2.2.1.grown hg (by simp; omega), HR.out.2.2.2.2.2.1.grown hg (by simp; omega), grown_new HR.out.2.2.2.2.2.2 hg (fun x hx => by simp at hx; have := HGO.out.1; omega)⟩
      clear hM ho
      go_wp2_with fail
      go_roundw
      case rel => exact ⟨k + 1, by omega, by go_num, R2⟩
      case measure => simp [intOf]; omega
    · have i3 : ((k : Int) < ((n + 1 : Nat) : Int)) = False := eq_false (by omega)
      have i4 : ((k : Int) < (n : Int) + 1) = False := eq_false (by omega)
      have c8 := HR.out.2.2.2.2.1.cell 0
      have c10 := HR.out.2.2.2.2.2.1.cell 0
      go_wp2_with (go_at_call 19; refine (same19_me _ _ A _ HR.out.2.1.ops HR.out.2.2.1.ops).mono ?_)
      rintro e w11 ⟨rfl, hg⟩
      have R3 : Hid ((∃ u, Blk w11 b6 24 #[u]) ∧ Blk w11 b10 24 #[.slice wo wn wc] ∧ w.grownBy w11 none) := by
        obtain ⟨u, hu⟩ := HR.out.2.2.2.1
        exact ⟨⟨u, hu.grown hg (by simp)⟩, HR.out.2.2.2.2.2.1.grown hg (by simp), grown_trans HR.out.2.2.2.2.2.2 hg⟩
      clear hg c8 c10 HR
      obtain ⟨D, cd, hD⟩ : ∃ A c, parseC s = (A, c) := ⟨_, _, rfl⟩
      have HD : Hid (parseC s = (D, cd)) := hD
      clear hD
      go_upto_region 16 with fail
      rw [HX.out.1]
      go_wp2_with (go_at_call 25; refine ((parse25 s _ (by rw [HX.out.2]; omega) (HE.out.grown R3.out.2.2)).mono (fun _ _ h => rpost_of h HD.out)).mono ?_)
      rintro e w12 ⟨po, pn, pc, rfl, hx, hg⟩
      have R4 : Hid ((∃ u, Blk w12 b6 24 #[u]) ∧ Blk w12 b10 24 #[.slice wo wn wc] ∧ w.grownBy w12 none ∧ OpsOwn w12 w11.heap.size (.slice po pn pc) D) := by
        obtain ⟨u, hu⟩ := R3.out.1
        exact ⟨⟨u, hu.grown hg (by simp)⟩, R3.out.2.1.grown hg (by simp), grown_trans R3.out.2.2 hg, hx⟩
      clear hx hg R3
      obtain ⟨u6, hu6⟩ := R4.out.1
      have c6 := hu6.cell 0
      have z6 := hu6.free 0
      clear hu6
      go_upto_region 17 with fail
      clear c6 z6
      have R5 : Hid (Blk (w12.setCell ⟨b6, 0, none⟩ (.slice po pn pc)) b6 24 #[.slice po pn pc] ∧ Blk (w12.setCell ⟨b6, 0, none⟩ (.slice po pn pc)) b10 24 #[.slice wo wn wc] ∧ w.grownBy (w12.setCell ⟨b6, 0, none⟩ (.slice po pn pc)) none ∧ OpsOwn (w12.setCell ⟨b6, 0, none⟩ (.slice po pn pc)) w11.heap.size (.slice po pn pc) D) := by
        obtain ⟨o1, o2, o3, o4, o5, o6⟩ := ORD.out
        obtain ⟨u, hu⟩ := R4.out.1
        have hg := grown_setCell w12 b6 0 (.slice po pn pc)
        exact ⟨hu.store 0 _, R4.out.2.1.grown hg (by simp; omega), grown_new R4.out.2.2.1 hg (fun x hx => by simp at hx; omega), R4.out.2.2.2.set hu (by decide) (by decide) hg⟩
      clear R4
      generalize (w12.setCell ⟨b6, 0, none⟩ (.slice po pn pc)) = w13 at R5 ⊢
      go_wp2_with (go_at_call 26; refine ((parse26 s _ (by rw [HX.out.2]; omega) (HE.out.grown R5.out.2.2.1)).mono (fun _ _ h => rpost_of h HD.out)).mono ?_)
      rintro e w14 ⟨ro, rn, rc, rfl, hx, hg⟩
      have R6 : Hid (Blk w14 b6 24 #[.slice po pn pc] ∧ Blk w14 b10 24 #[.slice wo wn wc] ∧ w.grownBy w14 none ∧ OpsOwn w14 w11.heap.size (.slice po pn pc) D ∧ OpsOwn w14 w13.heap.size (.slice ro rn rc) D) := ⟨R5.out.1.grown hg (by simp), R5.out.2.1.grown hg (by simp), grown_trans R5.out.2.2.1 hg, R5.out.2.2.2.grown hg, hx⟩
      clear hx hg R5
      have c10 := R6.out.2.1.cell 0
      have z10 := R6.out.2.1.free 0
      go_upto_region 18 with fail
      clear c10 z10
      have R7 : Hid (Blk (w14.setCell ⟨b10, 0, none⟩ (.slice ro rn rc)) b6 24 #[.slice po pn pc] ∧ Blk (w14.setCell ⟨b10, 0, none⟩ (.slice ro rn rc)) b10 24 #[.slice ro rn rc] ∧ w.grownBy (w14.setCell ⟨b10, 0, none⟩ (.slice ro rn rc)) none ∧ OpsOwn (w14.setCell ⟨b10, 0, none⟩ (.slice ro rn rc)) w11.heap.size (.slice po pn pc) D ∧ OpsOwn (w14.setCell ⟨b10, 0, none⟩ (.slice ro rn rc)) w13.heap.size (.slice ro rn rc) D) := by
        obtain ⟨o1, o2, o3, o4, o5, o6⟩ := ORD.out
        have hg := grown_setCell w14 b10 0 (.slice ro rn rc)
        exact ⟨R6.out.1.grown hg (by simp; omega), R6.out.2.1.store 0 _, grown_new R6.out.2.2.1 hg (fun x hx => by simp at hx; omega), R6.out.2.2.2.1.set R6.out.2.1 (by decide) (by decide) hg, R6.out.2.2.2.2.set R6.out.2.1 (by decide) (by decide) hg⟩
      clear R6
      generalize (w14.setCell ⟨b10, 0, none⟩ (.slice ro rn rc)) = w15 at R7 ⊢
      have c6 := R7.out.1.cell 0
      have c10 := R7.out.2.1.cell 0
      go_wp2_with (go_at_call 19; refine (same19_me _ _ D _ R7.out.2.2.2.1.ops R7.out.2.2.2.2.ops).mono ?_)
      rintro e w16 ⟨rfl, hg⟩
      have R8 : Hid (w.grownBy w16 none) := grown_trans R7.out.2.2.1 hg
      clear hg c6 c10 R7
      go_wp2_with (first | (go_at_call 15; refine (num15 _ _).mono ?_; rintro e wnn ⟨rfl, hw⟩; rw [hw]; clear hw) | (go_at_call 10; refine (known10 _ (HE.out.grown R8.out)).mono ?_; rintro e w17 ⟨rfl, hg⟩; have R9 : Hid (w16.grownBy w17 none) := hg; clear hg))
      go_ret
      exact ⟨rfl, grown_trans R8.out R9.out⟩
end Go.Proofs.YtfocmbnhkldnfaaGreatDoor
