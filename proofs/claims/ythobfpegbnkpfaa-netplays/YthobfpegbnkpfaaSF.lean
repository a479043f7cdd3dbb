/-
  What is on the way gone over.
-/
import Derived.Test.YthobfpegbnkpfaaSC
import Derived.Test.YthobfpegbnkpfaaPq
namespace Go.Proofs.Ythobfpegbnkpfaa.S
open Go.RowKit Disk Table

/-- Handed over: the place and its thing. -/
def Xq (q : List Pcl) (k k' : Nat) (_ _ : World) (xs : Array Value) : Prop := ∃ a, q[k]? = some a ∧ k' = k + 1 ∧ xs = #[.int .i64 (k : Nat), Value.string a.t]
/-- Blocks that what is gone over lies in. -/
def WayF (u : Value) (q : List Pcl) (i : Nat) : Prop := u.ownBlock = some i ∨ ∃ a ∈ q, i = a.p
theorem Way.keptF {w w' : World} {B : Nat} {u : Value} {q : List Pcl} (h : Way w B u q) (hs : ∀ i, WayF u q i → w'.heap[i]? = w.heap[i]?) : Way w' B u q := ⟨h.row.same fun k hk => hs k (.inl hk), fun a ha => (h.par a ha).same (hs _ (.inr ⟨a, ha, rfl⟩))⟩
theorem Way.ltF {w : World} {B : Nat} {u : Value} {q : List Pcl} (h : Way w B u q) : ∀ i, WayF u q i → i < w.heap.size := by
  rintro i (hi | ⟨a, ha, rfl⟩)
  · exact (h.row.lt i hi).2
  · exact (h.par a ha).lt

set_option maxRecDepth 100000 in
set_option maxHeartbeats 2000000 in
theorem over_call (ao : Option Addr) (n cap : Nat) (w : World) : Calls Try.prog 34 #[.slice ao n cap] w fun e w' => e = .returned (.func (.func 43) #[] #[.pointer (some ⟨w.heap.size, 0, none⟩)]) ∧ Blk w' w.heap.size 56 #[.slice ao n cap] ∧ w.grownBy w' none ∧ w'.heap.size = w.heap.size + 1 := by
  go_enter Try.func34, Try.ntmps34
  go_upto_region 1 with fail
  obtain ⟨w1, hw1, H1⟩ := al1 w #[.slice ao n cap] 56
  rw [hw1]
  clear hw1
  go_wp2_with fail
  go_ret
  exact ⟨rfl, H1.out⟩
set_option maxRecDepth 100000 in
set_option maxHeartbeats 2000000 in
theorem overS (Fw : Nat → Prop) (bx B : Nat) (u : Value) (q : List Pcl) (w : World) (hb : Blk w bx 56 #[u]) (hs : Way w B u q) (hl : q.length ≤ 65536) (hPs : ∀ i, WayF u q i → ¬ Fw i) :
    GivesS Try.prog 43 #[.pointer (some ⟨bx, 0, none⟩)] 0 (fun k => k = q.length) (Xq q) Fw w := by
  intro lp J Jx W hgW hJ hJx hY h0
  obtain ⟨ao, cap, rfl⟩ := hs.sl
  obtain ⟨n, hn⟩ : ∃ n, q.length = n := ⟨_, rfl⟩
  rw [hn] at hs hb hPs hl
  have HS : Hid (Way w B (.slice ao n cap) q ∧ (∀ i, WayF (.slice ao n cap) q i → ¬ Fw i) ∧ w.grownBy W none ∧ q.length = n ∧ n ≤ 65536) := ⟨hs, hPs, hgW, hn, hl⟩
  have c0 := (hb.grown hgW (by simp)).cell 0
  simp at c0
  have HY : Hid _ := hY
  have HJT : Hid _ := hJ
  have HJ : Hid (J 0 (fun _ => False) W) := h0
  clear hs hb hgW hY hPs h0 hJ hJx hn
  show Calls Try.prog 43 #[.func (.yield lp) #[] #[], .pointer (some ⟨bx, 0, none⟩)] W _
  go_enter Try.func43, Try.ntmps43
  go_wp2_with fail
  go_loopw [7] (fun p wr => ∃ (k : Nat) (G : Nat → Prop), k ≤ n ∧ p = .int .i64 (k : Nat) ∧ Hid (J k G wr ∧ (∀ i, G i → W.heap.size ≤ i ∧ i < wr.heap.size) ∧ W.heap.size ≤ wr.heap.size ∧ (∀ i, WayF (.slice ao n cap) q i → wr.heap[i]? = w.heap[i]?))) (fun p _ => n - (intOf p).toNat)
  case atStart => exact ⟨0, fun _ => False, Nat.zero_le _, rfl, HJ.out, fun _ h => h.elim, Nat.le_refl _, fun i h => HS.out.2.2.1.block i (HS.out.1.ltF i h) (by simp)⟩
  case round =>
    obtain ⟨k, G, hk, rfl, HI⟩ := hrel
    by_cases hlt : k < n
    · have hkq : k < q.length := by have := HS.out; omega
      obtain ⟨a, ha⟩ : ∃ a, q[k] = a := ⟨_, rfl⟩
      have HW := HS.out.1.keptF HI.out.2.2.2
      obtain ⟨g, rfl⟩ : ∃ g, ao = some ⟨g, 0, none⟩ := by
        rcases HW.row.shape with ⟨e, e'⟩ | ⟨g, cp, C, e, _⟩
        · rw [List.map_eq_nil_iff] at e'
          subst e'
          exact absurd hkq (by simp)
        · simp at e
          exact ⟨g, e.1⟩
      have q0 := HW.row.cell k (by simpa using hkq)
      simp only [List.getElem_map, ha, pv] at q0
      have haq : a ∈ q := by rw [← ha]; exact List.getElem_mem hkq
      have q1 := (HW.par a haq).cell 1
      simp at q1
      have HA : Hid (q[k]? = some a) := by rw [Hid, List.getElem?_eq_getElem hkq, ha]
      have i1 : (k : Int) < (n : Int) := by omega
      have i2 : (0 : Int) ≤ (k : Int) := by omega
      clear hkq ha HW haq c0
      go_upto_region 3 with fail
      refine (wpIn_wide (n := 0)).1 (wpIn_region_lit ?_)
      iterate 6
        refine wpListIn_step fun K1 hK1 => ?_
        rw [if_pos (by rfl)]
        refine Table.oper_wide 0 ?_
        have HK1 : Hid _ := hK1
        clear hK1
        go_wp2_with fail
        refine HK1.out _ _ ?_
        clear HK1 K1
      refine wpListIn_step fun K1 hK1 => ?_
      rw [if_pos (by rfl)]
      refine Table.yield_wide (HY.out k (k + 1) G wr wr _ HI.out.1 HI.out.2.2.1 (Tx.refl _ _) ⟨a, HA.out, rfl, rfl⟩) rfl rfl rfl rfl ?_
      clear q0 q1
      rintro e W' (⟨rfl, G', hnew, hJ', hkept⟩ | ⟨rfl, hx, _⟩)
      · refine ⟨_, rfl, hK1 _ _ ?_⟩
        clear hK1 K1
        simp only [Act.put, List.setIfInBounds_toArray, List.set_cons_zero, List.set_cons_succ]
        iterate 1
          refine wpListIn_step fun K1 hK1 => ?_
          rw [if_pos (by rfl)]
          refine Table.oper_wide 0 ?_
          have HK1 : Hid _ := hK1
          clear hK1
          go_wp2_with fail
          refine HK1.out _ _ ?_
          clear HK1 K1
        refine wpListIn_nil ?_
        refine (‹∀ (a : Act) (w : World), Code.wp Try.prog _ (Exit.inBlock 1 _) a w → _› _ _ ?_)
        have HK : Hid (J (k + 1) G' W' ∧ (∀ i, G' i → W.heap.size ≤ i ∧ i < W'.heap.size) ∧ W.heap.size ≤ W'.heap.size ∧ (∀ i, WayF (.slice (some ⟨g, 0, none⟩) n cap) q i → W'.heap[i]? = w.heap[i]?)) := by
          have s1 := HI.out
          have s2 := HS.out.2.2.1.size
          refine ⟨hJ', fun i hi => ⟨?_, (hnew i hi).2⟩, by have := hkept.1; omega, fun i h1 => ?_⟩
          · rcases (hnew i hi).1 with h | h
            · exact (s1.2.1 i h).1
            · omega
          · have h2 := HS.out.1.ltF i h1
            rw [hkept.2 i (by omega) (.inl (by omega)) (HS.out.2.1 i h1) ?_ fun h => by have := s1.2.1 i h; omega]
            · exact s1.2.2.2 i h1
            · rintro (⟨y, hu, hb⟩ | ⟨c, y, hc, hu, hb⟩)
              · simp at hu
                rcases hu with rfl | rfl
                · simp [Value.ownBlock] at hb
                · simp [Value.ownBlock] at hb
              · simp at hc
        clear hJ' hkept hnew
        go_wp2_with fail
        go_roundw
        case rel => exact ⟨k + 1, G', by omega, by go_num, HK⟩
        case measure => simp [intOf]; omega
      · refine ⟨_, rfl, hK1 _ _ ?_⟩
        clear hK1 K1
        simp only [Act.put, List.setIfInBounds_toArray, List.set_cons_zero, List.set_cons_succ]
        iterate 1
          refine wpListIn_step fun K1 hK1 => ?_
          rw [if_pos (by rfl)]
          refine Table.oper_wide 0 ?_
          have HK1 : Hid _ := hK1
          clear hK1
          go_wp2_with fail
          refine HK1.out _ _ ?_
          clear HK1 K1
        refine wpListIn_nil ?_
        refine (‹∀ (a : Act) (w : World), Code.wp Try.prog _ (Exit.inBlock 1 _) a w → _› _ _ ?_)
        have HXX : Hid (Jx W') := hx
        clear hx
        go_wp2_with fail
        exact ⟨rfl, _, results_none rfl _ _ _, ⟨_, rfl⟩, .inr HXX.out⟩
    · have i1 : ¬ (k : Int) < (n : Int) := by omega
      go_wp2_with fail
      have hkn : q.length = k := by have := HS.out.2.2.2.1; omega
      refine ⟨rfl, _, results_none rfl _ _ _, ⟨_, rfl⟩, .inl ⟨G, ?_⟩⟩
      rw [hkn]
      exact HI.out.1
end Go.Proofs.Ythobfpegbnkpfaa.S
