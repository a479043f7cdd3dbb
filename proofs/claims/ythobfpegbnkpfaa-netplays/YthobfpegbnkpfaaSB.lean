/-
  Things put on the way.
-/
import Derived.Test.YthobfpegbnkpfaaSA
namespace Go.Proofs.Ythobfpegbnkpfaa.S
open Go.RowKit Disk

theorem rd_blk {w : World} {g t : Nat} {x : Value} (h : Blk w g t #[x]) : Rd w (.slice (some ⟨g, 0, none⟩) 1 1) [x] := ⟨_, 1, rfl, by simp, by unfold maxLen; omega, by simp, fun j hj => by
  simp at hj
  subst hj
  exact ⟨g, 0, rfl, h.cell 0⟩⟩
theorem al1 (w : World) (c : Array Value) (t : Nat) : ∃ w1, w.alloc (.cells c t) = w1 ∧ Hid (Blk w1 w.heap.size t c ∧ w.grownBy w1 none ∧ w1.heap.size = w.heap.size + 1) :=
  ⟨_, rfl, heap_alloc_new _ _, World.grownBy_alloc _ _ _, by simp⟩
theorem infoP : (Try.prog.info? 59).map (fun i => (i.zero, i.size, i.bytes)) = some (some (.pointer none), 1, 8) := by kernel_rfl
/-- What a step makes of a net. -/
def NetTo (w : World) (b B : Nat) (v : Value) (w' : World) (q : List Pcl) (s : Int) : Prop := ∃ v', Net w' b B v' q s ∧ Fr w w' (FN b v) ∧ ∀ k, v'.ownBlock = some k → v.ownBlock = some k ∨ w.heap.size ≤ k
def SendP (w : World) (b B : Nat) (v : Value) (q : List Pcl) (s : Int) (ts : List ByteArray) (e : Ending) (w' : World) : Prop :=
  (65536 < q.length + ts.length ∧ e = .returned (.int .i64 7) ∧ w' = w) ∨ (q.length + ts.length ≤ 65536 ∧ e = .returned (.int .i64 0) ∧ ∃ r, r.map (·.t) = ts ∧ NetTo w b B v w' (q ++ r) (s + (ts.length : Nat)))
theorem NetTo.refl {w : World} {b B : Nat} {v : Value} {q : List Pcl} {s : Int} (h : Net w b B v q s) : NetTo w b B v w q s := ⟨v, h, Fr.of (grown_refl w none) (by simp), fun k hk => .inl hk⟩
theorem NetTo.grown {w w1 w2 : World} {b B : Nat} {v : Value} {q : List Pcl} {s : Int} (h : NetTo w b B v w1 q s) (hg : w1.grownBy w2 none) : NetTo w b B v w2 q s := by
  obtain ⟨v', h1, h2, h3⟩ := h
  exact ⟨v', h1.grown hg, h2.trans (Fr.of (F := fun _ => False) hg (by simp)) (by simp), h3⟩
theorem NetTo.trans {w w1 w2 : World} {b B : Nat} {v v1 : Value} {q : List Pcl} {s : Int} (hf : Fr w w1 (FN b v)) (hv : ∀ k, v1.ownBlock = some k → v.ownBlock = some k ∨ w.heap.size ≤ k) (h : NetTo w1 b B v1 w2 q s) : NetTo w b B v w2 q s := by
  obtain ⟨v', h1, h2, h3⟩ := h
  refine ⟨v', h1, hf.trans h2 ?_, fun k hk => ?_⟩
  · intro i hi
    rcases hi with hi | hi
    · exact .inl (.inl hi)
    · rcases hv i hi with hi | hi
      · exact .inl (.inr hi)
      · exact .inr hi
  · rcases h3 k hk with hi | hi
    · exact hv k hi
    · exact .inr (Nat.le_trans hf.size hi)
/-- One more thing: its parcel made, its pointer appended, the net's cells stored. -/
theorem net_more {w0 w1 w2 : World} {b B : Nat} {v v2 : Value} {q : List Pcl} {s : Int} {p : Nat} {t : ByteArray} (h : Net w0 b B v q s) (hlen : q.length < 65536)
    (h1 : Blk w1 b 58 #[.bool true, v, .int .i64 (s + 1)]) (hf : Fr w0 w1 (FN b v)) (hp : Blk w1 p 61 #[.int .i64 (s + 1), Value.string t]) (hr : Row 59 w1 B v2 (q.map pv ++ [.pointer (some ⟨p, 0, none⟩)])) (hv : ∀ k, v2.ownBlock = some k → v.ownBlock = some k ∨ w0.heap.size ≤ k)
    (h2 : w1.grownBy w2 (some b)) (hb2 : Blk w2 b 58 #[.bool true, v2, .int .i64 (s + 1)]) : NetTo w0 b B v w2 (q ++ [⟨p, s + 1, t⟩]) (s + 1) := by
  have hb1 := h1
  refine ⟨v2, ⟨hb2, ⟨?_, ?_⟩, by simp; omega, ?_, ?_, by have := h.low; omega⟩, ?_, hv⟩
  · have hr2 : Row 59 w2 B v2 (q.map pv ++ [.pointer (some ⟨p, 0, none⟩)]) := hr.same fun k hk => by
      obtain ⟨C, hC⟩ := hr.blk k hk
      refine h2.block k hC.lt fun e => ?_
      simp at e
      subst e
      exact absurd (blk_type hC hb1) (by decide)
    simpa [pv] using hr2
  · intro a ha
    rcases List.mem_append.1 ha with ha | ha
    · have hq := h.other hf (h.way.par a ha) (by decide) (by decide)
      exact hq.grown h2 (by
        intro e
        simp at e
        rw [← e] at hq
        exact absurd (blk_type hq hb1) (by decide))
    · simp at ha
      subst ha
      exact hp.grown h2 (by
        intro e
        simp at e
        subst e
        exact absurd (blk_type hp hb1) (by decide))
  · rw [List.pairwise_append]
    refine ⟨h.asc, by simp, fun a ha c hc => ?_⟩
    simp at hc
    subst hc
    have := h.top a ha
    show a.k < s + 1
    omega
  · intro a ha
    rcases List.mem_append.1 ha with ha | ha
    · have := h.top a ha
      omega
    · simp at ha
      subst ha
      exact Int.le_refl _
  · exact hf.trans (Fr.of (F := fun i => i = b) h2 (by intro k hk; simpa using hk.symm)) fun i hi => .inl (.inl hi)

set_option maxRecDepth 100000 in
set_option maxHeartbeats 2000000 in
theorem send_yes (b B : Nat) (v : Value) (q : List Pcl) (s : Int) (u : Value) (ts : List ByteArray) (w : World) (h : Net w b B v q s) (hu : Rd w u (ts.map (Value.string))) (hk : 0 < ts.length → ∀ k, u.ownBlock = some k → k < w.heap.size ∧ ¬ FN b v k) (hs : s ≤ 1000000000000) (hB : B ≤ w.heap.size) : Calls Try.prog 7 #[.pointer (some ⟨b, 0, none⟩), u] w (SendP w b B v q s ts) := by
  obtain ⟨ao, cap, rfl⟩ := h.way.sl
  obtain ⟨uo, uc, rfl⟩ := hu.shape
  rw [List.length_map] at hu hk ⊢
  have c1 := h.blk.cell 1
  simp at c1
  obtain ⟨ln, hln⟩ : ∃ n, q.length = n := ⟨_, rfl⟩
  obtain ⟨n, hn⟩ : ∃ n, ts.length = n := ⟨_, rfl⟩
  have hl1 := h.len
  rw [hln] at hl1 c1
  rw [hn] at hu hk ⊢
  have H0 : Hid (Net w b B (.slice ao ln cap) q s ∧ Rd w (.slice uo n uc) (ts.map (Value.string)) ∧ (0 < n → ∀ k, (Value.slice uo n uc).ownBlock = some k → k < w.heap.size ∧ ¬ FN b (.slice ao ln cap) k) ∧ s ≤ 1000000000000 ∧ B ≤ w.heap.size ∧ q.length = ln ∧ ts.length = n) := ⟨by rw [← hln]; exact h, hu, by rw [← hln]; exact hk, hs, hB, hln, hn⟩
  have hSP : Hid (SendP w b B (.slice ao q.length cap) q s ts = SendP w b B (.slice ao ln cap) q s ts) := by rw [hln]; rfl
  rw [hSP.out]
  have wsb : IntKind.i64.wrap (65536 - (ln : Int)) = 65536 - (ln : Int) := by rw [IntKind.wrap_i64]; omega
  have hnn : n ≤ 9223372036854775807 := by have := hu.len; simp at this; omega
  clear h hu hk hs hB hln hn hSP
  go_enter Try.func7, Try.ntmps7
  go_wp2_with fail
  refine (there_yes b _ _ true w H0.out.1.blk).mono ?_
  rintro e w1 ⟨rfl, rfl⟩
  by_cases hfull : 65536 < ln + n
  · have i1 : 65536 - (ln : Int) < (n : Int) := by omega
    go_wp2_with fail
    go_ret
    exact .inl ⟨by have := H0.out; omega, rfl, rfl⟩
  · have i1 : ¬ (65536 - (ln : Int) < (n : Int)) := by omega
    go_wp2_with fail
    clear c1
    go_loopw [21] (fun p wr => ∃ i : Nat, p = .int .i64 (i : Nat) ∧ i ≤ n ∧ Hid (∃ r, r.map (·.t) = ts.take i ∧ NetTo w1 b B (.slice ao ln cap) wr (q ++ r) (s + (i : Nat)))) (fun p _ => n - (intOf p).toNat)
    case atStart => exact ⟨0, rfl, Nat.zero_le _, [], by simp, by simpa using NetTo.refl H0.out.1⟩
    case round =>
      obtain ⟨i, rfl, hi, HI⟩ := hrel
      by_cases hlt : i < n
      · have j1 : (i : Int) < (n : Int) := by omega
        have j2 : (0 : Int) ≤ (i : Int) := by omega
        obtain ⟨r, hr, v', hN, hF, hV⟩ := HI.out
        clear HI
        obtain ⟨po, pc, rfl⟩ := hN.way.sl
        obtain ⟨m, hm⟩ : ∃ m, (q ++ r).length = m := ⟨_, rfl⟩
        have hmi : m = ln + i := by
          have e1 := congrArg List.length hr
          have := H0.out.2.2.2.2.2
          simp at e1 hm
          omega
        rw [hm] at hN hV
        have hti : i < ts.length := by have := H0.out; omega
        obtain ⟨x, hx⟩ : ∃ x, ts[i] = x := ⟨_, rfl⟩
        have hU : Rd wr (.slice uo n uc) (ts.map (Value.string)) := H0.out.2.1.kept fun k hk => hF.block k (H0.out.2.2.1 (by omega) k hk).1 (H0.out.2.2.1 (by omega) k hk).2
        obtain ⟨ub, off, rfl, cu⟩ := hU.at i (by simpa using hti)
        simp only [List.getElem_map, hx] at cu
        have HN : Hid (Net wr b B (.slice po m pc) (q ++ r) (s + (i : Nat)) ∧ Fr w1 wr (FN b (.slice ao ln cap)) ∧ (∀ k, (Value.slice po m pc).ownBlock = some k → (Value.slice ao ln cap).ownBlock = some k ∨ w1.heap.size ≤ k) ∧ r.map (·.t) = ts.take i ∧ (q ++ r).length = m ∧ m < 65536 ∧ ts[i]? = some x) := ⟨hN, hF, hV, hr, hm, by omega, by rw [List.getElem?_eq_getElem hti, hx]⟩
        have c2 := hN.blk.cell 2
        have f2 := hN.blk.free 2
        simp at c2
        have hs1 : Hid (IntKind.i64.wrap (s + (i : Int) + 1) = s + (i : Int) + 1) := by
          have h1 := H0.out.1.low
          have h2 := H0.out.2.2.2.1
          unfold Hid
          rw [IntKind.wrap_i64]; omega
        have hs2 := hs1.out
        clear hN hF hV hr hm hU hx hs1 hmi
        go_upto_region 9 with fail
        obtain ⟨W, hW⟩ : ∃ W, wr.setCell ⟨b, 2, none⟩ (.int .i64 (s + (i : Int) + 1)) = W := ⟨_, rfl⟩
        have HW : Hid (Blk W b 58 #[.bool true, .slice po m pc, .int .i64 (s + (i : Int) + 1)] ∧ wr.grownBy W (some b)) := by
          rw [← hW]
          exact ⟨HN.out.1.blk.store 2 _, grown_setCell _ _ _ _⟩
        rw [hW]
        clear hW c2 f2 cu hs2
        refine wp_region_hold 16 (fun y => Blk y b 58 #[.bool true, .slice po m pc, .int .i64 (s + (i : Int) + 1)]) (by kernel_rfl) ?_
        have HD : Hid (Blk W.drew b 58 #[.bool true, .slice po m pc, .int .i64 (s + (i : Int) + 1)] ∧ W.grownBy W.drew none) := ⟨HW.out.1, grown_drew _ _⟩
        generalize W.drew = wd at HD ⊢
        have J : Idx [0, 1, 2, 3, 4, 5, 6, 7, 8, 9, 10] := trivial
        iterate 11 (refine tk J (HD.out.1) rfl rfl (fun wk hk => by have k1 := hk.cell 1; have k2 := hk.cell 2; simp at k1 k2; go_simp; try rfl) ?_; replace J := J.tl; try simp only [Act.put, List.setIfInBounds_toArray, List.set_cons_zero, List.set_cons_succ])
        clear J
        refine wpHold_one (i := 11) rfl (by kernel_rfl) (by rfl) (fun K hK => ?_)
        go_wp2_with fail
        obtain ⟨p, hp⟩ : ∃ p, wd.heap.size = p := ⟨_, rfl⟩
        obtain ⟨w3, hw3, H3⟩ := al1 wd #[.int .i64 (s + (i : Int) + 1), Value.string x] 61
        rw [hw3]
        rw [hp] at H3 ⊢
        have HP : Hid (Blk w3 p 61 #[.int .i64 (s + (i : Int) + 1), Value.string x] ∧ Blk w3 b 58 #[.bool true, .slice po m pc, .int .i64 (s + (i : Int) + 1)] ∧ W.grownBy w3 none ∧ W.heap.size ≤ p) := ⟨H3.out.1, HD.out.1.grown H3.out.2.1 (by simp), grown_trans HD.out.2 H3.out.2.1, by rw [← hp]; exact HD.out.2.size⟩
        clear hw3 H3 HD hp
        refine hK.out _ _ (fun _ => HP.out.2.1) ?_
        clear hK K
        try simp only [Act.put, List.setIfInBounds_toArray, List.set_cons_zero, List.set_cons_succ]
        refine wpHold_one (i := 12) rfl (by kernel_rfl) (by rfl) (fun K hK => ?_)
        go_wp2_with fail
        obtain ⟨g1, hg1⟩ : ∃ p, w3.heap.size = p := ⟨_, rfl⟩
        obtain ⟨w4, hw4, H4⟩ := al1 w3 #[.pointer (some ⟨p, 0, none⟩)] 59
        rw [hw4]
        rw [hg1] at H4 ⊢
        have HG : Hid (Blk w4 g1 59 #[.pointer (some ⟨p, 0, none⟩)] ∧ Blk w4 p 61 #[.int .i64 (s + (i : Int) + 1), Value.string x] ∧ Blk w4 b 58 #[.bool true, .slice po m pc, .int .i64 (s + (i : Int) + 1)] ∧ W.grownBy w4 none ∧ W.heap.size ≤ p) := ⟨H4.out.1, HP.out.1.grown H4.out.2.1 (by simp), HP.out.2.1.grown H4.out.2.1 (by simp), grown_trans HP.out.2.2.1 H4.out.2.1, HP.out.2.2.2⟩
        clear hw4 H4 HP hg1
        refine hK.out _ _ (fun _ => HG.out.2.2.1) ?_
        clear hK K
        try simp only [Act.put, List.setIfInBounds_toArray, List.set_cons_zero, List.set_cons_succ]
        refine wpHold_one (i := 13) rfl (by kernel_rfl) (by rfl) (fun K hK => ?_)
        have HQ : Hid (Row 59 w4 B (.slice po m pc) ((q ++ r).map pv)) := by
          refine (HN.out.1.way.row.same (fun k hk => ?_)).grown HG.out.2.2.2.1
          obtain ⟨C, hC⟩ := HN.out.1.way.row.blk k hk
          refine HW.out.2.block k hC.lt fun e => ?_
          simp at e
          subst e
          exact absurd (blk_type hC HN.out.1.blk) (by decide)
        refine appR_wp 56 59 8 _ rfl infoP rfl w4 _ _ rfl B (.slice po m pc) ((q ++ r).map pv) (.slice (some ⟨g1, 0, none⟩) 1 1) [.pointer (some ⟨p, 0, none⟩)] rfl rfl HQ.out (rd_blk HG.out.1) (by intro y hy; simp at hy; subst hy; rfl) ?c0 ?c1 ?c2 ?_
        case c0 => have := HN.out.2.2.2.2.1; have := HN.out.2.2.2.2.2.1; simp at *; omega
        case c1 => have := HN.out.2.2.2.2.1; have := HN.out.2.2.2.2.2.1; unfold maxLen; simp at *; omega
        case c2 => have h1 := H0.out.2.2.2.2.1; have h2 := HN.out.2.1.size; have h3 := HW.out.2.size; have h4 := HG.out.2.2.2.1.size; omega
        intro v5 w5 hr5 hg5 hv5
        have H5 : Hid (Row 59 w5 B v5 ((q ++ r).map pv ++ [.pointer (some ⟨p, 0, none⟩)]) ∧ Blk w5 p 61 #[.int .i64 (s + (i : Int) + 1), Value.string x] ∧ Blk w5 b 58 #[.bool true, .slice po m pc, .int .i64 (s + (i : Int) + 1)] ∧ Fr wr w5 (FN b (.slice po m pc)) ∧ ∀ k, v5.ownBlock = some k → (Value.slice po m pc).ownBlock = some k ∨ wr.heap.size ≤ k) := by
          have hbk : ∀ {t c i}, Blk w4 i t c → t ≠ 59 → Blk w5 i t c := fun {t c i} hb ht => hb.grown hg5 fun e => by
            obtain ⟨C, hC⟩ := HQ.out.blk i e
            exact ht (blk_type hb hC)
          refine ⟨hr5, hbk HG.out.2.1 (by decide), hbk HG.out.2.2.1 (by decide), ?_, fun k hk => ?_⟩
          · refine ((Fr.of (F := FN b (.slice po m pc)) HW.out.2 (by intro k hk; exact .inl (by simpa using hk.symm))).trans (Fr.of (F := fun _ => False) HG.out.2.2.2.1 (by simp)) (by simp)).trans (Fr.of (F := FN b (.slice po m pc)) hg5 (by intro k hk; exact .inr hk)) ?_
            exact fun i hi => .inl hi
          · rcases hv5 k hk with e | e
            · exact .inl e
            · have h3 := HW.out.2.size
              have h4 := HG.out.2.2.2.1.size
              exact .inr (by omega)
        obtain ⟨qo, qc, e5⟩ := hr5.sl
        have el : ((q ++ r).map pv ++ [Value.pointer (some ⟨p, 0, none⟩)]).length = m + 1 := by have := HN.out.2.2.2.2.1; simp at this ⊢; omega
        rw [el] at e5
        subst e5
        clear hr5 hg5 hv5 el HQ HG
        refine hK.out _ _ (fun _ => H5.out.2.2.1) ?_
        clear hK K
        try simp only [Act.put, List.setIfInBounds_toArray, List.set_cons_zero, List.set_cons_succ]
        have J : Idx [14, 15] := trivial
        iterate 2 (refine tk J (H5.out.2.2.1) rfl rfl (fun wk hk => by have k1 := hk.cell 1; have k2 := hk.cell 2; simp at k1 k2; go_simp; try rfl) ?_; replace J := J.tl; try simp only [Act.put, List.setIfInBounds_toArray, List.set_cons_zero, List.set_cons_succ])
        clear J
        refine wpHold_one (i := 16) rfl (by kernel_rfl) (by rfl) (fun K hK => ?_)
        have f1 := H5.out.2.2.1.free 1
        have k1 := H5.out.2.2.1.cell 1
        simp at k1
        go_wp2_with fail
        have HT : Hid (NetTo wr b B (.slice po m pc) (w5.setCell ⟨b, 1, none⟩ (.slice qo (m + 1) qc)) (q ++ r ++ [⟨p, s + (i : Int) + 1, x⟩]) (s + (i : Int) + 1)) := net_more HN.out.1 (by rw [HN.out.2.2.2.2.1]; exact HN.out.2.2.2.2.2.1) H5.out.2.2.1 H5.out.2.2.2.1 H5.out.2.1 H5.out.1 H5.out.2.2.2.2 (grown_setCell _ _ _ _) (H5.out.2.2.1.store 1 _)
        clear f1 k1
        refine hK.out _ _ (fun h => absurd rfl h) ?_
        clear hK K
        try simp only [Act.put, List.setIfInBounds_toArray, List.set_cons_zero, List.set_cons_succ]
        refine wpHold_done (by kernel_rfl) ?_
        refine (‹∀ (a : Act) (w : World), Code.wp Try.prog _ _ a w → _› _ _ ?_)
        generalize w5.setCell ⟨b, 1, none⟩ (.slice qo (m + 1) qc) = w6 at HT ⊢
        go_wp2_with fail
        go_roundw
        case rel =>
          refine ⟨i + 1, by go_num, by omega, r ++ [⟨p, s + (i : Int) + 1, x⟩], ?_, ?_⟩
          · have h6 := HN.out.2.2.2.2.2.2
            rw [List.map_append, HN.out.2.2.2.1]
            simp only [List.map_cons, List.map_nil]
            obtain ⟨hi6, e6⟩ := List.getElem?_eq_some_iff.1 h6
            rw [← e6]
            exact (List.take_append_getElem hi6)
          · have h7 := NetTo.trans HN.out.2.1 HN.out.2.2.1 HT.out
            rw [← List.append_assoc]
            rw [show s + ((i + 1 : Nat) : Int) = s + (i : Int) + 1 by push_cast; omega]
            exact h7
        case measure => simp [intOf]; omega
      · have j1 : ¬ (i : Int) < (n : Int) := by omega
        go_wp2_with fail
        go_ret
        obtain ⟨r, hr, hN⟩ := HI.out
        have hin : i = n := by omega
        subst hin
        have hl := H0.out
        refine .inr ⟨by omega, rfl, r, ?_, ?_⟩
        · rw [hr, ← hl.2.2.2.2.2.2]; simp
        · rw [hl.2.2.2.2.2.2]; exact hN
end Go.Proofs.Ythobfpegbnkpfaa.S
