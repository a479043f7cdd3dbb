/-
  The text of a call.
-/
import Derived.Test.YtfocmbnhkldnfaaGreatDoorRopAll
namespace Go.Proofs.YtfocmbnhkldnfaaGreatDoor
open Go.RowKit Disk
open Names (Str)

theorem optext39 (k v ol t : Value) (a : POp) (w : World) (ha : OpSeg w k v ol t a) (hm : mayOp a = true) (hkw : KW w) :
    Calls Tryz.prog 39 #[opV k v ol t a] w fun e w' => e = .returned (Str (opTxt a)) ∧ w.grownBy w' none := by
  have hk := (may_of hm).kind
  have hc : a.kind = 1 ∨ a.kind = 2 ∨ a.kind = 3 ∨ a.kind = 4 ∨ a.kind = 5 := by omega
  rcases hc with h | h | h | h | h
  · exact optext39_1 k v ol t a w ha h hm hkw
  · exact optext39_2 k v ol t a w ha h hm hkw
  · exact optext39_3 k v ol t a w ha h hm hkw
  · exact optext39_4 k v ol t a w ha h hm hkw
  · exact optext39_5 k v ol t a w ha h hm hkw

theorem join_le (L : List Bs) (sep : Bs) (n : Nat) (hs : sep.length ≤ 10) (h : ∀ x ∈ L, x.length ≤ n) : (Lib.join L sep).length ≤ (n + 10) * L.length := by
  cases L with
  | nil => simp [Lib.join, List.intercalate]
  | cons x r =>
    rw [Lib.join_cons]
    have : ∀ (r : List Bs), (∀ y ∈ r, y.length ≤ n) → (Lib.joinTail sep r).length ≤ (n + 10) * r.length := by
      intro r
      induction r with
      | nil => intro _; simp [Lib.joinTail]
      | cons y r ih =>
        intro hy
        have h1 := ih fun z hz => hy z (by simp [hz])
        have h2 := hy y (by simp)
        unfold Lib.joinTail at h1 ⊢
        simp only [List.map_cons, List.flatten_cons, List.length_append, List.length_cons]
        rw [Nat.mul_add]
        omega
    have h1 := this r fun y hy => h y (by simp [hy])
    have h2 := h x (by simp)
    simp only [List.length_append, List.length_cons]
    rw [Nat.mul_add]
    omega
theorem opTxt_len {o : POp} (h : mayOp o = true) : (opTxt o).length ≤ 5100 := by
  have hm := may_of h
  have hk := hm.kind
  have t1 := Names.txt_len o.key
  have t2 := Names.txt_len o.value
  have t3 := Names.txt_len o.old
  have t4 := Names.txt_len o.to
  have l1 := hm.key; have l2 := hm.value; have l3 := hm.old; have l4 := hm.to; have l5 := tab_len hm.tab
  have hw : ∀ x ∈ opWords o, x.length ≤ 1000 := by
    intro x hx
    unfold opWords at hx
    simp only [List.cons_append, List.nil_append, List.mem_cons] at hx
    rcases hx with rfl | rfl | rfl | hx
    · unfold kindWord
      repeat' split
      all_goals simp
    · omega
    · omega
    · unfold tailWords at hx
      split at hx
      · simp at hx; subst hx; omega
      · split at hx
        · simp at hx
          rcases hx with rfl | rfl
          · unfold oldW
            split <;> simp; omega
          · omega
        · split at hx
          · rename_i h5
            simp at hx
            rcases hx with rfl | rfl
            · omega
            · have := hm.most h5
              have := dec_len o.most.toNat (by omega)
              omega
          · cases hx
  have hn : (opWords o).length ≤ 5 := by
    unfold opWords tailWords
    repeat' split
    all_goals simp
  have := join_le (opWords o) [32] 1000 (by simp) hw
  unfold opTxt
  have h3 : (1000 + 10) * (opWords o).length ≤ 1010 * 5 := Nat.mul_le_mul_left _ hn
  omega

/-- The answer of Text. -/
def TextPost (l : List POp) (w : World) (e : Ending) (w' : World) : Prop := e = .returned (.tuple #[Str (if chk l = 0 then callTxt l else []), .int .i64 (chk l)]) ∧ w.grownBy w' none

theorem chk_may {l : List POp} (h : chk l = 0) : mayCall l = true := by
  unfold chk at h
  split at h
  · assumption
  · omega

set_option maxRecDepth 100000 in
set_option maxHeartbeats 4000000 in
theorem text14 (v : Value) (l : List POp) (w : World) (hv : Ops w v l) (hkw : KW w) :
    Calls Tryz.prog 14 #[.agg #[v]] w (TextPost l w) := by
  obtain ⟨ao, n, cap, rfl, hn, hn2, HV⟩ := ops_open hv
  have HN : Hid (l.length = n) := hn
  have HK : Hid (KW w) := hkw
  clear hv hn hkw
  obtain ⟨c, hc⟩ : ∃ c, c = chk l := ⟨_, rfl⟩
  have HC : Hid (c = chk l) := hc
  by_cases h0 : c = 0
  · have hmay := chk_may (l := l) (by rw [← hc]; exact h0)
    unfold mayCall at hmay
    simp only [Bool.and_eq_true, decide_eq_true_eq] at hmay
    have HM : Hid (l.all mayOp = true) := hmay.2
    have hn16 : n ≤ 16 := by rw [← HN.out]; exact hmay.1.2
    clear hmay hc
    subst h0
    go_enter Tryz.func14, Tryz.ntmps14
    go_wp2_with (go_at_call 16; refine (check16 _ l _ (HV.out.grown (World.grownBy_alloc _ _ none))).mono ?_)
    rintro e w1 ⟨rfl, hg⟩
    rw [← HC.out]
    have hb : Blk w1 w.heap.size 24 #[.slice ao n cap] := Blk.grown (heap_alloc_new w _) hg (by simp)
    have c0 := hb.cell 0
    have HG : Hid (w.grownBy w1 none) := grown_trans (World.grownBy_alloc _ _ none) hg
    clear hg hb
    go_wp2_with fail
    go_loopw [5, 16] (fun x i wr => ∃ k : Nat, k ≤ n ∧ i = .int .i64 k ∧ SRow wr w.heap.size x ((l.take k).map opTxt) ∧ w.grownBy wr none) (fun _ i _ => n - (intOf i).toNat)
    case atStart => exact ⟨0, by omega, rfl, by simpa using srow_nil _ _, HG.out⟩
    case round =>
      obtain ⟨k, hk, rfl, hown, hg⟩ := hrel
      by_cases hlt : k < n
      · have hkl : k < l.length := by rw [HN.out]; omega
        obtain ⟨b1, off, kk, x, ol, t, rfl, h1, s1⟩ := ops_at (HV.out.grown hg) k hkl
        have HE : Hid (l.take (k + 1) = l.take k ++ [l[k]]) := take_snoc l k hkl
        have HO : Hid (mayOp l[k] = true) := List.all_eq_true.1 HM.out _ (List.getElem_mem hkl)
        have HL : Hid ((l.take k).length = k) := by unfold Hid; rw [List.length_take]; omega
        obtain ⟨o, ho⟩ : ∃ o, o = l[k] := ⟨_, rfl⟩
        rw [← ho] at h1 s1 HE HO
        clear ho
        obtain ⟨_, _, _, _, _, _, _, _, rfl, rfl, rfl, rfl⟩ := s1.shapes
        obtain ⟨a0, a1, a2, a3, a4, a5, a6, a7⟩ := h1
        unfold Str at a1
        have i1 : (0 : Int) ≤ (k : Int) := by omega
        have i2 : (k : Int) < (n : Int) := by omega
        have HS : Hid _ := s1
        have HW : Hid (SRow wr w.heap.size u5 ((l.take k).map opTxt) ∧ w.grownBy wr none) := ⟨hown, hg⟩
        clear s1 hown hg hkl
        go_wp2_with (go_at_call 39; refine (optext39 _ _ _ _ o _ (OpSeg.grown HS.out (World.grownBy_alloc _ _ none)) HO.out (HK.out.grown (grown_trans HW.out.2 (World.grownBy_alloc _ _ none)))).mono ?_)
        rintro e w2 ⟨rfl, hg2⟩
        unfold Str
        have H3 : Hid (SRow (w2.alloc (.cells #[.string ⟨(opTxt o).toArray⟩] 9)) w.heap.size u5 ((l.take k).map opTxt) ∧ Blk (w2.alloc (.cells #[.string ⟨(opTxt o).toArray⟩] 9)) w2.heap.size 9 #[.string ⟨(opTxt o).toArray⟩] ∧ w.grownBy (w2.alloc (.cells #[.string ⟨(opTxt o).toArray⟩] 9)) none) := by
          have g3 : wr.grownBy (w2.alloc (.cells #[.string ⟨(opTxt o).toArray⟩] 9)) none := grown_trans (grown_trans (World.grownBy_alloc _ _ none) hg2) (World.grownBy_alloc _ _ none)
          exact ⟨HW.out.1.grown g3, heap_alloc_new _ _, grown_trans HW.out.2 g3⟩
        clear hg2
        have HZ : Hid (((l.take k).map opTxt).length + 1 ≤ 1000000) := by rw [List.length_map, HL.out]; unfold Hid; omega
        go_wp2_with (at_builtin; refine app9 _ rfl (.tmp 20) (.tmp 23) rfl w.heap.size u5 ((l.take k).map opTxt) [opTxt o] 1 _ rfl rfl rfl H3.out.1 H3.out.2.1 (by decide) HZ.out H3.out.2.2.size ?_; intro g' cap' w4 o4 g4 l4)
        have S4 : Hid (SRow w4 w.heap.size (.slice (some ⟨g', 0, none⟩) (((l.take k).map opTxt).length + 1) cap') ((l.take (k + 1)).map opTxt) ∧ w.grownBy w4 none) := by
          refine ⟨by rw [HE.out, List.map_append]; exact o4, grown_new H3.out.2.2 g4 (fun x hx => (World.ownsRow.lt H3.out.1 x hx).1)⟩
        clear o4 g4 l4 H3
        go_wp2_with fail
        go_roundw
        case rel => exact ⟨k + 1, by omega, by go_num, by have := S4.out.1; simpa using this, S4.out.2⟩
        case measure => simp [intOf]; omega
      · have e : k = n := by omega
        subst e
        rw [List.take_of_length_le (by rw [HN.out]; omega)] at hown
        have HJ : Hid ((Lib.join (l.map opTxt) [59, 32]).length ≤ 140737488355328) := by
          have h1 := join_le (l.map opTxt) [59, 32] 5100 (by simp) (by
            intro x hx
            obtain ⟨y, hy, rfl⟩ := List.mem_map.1 hx
            exact opTxt_len (List.all_eq_true.1 HM.out _ hy))
          rw [List.length_map, HN.out] at h1
          have : (5100 + 10) * k ≤ 5110 * 16 := Nat.mul_le_mul_left _ hn16
          unfold Hid; omega
        have HW : Hid (SRow wr w.heap.size u5 (l.map opTxt) ∧ w.grownBy wr none) := ⟨hown, hg⟩
        clear hown hg
        go_wp2_with (go_at_call 40; refine (join40 _ (l.map opTxt) [59, 32] w.heap.size _ HW.out.1 (by rw [List.length_map, HN.out]; omega) HJ.out).mono ?_)
        rintro e w2 ⟨rfl, hg2⟩
        have H2 : Hid (w.grownBy w2 none) := grown_trans HW.out.2 hg2
        clear hg2
        unfold Str
        go_wp2_with fail
        go_ret2
        refine ⟨?_, H2.out⟩
        rw [← HC.out, if_pos rfl]
        rfl
  · have i0 : (c != 0) = true := by simp [h0]
    clear hc
    go_enter Tryz.func14, Tryz.ntmps14
    go_wp2_with (go_at_call 16; refine (check16 _ l _ (HV.out.grown (World.grownBy_alloc _ _ none))).mono ?_)
    rintro e w1 ⟨rfl, hg⟩
    rw [← HC.out]
    have HG : Hid (w.grownBy w1 none) := grown_trans (World.grownBy_alloc _ _ none) hg
    clear hg
    go_wp2_with fail
    go_ret2
    refine ⟨?_, HG.out⟩
    rw [← HC.out, if_neg h0]
    rfl
end Go.Proofs.YtfocmbnhkldnfaaGreatDoor
