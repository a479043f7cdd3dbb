/-
  All and Down: functions that go over a table's rows.
-/
import Derived.Test.YtlehikdlkdbacaaTl
import Derived.Test.YtlehikdlkdbacaaZ
import Derived.Shelf.Abstract
namespace Go.Proofs.Ytlehikdlkdbacaa
open Go.RowKit Disk

/-- A list of pointers to rows, in blocks of F. -/
def RowsIn (w : World) (F : Nat → Prop) (v : Value) (l : List PRow) : Prop := ∃ ps, PIn w F v ps ∧ AtsIn w F ps l
theorem RowsIn.same {w w' : World} {F : Nat → Prop} {v : Value} {l : List PRow} (h : RowsIn w F v l) (hs : ∀ k, F k → k < w.heap.size → w'.heap[k]? = w.heap[k]?) : RowsIn w' F v l := by
  obtain ⟨ps, h1, h2⟩ := h
  exact ⟨ps, h1.same hs, h2.same hs⟩
theorem RowsIn.grown {w w' : World} {F : Nat → Prop} {v : Value} {l : List PRow} (h : RowsIn w F v l) (hg : w.grownBy w' none) : RowsIn w' F v l := h.same fun k _ hk => hg.block k hk (by simp)
/-- Rows lie in blocks that are not G's, if these hold neither pointers nor rows nor bytes. -/
theorem rows_in {w : World} {v : Value} {l : List PRow} (h : Rows w v l) (G : Nat → Prop) (hG : ∀ k, G k → k < w.heap.size → ∃ t c, Blk w k t c ∧ t ≠ 45 ∧ t ≠ 5 ∧ ∀ (j p : Nat), c[j]? ≠ some (ptr p)) : RowsIn w (fun k => k < w.heap.size ∧ ¬ G k) v l := by
  obtain ⟨ps, h1, h2⟩ := h
  refine ⟨ps, ?_, h1.1, fun j a b => ?_⟩
  · obtain ⟨ao, cap, e, c1, c2, c3, c4, c5⟩ := h2
    refine ⟨ao, cap, by rw [h1.1]; exact e, by rw [h1.1]; exact c1, c2, fun j hj => ?_⟩
    obtain ⟨g, off, eg, hc⟩ := c5 j (ptr ps[j]) (by simp [PTR, hj])
    refine ⟨g, off, eg, hc, cell_lt hc, fun hg => ?_⟩
    obtain ⟨t, c, hb, _, _, hp⟩ := hG g hg (cell_lt hc)
    rw [hb.cell] at hc
    exact hp _ _ hc
  · obtain ⟨k, x, hb, hk, hx⟩ := h1.2 j a b
    have hof : ∀ {y : Value} {L : Bs}, Disk.Own w 0 y L → ∀ g, y.ownBlock = some g → g < w.heap.size ∧ ¬ G g := fun {y L} ho g hg => by
      refine ⟨(ho.lt g hg).2, fun hgg => ?_⟩
      obtain ⟨t, c, hb, _, h5, _⟩ := hG g hgg (ho.lt g hg).2
      exact ho.other hb h5 hg
    refine ⟨⟨hb.lt, fun hgg => ?_⟩, k, x, hb, hk, hx, hof hk, hof hx⟩
    obtain ⟨t, c, hb2, h45, _, _⟩ := hG _ hgg hb.lt
    unfold Blk at hb hb2
    rw [hb] at hb2
    simp at hb2
    exact h45 hb2.2.symm

theorem all14 (tv : Value) (ht : ∃ a, tv = .pointer a) (w : World) : Calls Try.prog 14 #[tv] w fun e w' => e = .returned (.func (.func 45) #[] #[.pointer (some ⟨w.heap.size, 0, none⟩)]) ∧ Blk w' w.heap.size 26 #[tv] ∧ w.grownBy w' none ∧ w'.heap.size = w.heap.size + 1 := by
  obtain ⟨a, rfl⟩ := ht
  go_enter Try.func14, Try.ntmps14
  go_wp2_with fail
  obtain ⟨w1, hw1, H1⟩ := al w #[.pointer a] 26
  rw [hw1]
  clear hw1
  go_ret
  exact ⟨rfl, H1.out.1, H1.out.2.1, H1.out.2.2⟩
theorem sall47 (v : Value) (hv : ∃ a n c, v = .slice a n c) (w : World) : Calls Try.prog 47 #[v] w fun e w' => e = .returned (.func (.func 68) #[] #[.pointer (some ⟨w.heap.size, 0, none⟩)]) ∧ Blk w' w.heap.size 66 #[v] ∧ w.grownBy w' none := by
  obtain ⟨a, n, c, rfl⟩ := hv
  go_enter Try.func47, Try.ntmps47
  go_wp2_with fail
  obtain ⟨w1, hw1, H1⟩ := al w #[.slice a n c] 66
  rw [hw1]
  clear hw1
  go_ret
  exact ⟨rfl, H1.out.1, H1.out.2.1⟩
theorem sback51 (v : Value) (hv : ∃ a n c, v = .slice a n c) (w : World) : Calls Try.prog 51 #[v] w fun e w' => e = .returned (.func (.func 69) #[] #[.pointer (some ⟨w.heap.size, 0, none⟩)]) ∧ Blk w' w.heap.size 66 #[v] ∧ w.grownBy w' none := by
  obtain ⟨a, n, c, rfl⟩ := hv
  go_enter Try.func51, Try.ntmps51
  go_wp2_with fail
  obtain ⟨w1, hw1, H1⟩ := al w #[.slice a n c] 66
  rw [hw1]
  clear hw1
  go_ret
  exact ⟨rfl, H1.out.1, H1.out.2.1⟩

/-- A table, there or not, and where its list lies. -/
def Tf (w : World) (v : Value) (is : Bool) (f : Option Addr) (l : List PRow) : Prop := (is = true ∧ ∃ b cap, v = .pointer (some ⟨b, 0, none⟩) ∧ Blk w b 68 #[.bool true, .slice f l.length cap] ∧ Rows w (.slice f l.length cap) l ∧ l.length ≤ cap) ∨ (is = false ∧ l = [] ∧ f = none ∧ NoTb w v)
theorem Tf.grown {w w' : World} {v : Value} {is : Bool} {f : Option Addr} {l : List PRow} (h : Tf w v is f l) (hg : w.grownBy w' none) : Tf w' v is f l := by
  rcases h with ⟨h0, b, cap, h1, h2, h3, h4⟩ | ⟨h0, h1, h2, h3⟩
  · exact .inl ⟨h0, b, cap, h1, h2.grown hg (by simp), h3.grown hg, h4⟩
  · exact .inr ⟨h0, h1, h2, h3.grown hg⟩
theorem Tf.tl {w : World} {v : Value} {is : Bool} {f : Option Addr} {l : List PRow} (h : Tf w v is f l) : Tl w v is l := by
  rcases h with ⟨h0, b, cap, h1, h2, h3, _⟩ | ⟨h0, h1, _, h3⟩
  · exact .inl ⟨h0, b, h1, _, h2, h3⟩
  · exact .inr ⟨h0, h1, h3⟩
theorem tf_of {w : World} {v : Value} {is : Bool} {l : List PRow} (h : Tl w v is l) : ∃ f, Tf w v is f l := by
  rcases h with ⟨h0, b, h1, x, h2, h3⟩ | ⟨h0, h1, h3⟩
  · obtain ⟨ao, n, cap, rfl, hn, hc, _, HR⟩ := rows_open h3
    subst hn
    exact ⟨ao, .inl ⟨h0, b, cap, h1, h2, HR.out, hc⟩⟩
  · exact ⟨none, .inr ⟨h0, h1, rfl, h3⟩⟩
theorem Tf.rows {w : World} {v : Value} {is : Bool} {f : Option Addr} {l : List PRow} (h : Tf w v is f l) (n : Nat) (hn : n ≤ l.length) : Rows w (.slice f n n) (l.take n) := by
  rcases h with ⟨h0, b, cap, h1, h2, h3, _⟩ | ⟨h0, rfl, rfl, h3⟩
  · exact h3.first n hn
  · have : n = 0 := by simpa using hn
    subst this
    exact rows_nil w
set_option maxHeartbeats 400000 in
theorem first52f (v : Value) (is : Bool) (f : Option Addr) (n : Nat) (l : List PRow) (w : World) (h : Tf w v is f l) (hn : n ≤ l.length) : Calls Try.prog 52 #[v, .int .i64 (n : Int)] w fun e w' => e = .returned (.slice f n n) ∧ w' = w := by
  have h' := h
  rcases h with ⟨rfl, b, cap, rfl, hb, hr, hc⟩ | ⟨rfl, rfl, rfl, _⟩
  · have c1 := hb.cell 1
    simp at c1
    obtain ⟨m, hm⟩ : ∃ m, l.length = m := ⟨_, rfl⟩
    rw [hm] at hb c1 hn hc
    have HB : Hid (Blk w b 68 #[.bool true, .slice f m cap]) := hb
    have i0 : (0 : Int) ≤ (n : Int) := by omega
    have i1 : (n : Int) ≤ (cap : Int) := by omega
    clear hb hr hm h' hn hc
    go_enter Try.func52, Try.ntmps52
    go_wp2_with (go_at_call 34; refine (there34 b true _ w HB.out).mono ?_; rintro e w1 ⟨rfl, hw⟩; rw [hw]; clear hw)
    go_ret
    exact ⟨rfl, rfl⟩
  · have HT : Hid (Tl w v false []) := h'.tl
    clear h'
    have hn0 : n = 0 := by simpa using hn
    subst hn0
    clear hn
    go_enter Try.func52, Try.ntmps52
    go_wp2_with (go_at_call 34; refine (there34g v false [] w HT.out).mono ?_; rintro e w1 ⟨rfl, hw⟩; rw [hw]; clear hw)
    go_ret
    exact ⟨rfl, rfl⟩
set_option maxHeartbeats 400000 in
theorem list35f (v : Value) (is : Bool) (f : Option Addr) (l : List PRow) (n : Nat) (hn : l.length = n) (w : World) (h : Tf w v is f l) : Calls Try.prog 35 #[v] w fun e w' => e = .returned (.slice f n n) ∧ w' = w := by
  have HT : Hid (Tf w v is f l) := h
  have HN : Hid (l.length = n) := hn
  have HQ : Hid (Calls Try.prog 23 #[v] w fun e w' => e = .returned (.int .i64 (n : Int)) ∧ w' = w) := by rw [← hn]; exact len23g v is l w h.tl
  clear h hn
  go_enter Try.func35, Try.ntmps35
  go_wp2_with (go_at_call 23; refine HQ.out.mono ?_; rintro e w1 ⟨rfl, hw⟩; rw [hw]; clear hw)
  refine (first52f v is f n l w HT.out (by rw [HN.out]; omega)).mono ?_
  rintro e w1 ⟨rfl, hw⟩
  rw [hw]
  clear hw
  go_wp2_with fail
  go_ret
  exact ⟨rfl, rfl⟩

/-- Blocks that hold neither pointers nor rows nor bytes. -/
def Apart (w : World) (G : Nat → Prop) : Prop := ∀ k, G k → k < w.heap.size → ∃ t c, Blk w k t c ∧ t ≠ 45 ∧ t ≠ 5 ∧ ∀ (j p : Nat), c[j]? ≠ some (ptr p)

set_option maxRecDepth 100000 in
set_option maxHeartbeats 4000000 in
theorem all45 (Fw : Nat → Prop) (Bt : Nat) (tv : Value) (is : Bool) (l : List PRow) (hg : Good l) (w : World) (hb : Blk w Bt 26 #[tv]) (ht : Tl w tv is l) (hFw : ∀ i, Fw i → i < w.heap.size) (hap : Apart w Fw) :
    Gives Try.prog 45 #[.pointer (some ⟨Bt, 0, none⟩)] l.length (Xt l) Fw w := by
  intro lp J Jx W hgW hJ hJx hY h0
  obtain ⟨f, hf⟩ := tf_of ht
  obtain ⟨n, hn⟩ : ∃ n, l.length = n := ⟨_, rfl⟩
  have hrw := hf.rows n (by omega)
  rw [List.take_of_length_le (by omega)] at hrw
  have HT : Hid (Tf W tv is f l) := hf.grown hgW
  have HR : Hid (RowsIn W (fun k => k < w.heap.size ∧ ¬ Fw k) (.slice f n n) l) := (rows_in hrw Fw hap).grown hgW
  have HN : Hid (l.length = n) := hn
  have c0 := (hb.grown hgW (by simp)).cell 0
  simp at c0
  have HC : Hid (w.heap.size ≤ W.heap.size ∧ (∀ i, Fw i → i < w.heap.size)) := ⟨hgW.size, hFw⟩
  have HG : Hid (Good l) := hg
  have HJ : Hid _ := hJ
  have HJX : Hid _ := hJx
  have HY : Hid _ := hY
  have H0 : Hid (J 0 W) := h0
  clear hJ hJx hY h0 hb ht hFw hap hgW hg hn hf hrw
  show Calls Try.prog 45 #[.func (.yield lp) #[] #[], .pointer (some ⟨Bt, 0, none⟩)] W _
  go_enter Try.func45, Try.ntmps45
  go_wp2_with fail
  refine (list35f tv is f l n HN.out W HT.out).mono ?_
  rintro e w1 ⟨rfl, hw⟩
  rw [hw]
  clear hw
  go_wp2_with fail
  refine (sall47 _ ⟨f, n, n, rfl⟩ W).mono ?_
  rintro e w2 ⟨rfl, hb2, g2⟩
  have H2 : Hid (Blk w2 W.heap.size 66 #[.slice f n n] ∧ W.grownBy w2 none) := ⟨hb2, g2⟩
  clear hb2 g2
  go_wp2_with fail
  obtain ⟨ps, hpin, hats⟩ := HR.out
  have hpl : ps.length = l.length := hats.1
  refine (tell46 lp 68 W.heap.size w.heap.size (enters_of Try.func68 (by kernel_rfl) rfl) ps l (Xu ps) Fw J Jx W w2 ?_ HC.out.1 H2.out.2 hats ?_ ?_ HJ.out HJX.out HY.out HC.out.2 H0.out).mono ?_
  · rintro k W0 W1 xs ⟨e1, h, e2⟩
    exact ⟨e1, h, _, e2⟩
  · intro r hr
    have := okP_len (HG.out.2.1 r hr)
    omega
  · intro Wb hWb
    refine all68 _ W.heap.size (.slice f n n) ps Wb (H2.out.1.grown hWb (by simp)) ?_ (by rw [hpl]; exact HG.out.2.2)
    refine ((hpin.grown H2.out.2).grown hWb).weak fun k h1 h2 => ?_
    rintro (h3 | h3)
    · exact h1.2 h3
    · have := h1.1; omega
  · rintro e w3 ⟨⟨v, rfl⟩, hJJ⟩
    rw [hpl] at hJJ
    have H3 : Hid (J l.length w3 ∨ Jx w3) := hJJ
    clear hJJ
    go_wp2_with fail
    exact ⟨rfl, _, results_none rfl _ _ _, ⟨_, rfl⟩, H3.out⟩

theorem AtsIn.reverse {w : World} {F : Nat → Prop} {qs : List Nat} {rs : List PRow} (h : AtsIn w F qs rs) : AtsIn w F qs.reverse rs.reverse := by
  refine ⟨by simp [h.1], fun j a b => ?_⟩
  simp only [List.getElem_reverse]
  have h1 := h.1
  have := h.2 (qs.length - 1 - j) (by simp at a; omega) (by simp at a; omega)
  simp only [h1] at this ⊢
  exact this

set_option maxRecDepth 100000 in
set_option maxHeartbeats 4000000 in
theorem down16 (tv kv : Value) (K : Bs) (ht : ∃ a, tv = .pointer a) (hz : K.length ≤ 100000) (w : World) (hk : Seg w kv K) : Calls Try.prog 16 #[tv, kv] w fun e w' => ∃ b c kx, e = .returned (.func (.func 49) #[] #[.pointer (some ⟨b, 0, none⟩), .pointer (some ⟨c, 0, none⟩)]) ∧ Blk w' b 26 #[tv] ∧ Blk w' c 30 #[kx] ∧ Seg w' kx K ∧ w.grownBy w' none := by
  obtain ⟨a, rfl⟩ := ht
  obtain ⟨ak, nk, ck, rfl, hnk, _, HK⟩ := Names.seg_open hk
  have HNK : Hid (K.length = nk) := hnk
  clear hk hnk
  go_enter Try.func16, Try.ntmps16
  go_upto_region 1 with fail
  obtain ⟨w1, hw1, H1⟩ := al w #[.pointer a] 26
  rw [hw1]
  clear hw1
  obtain ⟨w2, hw2, H2⟩ := al w1 #[.slice ak nk ck] 30
  obtain ⟨bc, hbc⟩ : ∃ b, w1.heap.size = b := ⟨_, rfl⟩
  have hbc' : w.heap.size + 1 = bc := by rw [← hbc, H1.out.2.2]
  rw [hw2]
  rw [hbc] at H2
  try rw [hbc']
  clear hw2
  have c0 := H2.out.1.cell 0
  simp at c0
  go_wp2_with fail
  refine (Disk.clone25 _ K w2 (HK.out.grown (grown_trans H1.out.2.1 H2.out.2.1)) (by have := HNK.out; omega)).mono ?_
  rintro e w3 ⟨u, rfl, ou, g3⟩
  obtain ⟨au, cu, eu⟩ := ou.seg.shape
  rw [HNK.out] at eu
  subst eu
  have H3 : Hid (Disk.Own w3 w2.heap.size (.slice au nk cu) K ∧ w2.grownBy w3 none) := ⟨ou, g3⟩
  have hb3 := H2.out.1.grown g3 (by simp)
  have f0 := hb3.free 0
  have q0 := hb3.cell 0
  simp at q0
  clear ou g3
  go_wp2_with fail
  obtain ⟨w4, hw4⟩ : ∃ w4, w3.setCell ⟨bc, 0, none⟩ (.slice au nk cu) = w4 := ⟨_, rfl⟩
  have g34 : w3.grownBy w4 (some bc) := by rw [← hw4]; exact grown_setCell _ _ _ _
  have hb4 : Blk w4 bc 30 #[.slice au nk cu] := by rw [← hw4]; exact hb3.store 0 _
  rw [hw4]
  go_ret
  have z1 := H1.out.2.2
  have z2 := H2.out.2.2
  refine ⟨_, _, _, rfl, ?_, hb4, (own_off H3.out.1 g34 hb3 (by decide)).seg, ?_⟩
  · exact ((H1.out.1.grown H2.out.2.1 (by simp)).grown H3.out.2 (by simp)).grown g34 (by simp; omega)
  · exact grown_new (grown_trans (grown_trans H1.out.2.1 H2.out.2.1) H3.out.2) g34 (fun x hx => by simp at hx; omega)

set_option maxRecDepth 100000 in
set_option maxHeartbeats 4000000 in
theorem down49 (Fw : Nat → Prop) (Bt Bk : Nat) (tv kv : Value) (is : Bool) (l : List PRow) (K : Bs) (hg : Good l) (w : World) (hb : Blk w Bt 26 #[tv]) (hbk : Blk w Bk 30 #[kv]) (hk : Seg w kv K) (ht : Tl w tv is l) (hFw : ∀ i, Fw i → i < w.heap.size) (hap : Apart w Fw) :
    Gives Try.prog 49 #[.pointer (some ⟨Bt, 0, none⟩), .pointer (some ⟨Bk, 0, none⟩)] (spanE l [] K) (Xt (l.take (spanE l [] K)).reverse) Fw w := by
  intro lp J Jx W hgW hJ hJx hY h0
  obtain ⟨f, hf⟩ := tf_of ht
  have hse := span_le l [] K
  obtain ⟨n, hn⟩ : ∃ n, spanE l [] K = n := ⟨_, rfl⟩
  have HN : Hid (spanE l [] K = n) := hn
  rw [hn] at hse hY ⊢
  have hrw := hf.rows n hse
  have HT : Hid (Tf W tv is f l ∧ Seg W kv K) := ⟨hf.grown hgW, hk.grown hgW⟩
  have HR : Hid (RowsIn W (fun k => k < w.heap.size ∧ ¬ Fw k) (.slice f n n) (l.take n)) := (rows_in hrw Fw hap).grown hgW
  have HL : Hid ((l.take n).length = n ∧ n ≤ l.length) := ⟨by rw [List.length_take]; omega, hse⟩
  have c0 := (hb.grown hgW (by simp)).cell 0
  have c1 := (hbk.grown hgW (by simp)).cell 0
  simp at c0 c1
  have HBT : Hid (Blk W Bt 26 #[tv]) := hb.grown hgW (by simp)
  have HC : Hid (w.heap.size ≤ W.heap.size ∧ (∀ i, Fw i → i < w.heap.size)) := ⟨hgW.size, hFw⟩
  have HG : Hid (Good l) := hg
  have HJ : Hid _ := hJ
  have HJX : Hid _ := hJx
  have HY : Hid _ := hY
  have H0 : Hid (J 0 W) := h0
  clear hJ hJx hY h0 hb hbk hk ht hFw hap hgW hg hn hf hrw hse
  show Calls Try.prog 49 #[.func (.yield lp) #[] #[], .pointer (some ⟨Bt, 0, none⟩), .pointer (some ⟨Bk, 0, none⟩)] W _
  go_enter Try.func49, Try.ntmps49
  go_wp2_with fail
  refine (span50 tv is _ kv l [] K HG.out.1 HG.out.2.2 W HT.out.1.tl (seg_nil _) HT.out.2).mono ?_
  rintro e w1 ⟨rfl, g1⟩
  rw [HN.out]
  have G1 : Hid (W.grownBy w1 none) := g1
  clear g1 c0 c1
  have c0 := (HBT.out.grown G1.out (by simp)).cell 0
  simp at c0
  go_wp2_with fail
  refine (first52f tv is f n l w1 (HT.out.1.grown G1.out) HL.out.2).mono ?_
  rintro e w2 ⟨rfl, hw⟩
  rw [hw]
  clear hw
  go_wp2_with fail
  refine (sback51 _ ⟨f, n, n, rfl⟩ w1).mono ?_
  rintro e w2 ⟨rfl, hb2, g2⟩
  have H2 : Hid (Blk w2 w1.heap.size 66 #[.slice f n n] ∧ W.grownBy w2 none) := ⟨hb2, grown_trans G1.out g2⟩
  clear hb2 g2
  go_wp2_with fail
  obtain ⟨ps, hpin, hats⟩ := HR.out
  have hpl : ps.length = n := by rw [hats.1]; exact HL.out.1
  refine (tell46 lp 69 w1.heap.size w.heap.size (enters_of Try.func69 (by kernel_rfl) rfl) ps.reverse (l.take n).reverse (Xd ps) Fw J Jx W w2 ?_ HC.out.1 H2.out.2 hats.reverse ?_ ?_ HJ.out HJX.out ?_ HC.out.2 H0.out).mono ?_
  · rintro k W0 W1 xs ⟨e1, h, e2⟩
    refine ⟨e1, by simpa using h, ((ps.length - 1 - k : Nat) : Int), ?_⟩
    rw [e2]
    simp only [List.getElem_reverse]
  · intro r hr
    have := okP_len (HG.out.2.1 r (List.mem_of_mem_take (List.mem_reverse.1 hr)))
    omega
  · intro Wb hWb
    rw [List.length_reverse]
    refine back69 _ w1.heap.size (.slice f n n) ps Wb (H2.out.1.grown hWb (by simp)) ?_ ?_ (by rw [hpl]; have := HG.out.2.2; have := HL.out.2; omega)
    · rintro (h3 | h3)
      · have := HC.out.2 _ h3
        have := HC.out.1
        have := G1.out.size
        omega
      · have := G1.out.size
        omega
    · refine ((hpin.grown H2.out.2).grown hWb).weak fun k h1 h2 => ?_
      rintro (h3 | h3)
      · exact h1.2 h3
      · have := h1.1; omega
  · rw [List.length_reverse, HL.out.1]
    exact HY.out
  · rintro e w3 ⟨⟨v, rfl⟩, hJJ⟩
    rw [List.length_reverse, hpl] at hJJ
    have H3 : Hid (J n w3 ∨ Jx w3) := hJJ
    clear hJJ
    go_wp2_with fail
    exact ⟨rfl, _, results_none rfl _ _ _, ⟨_, rfl⟩, H3.out⟩
end Go.Proofs.Ytlehikdlkdbacaa
