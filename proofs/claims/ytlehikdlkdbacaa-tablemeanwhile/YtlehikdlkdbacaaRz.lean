/-
  The document's table, and a set of blocks in which no row's bytes lie: Put, Delete.
-/
import Derived.Test.YtlehikdlkdbacaaRb
import Derived.Test.YtlehikdlkdbacaaSv
namespace Go.Proofs.Ytlehikdlkdbacaa
open Go.RowKit Disk
open Names (cmpL keyB valueB)

def NoX (X : Nat → Prop) (v : Value) : Prop := ∀ g, v.ownBlock = some g → ¬ X g
def NoXs (X : Nat → Prop) (ks : List (Value × Value)) : Prop := ∀ p ∈ ks, NoX X p.1 ∧ NoX X p.2
theorem NoXs.take {X : Nat → Prop} {ks : List (Value × Value)} (h : NoXs X ks) (k : Nat) : NoXs X (ks.take k) := fun p hp => h p (List.mem_of_mem_take hp)
theorem NoXs.drop {X : Nat → Prop} {ks : List (Value × Value)} (h : NoXs X ks) (k : Nat) : NoXs X (ks.drop k) := fun p hp => h p (List.mem_of_mem_drop hp)
theorem NoXs.append {X : Nat → Prop} {ks ls : List (Value × Value)} (h : NoXs X ks) (k : NoXs X ls) : NoXs X (ks ++ ls) := fun p hp => by
  rcases List.mem_append.1 hp with hp | hp
  · exact h p hp
  · exact k p hp
theorem nox_one {X : Nat → Prop} {x y : Value} (h : NoX X x) (k : NoX X y) : NoXs X [(x, y)] := fun p hp => by
  rw [List.mem_singleton.1 hp]
  exact ⟨h, k⟩
theorem nox_new {X : Nat → Prop} {w : World} {B : Nat} {v : Value} {L : Bs} (hX : ∀ g, X g → g < B) (h : Disk.Own w B v L) : NoX X v := fun g hg hx => by
  have := (h.lt g hg).1
  have := hX g hx
  omega
def TRwz (X : Nat → Prop) (w : World) (v : Value) (l : List PRow) : Prop := ∃ ks, w.ownsRow 0 45 2 v l.length (rcells ks) ∧ ROwn w 0 ks l ∧ NoXs X ks
def Dtz (X : Nat → Prop) (w : World) (b : Nat) (l : List PRow) : Prop := ∃ v, Blk w b 34 #[v] ∧ TRwz X w v l
theorem TRwz.old {X : Nat → Prop} {w : World} {v : Value} {l : List PRow} (h : TRwz X w v l) : TRws w 0 v l := by
  obtain ⟨ks, h1, h2, _⟩ := h
  exact ⟨ks, h1, h2⟩
theorem Dtz.old {X : Nat → Prop} {w : World} {b : Nat} {l : List PRow} (h : Dtz X w b l) : Dt w b l := by
  obtain ⟨v, h1, h2⟩ := h
  exact ⟨v, h1, h2.old⟩
theorem dtz_of {X : Nat → Prop} {w : World} {b : Nat} {l : List PRow} (hX : ∀ g, X g → w.heap.size ≤ g) (h : Dt w b l) : Dtz X w b l := by
  obtain ⟨v, h1, ks, h2, h3⟩ := h
  refine ⟨v, h1, ks, h2, h3, fun p hp => ?_⟩
  obtain ⟨i, hi, rfl⟩ := List.mem_iff_getElem.1 hp
  obtain ⟨o1, o2⟩ := h3.2 i hi (by rw [← h3.1]; exact hi)
  exact ⟨fun g hg hx => by have := (o1.lt g hg).2; have := hX g hx; omega, fun g hg hx => by have := (o2.lt g hg).2; have := hX g hx; omega⟩
theorem TRwz.grown {X : Nat → Prop} {w w' : World} {v : Value} {l : List PRow} (h : TRwz X w v l) (hg : w.grownBy w' none) : TRwz X w' v l := by
  obtain ⟨ks, h1, h2, h3⟩ := h
  exact ⟨ks, owns_same h1 fun k hk => hg.block k (World.ownsRow.lt h1 k hk).2 (by simp), h2.grown hg, h3⟩
theorem Dtz.grown {X : Nat → Prop} {w w' : World} {b : Nat} {l : List PRow} (h : Dtz X w b l) (hg : w.grownBy w' none) : Dtz X w' b l := by
  obtain ⟨v, h1, h2⟩ := h
  exact ⟨v, h1.grown hg (by simp), h2.grown hg⟩
theorem TRwz.off {X : Nat → Prop} {w w' : World} {v : Value} {l : List PRow} (h : TRwz X w v l) {g t : Nat} {c : Array Value} (hg : w.grownBy w' (some g)) (hb : Blk w g t c) (h45 : t ≠ 45) (h5 : t ≠ 5) : TRwz X w' v l := by
  obtain ⟨ks, h1, h2, h3⟩ := h
  refine ⟨ks, owns_same h1 fun k hk => ?_, h2.same fun k hk => ?_, h3⟩
  · rcases h1.2 with ⟨rfl, _⟩ | ⟨g2, cap, cur, rfl, _, hg2, _⟩
    · simp [Value.ownBlock] at hk
    · simp [Value.ownBlock] at hk
      subst hk
      refine hg.block g2 (Array.getElem?_eq_some_iff.1 hg2).1 (fun e => ?_)
      simp at e
      subst e
      unfold Blk at hb
      rw [hg2] at hb
      simp at hb
      exact h45 hb.2.symm
  · obtain ⟨x, hx⟩ := hk
    unfold Blk at hx
    refine hg.block k (Array.getElem?_eq_some_iff.1 hx).1 (fun e => ?_)
    simp at e
    subst e
    unfold Blk at hb
    rw [hx] at hb
    simp at hb
    exact h5 hb.2.symm
theorem Dtz.off {X : Nat → Prop} {w w' : World} {b : Nat} {l : List PRow} (h : Dtz X w b l) {g t : Nat} {c : Array Value} (hg : w.grownBy w' (some g)) (hb : Blk w g t c) (h34 : t ≠ 34) (h45 : t ≠ 45) (h5 : t ≠ 5) : Dtz X w' b l := by
  obtain ⟨v, h1, h2⟩ := h
  refine ⟨v, h1.grown hg (fun e => ?_), h2.off hg hb h45 h5⟩
  simp at e
  subst e
  unfold Blk at h1 hb
  rw [h1] at hb
  simp at hb
  exact h34 hb.2.symm
/-- Bytes in blocks of X are written over: the table stands. -/
theorem Dtz.wq {X : Nat → Prop} {w w' : World} {b : Nat} {l : List PRow} (h : Dtz X w b l) (hw : Wq X w w') : Dtz X w' b l := by
  obtain ⟨v, h1, ks, h2, h3, h4⟩ := h
  refine ⟨v, hw.1.blk h1 (by decide), ks, owns_same h2 fun k hk => ?_, ⟨h3.1, fun j a b => ?_⟩, h4⟩
  · rcases h2.2 with ⟨rfl, _⟩ | ⟨g2, cap, cur, rfl, _, hg2, _⟩
    · simp [Value.ownBlock] at hk
    · simp [Value.ownBlock] at hk
      subst hk
      refine hw.1.other _ fun x hx => ?_
      unfold Blk at hx
      rw [hg2] at hx
      simp at hx
  · obtain ⟨o1, o2⟩ := h3.2 j a b
    obtain ⟨n1, n2⟩ := h4 _ (List.getElem_mem a)
    exact ⟨o1.same fun k hk => hw.1.low k (n1 k hk), o2.same fun k hk => hw.1.low k (n2 k hk)⟩
theorem dtz_store {X : Nat → Prop} {w : World} {b : Nat} {old v : Value} {l : List PRow} (hb : Blk w b 34 #[old]) (h : TRwz X w v l) : Dtz X (w.setCell ⟨b, 0, none⟩ v) b l := by
  refine ⟨v, ?_, h.off (grown_setCell _ _ _ _) hb (by decide) (by decide)⟩
  have := hb.store 0 v
  simpa using this
theorem dtz_open {X : Nat → Prop} {w : World} {b : Nat} {l : List PRow} (h : Dtz X w b l) : ∃ ao n cap, l.length = n ∧ n ≤ cap ∧ cap ≤ 9223372036854775807 ∧ Hid (Blk w b 34 #[.slice ao n cap] ∧ TRwz X w (.slice ao n cap) l) := by
  obtain ⟨v, h1, h2⟩ := h
  obtain ⟨ao, n, cap, rfl, hn, hc, hc', _⟩ := rws_open h2.old.rws
  exact ⟨ao, n, cap, hn, hc, hc', h1, h2⟩

set_option maxRecDepth 100000 in
set_option maxHeartbeats 8000000 in
theorem put18z {X : Nat → Prop} (b : Nat) (kv vv : Value) (l : List PRow) (k x : Bs) (hz : l.length ≤ 1000000) (w : World) (hX : ∀ g, X g → g < w.heap.size) (ht : Dtz X w b l) (hk : Seg w kv k) (hv : Seg w vv x) :
    Calls Try.prog 18 #[.pointer (some ⟨b, 0, none⟩), kv, vv] w fun e w' => e = .returned (.tuple #[.bool (putB l k x), .int .i64 (putC k x)]) ∧ Dtz X w' b (putA l k x) ∧ w.grownBy w' (some b) := by
  obtain ⟨ao, n, cap, hn, hc, hc', HT⟩ := dtz_open ht
  have HK : Hid (Seg w kv k ∧ Seg w vv x ∧ Dtz X w b l ∧ l.length = n ∧ ∀ g, X g → g < w.heap.size) := ⟨hk, hv, ht, hn, hX⟩
  have hn6 : n ≤ 1000000 := by omega
  clear ht hk hv hn hX
  obtain ⟨kb, hkb⟩ : ∃ kb, keyB k = kb := ⟨_, rfl⟩
  obtain ⟨vb, hvb⟩ : ∃ vb, valueB x = vb := ⟨_, rfl⟩
  have HKB : Hid (keyB k = kb ∧ valueB x = vb) := ⟨hkb, hvb⟩
  clear hkb hvb
  go_enter Try.func18, Try.ntmps18
  by_cases hok : kb = true ∧ vb = true
  · obtain ⟨rfl, rfl⟩ := hok
    have HO : Hid (okP k x = true) := by simp [Hid, okP, HKB.out.1, HKB.out.2]
    go_wp2_with (first | (go_at_call 56; refine (Names.key12 _ k w HK.out.1).mono ?_; rintro e wx ⟨rfl, hx⟩; rw [hx, HKB.out.1]; clear hx) | (go_at_call 57; refine (Names.value14 _ x w HK.out.2.1).mono ?_; rintro e wx ⟨rfl, hx⟩; rw [hx, HKB.out.2]; clear hx))
    refine (has58 b kv l k w HK.out.2.2.1.old HK.out.1).mono ?_
    rintro e w1 ⟨rfl, m1, hw1⟩
    rw [hw1]
    clear hw1
    obtain ⟨i, hi⟩ : ∃ i, rankL l k = i := ⟨_, rfl⟩
    obtain ⟨h, hh⟩ : ∃ h, hasL l k = h := ⟨_, rfl⟩
    have HR : Hid (rankL l k = i ∧ hasL l k = h) := ⟨hi, hh⟩
    have hin : i ≤ n := by rw [← hi, ← HK.out.2.2.2.1]; exact rank_le l k
    rw [hi, hh]
    clear hi hh
    go_wp2_with fail
    refine (copied59 kv k _ (Names.seg_drewN HK.out.1 m1) (by have := okP_len HO.out; omega)).mono ?_
    rintro e w2 ⟨u2, rfl, hu2, hg2⟩
    have H2 : Hid (Disk.Own w2 w.heap.size u2 k ∧ w.grownBy w2 none) := ⟨hu2, grown_trans (grown_drewN w m1 none) hg2⟩
    clear hu2 hg2
    go_wp2_with fail
    refine (copied59 vv x _ (HK.out.2.1.grown H2.out.2) (by have := okP_len HO.out; omega)).mono ?_
    rintro e w3 ⟨u3, rfl, hu3, hg3⟩
    have H3 : Hid (Disk.Own w3 w.heap.size u2 k ∧ Disk.Own w3 w.heap.size u3 x ∧ w.grownBy w3 none) := ⟨H2.out.1.grown hg3, hu3.mono H2.out.2.size, grown_trans H2.out.2 hg3⟩
    clear hu3 hg3 H2
    obtain ⟨a2, c2, e2⟩ := H3.out.1.seg.shape
    obtain ⟨a3, c3, e3⟩ := H3.out.2.1.seg.shape
    obtain ⟨nk, hnk⟩ : ∃ n, k.length = n := ⟨_, rfl⟩
    obtain ⟨nx, hnx⟩ : ∃ n, x.length = n := ⟨_, rfl⟩
    rw [hnk] at e2
    rw [hnx] at e3
    subst e2 e3
    clear hnk hnx
    go_upto_region 5 with fail
    obtain ⟨w4, hw4, H4⟩ := al w3 #[.slice a2 nk c2, .slice a3 nx c3] 45
    rw [hw4]
    clear hw4
    have HG : Hid (w.grownBy w4 none ∧ Disk.Own w4 0 (.slice a2 nk c2) k ∧ Disk.Own w4 0 (.slice a3 nx c3) x ∧ Blk w4 w3.heap.size 45 #[.slice a2 nk c2, .slice a3 nx c3] ∧ w3.heap.size < w4.heap.size ∧ NoX X (.slice a2 nk c2) ∧ NoX X (.slice a3 nx c3)) := ⟨grown_trans H3.out.2.2 H4.out.2.1, (H3.out.1.grown H4.out.2.1).mono (Nat.zero_le _), (H3.out.2.1.grown H4.out.2.1).mono (Nat.zero_le _), H4.out.1, by have := H4.out.2.2; omega, nox_new HK.out.2.2.2.2 H3.out.1, nox_new HK.out.2.2.2.2 H3.out.2.1⟩
    clear H3 H4
    have HB4 : Hid (Blk w4 b 34 #[.slice ao n cap]) := HT.out.1.grown HG.out.1 (by simp)
    obtain ⟨ks, hks, hrs, hnx⟩ := HT.out.2
    rw [HK.out.2.2.2.1] at hks
    have HKS : Hid (w4.ownsRow 0 45 2 (.slice ao n cap) n (rcells ks) ∧ ROwn w4 0 ks l ∧ NoXs X ks) := by
      exact ⟨owns_same hks fun q hq => HG.out.1.block q (World.ownsRow.lt hks q hq).2 (by simp), hrs.grown HG.out.1, hnx⟩
    clear hks hrs hnx
    have q0 : w4.cell? ⟨b, 0, none⟩ = some (.slice ao n cap) := HB4.out.cell 0
    obtain ⟨sv, hsv⟩ : ∃ v, sliced ao 0 i cap 2 = v := ⟨_, rfl⟩
    have hsl : ∀ wk, (Instr.slice 22 (.slice ao n cap) none (some (.int .i64 (i : Int))) none).run Try.prog wk = .ok sv wk := fun wk => by rw [← hsv]; exact run_front ao n cap i (by omega) wk
    have HP1 : Hid (Vec w4 2 sv i (rcells (ks.take i))) := by
      have := own_piece HKS.out.1 0 i (Nat.zero_le _) hin
      rw [hsv] at this
      unfold Hid
      simpa using this
    clear hsv
    go_wp2_with (at_builtin; refine appO_at w4 rfl _ _ 22 45 _ 2 48 Try.info45 ut22' rfl (by decide) rfl w4.heap.size _ 0 [] _ i (rcells (ks.take i)) rfl rfl (World.ownsRow_nil _ _ _ _) HP1.out ?c0 ?c1 ?c2 (Nat.le_refl _) ?_)
    case c0 => exact ((HKS.out.2.1).take i).one
    case c1 => omega
    case c2 => unfold maxLen; omega
    intro v5 w5 hv5 hg5
    have H5 : Hid (w5.ownsRow w4.heap.size 45 2 v5 i (rcells (ks.take i)) ∧ w4.grownBy w5 none) := ⟨by simpa using hv5, hg5.none (Nat.le_refl _)⟩
    clear hv5 hg5 hsl
    obtain ⟨a5, c5, e5, _, _⟩ := (vec_of_owns H5.out.1).shape
    subst e5
    have z0 : w5.cell? ⟨w3.heap.size, 0, none⟩ = some (.slice a2 nk c2) := (HG.out.2.2.2.1.grown H5.out.2 (by simp)).cell 0
    have z1 : w5.cell? ⟨w3.heap.size, 1, none⟩ = some (.slice a3 nx c3) := (HG.out.2.2.2.1.grown H5.out.2 (by simp)).cell 1
    go_upto_region 6 with fail
    go_wp2_with (at_builtin; refine appO_at _ rfl _ _ 22 45 _ 2 48 Try.info45 ut22' rfl (by decide) rfl w4.heap.size _ i (rcells (ks.take i)) _ 1 [.slice a2 nk c2, .slice a3 nx c3] rfl rfl (owns_same H5.out.1 fun q hq => (World.grownBy_alloc w5 _ none).block q (World.ownsRow.lt H5.out.1 q hq).2 (by simp)) (vec_two w5 _ _ _ (heap_alloc_new w5 _)) ?c0 ?c1 ?c2 ?c3 ?_)
    case c0 => simp [Value.oneCell']
    case c1 => omega
    case c2 => unfold maxLen; omega
    case c3 => have := H5.out.2.size; simp; omega
    intro v6 w6 hv6 hg6
    have H6 : Hid (w6.ownsRow w4.heap.size 45 2 v6 (i + 1) (rcells (ks.take i) ++ [.slice a2 nk c2, .slice a3 nx c3]) ∧ w4.grownBy w6 none) := ⟨hv6, hg6.after (grown_trans H5.out.2 (World.grownBy_alloc w5 _ none)) (Nat.le_refl _)⟩
    clear hv6 hg6 H5 z0 z1
    obtain ⟨a6, c6, e6, _, _⟩ := (vec_of_owns H6.out.1).shape
    subst e6
    cases h with
    | false =>
      have HE : Hid (endL l k = i) := by simp [Hid, endL, HR.out.1, HR.out.2]
      have hen : i ≤ n := hin
      have q1 : w6.cell? ⟨b, 0, none⟩ = some (.slice ao n cap) := (HB4.out.grown H6.out.2 (by simp)).cell 0
      obtain ⟨sv2, hsv2⟩ : ∃ v, sliced ao i n cap 2 = v := ⟨_, rfl⟩
      have hsl : ∀ wk, (Instr.slice 22 (.slice ao n cap) (some (.int .i64 (i : Int))) none none).run Try.prog wk = .ok sv2 wk := fun wk => by rw [← hsv2]; exact run_rest 22 2 ut22 size22 ao n cap i hen wk
      have HP2 : Hid (Vec w6 2 sv2 (n - i) (rcells (ks.drop i))) := by
        have h6 : w6.ownsRow 0 45 2 (.slice ao n cap) n (rcells ks) := owns_same HKS.out.1 fun q hq => H6.out.2.block q (World.ownsRow.lt HKS.out.1 q hq).2 (by simp)
        have := own_piece h6 i n hen (Nat.le_refl _)
        rw [hsv2, List.take_of_length_le (by rw [List.length_drop, HKS.out.2.1.1, HK.out.2.2.2.1]; omega)] at this
        exact this
      clear hsv2
      go_wp2_with (at_builtin; refine appO_at w6 rfl _ _ 22 45 _ 2 48 Try.info45 ut22' rfl (by decide) rfl w4.heap.size _ (i + 1) _ _ (n - i) (rcells (ks.drop i)) rfl rfl H6.out.1 HP2.out ?c0 ?c1 ?c2 H6.out.2.size ?_)
      case c0 => exact ((HKS.out.2.1).drop i).one
      case c1 => omega
      case c2 => unfold maxLen; omega
      intro v7 w7 hv7 hg7
      have H7 : Hid (TRwz X w7 v7 (putL l k x) ∧ w4.grownBy w7 none ∧ Blk w7 b 34 #[.slice ao n cap]) := by
        have g7 : w4.grownBy w7 none := hg7.after H6.out.2 (Nat.le_refl _)
        refine ⟨⟨ks.take i ++ [(.slice a2 nk c2, .slice a3 nx c3)] ++ ks.drop i, ?_, ?_, ((HKS.out.2.2.take i).append (nox_one HG.out.2.2.2.2.2.1 HG.out.2.2.2.2.2.2)).append (HKS.out.2.2.drop i)⟩, g7, HB4.out.grown g7 (by simp)⟩
        · have hl : (putL l k x).length = i + 1 + (n - i) := by
            unfold putL
            rw [HR.out.1, HE.out]
            simp [HK.out.2.2.2.1]
            omega
          rw [hl, rcells_append, rcells_append]
          have e := owns_mono hv7 (Nat.zero_le _)
          rw [rcells, rcells, List.append_assoc, List.cons_append, List.cons_append, List.nil_append]
          first | exact e | (rw [show i + 1 + (n - (i + 1)) = n from by omega]; exact e)
        · have h7 := HKS.out.2.1.grown g7
          have := (((h7.take i).append (ROwn.one1 (r := (k, x)) (HG.out.2.1.grown g7) (HG.out.2.2.1.grown g7))).append (h7.drop i))
          unfold putL
          rw [HR.out.1, HE.out]
          simpa using this
      obtain ⟨a7, c7, e7, _, _⟩ := (vec_of_owns hv7).shape
      subst e7
      clear hv7 hg7 H6 hsl
      have f7 := H7.out.2.2.free 0
      have q7 := H7.out.2.2.cell 0
      simp at q7
      go_wp2_with fail
      go_ret2
      refine ⟨by rw [show putB l k x = false from by simp [putB, HO.out, HR.out.2], show putC k x = 0 from by simp [putC, HO.out]]; rfl, ?_, ?_⟩
      · rw [show putA l k x = putL l k x from by simp [putA, HO.out]]
        exact dtz_store H7.out.2.2 H7.out.1
      · exact grown_widen (grown_trans HG.out.1 H7.out.2.1) (grown_setCell _ _ _ _)
    | true =>
      have HE : Hid (endL l k = i + 1) := by simp [Hid, endL, HR.out.1, HR.out.2]
      have hen : i + 1 ≤ n := by have := end_le l k; rw [HE.out, HK.out.2.2.2.1] at this; exact this
      have hadd : IntKind.i64.wrap ((i : Int) + 1) = (i : Int) + 1 := by rw [IntKind.wrap_i64]; omega
      have q1 : w6.cell? ⟨b, 0, none⟩ = some (.slice ao n cap) := (HB4.out.grown H6.out.2 (by simp)).cell 0
      obtain ⟨sv2, hsv2⟩ : ∃ v, sliced ao (i + 1) n cap 2 = v := ⟨_, rfl⟩
      have hsl : ∀ wk, (Instr.slice 22 (.slice ao n cap) (some (.int .i64 ((i : Int) + 1))) none none).run Try.prog wk = .ok sv2 wk := fun wk => by rw [← hsv2]; exact run_rest 22 2 ut22 size22 ao n cap (i + 1) hen wk
      have HP2 : Hid (Vec w6 2 sv2 (n - (i + 1)) (rcells (ks.drop (i + 1)))) := by
        have h6 : w6.ownsRow 0 45 2 (.slice ao n cap) n (rcells ks) := owns_same HKS.out.1 fun q hq => H6.out.2.block q (World.ownsRow.lt HKS.out.1 q hq).2 (by simp)
        have := own_piece h6 (i + 1) n hen (Nat.le_refl _)
        rw [hsv2, List.take_of_length_le (by rw [List.length_drop, HKS.out.2.1.1, HK.out.2.2.2.1]; omega)] at this
        exact this
      clear hsv2
      go_wp2_with (at_builtin; refine appO_at w6 rfl _ _ 22 45 _ 2 48 Try.info45 ut22' rfl (by decide) rfl w4.heap.size _ (i + 1) _ _ (n - (i + 1)) (rcells (ks.drop (i + 1))) rfl rfl H6.out.1 HP2.out ?c0 ?c1 ?c2 H6.out.2.size ?_)
      case c0 => exact ((HKS.out.2.1).drop (i + 1)).one
      case c1 => omega
      case c2 => unfold maxLen; omega
      intro v7 w7 hv7 hg7
      have H7 : Hid (TRwz X w7 v7 (putL l k x) ∧ w4.grownBy w7 none ∧ Blk w7 b 34 #[.slice ao n cap]) := by
        have g7 : w4.grownBy w7 none := hg7.after H6.out.2 (Nat.le_refl _)
        refine ⟨⟨ks.take i ++ [(.slice a2 nk c2, .slice a3 nx c3)] ++ ks.drop (i + 1), ?_, ?_, ((HKS.out.2.2.take i).append (nox_one HG.out.2.2.2.2.2.1 HG.out.2.2.2.2.2.2)).append (HKS.out.2.2.drop (i + 1))⟩, g7, HB4.out.grown g7 (by simp)⟩
        · have hl : (putL l k x).length = i + 1 + (n - (i + 1)) := by
            unfold putL
            rw [HR.out.1, HE.out]
            simp [HK.out.2.2.2.1]
            omega
          rw [hl, rcells_append, rcells_append]
          have e := owns_mono hv7 (Nat.zero_le _)
          rw [rcells, rcells, List.append_assoc, List.cons_append, List.cons_append, List.nil_append]
          first | exact e | (rw [show i + 1 + (n - (i + 1)) = n from by omega]; exact e)
        · have h7 := HKS.out.2.1.grown g7
          have := (((h7.take i).append (ROwn.one1 (r := (k, x)) (HG.out.2.1.grown g7) (HG.out.2.2.1.grown g7))).append (h7.drop (i + 1)))
          unfold putL
          rw [HR.out.1, HE.out]
          simpa using this
      obtain ⟨a7, c7, e7, _, _⟩ := (vec_of_owns hv7).shape
      subst e7
      clear hv7 hg7 H6 hsl
      have f7 := H7.out.2.2.free 0
      have q7 := H7.out.2.2.cell 0
      simp at q7
      go_wp2_with fail
      go_ret2
      refine ⟨by rw [show putB l k x = true from by simp [putB, HO.out, HR.out.2], show putC k x = 0 from by simp [putC, HO.out]]; rfl, ?_, ?_⟩
      · rw [show putA l k x = putL l k x from by simp [putA, HO.out]]
        exact dtz_store H7.out.2.2 H7.out.1
      · exact grown_widen (grown_trans HG.out.1 H7.out.2.1) (grown_setCell _ _ _ _)
  · have HO : Hid (okP k x = false) := by
      unfold Hid okP
      rw [HKB.out.1, HKB.out.2]
      cases kb <;> cases vb <;> simp_all
    cases kb with
    | false =>
      go_wp2_with (first | (go_at_call 56; refine (Names.key12 _ k w HK.out.1).mono ?_; rintro e wx ⟨rfl, hx⟩; rw [hx, HKB.out.1]; clear hx) | (go_at_call 57; refine (Names.value14 _ x w HK.out.2.1).mono ?_; rintro e wx ⟨rfl, hx⟩; rw [hx, HKB.out.2]; clear hx))
      go_ret2
      exact ⟨by rw [show putB l k x = false from by simp [putB, HO.out], show putC k x = 2 from by simp [putC, HO.out]]; rfl, by rw [show putA l k x = l from by simp [putA, HO.out]]; exact HK.out.2.2.1, grown_refl _ _⟩
    | true =>
      have hvf : vb = false := by cases vb <;> simp_all
      subst hvf
      go_wp2_with (first | (go_at_call 56; refine (Names.key12 _ k w HK.out.1).mono ?_; rintro e wx ⟨rfl, hx⟩; rw [hx, HKB.out.1]; clear hx) | (go_at_call 57; refine (Names.value14 _ x w HK.out.2.1).mono ?_; rintro e wx ⟨rfl, hx⟩; rw [hx, HKB.out.2]; clear hx))
      go_ret2
      exact ⟨by rw [show putB l k x = false from by simp [putB, HO.out], show putC k x = 2 from by simp [putC, HO.out]]; rfl, by rw [show putA l k x = l from by simp [putA, HO.out]]; exact HK.out.2.2.1, grown_refl _ _⟩

set_option maxRecDepth 100000 in
set_option maxHeartbeats 8000000 in
theorem delete20z {X : Nat → Prop} (b : Nat) (kv : Value) (l : List PRow) (k : Bs) (hz : l.length ≤ 1000000) (w : World) (hX : ∀ g, X g → g < w.heap.size) (ht : Dtz X w b l) (hk : Seg w kv k) :
    Calls Try.prog 20 #[.pointer (some ⟨b, 0, none⟩), kv] w fun e w' => e = .returned (.tuple #[.bool (delB l k), .int .i64 (delC k)]) ∧ Dtz X w' b (delA l k) ∧ w.grownBy w' (some b) := by
  obtain ⟨ao, n, cap, hn, hc, hc', HT⟩ := dtz_open ht
  have HK : Hid (Seg w kv k ∧ Dtz X w b l ∧ l.length = n ∧ ∀ g, X g → g < w.heap.size) := ⟨hk, ht, hn, hX⟩
  have hn6 : n ≤ 1000000 := by omega
  clear ht hk hn hX
  obtain ⟨kb, hkb⟩ : ∃ kb, keyB k = kb := ⟨_, rfl⟩
  have HKB : Hid (keyB k = kb) := hkb
  clear hkb
  go_enter Try.func20, Try.ntmps20
  cases kb with
  | false =>
    go_wp2_with (go_at_call 56; refine (Names.key12 _ k w HK.out.1).mono ?_; rintro e wx ⟨rfl, hx⟩; rw [hx, HKB.out]; clear hx)
    go_ret2
    exact ⟨by rw [show delB l k = false from by simp [delB, HKB.out], show delC k = 2 from by simp [delC, HKB.out]]; rfl, by rw [show delA l k = l from by simp [delA, HKB.out]]; exact HK.out.2.1, grown_refl _ _⟩
  | true =>
    go_wp2_with (go_at_call 56; refine (Names.key12 _ k w HK.out.1).mono ?_; rintro e wx ⟨rfl, hx⟩; rw [hx, HKB.out]; clear hx)
    refine (has58 b kv l k w HK.out.2.1.old HK.out.1).mono ?_
    rintro e w1 ⟨rfl, m1, hw1⟩
    rw [hw1]
    clear hw1
    obtain ⟨i, hi⟩ : ∃ i, rankL l k = i := ⟨_, rfl⟩
    obtain ⟨h, hh⟩ : ∃ h, hasL l k = h := ⟨_, rfl⟩
    have HR : Hid (rankL l k = i ∧ hasL l k = h) := ⟨hi, hh⟩
    have hin : i ≤ n := by rw [← hi, ← HK.out.2.2.1]; exact rank_le l k
    rw [hi, hh]
    clear hi hh
    cases h with
    | false =>
      go_wp2_with fail
      go_ret2
      refine ⟨by rw [show delB l k = false from by simp [delB, HR.out.2], show delC k = 0 from by simp [delC, HKB.out]]; rfl, ?_, grown_drewN _ _ _⟩
      rw [show delA l k = l from by simp [delA, HKB.out, delL, endL, HR.out.1, HR.out.2]]
      exact HK.out.2.1.grown (grown_drewN _ _ _)
    | true =>
      have HE : Hid (endL l k = i + 1) := by simp [Hid, endL, HR.out.1, HR.out.2]
      have hen : i + 1 ≤ n := by have := end_le l k; rw [HE.out, HK.out.2.2.1] at this; exact this
      have hadd : IntKind.i64.wrap ((i : Int) + 1) = (i : Int) + 1 := by rw [IntKind.wrap_i64]; omega
      go_upto_region 5 with fail
      refine wp_region_noPanic ?_
      refine wp_region_hold 18 (fun y => w.grownBy y none) (by kernel_rfl) ?_
      have G0 : Hid (w.grownBy (w.drewN m1).drew none) := grown_trans (grown_drewN w m1 none) (grown_drew _ _)
      generalize (w.drewN m1).drew = wd at G0 ⊢
      have HM : Hid (∀ y : World, w.grownBy y none → y.cell? ⟨b, 0, none⟩ = some (.slice ao n cap)) := fun y hy => (HT.out.1.grown hy (by simp)).cell 0
      obtain ⟨ks, hks, hrs, hnx⟩ := HT.out.2
      rw [HK.out.2.2.1] at hks
      have HKS : Hid (∀ y : World, w.grownBy y none → y.ownsRow 0 45 2 (.slice ao n cap) n (rcells ks) ∧ ROwn y 0 ks l) := fun y hy => ⟨owns_same hks fun q hq => hy.block q (World.ownsRow.lt hks q hq).2 (by simp), hrs.grown hy⟩
      have HNX : Hid (NoXs X ks) := hnx
      clear hks hrs hnx
      obtain ⟨sv, hsv⟩ : ∃ v, sliced ao 0 i cap 2 = v := ⟨_, rfl⟩
      have hsl : ∀ wk, (Instr.slice 22 (.slice ao n cap) none (some (.int .i64 (i : Int))) none).run Try.prog wk = .ok sv wk := fun wk => by rw [← hsv]; exact run_front ao n cap i (by omega) wk
      have HP1 : Hid (∀ y : World, w.grownBy y none → Vec y 2 sv i (rcells (ks.take i))) := fun y hy => by
        have := own_piece (HKS.out y hy).1 0 i (Nat.zero_le _) hin
        rw [hsv] at this
        simpa using this
      clear hsv
      obtain ⟨sv2, hsv2⟩ : ∃ v, sliced ao (i + 1) n cap 2 = v := ⟨_, rfl⟩
      have hsl2 : ∀ wk, (Instr.slice 22 (.slice ao n cap) (some (.int .i64 ((i : Int) + 1))) none none).run Try.prog wk = .ok sv2 wk := fun wk => by rw [← hsv2]; exact run_rest 22 2 ut22 size22 ao n cap (i + 1) hen wk
      have HP2 : Hid (∀ y : World, w.grownBy y none → Vec y 2 sv2 (n - (i + 1)) (rcells (ks.drop (i + 1)))) := fun y hy => by
        have := own_piece (HKS.out y hy).1 (i + 1) n hen (Nat.le_refl _)
        rw [hsv2, List.take_of_length_le (by rw [List.length_drop, (HKS.out y hy).2.1, HK.out.2.2.1]; omega)] at this
        exact this
      clear hsv2
      refine wpHold_take (i := 0) (v := _) (G0.out) rfl rfl (by kernel_rfl) (by kernel_rfl) (by kernel_rfl) (by kernel_rfl) (by kernel_rfl) (fun _ _ _ h => h) (by rfl) (fun wk hk => by have z0 := HM.out wk hk; go_simp; try rfl) ?_
      try simp only [Act.put, List.setIfInBounds_toArray, List.set_cons_zero, List.set_cons_succ]
      refine wpHold_take (i := 1) (v := _) (G0.out) rfl rfl (by kernel_rfl) (by kernel_rfl) (by kernel_rfl) (by kernel_rfl) (by kernel_rfl) (fun _ _ _ h => h) (by rfl) (fun wk hk => by have z0 := HM.out wk hk; go_simp; try rfl) ?_
      try simp only [Act.put, List.setIfInBounds_toArray, List.set_cons_zero, List.set_cons_succ]
      refine wpHold_take (i := 2) (v := _) (G0.out) rfl rfl (by kernel_rfl) (by kernel_rfl) (by kernel_rfl) (by kernel_rfl) (by kernel_rfl) (fun _ _ _ h => h) (by rfl) (fun wk hk => by have z0 := HM.out wk hk; go_simp; try rfl) ?_
      try simp only [Act.put, List.setIfInBounds_toArray, List.set_cons_zero, List.set_cons_succ]
      refine wpHold_take (i := 3) (v := _) (G0.out) rfl rfl (by kernel_rfl) (by kernel_rfl) (by kernel_rfl) (by kernel_rfl) (by kernel_rfl) (fun _ _ _ h => h) (by rfl) (fun wk hk => by have z0 := HM.out wk hk; go_simp; try rfl) ?_
      try simp only [Act.put, List.setIfInBounds_toArray, List.set_cons_zero, List.set_cons_succ]
      refine wpHold_take (i := 4) (v := _) (G0.out) rfl rfl (by kernel_rfl) (by kernel_rfl) (by kernel_rfl) (by kernel_rfl) (by kernel_rfl) (fun _ _ _ h => h) (by rfl) (fun wk hk => by have z0 := HM.out wk hk; go_simp; try rfl) ?_
      try simp only [Act.put, List.setIfInBounds_toArray, List.set_cons_zero, List.set_cons_succ]
      refine wpHold_take (i := 5) (v := _) (G0.out) rfl rfl (by kernel_rfl) (by kernel_rfl) (by kernel_rfl) (by kernel_rfl) (by kernel_rfl) (fun _ _ _ h => h) (by rfl) (fun wk hk => by have z0 := HM.out wk hk; go_simp; try rfl) ?_
      try simp only [Act.put, List.setIfInBounds_toArray, List.set_cons_zero, List.set_cons_succ]
      refine wpHold_take (i := 6) (v := _) (G0.out) rfl rfl (by kernel_rfl) (by kernel_rfl) (by kernel_rfl) (by kernel_rfl) (by kernel_rfl) (fun _ _ _ h => h) (by rfl) (fun wk hk => by have z0 := HM.out wk hk; go_simp; try rfl) ?_
      try simp only [Act.put, List.setIfInBounds_toArray, List.set_cons_zero, List.set_cons_succ]
      refine wpHold_take (i := 8) (v := _) (G0.out) rfl rfl (by kernel_rfl) (by kernel_rfl) (by kernel_rfl) (by kernel_rfl) (by kernel_rfl) (fun _ _ _ h => h) (by rfl) (fun wk hk => by have z0 := HM.out wk hk; go_simp; try rfl) ?_
      try simp only [Act.put, List.setIfInBounds_toArray, List.set_cons_zero, List.set_cons_succ]
      refine wpHold_take (i := 9) (v := _) (G0.out) rfl rfl (by kernel_rfl) (by kernel_rfl) (by kernel_rfl) (by kernel_rfl) (by kernel_rfl) (fun _ _ _ h => h) (by rfl) (fun wk hk => by have z0 := HM.out wk hk; go_simp; try rfl) ?_
      try simp only [Act.put, List.setIfInBounds_toArray, List.set_cons_zero, List.set_cons_succ]
      refine wpHold_take (i := 10) (v := _) (G0.out) rfl rfl (by kernel_rfl) (by kernel_rfl) (by kernel_rfl) (by kernel_rfl) (by kernel_rfl) (fun _ _ _ h => h) (by rfl) (fun wk hk => by have z0 := HM.out wk hk; go_simp; try rfl) ?_
      try simp only [Act.put, List.setIfInBounds_toArray, List.set_cons_zero, List.set_cons_succ]
      refine wpHold_take (i := 11) (v := _) (G0.out) rfl rfl (by kernel_rfl) (by kernel_rfl) (by kernel_rfl) (by kernel_rfl) (by kernel_rfl) (fun _ _ _ h => h) (by rfl) (fun wk hk => by have z0 := HM.out wk hk; go_simp; try rfl) ?_
      try simp only [Act.put, List.setIfInBounds_toArray, List.set_cons_zero, List.set_cons_succ]
      refine wpHold_take (i := 12) (v := _) (G0.out) rfl rfl (by kernel_rfl) (by kernel_rfl) (by kernel_rfl) (by kernel_rfl) (by kernel_rfl) (fun _ _ _ h => h) (by rfl) (fun wk hk => by have z0 := HM.out wk hk; go_simp; try rfl) ?_
      try simp only [Act.put, List.setIfInBounds_toArray, List.set_cons_zero, List.set_cons_succ]
      refine wpHold_take (i := 13) (v := _) (G0.out) rfl rfl (by kernel_rfl) (by kernel_rfl) (by kernel_rfl) (by kernel_rfl) (by kernel_rfl) (fun _ _ _ h => h) (by rfl) (fun wk hk => by have z0 := HM.out wk hk; go_simp; try rfl) ?_
      try simp only [Act.put, List.setIfInBounds_toArray, List.set_cons_zero, List.set_cons_succ]
      refine wpHold_take (i := 14) (v := _) (G0.out) rfl rfl (by kernel_rfl) (by kernel_rfl) (by kernel_rfl) (by kernel_rfl) (by kernel_rfl) (fun _ _ _ h => h) (by rfl) (fun wk hk => by have z0 := HM.out wk hk; go_simp; try rfl) ?_
      try simp only [Act.put, List.setIfInBounds_toArray, List.set_cons_zero, List.set_cons_succ]
      refine wpHold_one (i := 7) rfl (by kernel_rfl) (by rfl) (fun K hK => ?_)
      refine appO_wp wd _ _ 22 45 _ 2 48 Try.info45 ut22' rfl (by decide) rfl wd.heap.size (.slice none 0 0) 0 [] sv i (rcells (ks.take i)) rfl rfl (World.ownsRow_nil _ _ _ _) (HP1.out wd G0.out) ?_ ?_ ?_ (Nat.le_refl _) ?_
      · exact ((HKS.out wd G0.out).2.take i).one
      · omega
      · unfold maxLen; omega
      intro v5 w5 hv5 hg5
      have H5 : Hid (w5.ownsRow wd.heap.size 45 2 v5 i (rcells (ks.take i)) ∧ wd.grownBy w5 none) := ⟨by simpa using hv5, hg5.none (Nat.le_refl _)⟩
      clear hv5 hg5
      obtain ⟨a5, c5, e5, _, _⟩ := (vec_of_owns H5.out.1).shape
      subst e5
      have G5 : Hid (w.grownBy w5 none) := grown_trans G0.out H5.out.2
      refine hK.out _ _ (fun _ => G5.out) ?_
      clear hK K
      try simp only [Act.put, List.setIfInBounds_toArray, List.set_cons_zero, List.set_cons_succ]
      refine wpHold_one (i := 15) rfl (by kernel_rfl) (by rfl) (fun K hK => ?_)
      refine appO_wp w5 _ _ 22 45 _ 2 48 Try.info45 ut22' rfl (by decide) rfl wd.heap.size (.slice a5 i c5) i (rcells (ks.take i)) sv2 (n - (i + 1)) (rcells (ks.drop (i + 1))) rfl rfl H5.out.1 (HP2.out w5 G5.out) ?_ ?_ ?_ H5.out.2.size ?_
      · exact ((HKS.out w5 G5.out).2.drop (i + 1)).one
      · omega
      · unfold maxLen; omega
      intro v7 w7 hv7 hg7
      have H7 : Hid (TRwz X w7 v7 (delL l k) ∧ w.grownBy w7 none ∧ Blk w7 b 34 #[.slice ao n cap]) := by
        have g7 : w.grownBy w7 none := grown_trans G0.out (hg7.after H5.out.2 (Nat.le_refl _))
        refine ⟨⟨ks.take i ++ ks.drop (i + 1), ?_, ?_, (HNX.out.take i).append (HNX.out.drop (i + 1))⟩, g7, HT.out.1.grown g7 (by simp)⟩
        · have hl : (delL l k).length = i + (n - (i + 1)) := by
            unfold delL
            rw [HR.out.1, HE.out]
            simp [HK.out.2.2.1]
            omega
          rw [hl, rcells_append]
          exact owns_mono hv7 (Nat.zero_le _)
        · have h7 := (HKS.out w7 g7).2
          have := (h7.take i).append (h7.drop (i + 1))
          unfold delL
          rw [HR.out.1, HE.out]
          exact this
      obtain ⟨a7, c7, e7, _, _⟩ := (vec_of_owns hv7).shape
      subst e7
      clear hv7 hg7 H5
      refine hK.out _ _ (fun _ => H7.out.2.1) ?_
      clear hK K
      try simp only [Act.put, List.setIfInBounds_toArray, List.set_cons_zero, List.set_cons_succ]
      refine wpHold_take (i := 16) (v := _) (H7.out.2.1) rfl rfl (by kernel_rfl) (by kernel_rfl) (by kernel_rfl) (by kernel_rfl) (by kernel_rfl) (fun _ _ _ h => h) (by rfl) (fun wk hk => by have z0 := HM.out wk hk; go_simp; try rfl) ?_
      try simp only [Act.put, List.setIfInBounds_toArray, List.set_cons_zero, List.set_cons_succ]
      refine wpHold_take (i := 17) (v := _) (H7.out.2.1) rfl rfl (by kernel_rfl) (by kernel_rfl) (by kernel_rfl) (by kernel_rfl) (by kernel_rfl) (fun _ _ _ h => h) (by rfl) (fun wk hk => by have z0 := HM.out wk hk; go_simp; try rfl) ?_
      try simp only [Act.put, List.setIfInBounds_toArray, List.set_cons_zero, List.set_cons_succ]
      refine wpHold_one (i := 18) rfl (by kernel_rfl) (by rfl) (fun K hK => ?_)
      have f7 := H7.out.2.2.free 0
      have q7 := H7.out.2.2.cell 0
      simp at q7
      go_wp2_with fail
      have H8 : Hid (Dtz X (w7.setCell ⟨b, 0, none⟩ (.slice a7 (i + (n - (i + 1))) c7)) b (delL l k) ∧ w.grownBy (w7.setCell ⟨b, 0, none⟩ (.slice a7 (i + (n - (i + 1))) c7)) (some b)) := ⟨dtz_store H7.out.2.2 H7.out.1, grown_widen H7.out.2.1 (grown_setCell _ _ _ _)⟩
      generalize w7.setCell ⟨b, 0, none⟩ (.slice a7 (i + (n - (i + 1))) c7) = w8 at H8 ⊢
      refine hK.out _ _ (fun h => absurd rfl h) ?_
      clear hK K
      try simp only [Act.put, List.setIfInBounds_toArray, List.set_cons_zero, List.set_cons_succ]
      refine wpHold_done (by kernel_rfl) ?_
      refine (‹∀ (a : Act) (w : World), Code.wp Try.prog _ _ a w → _› _ _ ?_)
      go_wp2_with fail
      go_ret2
      refine ⟨by rw [show delB l k = true from by simp [delB, HKB.out, HR.out.2], show delC k = 0 from by simp [delC, HKB.out]]; rfl, ?_, H8.out.2⟩
      rw [show delA l k = delL l k from by simp [delA, HKB.out]]
      exact H8.out.1
end Go.Proofs.Ytlehikdlkdbacaa
