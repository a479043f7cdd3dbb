/-
  The document's table in memory: copied, Rank, has.
-/
import Derived.Test.YtlehikdlkdbacaaSp
import Derived.Test.YtlehikdlkdbacaaG
namespace Go.Proofs.Ytlehikdlkdbacaa
open Go.RowKit Disk
open Names (cmpL keyB valueB)

/-- The document's table: a block with its rows, which lie in memory of their own. -/
def Dt (w : World) (b : Nat) (l : List PRow) : Prop := ∃ v, Blk w b 34 #[v] ∧ TRws w 0 v l
theorem Dt.grown {w w' : World} {b : Nat} {l : List PRow} (h : Dt w b l) (hg : w.grownBy w' none) : Dt w' b l := by
  obtain ⟨v, h1, h2⟩ := h
  exact ⟨v, h1.grown hg (by simp), h2.grown hg⟩
theorem dt_open {w : World} {b : Nat} {l : List PRow} (h : Dt w b l) : ∃ ao n cap, l.length = n ∧ n ≤ cap ∧ cap ≤ 9223372036854775807 ∧ Hid (Blk w b 34 #[.slice ao n cap] ∧ TRws w 0 (.slice ao n cap) l) := by
  obtain ⟨v, h1, h2⟩ := h
  obtain ⟨ao, n, cap, rfl, hn, hc, hc', _⟩ := rws_open h2.rws
  exact ⟨ao, n, cap, hn, hc, hc', h1, h2⟩
/-- Rows in memory of their own, beside a block of another kind that is changed. -/
theorem TRws.off {w w' : World} {B : Nat} {v : Value} {l : List PRow} (h : TRws w B v l) {g t : Nat} {c : Array Value} (hg : w.grownBy w' (some g)) (hb : Blk w g t c) (h45 : t ≠ 45) (h5 : t ≠ 5) : TRws w' B v l := by
  obtain ⟨ks, h1, h2⟩ := h
  refine ⟨ks, owns_same h1 fun k hk => ?_, h2.same fun k hk => ?_⟩
  · rcases h1.2 with ⟨rfl, _⟩ | ⟨g2, cap, cur, rfl, _, hg2, _⟩
    · simp [Value.ownBlock] at hk
    · simp [Value.ownBlock] at hk
      subst hk
      refine hg.block g2 ?_ (fun e => ?_)
      · exact (Array.getElem?_eq_some_iff.1 hg2).1
      · simp at e
        subst e
        unfold Blk at hb
        rw [hg2] at hb
        simp at hb
        exact h45 hb.2.symm
  · obtain ⟨x, hx⟩ := hk
    have hx' := hx
    unfold Blk at hx
    refine hg.block k (Array.getElem?_eq_some_iff.1 hx).1 (fun e => ?_)
    simp at e
    subst e
    unfold Blk at hb
    rw [hx] at hb
    simp at hb
    exact h5 hb.2.symm
theorem Dt.off {w w' : World} {b : Nat} {l : List PRow} (h : Dt w b l) {g t : Nat} {c : Array Value} (hg : w.grownBy w' (some g)) (hb : Blk w g t c) (h34 : t ≠ 34) (h45 : t ≠ 45) (h5 : t ≠ 5) : Dt w' b l := by
  obtain ⟨v, h1, h2⟩ := h
  refine ⟨v, h1.grown hg (fun e => ?_), h2.off hg hb h45 h5⟩
  simp at e
  subst e
  unfold Blk at h1 hb
  rw [h1] at hb
  simp at hb
  exact h34 hb.2.symm

set_option maxHeartbeats 1000000 in
theorem copied59 (v : Value) (L : Bs) (w : World) (hs : Seg w v L) (hL : L.length ≤ 140737488355327) :
    Calls Try.prog 59 #[v] w fun e w' => ∃ u, e = .returned u ∧ Disk.Own w' w.heap.size u L ∧ w.grownBy w' none := by
  obtain ⟨ao, cap, hsv⟩ := hs.shape
  subst hsv
  have HS : Hid _ := hs
  have HL : Hid _ := hL
  clear hs hL
  go_enter Try.func59, Try.ntmps59
  go_wp2_with (at_builtin; refine app22 _ rfl _ _ rfl w.heap.size _ [] _ L rfl rfl (Own.nil _ _) HS.out ?c0 ?c1 ?_)
  case c0 => have := HL.out; simp; omega
  case c1 => omega
  intro v1 w1 hown hg hl
  have F : Hid (Own w1 w.heap.size v1 L ∧ w.grownBy w1 none) := And.intro hown hg
  clear hown hg hl
  go_wp2_with fail
  go_ret
  exact ⟨_, rfl, F.out⟩

set_option maxRecDepth 100000 in
set_option maxHeartbeats 4000000 in
theorem rank40 (b : Nat) (kv : Value) (l : List PRow) (K : Bs) (w : World) (ht : Dt w b l) (hk : Seg w kv K) :
    Calls Try.prog 40 #[.pointer (some ⟨b, 0, none⟩), kv] w fun e w' => e = .returned (.int .i64 (rankL l K : Nat)) ∧ ∃ m, w' = w.drewN m := by
  obtain ⟨ao, n, cap, hn, hc, hc', HT⟩ := dt_open ht
  have HK : Hid (Seg w kv K) := hk
  have HN : Hid (l.length = n) := hn
  clear ht hk hn
  have q0 := HT.out.1.cell 0
  simp at q0
  have HQ : Hid (∀ m, (w.drewN m).cell? ⟨b, 0, none⟩ = some (.slice ao n cap)) := fun m => q0
  clear q0
  go_enter Try.func40, Try.ntmps40
  go_wp2_with fail
  go_loopw [5] (fun i wr => ∃ (k q : Nat), k ≤ n ∧ i = .int .i64 (k : Int) ∧ wr = w.drewN q ∧ (∀ (j : Nat) (h : j < l.length), j < k → cmpL l[j].1 K < 0)) (fun i _ => n - (intOf i).toNat)
  case atStart => exact ⟨0, 0, Nat.zero_le _, rfl, rfl, fun j _ h => absurd h (by omega)⟩
  case round =>
    obtain ⟨k, q, hk, rfl, rfl, hall⟩ := hrel
    have HL : Hid (∀ (j : Nat) (h : j < l.length), j < k → cmpL l[j].1 K < 0) := hall
    clear hall
    have q0 := HQ.out q
    rcases Nat.lt_or_ge k n with hlt | hge
    · have ka : k < l.length := by rw [HN.out]; exact hlt
      obtain ⟨b1, o1, x1, y1, rfl, c1, _, s1, _⟩ := rws_at HT.out.2.rws k ka
      have c2 : (w.drewN q).cell? ⟨b1, o1 + k * 2, none⟩ = some x1 := c1
      have HS : Hid (Seg w x1 l[k].1) := s1
      obtain ⟨R, hR⟩ : ∃ R, cmpL l[k].1 K = R := ⟨_, rfl⟩
      have HR : Hid (cmpL l[k].1 K = R) := hR
      have i0 : (0 : Int) ≤ (k : Int) := by omega
      have i1 : (k : Int) < (n : Int) := by omega
      clear c1 s1
      go_wp2_with fail
      refine (Names.cmp27 x1 kv _ K _ (Names.seg_drewN HS.out q) (Names.seg_drewN HK.out q)).mono ?_
      rintro e w2 ⟨rfl, m, hw⟩
      rw [hR]
      have HW : Hid (∃ m, w2 = w.drewN m) := ⟨_, by rw [hw, World.drewN_drewN]⟩
      clear hw hR
      by_cases h0 : R < 0
      · go_wp2_with fail
        go_roundw
        case rel =>
          obtain ⟨m2, hm2⟩ := HW.out
          refine ⟨k + 1, m2, by omega, by go_num, hm2, fun j hj hjk => ?_⟩
          rcases Nat.lt_or_ge j k with h | h
          · exact HL.out j hj h
          · have e : j = k := by omega
            subst e
            rw [HR.out]
            exact h0
        case measure => simp [intOf]; omega
      · go_wp2_with fail
        go_ret
        refine ⟨?_, HW.out⟩
        rw [rank_unique (key := K) (k := k) (by omega) HL.out (fun _ => by rw [HR.out]; omega)]
        rfl
    · have e : k = n := by omega
      subst e
      go_wp2_with fail
      go_ret
      refine ⟨?_, _, rfl⟩
      rw [rank_unique (key := K) (k := k) (by rw [HN.out]; omega) (fun i hi h => HL.out i hi h) (fun h => by rw [HN.out] at h; omega)]
      rfl

set_option maxRecDepth 100000 in
set_option maxHeartbeats 4000000 in
theorem has58 (b : Nat) (kv : Value) (l : List PRow) (K : Bs) (w : World) (ht : Dt w b l) (hk : Seg w kv K) :
    Calls Try.prog 58 #[.pointer (some ⟨b, 0, none⟩), kv] w fun e w' => e = .returned (.tuple #[.int .i64 (rankL l K : Nat), .bool (hasL l K)]) ∧ ∃ m, w' = w.drewN m := by
  obtain ⟨ao, n, cap, hn, hc, hc', HT⟩ := dt_open ht
  have HK : Hid (Seg w kv K) := hk
  have HN : Hid (l.length = n) := hn
  have HD : Hid (Dt w b l) := ht
  clear ht hk hn
  have q0 := HT.out.1.cell 0
  simp at q0
  obtain ⟨H, hH⟩ : ∃ H, hasL l K = H := ⟨_, rfl⟩
  have HH : Hid (hasL l K = H) := hH
  rw [hH]
  clear hH
  go_enter Try.func58, Try.ntmps58
  go_wp2_with fail
  refine (rank40 b kv l K w HD.out HK.out).mono ?_
  rintro e w1 ⟨rfl, m1, hw1⟩
  rw [hw1]
  obtain ⟨k, hrk⟩ : ∃ k, rankL l K = k := ⟨_, rfl⟩
  have HR : Hid (rankL l K = k) := hrk
  have hkn : k ≤ n := by rw [← hrk, ← HN.out]; exact rank_le l K
  rw [hrk]
  clear hw1 hrk
  rcases Nat.lt_or_ge k n with hlt | hge
  · have ka : k < l.length := by rw [HN.out]; exact hlt
    obtain ⟨b1, o1, x1, y1, rfl, c1, _, s1, _⟩ := rws_at HT.out.2.rws k ka
    obtain ⟨X, hX⟩ : ∃ X, (⟨l[k].1.toArray⟩ : ByteArray) = X := ⟨_, rfl⟩
    obtain ⟨Y, hY⟩ : ∃ Y, (⟨K.toArray⟩ : ByteArray) = Y := ⟨_, rfl⟩
    have HM : Hid (∀ m : Nat, (w.drewN m).cell? ⟨b, 0, none⟩ = some (.slice (some ⟨b1, o1, none⟩) n cap) ∧ (w.drewN m).cell? ⟨b1, o1 + k * 2, none⟩ = some x1 ∧ (convert 30 9 x1).run Try.prog (w.drewN m) = .ok (.string X) (w.drewN m) ∧ (convert 30 9 kv).run Try.prog (w.drewN m) = .ok (.string Y) (w.drewN m)) := fun m =>
      ⟨q0, c1, by rw [← hX]; exact seg_str (Names.seg_drewN s1 m), by rw [← hY]; exact seg_str (Names.seg_drewN HK.out m)⟩
    have hXY : (X.toList == Y.toList) = H := by
      rw [← hX, ← hY, str_beq, ← HH.out]
      unfold hasL
      rw [HR.out, List.getElem?_eq_getElem ka]
      rfl
    have i0 : (0 : Int) ≤ (k : Int) := by omega
    have i1 : (k : Int) < (n : Int) := by omega
    have E : Hid ((X.toList == Y.toList) = H) := hXY
    clear c1 s1 hX hY q0 hXY
    go_upto_region 2 with fail
    refine wp_region_noPanic ?_
    refine wp_region_hold 1000 (fun y => ∃ m, y = w.drewN m) (by kernel_rfl) ?_
    have G0 : Hid (∃ m, (w.drewN m1).drew = w.drewN m) := ⟨m1 + 1, rfl⟩
    generalize (w.drewN m1).drew = wd at G0 ⊢
    refine wpHold_take (i := 0) (v := _) (G0.out) rfl rfl (by kernel_rfl) (by kernel_rfl) (by kernel_rfl) (by kernel_rfl) (by kernel_rfl) (fun _ _ _ h => h) (by rfl) (fun wk hk => by obtain ⟨m, rfl⟩ := hk; obtain ⟨z0, z1, z2, z3⟩ := HM.out m; go_simp; try rfl) ?_
    try simp only [Act.put, List.setIfInBounds_toArray, List.set_cons_zero, List.set_cons_succ]
    refine wpHold_take (i := 1) (v := _) (G0.out) rfl rfl (by kernel_rfl) (by kernel_rfl) (by kernel_rfl) (by kernel_rfl) (by kernel_rfl) (fun _ _ _ h => h) (by rfl) (fun wk hk => by obtain ⟨m, rfl⟩ := hk; obtain ⟨z0, z1, z2, z3⟩ := HM.out m; go_simp; try rfl) ?_
    try simp only [Act.put, List.setIfInBounds_toArray, List.set_cons_zero, List.set_cons_succ]
    refine wpHold_take (i := 2) (v := _) (G0.out) rfl rfl (by kernel_rfl) (by kernel_rfl) (by kernel_rfl) (by kernel_rfl) (by kernel_rfl) (fun _ _ _ h => h) (by rfl) (fun wk hk => by obtain ⟨m, rfl⟩ := hk; obtain ⟨z0, z1, z2, z3⟩ := HM.out m; go_simp; try rfl) ?_
    try simp only [Act.put, List.setIfInBounds_toArray, List.set_cons_zero, List.set_cons_succ]
    refine wpHold_take (i := 3) (v := _) (G0.out) rfl rfl (by kernel_rfl) (by kernel_rfl) (by kernel_rfl) (by kernel_rfl) (by kernel_rfl) (fun _ _ _ h => h) (by rfl) (fun wk hk => by obtain ⟨m, rfl⟩ := hk; obtain ⟨z0, z1, z2, z3⟩ := HM.out m; go_simp; try rfl) ?_
    try simp only [Act.put, List.setIfInBounds_toArray, List.set_cons_zero, List.set_cons_succ]
    refine wpHold_take (i := 4) (v := _) (G0.out) rfl rfl (by kernel_rfl) (by kernel_rfl) (by kernel_rfl) (by kernel_rfl) (by kernel_rfl) (fun _ _ _ h => h) (by rfl) (fun wk hk => by obtain ⟨m, rfl⟩ := hk; obtain ⟨z0, z1, z2, z3⟩ := HM.out m; go_simp; try rfl) ?_
    try simp only [Act.put, List.setIfInBounds_toArray, List.set_cons_zero, List.set_cons_succ]
    refine wpHold_take (i := 5) (v := _) (G0.out) rfl rfl (by kernel_rfl) (by kernel_rfl) (by kernel_rfl) (by kernel_rfl) (by kernel_rfl) (fun _ _ _ h => h) (by rfl) (fun wk hk => by obtain ⟨m, rfl⟩ := hk; obtain ⟨z0, z1, z2, z3⟩ := HM.out m; go_simp; try rfl) ?_
    try simp only [Act.put, List.setIfInBounds_toArray, List.set_cons_zero, List.set_cons_succ]
    refine wpHold_take (i := 6) (v := _) (G0.out) rfl rfl (by kernel_rfl) (by kernel_rfl) (by kernel_rfl) (by kernel_rfl) (by kernel_rfl) (fun _ _ _ h => h) (by rfl) (fun wk hk => by obtain ⟨m, rfl⟩ := hk; obtain ⟨z0, z1, z2, z3⟩ := HM.out m; go_simp; try rfl) ?_
    try simp only [Act.put, List.setIfInBounds_toArray, List.set_cons_zero, List.set_cons_succ]
    refine wpHold_take (i := 7) (v := _) (G0.out) rfl rfl (by kernel_rfl) (by kernel_rfl) (by kernel_rfl) (by kernel_rfl) (by kernel_rfl) (fun _ _ _ h => h) (by rfl) (fun wk hk => by obtain ⟨m, rfl⟩ := hk; obtain ⟨z0, z1, z2, z3⟩ := HM.out m; go_simp; try rfl) ?_
    try simp only [Act.put, List.setIfInBounds_toArray, List.set_cons_zero, List.set_cons_succ]
    refine wpHold_take (i := 8) (v := _) (G0.out) rfl rfl (by kernel_rfl) (by kernel_rfl) (by kernel_rfl) (by kernel_rfl) (by kernel_rfl) (fun _ _ _ h => h) (by rfl) (fun wk hk => by obtain ⟨m, rfl⟩ := hk; obtain ⟨z0, z1, z2, z3⟩ := HM.out m; go_simp; try rfl) ?_
    try simp only [Act.put, List.setIfInBounds_toArray, List.set_cons_zero, List.set_cons_succ]
    refine wpHold_take (i := 9) (v := _) (G0.out) rfl rfl (by kernel_rfl) (by kernel_rfl) (by kernel_rfl) (by kernel_rfl) (by kernel_rfl) (fun _ _ _ h => h) (by rfl) (fun wk hk => by obtain ⟨m, rfl⟩ := hk; obtain ⟨z0, z1, z2, z3⟩ := HM.out m; go_simp; try rfl) ?_
    try simp only [Act.put, List.setIfInBounds_toArray, List.set_cons_zero, List.set_cons_succ]
    refine wpHold_take (i := 10) (v := _) (G0.out) rfl rfl (by kernel_rfl) (by kernel_rfl) (by kernel_rfl) (by kernel_rfl) (by kernel_rfl) (fun _ _ _ h => h) (by rfl) (fun wk hk => by obtain ⟨m, rfl⟩ := hk; obtain ⟨z0, z1, z2, z3⟩ := HM.out m; go_simp; try rfl) ?_
    try simp only [Act.put, List.setIfInBounds_toArray, List.set_cons_zero, List.set_cons_succ]
    refine wpHold_take (i := 11) (v := _) (G0.out) rfl rfl (by kernel_rfl) (by kernel_rfl) (by kernel_rfl) (by kernel_rfl) (by kernel_rfl) (fun _ _ _ h => h) (by rfl) (fun wk hk => by obtain ⟨m, rfl⟩ := hk; obtain ⟨z0, z1, z2, z3⟩ := HM.out m; go_simp; try rfl) ?_
    try simp only [Act.put, List.setIfInBounds_toArray, List.set_cons_zero, List.set_cons_succ]
    refine wpHold_take (i := 12) (v := _) (G0.out) rfl rfl (by kernel_rfl) (by kernel_rfl) (by kernel_rfl) (by kernel_rfl) (by kernel_rfl) (fun _ _ _ h => h) (by rfl) (fun wk hk => by obtain ⟨m, rfl⟩ := hk; obtain ⟨z0, z1, z2, z3⟩ := HM.out m; go_simp; try rfl) ?_
    try simp only [Act.put, List.setIfInBounds_toArray, List.set_cons_zero, List.set_cons_succ]
    refine wpHold_take (i := 13) (v := _) (G0.out) rfl rfl (by kernel_rfl) (by kernel_rfl) (by kernel_rfl) (by kernel_rfl) (by kernel_rfl) (fun _ _ _ h => h) (by rfl) (fun wk hk => by obtain ⟨m, rfl⟩ := hk; obtain ⟨z0, z1, z2, z3⟩ := HM.out m; go_simp; try rfl) ?_
    try simp only [Act.put, List.setIfInBounds_toArray, List.set_cons_zero, List.set_cons_succ]
    refine wpHold_take (i := 14) (v := _) (G0.out) rfl rfl (by kernel_rfl) (by kernel_rfl) (by kernel_rfl) (by kernel_rfl) (by kernel_rfl) (fun _ _ _ h => h) (by rfl) (fun wk hk => by obtain ⟨m, rfl⟩ := hk; obtain ⟨z0, z1, z2, z3⟩ := HM.out m; go_simp; try rfl) ?_
    try simp only [Act.put, List.setIfInBounds_toArray, List.set_cons_zero, List.set_cons_succ]
    refine wpHold_take (i := 15) (v := _) (G0.out) rfl rfl (by kernel_rfl) (by kernel_rfl) (by kernel_rfl) (by kernel_rfl) (by kernel_rfl) (fun _ _ _ h => h) (by rfl) (fun wk hk => by obtain ⟨m, rfl⟩ := hk; obtain ⟨z0, z1, z2, z3⟩ := HM.out m; go_simp; try rfl) ?_
    try simp only [Act.put, List.setIfInBounds_toArray, List.set_cons_zero, List.set_cons_succ]
    refine wpHold_take (i := 16) (v := _) (G0.out) rfl rfl (by kernel_rfl) (by kernel_rfl) (by kernel_rfl) (by kernel_rfl) (by kernel_rfl) (fun _ _ _ h => h) (by rfl) (fun wk hk => by obtain ⟨m, rfl⟩ := hk; obtain ⟨z0, z1, z2, z3⟩ := HM.out m; go_simp; try rfl) ?_
    try simp only [Act.put, List.setIfInBounds_toArray, List.set_cons_zero, List.set_cons_succ]
    refine wpHold_take (i := 17) (v := _) (G0.out) rfl rfl (by kernel_rfl) (by kernel_rfl) (by kernel_rfl) (by kernel_rfl) (by kernel_rfl) (fun _ _ _ h => h) (by rfl) (fun wk hk => by obtain ⟨m, rfl⟩ := hk; obtain ⟨z0, z1, z2, z3⟩ := HM.out m; go_simp; try rfl) ?_
    try simp only [Act.put, List.setIfInBounds_toArray, List.set_cons_zero, List.set_cons_succ]
    refine wpHold_take (i := 18) (v := _) (G0.out) rfl rfl (by kernel_rfl) (by kernel_rfl) (by kernel_rfl) (by kernel_rfl) (by kernel_rfl) (fun _ _ _ h => h) (by rfl) (fun wk hk => by obtain ⟨m, rfl⟩ := hk; obtain ⟨z0, z1, z2, z3⟩ := HM.out m; go_simp; try rfl) ?_
    try simp only [Act.put, List.setIfInBounds_toArray, List.set_cons_zero, List.set_cons_succ]
    refine wpHold_take (i := 19) (v := _) (G0.out) rfl rfl (by kernel_rfl) (by kernel_rfl) (by kernel_rfl) (by kernel_rfl) (by kernel_rfl) (fun _ _ _ h => h) (by rfl) (fun wk hk => by obtain ⟨m, rfl⟩ := hk; obtain ⟨z0, z1, z2, z3⟩ := HM.out m; go_simp; try rfl) ?_
    try simp only [Act.put, List.setIfInBounds_toArray, List.set_cons_zero, List.set_cons_succ]
    refine wpHold_take (i := 20) (v := _) (G0.out) rfl rfl (by kernel_rfl) (by kernel_rfl) (by kernel_rfl) (by kernel_rfl) (by kernel_rfl) (fun _ _ _ h => h) (by rfl) (fun wk hk => by obtain ⟨m, rfl⟩ := hk; obtain ⟨z0, z1, z2, z3⟩ := HM.out m; go_simp; try rfl) ?_
    try simp only [Act.put, List.setIfInBounds_toArray, List.set_cons_zero, List.set_cons_succ]
    refine wpHold_take (i := 21) (v := _) (G0.out) rfl rfl (by kernel_rfl) (by kernel_rfl) (by kernel_rfl) (by kernel_rfl) (by kernel_rfl) (fun _ _ _ h => h) (by rfl) (fun wk hk => by obtain ⟨m, rfl⟩ := hk; obtain ⟨z0, z1, z2, z3⟩ := HM.out m; go_simp; try rfl) ?_
    try simp only [Act.put, List.setIfInBounds_toArray, List.set_cons_zero, List.set_cons_succ]
    refine wpHold_take (i := 22) (v := _) (G0.out) rfl rfl (by kernel_rfl) (by kernel_rfl) (by kernel_rfl) (by kernel_rfl) (by kernel_rfl) (fun _ _ _ h => h) (by rfl) (fun wk hk => by obtain ⟨m, rfl⟩ := hk; obtain ⟨z0, z1, z2, z3⟩ := HM.out m; go_simp; try rfl) ?_
    try simp only [Act.put, List.setIfInBounds_toArray, List.set_cons_zero, List.set_cons_succ]
    refine wpHold_take (i := 23) (v := _) (G0.out) rfl rfl (by kernel_rfl) (by kernel_rfl) (by kernel_rfl) (by kernel_rfl) (by kernel_rfl) (fun _ _ _ h => h) (by rfl) (fun wk hk => by obtain ⟨m, rfl⟩ := hk; obtain ⟨z0, z1, z2, z3⟩ := HM.out m; go_simp; try rfl) ?_
    try simp only [Act.put, List.setIfInBounds_toArray, List.set_cons_zero, List.set_cons_succ]
    refine wpHold_done (by kernel_rfl) ?_
    refine (‹∀ (a : Act) (w : World), Code.wp Try.prog _ _ a w → _› _ _ ?_)
    go_wp2_with fail
    go_ret2
    exact ⟨by rw [HR.out, E.out]; rfl, G0.out⟩
  · have HF : Hid (H = false) := by
      unfold Hid
      rw [← HH.out]
      unfold hasL
      rw [HR.out, List.getElem?_eq_none (by rw [HN.out]; omega)]
      rfl
    have e : k = n := by omega
    subst e
    have HM : Hid (∀ m : Nat, (w.drewN m).cell? ⟨b, 0, none⟩ = some (.slice ao k cap)) := fun m => q0
    clear q0
    go_upto_region 2 with fail
    refine wp_region_noPanic ?_
    refine wp_region_hold 1000 (fun y => ∃ m, y = w.drewN m) (by kernel_rfl) ?_
    have G0 : Hid (∃ m, (w.drewN m1).drew = w.drewN m) := ⟨m1 + 1, rfl⟩
    generalize (w.drewN m1).drew = wd at G0 ⊢
    refine wpHold_take (i := 0) (v := _) (G0.out) rfl rfl (by kernel_rfl) (by kernel_rfl) (by kernel_rfl) (by kernel_rfl) (by kernel_rfl) (fun _ _ _ h => h) (by rfl) (fun wk hk => by obtain ⟨m, rfl⟩ := hk; have z0 := HM.out m; go_simp; try rfl) ?_
    try simp only [Act.put, List.setIfInBounds_toArray, List.set_cons_zero, List.set_cons_succ]
    refine wpHold_take (i := 1) (v := _) (G0.out) rfl rfl (by kernel_rfl) (by kernel_rfl) (by kernel_rfl) (by kernel_rfl) (by kernel_rfl) (fun _ _ _ h => h) (by rfl) (fun wk hk => by obtain ⟨m, rfl⟩ := hk; have z0 := HM.out m; go_simp; try rfl) ?_
    try simp only [Act.put, List.setIfInBounds_toArray, List.set_cons_zero, List.set_cons_succ]
    refine wpHold_take (i := 2) (v := _) (G0.out) rfl rfl (by kernel_rfl) (by kernel_rfl) (by kernel_rfl) (by kernel_rfl) (by kernel_rfl) (fun _ _ _ h => h) (by rfl) (fun wk hk => by obtain ⟨m, rfl⟩ := hk; have z0 := HM.out m; go_simp; try rfl) ?_
    try simp only [Act.put, List.setIfInBounds_toArray, List.set_cons_zero, List.set_cons_succ]
    refine wpHold_take (i := 3) (v := _) (G0.out) rfl rfl (by kernel_rfl) (by kernel_rfl) (by kernel_rfl) (by kernel_rfl) (by kernel_rfl) (fun _ _ _ h => h) (by rfl) (fun wk hk => by obtain ⟨m, rfl⟩ := hk; have z0 := HM.out m; go_simp; try rfl) ?_
    try simp only [Act.put, List.setIfInBounds_toArray, List.set_cons_zero, List.set_cons_succ]
    refine wpHold_take (i := 4) (v := _) (G0.out) rfl rfl (by kernel_rfl) (by kernel_rfl) (by kernel_rfl) (by kernel_rfl) (by kernel_rfl) (fun _ _ _ h => h) (by rfl) (fun wk hk => by obtain ⟨m, rfl⟩ := hk; have z0 := HM.out m; go_simp; try rfl) ?_
    try simp only [Act.put, List.setIfInBounds_toArray, List.set_cons_zero, List.set_cons_succ]
    refine wpHold_take (i := 5) (v := _) (G0.out) rfl rfl (by kernel_rfl) (by kernel_rfl) (by kernel_rfl) (by kernel_rfl) (by kernel_rfl) (fun _ _ _ h => h) (by rfl) (fun wk hk => by obtain ⟨m, rfl⟩ := hk; have z0 := HM.out m; go_simp; try rfl) ?_
    try simp only [Act.put, List.setIfInBounds_toArray, List.set_cons_zero, List.set_cons_succ]
    refine wpHold_take (i := 6) (v := _) (G0.out) rfl rfl (by kernel_rfl) (by kernel_rfl) (by kernel_rfl) (by kernel_rfl) (by kernel_rfl) (fun _ _ _ h => h) (by rfl) (fun wk hk => by obtain ⟨m, rfl⟩ := hk; have z0 := HM.out m; go_simp; try rfl) ?_
    try simp only [Act.put, List.setIfInBounds_toArray, List.set_cons_zero, List.set_cons_succ]
    refine wpHold_take (i := 7) (v := _) (G0.out) rfl rfl (by kernel_rfl) (by kernel_rfl) (by kernel_rfl) (by kernel_rfl) (by kernel_rfl) (fun _ _ _ h => h) (by rfl) (fun wk hk => by obtain ⟨m, rfl⟩ := hk; have z0 := HM.out m; go_simp; try rfl) ?_
    try simp only [Act.put, List.setIfInBounds_toArray, List.set_cons_zero, List.set_cons_succ]
    refine wpHold_take (i := 8) (v := _) (G0.out) rfl rfl (by kernel_rfl) (by kernel_rfl) (by kernel_rfl) (by kernel_rfl) (by kernel_rfl) (fun _ _ _ h => h) (by rfl) (fun wk hk => by obtain ⟨m, rfl⟩ := hk; have z0 := HM.out m; go_simp; try rfl) ?_
    try simp only [Act.put, List.setIfInBounds_toArray, List.set_cons_zero, List.set_cons_succ]
    refine wpHold_skip (i := 9) (G0.out) rfl rfl (by kernel_rfl) (by kernel_rfl) (by kernel_rfl) (by kernel_rfl) (by kernel_rfl) (fun _ _ _ h => h) (by rfl) ?_
    try simp only [Act.put, List.setIfInBounds_toArray, List.set_cons_zero, List.set_cons_succ]
    refine wpHold_skip (i := 10) (G0.out) rfl rfl (by kernel_rfl) (by kernel_rfl) (by kernel_rfl) (by kernel_rfl) (by kernel_rfl) (fun _ _ _ h => h) (by rfl) ?_
    try simp only [Act.put, List.setIfInBounds_toArray, List.set_cons_zero, List.set_cons_succ]
    refine wpHold_skip (i := 11) (G0.out) rfl rfl (by kernel_rfl) (by kernel_rfl) (by kernel_rfl) (by kernel_rfl) (by kernel_rfl) (fun _ _ _ h => h) (by rfl) ?_
    try simp only [Act.put, List.setIfInBounds_toArray, List.set_cons_zero, List.set_cons_succ]
    refine wpHold_skip (i := 12) (G0.out) rfl rfl (by kernel_rfl) (by kernel_rfl) (by kernel_rfl) (by kernel_rfl) (by kernel_rfl) (fun _ _ _ h => h) (by rfl) ?_
    try simp only [Act.put, List.setIfInBounds_toArray, List.set_cons_zero, List.set_cons_succ]
    refine wpHold_skip (i := 13) (G0.out) rfl rfl (by kernel_rfl) (by kernel_rfl) (by kernel_rfl) (by kernel_rfl) (by kernel_rfl) (fun _ _ _ h => h) (by rfl) ?_
    try simp only [Act.put, List.setIfInBounds_toArray, List.set_cons_zero, List.set_cons_succ]
    refine wpHold_skip (i := 14) (G0.out) rfl rfl (by kernel_rfl) (by kernel_rfl) (by kernel_rfl) (by kernel_rfl) (by kernel_rfl) (fun _ _ _ h => h) (by rfl) ?_
    try simp only [Act.put, List.setIfInBounds_toArray, List.set_cons_zero, List.set_cons_succ]
    refine wpHold_skip (i := 15) (G0.out) rfl rfl (by kernel_rfl) (by kernel_rfl) (by kernel_rfl) (by kernel_rfl) (by kernel_rfl) (fun _ _ _ h => h) (by rfl) ?_
    try simp only [Act.put, List.setIfInBounds_toArray, List.set_cons_zero, List.set_cons_succ]
    refine wpHold_skip (i := 16) (G0.out) rfl rfl (by kernel_rfl) (by kernel_rfl) (by kernel_rfl) (by kernel_rfl) (by kernel_rfl) (fun _ _ _ h => h) (by rfl) ?_
    try simp only [Act.put, List.setIfInBounds_toArray, List.set_cons_zero, List.set_cons_succ]
    refine wpHold_skip (i := 17) (G0.out) rfl rfl (by kernel_rfl) (by kernel_rfl) (by kernel_rfl) (by kernel_rfl) (by kernel_rfl) (fun _ _ _ h => h) (by rfl) ?_
    try simp only [Act.put, List.setIfInBounds_toArray, List.set_cons_zero, List.set_cons_succ]
    refine wpHold_skip (i := 18) (G0.out) rfl rfl (by kernel_rfl) (by kernel_rfl) (by kernel_rfl) (by kernel_rfl) (by kernel_rfl) (fun _ _ _ h => h) (by rfl) ?_
    try simp only [Act.put, List.setIfInBounds_toArray, List.set_cons_zero, List.set_cons_succ]
    refine wpHold_skip (i := 19) (G0.out) rfl rfl (by kernel_rfl) (by kernel_rfl) (by kernel_rfl) (by kernel_rfl) (by kernel_rfl) (fun _ _ _ h => h) (by rfl) ?_
    try simp only [Act.put, List.setIfInBounds_toArray, List.set_cons_zero, List.set_cons_succ]
    refine wpHold_skip (i := 20) (G0.out) rfl rfl (by kernel_rfl) (by kernel_rfl) (by kernel_rfl) (by kernel_rfl) (by kernel_rfl) (fun _ _ _ h => h) (by rfl) ?_
    try simp only [Act.put, List.setIfInBounds_toArray, List.set_cons_zero, List.set_cons_succ]
    refine wpHold_take (i := 21) (v := _) (G0.out) rfl rfl (by kernel_rfl) (by kernel_rfl) (by kernel_rfl) (by kernel_rfl) (by kernel_rfl) (fun _ _ _ h => h) (by rfl) (fun wk hk => by obtain ⟨m, rfl⟩ := hk; have z0 := HM.out m; go_simp; try rfl) ?_
    try simp only [Act.put, List.setIfInBounds_toArray, List.set_cons_zero, List.set_cons_succ]
    refine wpHold_take (i := 22) (v := _) (G0.out) rfl rfl (by kernel_rfl) (by kernel_rfl) (by kernel_rfl) (by kernel_rfl) (by kernel_rfl) (fun _ _ _ h => h) (by rfl) (fun wk hk => by obtain ⟨m, rfl⟩ := hk; have z0 := HM.out m; go_simp; try rfl) ?_
    try simp only [Act.put, List.setIfInBounds_toArray, List.set_cons_zero, List.set_cons_succ]
    refine wpHold_take (i := 23) (v := _) (G0.out) rfl rfl (by kernel_rfl) (by kernel_rfl) (by kernel_rfl) (by kernel_rfl) (by kernel_rfl) (fun _ _ _ h => h) (by rfl) (fun wk hk => by obtain ⟨m, rfl⟩ := hk; have z0 := HM.out m; go_simp; try rfl) ?_
    try simp only [Act.put, List.setIfInBounds_toArray, List.set_cons_zero, List.set_cons_succ]
    refine wpHold_done (by kernel_rfl) ?_
    refine (‹∀ (a : Act) (w : World), Code.wp Try.prog _ _ a w → _› _ _ ?_)
    go_wp2_with fail
    go_ret2
    exact ⟨by rw [HR.out, HF.out]; rfl, G0.out⟩
end Go.Proofs.Ytlehikdlkdbacaa
