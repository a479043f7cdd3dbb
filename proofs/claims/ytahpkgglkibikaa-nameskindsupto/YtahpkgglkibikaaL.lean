/-
  left: what was lent is looked at; spoil: what was told is written over, and grown.
-/
import Derived.Test.YtahpkgglkibikaaD
namespace Go.Proofs.Ytahpkgglkibikaa
open Go.RowKit Disk

theorem str_append (L M : List UInt8) : (⟨L.toArray⟩ : ByteArray) ++ (⟨M.toArray⟩ : ByteArray) = ⟨(L ++ M).toArray⟩ := by
  apply ByteArray.ext
  rw [ByteArray.data_append]
  simp

theorem str_add (L M : List UInt8) (wk : World) (h : L.length + M.length ≤ 9223372036854775807) : (Op.stringOp .add ⟨L.toArray⟩ ⟨M.toArray⟩).run Try.prog wk = .ok (.string ⟨(L ++ M).toArray⟩) wk := by
  have h1 := run_string_add_sum (P := Try.prog) (w := wk) ⟨L.toArray⟩ ⟨M.toArray⟩ (by simpa [ByteArray.size] using h)
  rw [str_append] at h1
  exact h1

set_option maxRecDepth 100000 in
set_option maxHeartbeats 1000000 in
theorem left18 (m b : Value) (B : Nat) (L : List UInt8) (w : World) (hm : Lent w B m L) (hb : Seg w b L) (hL : L.length ≤ 140737488355327) :
    Calls Try.prog 18 #[m, b] w fun e w' => e = .returned (.bool true) ∧ ∃ q, w' = w.drewN q := by
  obtain ⟨g, cap, rfl, hown⟩ := hm
  obtain ⟨ao, n, c2, rfl, hn, hlen, HB⟩ := seg_open hb
  have hcap : L.length + 1 ≤ cap := (own_cap hown).2.1
  have hcm : cap ≤ 9223372036854775807 := (own_cap hown).2.2
  have cv1 : ∀ k, (convert 22 9 (.slice (some ⟨g, 0, none⟩) (n + 1) cap)).run Try.prog (w.drewN k) = .ok (.string ⟨(L ++ [119]).toArray⟩) (w.drewN k) := fun k => by
    have h1 := hown.seg
    rw [hn] at h1
    exact seg_str (seg_drewN h1 k)
  have cv2 : ∀ k, (convert 22 9 (.slice ao n c2)).run Try.prog (w.drewN k) = .ok (.string ⟨L.toArray⟩) (w.drewN k) := fun k => seg_str (seg_drewN HB.out k)
  have sa : ∀ wk, (Op.stringOp .add ⟨L.toArray⟩ ⟨#[119]⟩).run Try.prog wk = .ok (.string ⟨(L ++ [119]).toArray⟩) wk := fun wk => str_add L [119] wk (by simp; omega)
  rw [hn] at hcap hL ⊢
  obtain ⟨n1, hn1⟩ : ∃ k, n + 1 = k := ⟨_, rfl⟩
  have i1 : IntKind.i64.wrap ((n : Int) + 1) = (n1 : Int) := by rw [IntKind.wrap_i64]; omega
  have i1b : ((n : Int) + 1) = (n1 : Int) := by omega
  rw [hn1] at cv1 hcap
  have i2 : (n1 : Int) ≤ (cap : Int) := by omega
  have i3 : (0 : Int) ≤ (n1 : Int) := by omega
  clear hb hown hn HB
  obtain ⟨X, hX⟩ : ∃ X, (⟨(L ++ [119]).toArray⟩ : ByteArray) = X := ⟨_, rfl⟩
  obtain ⟨Y, hY⟩ : ∃ X, (⟨L.toArray⟩ : ByteArray) = X := ⟨_, rfl⟩
  rw [hX] at cv1 sa
  rw [hY] at cv2 sa
  clear hX hY hn1
  go_enter Try.func18, Try.ntmps18
  go_wp2_with fail
  go_quiet (fail)
  go_wp2_with fail
  go_ret
  exact ⟨rfl, _, rfl⟩
/-- Bytes appended to a row that may be cut. -/
theorem appCut {ops : Array Oper} {rest : List Oper} {o : Oper} {a : Act} {Q : Exit → Act → World → Prop} (w : World) (hgd : o.guard = none) (hw : Region.wanted o (yielded ops a.tmps) = true) (s x : Operand)
    (ho : o.op = .call { callee := .builtin .append, args := #[s, x], argTypes := #[22, 22] })
    (B : Nat) (v : Value) (L : List UInt8) (u : Value) (M : List UInt8) (hs : a.eval s = v) (hx : a.eval x = u) (hc : Cut w B v L) (hseg : Seg w u M) (hM : 0 < M.length) (hb : L.length + M.length ≤ 140737488355328) (hB : B ≤ w.heap.size)
    (h : ∀ v' w', Disk.Own w' B v' (L ++ M) → w.grownBy w' v.ownBlock → (∀ k, v'.ownBlock = some k → v.ownBlock = some k ∨ w.heap.size ≤ k) → wpList Try.prog ops Q rest (a.put o.dst v') w') : wpList Try.prog ops Q (o :: rest) a w := by
  have hcs := hc.seg
  rcases hc with hc | ⟨g, cap, rfl, hc⟩
  · exact app22 w hw s x ho B v L u M hs hx hc hseg hb hB h
  · obtain ⟨i0, hi, hz0, hz1, hz2⟩ := info_parts Try.info5
    have hsg := hseg
    obtain ⟨ao, cu, rfl, h1, h2, h3, h4⟩ := hsg
    cases ao with
    | none => have := h3 rfl; omega
    | some ad =>
      obtain ⟨_, hnews⟩ := seg_news hseg
      refine wpList_append_grows w hgd s x 22 ho 5 i0 (.int .u8 0) 1 1 Try.underlying22 hi hz0 hz1 hz2 rfl (by decide) (some ⟨g, 0, none⟩) L.length L.length (BV L) hs (by simp) (by simp [BV]) (fun b hb j y hj => ?_) ad M.length cu (BV M) hx (by simp [BV]) hnews (BV_one M) (by omega) (by unfold maxLen; omega) (by omega) ?_
      · simp at hb
        subst hb
        exact (seg_news hcs).2 j y hj
      · intro v' w' r1 r2
        have r3 : Disk.Own w' w.heap.size v' (L ++ M) := by unfold Disk.Own; rw [BV_append, List.length_append]; exact r1
        exact h v' w' (r3.mono hB) (grown_weak r2 _) (fun k hk => .inr (r3.lt k hk).1)

/-- The row behind a slice that may be cut. -/
theorem cut_open {w : World} {B : Nat} {v : Value} {L : List UInt8} (h : Cut w B v L) : (v = .slice none 0 0 ∧ L = []) ∨ ∃ g n c cap, v = .slice (some ⟨g, 0, none⟩) n c ∧ n = L.length ∧ (c = cap ∨ c = n) ∧ Disk.Own w B (.slice (some ⟨g, 0, none⟩) n cap) L := by
  rcases h with h | ⟨g, cap, rfl, h⟩
  · rcases h.shape with ⟨e1, e2⟩ | ⟨g, c, rfl, _⟩
    · exact .inl ⟨e1, e2⟩
    · exact .inr ⟨g, _, c, c, rfl, rfl, .inl rfl, h⟩
  · exact .inr ⟨g, _, _, cap, rfl, rfl, .inr rfl, h⟩

theorem cut_shut {w : World} {B g n c cap : Nat} {M : List UInt8} (h : Disk.Own w B (.slice (some ⟨g, 0, none⟩) n cap) M) (hc : c = cap ∨ c = n) : Cut w B (.slice (some ⟨g, 0, none⟩) n c) M := by
  rcases hc with rfl | rfl
  · exact .inl h
  · exact cut_of h

set_option maxRecDepth 100000 in
set_option maxHeartbeats 1000000 in
theorem spoil19 (v : Value) (B : Nat) (L : List UInt8) (w : World) (h : Cut w B v L) (hB : B ≤ w.heap.size) (hz : L.length ≤ 140737488355318) :
    Calls Try.prog 19 #[v] w fun e w' => e = .returned (.tuple #[]) ∧ w.grownBy w' v.ownBlock := by
  have HZ : Hid (L.length ≤ 140737488355318) := hz
  have HBB : Hid (B ≤ w.heap.size) := hB
  clear hz hB
  rcases cut_open h with ⟨rfl, rfl⟩ | ⟨g, n, c, cap, rfl, hn, hcc, hown⟩
  · clear h
    obtain ⟨OB, hOB⟩ : ∃ OB, (Value.slice none 0 0).ownBlock = OB := ⟨_, rfl⟩
    rw [hOB]
    go_enter Try.func19, Try.ntmps19
    go_wp2_with fail
    go_loopw [2] (fun i wr => i = .int .i64 0 ∧ wr = w) (fun _ _ => 0)
    case atStart => exact ⟨rfl, rfl⟩
    case round =>
      obtain ⟨rfl, hwr⟩ := hrel
      have HW : Hid (wr = w) := hwr
      clear hwr
      go_wp2_with fail
      go_loopw [0, 3] (fun x i w2 => ∃ (k : Nat) (M : List UInt8), k ≤ 9 ∧ M.length ≤ 140737488355318 + k ∧ i = .int .i64 k ∧ Cut w2 B x M ∧ w.grownBy w2 OB ∧ (∀ q, x.ownBlock = some q → OB = some q ∨ w.heap.size ≤ q)) (fun _ i _ => 9 - (intOf i).toNat)
      case atStart => exact ⟨0, [], by omega, by simp, rfl, by rw [HW.out]; exact .inl (Own.nil _ _), by rw [HW.out]; exact grown_refl _ _, by simp [Value.ownBlock]⟩
      case round =>
        obtain ⟨k2, M2, hk2, hM2, rfl, hcut, hg, hat⟩ := hrel
        have HM2 : Hid (M2.length ≤ 140737488355318 + k2) := hM2
        have HC : Hid (Cut wr B u0 M2 ∧ w.grownBy wr OB ∧ (∀ q, u0.ownBlock = some q → OB = some q ∨ w.heap.size ≤ q)) := ⟨hcut, hg, hat⟩
        clear hM2 hcut hg hat
        by_cases hlt2 : k2 < 9
        · go_wp2_with (at_builtin; refine appCut _ rfl rfl _ _ rfl B _ M2 _ [91] rfl rfl (HC.out.1.grown (World.grownBy_alloc _ _ _)) (seg_lit _ _ _ [91] rfl (by simp)) (by simp) ?c1 ?c2 ?_)
          case c1 => have := HM2.out; simp; omega
          case c2 => have := HC.out.2.1.size; have := HBB.out; simp; omega
          intro v' w3 hown' hg' hat'
          have G : Hid (Cut w3 B v' (M2 ++ [91]) ∧ w.grownBy w3 OB ∧ (∀ q, v'.ownBlock = some q → OB = some q ∨ w.heap.size ≤ q)) := by
            have ha := grown_trans HC.out.2.1 (World.grownBy_alloc wr (.cells #[.int .u8 91] 5) OB)
            have hz := HC.out.2.1.size
            refine ⟨.inl hown', ?_, fun q hq => ?_⟩
            · cases e : u0.ownBlock with
              | none => rw [e] at hg'; exact grown_trans ha (grown_weak hg' _)
              | some q =>
                rw [e] at hg'
                rcases HC.out.2.2 q e with h1 | h1
                · rw [h1] at ha ⊢
                  exact grown_trans ha hg'
                · exact grown_new ha hg' (by intro x hx; simp at hx; omega)
            · rcases hat' q hq with h1 | h1
              · exact HC.out.2.2 q h1
              · exact .inr (by omega)
          clear hown' hg' hat'
          go_wp2_with fail
          go_roundw
          case rel => exact ⟨k2 + 1, M2 ++ [91], by omega, by have := HM2.out; simp; omega, by go_num, G.out.1, G.out.2.1, G.out.2.2⟩
          case measure => simp [intOf]; omega
        · go_wp2_with fail
          go_end0
          exact ⟨rfl, HC.out.2.1⟩
  · have HN : Hid (n = L.length) := hn
    have HO : Hid (Disk.Own w B (.slice (some ⟨g, 0, none⟩) n cap) L) := hown
    have HCC : Hid (c = cap ∨ c = n) := hcc
    have hlen : n ≤ 9223372036854775807 := by have := own_cap hown; omega
    clear h hn hown hcc
    obtain ⟨OB, hOB⟩ : ∃ OB, (Value.slice (some ⟨g, 0, none⟩) n c).ownBlock = OB := ⟨_, rfl⟩
    have HOB : Hid (some g = OB) := hOB
    rw [hOB]
    clear hOB
    go_enter Try.func19, Try.ntmps19
    go_wp2_with fail
    go_loopw [2] (fun i wr => ∃ (k : Nat) (M : List UInt8), k ≤ n ∧ M.length = n ∧ i = .int .i64 k ∧ Disk.Own wr B (.slice (some ⟨g, 0, none⟩) n cap) M ∧ w.grownBy wr OB) (fun i _ => n - (intOf i).toNat)
    case atStart => exact ⟨0, L, by omega, HN.out.symm, rfl, HO.out, grown_refl _ _⟩
    case round =>
     obtain ⟨k, M, hk, hM, rfl, hown, hg⟩ := hrel
     have HM : Hid (M.length = n) := hM
     clear hM
     by_cases hlt : k < n
     · obtain ⟨hc, hf⟩ := own_cell hown k (by rw [HM.out]; exact hlt)
       have F : Hid (Disk.Own (wr.setCell ⟨g, k, none⟩ (.int .u8 90)) B (.slice (some ⟨g, 0, none⟩) n cap) (M.set k 90) ∧ w.grownBy (wr.setCell ⟨g, k, none⟩ (.int .u8 90)) OB) := ⟨own_store hown k 90 90 rfl, by rw [← HOB.out] at hg ⊢; exact grown_trans hg (grown_setCell wr g k (.int .u8 90))⟩
       have i1 : (0 : Int) ≤ (k : Int) := by omega
       have i2 : (k : Int) < (n : Int) := by omega
       obtain ⟨y, hy⟩ : ∃ y, Value.int .u8 ((M[k]'(by rw [HM.out]; exact hlt)).toNat : Int) = y := ⟨_, rfl⟩
       rw [hy] at hc
       clear hown hg hy
       go_wp2_with fail
       go_roundw
       case rel => exact ⟨k + 1, M.set k 90, by omega, by rw [List.length_set]; exact HM.out, by go_num, F.out.1, F.out.2⟩
       case measure => simp [intOf]; omega
     · have F : Hid (Disk.Own wr B (.slice (some ⟨g, 0, none⟩) n cap) M ∧ w.grownBy wr OB) := ⟨hown, hg⟩
       clear hown hg
       go_wp2_with fail
       go_loopw [0, 3] (fun x i w2 => ∃ (k : Nat) (M : List UInt8), k ≤ 9 ∧ M.length ≤ 140737488355318 + k ∧ i = .int .i64 k ∧ Cut w2 B x M ∧ w.grownBy w2 OB ∧ (∀ q, x.ownBlock = some q → OB = some q ∨ w.heap.size ≤ q)) (fun _ i _ => 9 - (intOf i).toNat)
       case atStart => exact ⟨0, M, by omega, by have := HM.out; have := HN.out; have := HZ.out; omega, rfl, cut_shut F.out.1 HCC.out, F.out.2, by rw [← HOB.out]; simp [Value.ownBlock]⟩
       case round =>
         obtain ⟨k2, M2, hk2, hM2, rfl, hcut, hg, hat⟩ := hrel
         have HM2 : Hid (M2.length ≤ 140737488355318 + k2) := hM2
         have HC : Hid (Cut wr B u0 M2 ∧ w.grownBy wr OB ∧ (∀ q, u0.ownBlock = some q → OB = some q ∨ w.heap.size ≤ q)) := ⟨hcut, hg, hat⟩
         clear hM2 hcut hg hat
         by_cases hlt2 : k2 < 9
         · go_wp2_with (at_builtin; refine appCut _ rfl rfl _ _ rfl B _ M2 _ [91] rfl rfl (HC.out.1.grown (World.grownBy_alloc _ _ _)) (seg_lit _ _ _ [91] rfl (by simp)) (by simp) ?c1 ?c2 ?_)
           case c1 => have := HM2.out; simp; omega
           case c2 => have := HC.out.2.1.size; have := HBB.out; simp; omega
           intro v' w3 hown' hg' hat'
           have G : Hid (Cut w3 B v' (M2 ++ [91]) ∧ w.grownBy w3 OB ∧ (∀ q, v'.ownBlock = some q → OB = some q ∨ w.heap.size ≤ q)) := by
             have ha := grown_trans HC.out.2.1 (World.grownBy_alloc wr (.cells #[.int .u8 91] 5) OB)
             have hz := HC.out.2.1.size
             refine ⟨.inl hown', ?_, fun q hq => ?_⟩
             · cases e : u0.ownBlock with
               | none => rw [e] at hg'; exact grown_trans ha (grown_weak hg' _)
               | some q =>
                 rw [e] at hg'
                 rcases HC.out.2.2 q e with h1 | h1
                 · rw [h1] at ha ⊢
                   exact grown_trans ha hg'
                 · exact grown_new ha hg' (by intro x hx; simp at hx; omega)
             · rcases hat' q hq with h1 | h1
               · exact HC.out.2.2 q h1
               · exact .inr (by omega)
           clear hown' hg' hat'
           go_wp2_with fail
           go_roundw
           case rel => exact ⟨k2 + 1, M2 ++ [91], by omega, by have := HM2.out; simp; omega, by go_num, G.out.1, G.out.2.1, G.out.2.2⟩
           case measure => simp [intOf]; omega
         · go_wp2_with fail
           go_end0
           exact ⟨rfl, HC.out.2.1⟩
end Go.Proofs.Ytahpkgglkibikaa
