/-
  The document's entries: May, Record, Size; the program's Size.
-/
import Derived.Test.YtadhfejefpildaaGreatEh
import Derived.Test.YtadhfejefpildaaGreatCmdAll
namespace Go.Proofs.YtadhfejefpildaaGreat
open Go.RowKit Disk
open _root_.Go.Proofs.YtadhfejefpildaaGreat.Calls
open _root_.Go.Proofs.YtadhfejefpildaaGreat.Command
open _root_.Go.Proofs.YtadhfejefpildaaGreat.Frame (Frs)

set_option maxRecDepth 100000 in
set_option maxHeartbeats 2000000 in
theorem may8 (o1 : Option Addr) (o2 o3 : Nat) (n : Int) (c : PCmd) (w : World) (h : Ops w (.slice o1 o2 o3) c.ops) : Calls Tryz.prog 8 #[entV (.slice o1 o2 o3) (n, c)] w fun e w' => e = .returned (.bool (okE (n, c))) ∧ w.grownBy w' none := by
  have H0 : Hid (Ops w (.slice o1 o2 o3) c.ops) := h
  clear h
  unfold entV entA
  go_enter Tryz.func8, Tryz.ntmps8
  go_upto_region 1 with fail
  obtain ⟨W, hW, HW⟩ := al1 w #[.int .i64 n, .int .i64 c.kind, .int .i64 c.token, .int .i64 c.session, .int .i64 c.number, .int .i64 c.mark, .slice o1 o2 o3] 34
  rw [hW]
  clear hW
  obtain ⟨c0, c1, c2, c3, c4, c5, c6⟩ := blk7 HW.out.1
  by_cases n1 : 1 ≤ n
  rotate_left
  · have q1 : (1 ≤ n) = False := eq_false n1
    have HR : Hid (okE (n, c) = false) := by
      show okE (n, c) = false
      simp [okE, n1]
    clear n1
    go_wp2_with fail
    go_ret
    exact ⟨by rw [HR.out]; rfl, HW.out.2.1⟩
  by_cases n2 : n ≤ 4611686018427387904
  rotate_left
  · have q1 : (1 ≤ n) = True := eq_true n1
    have q2 : (n ≤ 4611686018427387904) = False := eq_false n2
    have HR : Hid (okE (n, c) = false) := by
      show okE (n, c) = false
      simp [okE, n2]
    clear n1 n2
    go_wp2_with fail
    go_ret
    exact ⟨by rw [HR.out]; rfl, HW.out.2.1⟩
  have q1 : (1 ≤ n) = True := eq_true n1
  have q2 : (n ≤ 4611686018427387904) = True := eq_true n2
  have HR : Hid (okE (n, c) = okC c) := by
    show okE (n, c) = okC c
    simp [okE, n1, n2]
  clear n1 n2
  go_wp2_with fail
  refine (check9 (.slice o1 o2 o3) c W (H0.out.grown HW.out.2.1)).mono ?_
  rintro e w1 ⟨rfl, g1⟩
  have HG : Hid (w.grownBy w1 none) := grown_trans HW.out.2.1 g1
  unfold chkC
  clear g1 c0 c1 c2 c3 c4 c5 c6
  cases hok : okC c
  · simp only [Bool.false_eq_true, if_false]
    rw [hok] at HR
    clear hok
    go_wp2_with fail
    go_ret
    exact ⟨by rw [HR.out]; rfl, HG.out⟩
  · simp only [if_true]
    rw [hok] at HR
    clear hok
    go_wp2_with fail
    go_ret
    exact ⟨by rw [HR.out]; rfl, HG.out⟩

set_option maxRecDepth 100000 in
set_option maxHeartbeats 2000000 in
theorem rec9 (o1 : Option Addr) (o2 o3 : Nat) (n : Int) (c : PCmd) (w : World) (h : Ops w (.slice o1 o2 o3) c.ops) (hI : InC c) (hok : okE (n, c) = true) : Calls Tryz.prog 9 #[entV (.slice o1 o2 o3) (n, c)] w fun e w' => ∃ u, e = .returned u ∧ Disk.Own w' w.heap.size u (Frame.frm 1 (bodyE (n, c))) ∧ w.grownBy w' none := by
  have H0 : Hid (Ops w (.slice o1 o2 o3) c.ops ∧ InC c ∧ okE (n, c) = true ∧ 1 ≤ n ∧ n ≤ 4611686018427387904 ∧ okC c = true) := ⟨h, hI, hok, okE_iff.1 hok⟩
  clear h hI hok
  unfold entV entA
  go_enter Tryz.func9, Tryz.ntmps9
  go_upto_region 1 with fail
  obtain ⟨W, hW, HW⟩ := al1 w #[.int .i64 n, .int .i64 c.kind, .int .i64 c.token, .int .i64 c.session, .int .i64 c.number, .int .i64 c.mark, .slice o1 o2 o3] 34
  rw [hW]
  clear hW
  obtain ⟨c0, c1, c2, c3, c4, c5, c6⟩ := blk7 HW.out.1
  have hwr : IntKind.u64.wrap n = n := by
    have := H0.out
    unfold IntKind.wrap
    simp [IntKind.bits, IntKind.signed]
    omega
  go_wp2_with fail
  refine (Wire.number12_int n n.toNat (by have := H0.out; omega) (by have := H0.out; omega) _).mono ?_
  rintro e w1 ⟨v, rfl, ov, g1⟩
  obtain ⟨va, vn, vc, ev⟩ := Calls.slice_of ov
  subst ev
  have H1 : Hid (w.grownBy w1 none ∧ Disk.Own w1 W.heap.size (.slice va vn vc) (Wire.numForm n.toNat) ∧ Blk w1 w.heap.size 34 #[.int .i64 n, .int .i64 c.kind, .int .i64 c.token, .int .i64 c.session, .int .i64 c.number, .int .i64 c.mark, .slice o1 o2 o3]) := ⟨grown_trans HW.out.2.1 g1, ov, HW.out.1.grown g1 (by simp)⟩
  clear ov g1 c0 c1 c2 c3 c4 c5 c6 hwr
  obtain ⟨c0, c1, c2, c3, c4, c5, c6⟩ := blk7 H1.out.2.2
  go_wp2_with fail
  refine (form17 (.slice o1 o2 o3) c w1 (H0.out.1.grown H1.out.1) H0.out.2.1 H0.out.2.2.2.2.2).mono ?_
  rintro e w2 ⟨u, rfl, ou, g2⟩
  obtain ⟨ua, un, uc, eu⟩ := Calls.slice_of ou
  subst eu
  have H2 : Hid (w.grownBy w2 none ∧ Disk.Own w2 W.heap.size (.slice va vn vc) (Wire.numForm n.toNat) ∧ Seg w2 (.slice ua un uc) (formC c) ∧ W.heap.size ≤ w2.heap.size) := ⟨grown_trans H1.out.1 g2, H1.out.2.1.grown g2, ou.seg, by have := g2.size; have h9 := H1.out.2.2.lt; have := HW.out.2.2; omega⟩
  clear ou g2 c0 c1 c2 c3 c4 c5 c6 H1
  have HLN : Hid ((Wire.numForm n.toNat).length ≤ 10 ∧ (formC c).length ≤ 5000 ∧ (bodyE (n, c)).length ≤ 5010) := ⟨Wire.numForm_len10 _ (by have := H0.out; omega), formC_len H0.out.2.2.2.2.2 H0.out.2.1, bodyE_len H0.out.2.2.1 H0.out.2.1⟩
  go_wp2_with (at_builtin; refine app22 w2 rfl _ _ rfl W.heap.size (.slice va vn vc) (Wire.numForm n.toNat) (.slice ua un uc) (formC c) rfl rfl H2.out.2.1 H2.out.2.2.1 (by have := HLN.out; omega) H2.out.2.2.2 ?_)
  intro v' w3 o3' g3 h3
  have o4 : Disk.Own w3 W.heap.size v' (bodyE (n, c)) := o3'
  obtain ⟨xa, xn, xc, ex⟩ := Calls.slice_of o4
  subst ex
  have H3 : Hid (w.grownBy w3 none ∧ Disk.Own w3 W.heap.size (.slice xa xn xc) (bodyE (n, c))) := ⟨grown_new H2.out.1 g3 (fun y hy => by have := (H2.out.2.1.lt y hy).1; have := HW.out.2.2; omega), o4⟩
  clear o3' g3 h3 o4
  go_wp2_with fail
  refine (Frame.refput11 1 _ (bodyE (n, c)) w3 (by decide) H3.out.2.seg (by have := HLN.out; omega)).mono ?_
  rintro e w4 ⟨y, rfl, oy, g4⟩
  have H4 : Hid (Disk.Own w4 w.heap.size y (Frame.frm 1 (bodyE (n, c))) ∧ w.grownBy w4 none) := ⟨oy.mono H3.out.1.size, grown_trans H3.out.1 g4⟩
  obtain ⟨ya, yn, yc, ey⟩ := Calls.slice_of oy
  subst ey
  clear oy g4
  go_wp2_with fail
  go_ret
  exact ⟨_, rfl, H4.out⟩

/-- How many bytes entries' records have together; why not. -/
def sumE : List PEnt → Nat
  | [] => 0
  | e :: l => (Frame.frm 1 (bodyE e)).length + sumE l
def sizeE (E : List PEnt) : Int × Int := if E.all okE = true then (if 1024 < E.length then (0, 3) else ((sumE E : Nat), 0)) else (0, 2)
theorem sum_snoc : ∀ (l : List PEnt) (e : PEnt), sumE (l ++ [e]) = sumE l + (Frame.frm 1 (bodyE e)).length
  | [], e => by simp [sumE]
  | x :: l, e => by simp [sumE, sum_snoc l e]; omega
theorem rec_len {e : PEnt} (h : okE e = true) (hi : InC e.2) : (Frame.frm 1 (bodyE e)).length ≤ 6000 := by
  have := bodyE_len h hi
  rw [Frame.frm_len]
  omega
theorem sum_le : ∀ (l : List PEnt), (∀ e ∈ l, okE e = true ∧ InC e.2) → sumE l ≤ 6000 * l.length
  | [], _ => by simp [sumE]
  | e :: l, h => by
    have h1 := rec_len (h e (by simp)).1 (h e (by simp)).2
    have h2 := sum_le l (fun x hx => h x (by simp [hx]))
    simp only [sumE, List.length_cons]
    omega
/-- Entries that came in. -/
structure EntsA (w : World) (v : Value) (E : List PEnt) : Prop where
  ents : Ents w v E
  inn : ∀ e ∈ E, InC e.2
  few : E.length ≤ 1048576
theorem EntsA.grown {w w' : World} {v : Value} {E : List PEnt} (h : EntsA w v E) (hg : w.grownBy w' none) : EntsA w' v E := ⟨h.ents.grown hg, h.inn, h.few⟩
theorem entsA_open {w : World} {v : Value} {E : List PEnt} (h : EntsA w v E) : ∃ ao n cap, v = .slice ao n cap ∧ E.length = n ∧ n ≤ 1048576 ∧ Hid (EntsA w (.slice ao n cap) E) := by
  have h' := h.ents
  obtain ⟨ao, cap, rfl, _⟩ := h'
  exact ⟨ao, _, cap, rfl, rfl, h.few, h⟩
theorem EntAt.grown {w w' : World} {b off : Nat} {o1 : Option Addr} {o2 o3 : Nat} {e : PEnt} (h : EntAt w b off o1 o2 o3 e) (hg : w.grownBy w' none) : EntAt w' b off o1 o2 o3 e := by
  obtain ⟨g0, g1, g2, g3, g4, g5, g6⟩ := h
  exact ⟨hg.cell g0 (by simp), hg.cell g1 (by simp), hg.cell g2 (by simp), hg.cell g3 (by simp), hg.cell g4 (by simp), hg.cell g5 (by simp), hg.cell g6 (by simp)⟩
theorem all_take {E : List PEnt} {k : Nat} (h : k < E.length) (ha : (E.take k).all okE = true) (hk : okE E[k] = true) : (E.take (k + 1)).all okE = true := by
  rw [List.take_succ_eq_append_getElem h, List.all_append, ha]
  simp [hk]
theorem not_all {E : List PEnt} {k : Nat} (h : k < E.length) (hk : okE E[k] = false) : E.all okE = false := by
  rw [← Bool.not_eq_true]
  intro ha
  rw [List.all_eq_true] at ha
  rw [ha _ (List.getElem_mem h)] at hk
  cases hk
theorem wrap_small {x : Int} (h0 : 0 ≤ x) (h1 : x ≤ 4611686018427387904) : IntKind.i64.wrap x = x := by
  unfold IntKind.wrap
  simp [IntKind.bits, IntKind.signed]
  omega

set_option maxRecDepth 100000 in
set_option maxHeartbeats 4000000 in
theorem size12 (v : Value) (E : List PEnt) (w : World) (h : EntsA w v E) : Calls Tryz.prog 12 #[v] w fun e w' => e = .returned (.tuple #[.int .i64 (sizeE E).1, .int .i64 (sizeE E).2]) ∧ w.grownBy w' none := by
  obtain ⟨ao, n, cap, rfl, hn, hf, HE⟩ := entsA_open h
  have HN : Hid (E.length = n) := hn
  clear h hn
  go_enter Tryz.func12, Tryz.ntmps12
  go_wp2_with fail
  go_loopw [4, 11] (fun s t wr => ∃ k m : Nat, s = .int .i64 (m : Int) ∧ t = .int .i64 (k : Int) ∧ k ≤ n ∧ Hid (w.grownBy wr none ∧ (E.take k).all okE = true ∧ sumE (E.take k) = m)) (fun _ t _ => n - (intOf t).toNat)
  case atStart => exact ⟨0, 0, rfl, rfl, Nat.zero_le _, grown_refl _ _, by simp, by simp [sumE]⟩
  case round =>
    obtain ⟨k, m, rfl, rfl, hk, HG⟩ := hrel
    by_cases hlt : k < n
    · have hkl : k < E.length := by rw [HN.out]; exact hlt
      obtain ⟨b, off, o1, o2, o3, rfl, hat, hops⟩ := ents_at' HE.out.ents k hkl
      obtain ⟨en, hen⟩ : ∃ x, E[k] = x := ⟨_, rfl⟩
      rw [hen] at hat hops
      obtain ⟨e0, e1, e2, e3, e4, e5, e6⟩ := hat.grown HG.out.1
      have HO : Hid (Ops w (.slice o1 o2 o3) en.2.ops ∧ InC en.2 ∧ E[k] = en) := ⟨hops, by rw [← hen]; exact HE.out.inn _ (List.getElem_mem _), hen⟩
      have i0 : (0 : Int) ≤ (k : Int) := by omega
      have i1 : (k : Int) < (n : Int) := by omega
      clear hat hops hen
      go_upto_region 5 with fail
      obtain ⟨w3, hw3, H3⟩ := al1 wr #[.int .i64 en.1, .int .i64 en.2.kind, .int .i64 en.2.token, .int .i64 en.2.session, .int .i64 en.2.number, .int .i64 en.2.mark, .slice o1 o2 o3] 34
      rw [hw3]
      clear hw3 e0 e1 e2 e3 e4 e5 e6
      obtain ⟨c0, c1, c2, c3, c4, c5, c6⟩ := blk7 H3.out.1
      go_wp2_with fail
      refine (record7 (.slice o1 o2 o3) en.1 en.2 w3 ((HO.out.1.grown HG.out.1).grown H3.out.2.1) HO.out.2.1 ⟨_, _, _, rfl⟩).mono ?_
      rintro e w4 ⟨g4, hrec⟩
      have HG4 : Hid (w.grownBy w4 none) := grown_trans HG.out.1 (grown_trans H3.out.2.1 g4)
      clear c0 c1 c2 c3 c4 c5 c6 g4
      rcases hrec with ⟨hno, rfl⟩ | ⟨hok, u, rfl, ou⟩
      · have HR : Hid (sizeE E = (0, 2)) := by
          show sizeE E = (0, 2)
          unfold sizeE
          rw [if_neg (by rw [not_all hkl (by rw [HO.out.2.2]; exact hno)]; simp)]
        clear hno
        go_wp2_with fail
        go_ret2
        exact ⟨by rw [HR.out]; rfl, HG4.out⟩
      · have hlen := rec_len (e := (en.1, en.2)) hok HO.out.2.1
        obtain ⟨ua, uc, eu⟩ := ou.seg.shape
        obtain ⟨rl, hrl⟩ : ∃ x, (Frame.frm 1 (bodyE (en.1, en.2))).length = x := ⟨_, rfl⟩
        rw [hrl] at eu hlen
        subst eu
        have hsum : m ≤ 6000 * k := by
          have h9 := sum_le (E.take k) (fun x hx => ⟨List.all_eq_true.1 HG.out.2.1 x hx, HE.out.inn x (List.mem_of_mem_take hx)⟩)
          rw [HG.out.2.2, List.length_take] at h9
          omega
        obtain ⟨mm, hmm⟩ : ∃ x, m + rl = x := ⟨_, rfl⟩
        have s1 : (m : Int) + (rl : Int) = (mm : Int) := by omega
        have s2 : IntKind.i64.wrap (mm : Int) = (mm : Int) := wrap_small (by omega) (by omega)
        have HR : Hid ((E.take (k + 1)).all okE = true ∧ sumE (E.take (k + 1)) = mm) := by
          refine ⟨all_take hkl HG.out.2.1 (by rw [HO.out.2.2]; exact hok), ?_⟩
          rw [List.take_succ_eq_append_getElem hkl, sum_snoc, HG.out.2.2, HO.out.2.2, hrl, hmm]
        clear hok ou hlen hrl hsum hmm
        go_wp2_with fail
        go_roundw
        case rel => exact ⟨k + 1, mm, rfl, by go_num, by omega, HG4.out, HR.out⟩
        case measure => simp [intOf]; omega
    · have e : k = n := by omega
      subst e
      have HA : Hid (E.all okE = true ∧ sumE E = m) := by
        have h1 := HG.out.2
        rw [← HN.out, List.take_length] at h1
        exact h1
      by_cases hl : 1024 < k
      · have q1 : ((1024 : Int) < (k : Int)) = True := eq_true (by omega)
        have q2 : (1024 < k) = True := eq_true hl
        have HR : Hid (sizeE E = (0, 3)) := by
          show sizeE E = (0, 3)
          unfold sizeE
          rw [if_pos HA.out.1, if_pos (by rw [HN.out]; exact hl)]
        clear hl
        go_wp2_with fail
        go_ret2
        exact ⟨by rw [HR.out]; rfl, HG.out.1⟩
      · have q1 : ((1024 : Int) < (k : Int)) = False := eq_false (by omega)
        have q2 : (1024 < k) = False := eq_false hl
        have HR : Hid (sizeE E = ((m : Int), (0 : Int))) := by
          show sizeE E = ((m : Int), (0 : Int))
          unfold sizeE
          rw [if_pos HA.out.1, if_neg (by rw [HN.out]; exact hl), HA.out.2]
        clear hl
        go_wp2_with fail
        go_ret2
        exact ⟨by rw [HR.out]; rfl, HG.out.1⟩

set_option maxRecDepth 100000 in
set_option maxHeartbeats 4000000 in
theorem size13 (v : Value) (E : List PEnt) (w : World) (h : EntsA w v E) : Calls Tryz.prog 13 #[v] w fun e w' => e = .returned (.tuple #[.int .i64 (sizeE E).1, .int .i64 (sizeE E).2]) ∧ w.grownBy w' none := by
  obtain ⟨ao, n, cap, rfl, hn, hf, HE⟩ := entsA_open h
  have HN : Hid (E.length = n) := hn
  clear h hn
  go_enter Tryz.func13, Tryz.ntmps13
  go_wp2_with fail
  go_loopw [4, 5] (fun s t wr => ∃ k m : Nat, s = .int .i64 (m : Int) ∧ t = .int .i64 (k : Int) ∧ k ≤ n ∧ Hid (w.grownBy wr none ∧ (E.take k).all okE = true ∧ sumE (E.take k) = m)) (fun _ t _ => n - (intOf t).toNat)
  case atStart => exact ⟨0, 0, rfl, rfl, Nat.zero_le _, grown_refl _ _, by simp, by simp [sumE]⟩
  case round =>
    obtain ⟨k, m, rfl, rfl, hk, HG⟩ := hrel
    by_cases hlt : k < n
    · have hkl : k < E.length := by rw [HN.out]; exact hlt
      obtain ⟨b, off, o1, o2, o3, rfl, hat, hops⟩ := ents_at' HE.out.ents k hkl
      obtain ⟨en, hen⟩ : ∃ x, E[k] = x := ⟨_, rfl⟩
      rw [hen] at hat hops
      obtain ⟨e0, e1, e2, e3, e4, e5, e6⟩ := hat.grown HG.out.1
      have HO : Hid (Ops w (.slice o1 o2 o3) en.2.ops ∧ InC en.2 ∧ E[k] = en ∧ EntAt w b (off + k * 7) o1 o2 o3 en) := ⟨hops, by rw [← hen]; exact HE.out.inn _ (List.getElem_mem _), hen, hat⟩
      have i0 : (0 : Int) ≤ (k : Int) := by omega
      have i1 : (k : Int) < (n : Int) := by omega
      clear hat hops hen
      go_wp2_with fail
      refine (may8 o1 o2 o3 en.1 en.2 wr (HO.out.1.grown HG.out.1)).mono ?_
      rintro e w4 ⟨rfl, g4⟩
      have HG4 : Hid (w.grownBy w4 none) := grown_trans HG.out.1 g4
      clear g4 e0 e1 e2 e3 e4 e5 e6
      cases hok : okE (en.1, en.2)
      · have HR : Hid (sizeE E = (0, 2)) := by
          show sizeE E = (0, 2)
          unfold sizeE
          rw [if_neg (by rw [not_all hkl (by rw [HO.out.2.2.1]; exact hok)]; simp)]
        clear hok
        go_wp2_with fail
        go_ret2
        exact ⟨by rw [HR.out]; rfl, HG4.out⟩
      · have HOK : Hid (okE (en.1, en.2) = true) := hok
        clear hok
        obtain ⟨e0, e1, e2, e3, e4, e5, e6⟩ := HO.out.2.2.2.grown HG4.out
        go_wp2_with fail
        refine (rec9 o1 o2 o3 en.1 en.2 w4 (HO.out.1.grown HG4.out) HO.out.2.1 HOK.out).mono ?_
        rintro e w5 ⟨u, rfl, ou, g5⟩
        have HG5 : Hid (w.grownBy w5 none) := grown_trans HG4.out g5
        have hlen := rec_len (e := (en.1, en.2)) HOK.out HO.out.2.1
        obtain ⟨ua, uc, eu⟩ := ou.seg.shape
        obtain ⟨rl, hrl⟩ : ∃ x, (Frame.frm 1 (bodyE (en.1, en.2))).length = x := ⟨_, rfl⟩
        rw [hrl] at eu hlen
        subst eu
        have hsum : m ≤ 6000 * k := by
          have h9 := sum_le (E.take k) (fun x hx => ⟨List.all_eq_true.1 HG.out.2.1 x hx, HE.out.inn x (List.mem_of_mem_take hx)⟩)
          rw [HG.out.2.2, List.length_take] at h9
          omega
        obtain ⟨mm, hmm⟩ : ∃ x, m + rl = x := ⟨_, rfl⟩
        have s1 : (m : Int) + (rl : Int) = (mm : Int) := by omega
        have s2 : IntKind.i64.wrap (mm : Int) = (mm : Int) := wrap_small (by omega) (by omega)
        have HR : Hid ((E.take (k + 1)).all okE = true ∧ sumE (E.take (k + 1)) = mm) := by
          refine ⟨all_take hkl HG.out.2.1 (by rw [HO.out.2.2.1]; exact HOK.out), ?_⟩
          rw [List.take_succ_eq_append_getElem hkl, sum_snoc, HG.out.2.2, HO.out.2.2.1, hrl, hmm]
        clear ou hlen hrl hsum hmm g5 e0 e1 e2 e3 e4 e5 e6
        go_wp2_with fail
        go_roundw
        case rel => exact ⟨k + 1, mm, rfl, by go_num, by omega, HG5.out, HR.out⟩
        case measure => simp [intOf]; omega
    · have e : k = n := by omega
      subst e
      have HA : Hid (E.all okE = true ∧ sumE E = m) := by
        have h1 := HG.out.2
        rw [← HN.out, List.take_length] at h1
        exact h1
      by_cases hl : 1024 < k
      · have q1 : ((1024 : Int) < (k : Int)) = True := eq_true (by omega)
        have q2 : (1024 < k) = True := eq_true hl
        have HR : Hid (sizeE E = (0, 3)) := by
          show sizeE E = (0, 3)
          unfold sizeE
          rw [if_pos HA.out.1, if_pos (by rw [HN.out]; exact hl)]
        clear hl
        go_wp2_with fail
        go_ret2
        exact ⟨by rw [HR.out]; rfl, HG.out.1⟩
      · have q1 : ((1024 : Int) < (k : Int)) = False := eq_false (by omega)
        have q2 : (1024 < k) = False := eq_false hl
        have HR : Hid (sizeE E = ((m : Int), (0 : Int))) := by
          show sizeE E = ((m : Int), (0 : Int))
          unfold sizeE
          rw [if_pos HA.out.1, if_neg (by rw [HN.out]; exact hl), HA.out.2]
        clear hl
        go_wp2_with fail
        go_ret2
        exact ⟨by rw [HR.out]; rfl, HG.out.1⟩
end Go.Proofs.YtadhfejefpildaaGreat
