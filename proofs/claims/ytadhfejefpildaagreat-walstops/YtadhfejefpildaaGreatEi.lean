/-
  WalStops, the theorem of stage 13: what was appended is told; behind each stop all that lasted is there, and a beginning of the rest.
-/
import Derived.Test.YtadhfejefpildaaGreatEh
import Derived.Test.YtadhfejefpildaaGreatDiskAll
namespace Go.Proofs.YtadhfejefpildaaGreat
open Go.RowKit Disk
open _root_.Go.Proofs.YtadhfejefpildaaGreat.Calls
open _root_.Go.Proofs.YtadhfejefpildaaGreat.Command
open _root_.Go.Proofs.YtadhfejefpildaaGreat.Frame (Frs)

/-- The disk behind both Appends. -/
structure Mid (w wc : World) (F : Nat → Prop) (db : Nat) (n : Int) (c1 c2 : List PCmd) (S : St) : Prop where
  dk : DK wc F (.pointer (some ⟨db, 0, none⟩)) S
  gr : w.grownBy wc none
  new : ∀ k, F k → w.heap.size ≤ k
  log : S.log = logOf n (c1 ++ c2)
  sure : S.sure = (logOf n c1).length
  ok : OkL n (c1 ++ c2)
  cap : S.cap = 1048576
  len : S.log.length ≤ 1048576
theorem OkL.app {n : Int} {a b : List PCmd} (h1 : OkL n a) (h2 : ∀ c ∈ b, okC c = true ∧ InC c) (hn : n + (a.length + b.length : Nat) ≤ 4611686018427387905) : OkL n (a ++ b) := ⟨h1.1, by rw [List.length_append]; exact hn, fun c hc => by
  rw [List.mem_append] at hc
  rcases hc with hc | hc
  · exact h1.2.2 c hc
  · exact h2 c hc⟩
theorem OkL.take {n : Int} {a : List PCmd} (h : OkL n a) (k : Nat) : OkL n (a.take k) := ⟨h.1, by have := h.2.1; rw [List.length_take]; omega, fun c hc => h.2.2 c (List.mem_of_mem_take hc)⟩
/-- What a stop leaves. -/
theorem stops_plain {n : Int} {c1 c2 : List PCmd} (hok : OkL n (c1 ++ c2)) (c : Nat) (h1 : (logOf n c1).length ≤ c) (h2 : c ≤ (logOf n (c1 ++ c2)).length) : ∃ j R, c1.length ≤ j ∧ j ≤ c1.length + c2.length ∧ Frame.Sc ((logOf n (c1 ++ c2)).take c) ((seqE n ((c1 ++ c2).take j)).map frE) R := by
  obtain ⟨j, R, hj, hsc, _, hlt⟩ := Frame.sc_take ((seqE n (c1 ++ c2)).map frE) c (seq_may _ _ hok) h2
  rw [List.length_map, seq_len, List.length_append] at hj
  refine ⟨j, R, ?_, hj, ?_⟩
  · rcases Nat.lt_or_ge j c1.length with h | h
    · exfalso
      have h3 := hlt (by rw [List.length_map, seq_len, List.length_append]; omega)
      have h4 : (Frame.flat (((seqE n (c1 ++ c2)).map frE).take (j + 1))).length ≤ (Frame.flat (((seqE n (c1 ++ c2)).map frE).take c1.length)).length := by
        have e : ((seqE n (c1 ++ c2)).map frE).take (j + 1) = (((seqE n (c1 ++ c2)).map frE).take c1.length).take (j + 1) := by rw [List.take_take, Nat.min_eq_left (by omega)]
        rw [e]
        exact Frame.flat_take_le _ _
      have h5 : ((seqE n (c1 ++ c2)).map frE).take c1.length = (seqE n c1).map frE := by
        rw [← List.map_take, seq_take]
        simp
      rw [h5] at h4
      unfold logOf at h1
      omega
    · exact h
  · rw [← List.map_take, seq_take] at hsc
    exact hsc

set_option maxRecDepth 100000 in
set_option maxHeartbeats 8000000 in
theorem stops6 (n keep : Int) (v1 v2 : Value) (d1 d2 : List PCmd) (w : World) (h1 : Cmds w v1 d1) (h2 : Cmds w v2 d2) : Calls Tryz.prog 6 #[.int .i64 n, v1, v2, .int .i64 keep] w fun e w' => e = .returned (.bool true) ∧ w.grownBy w' none := by
  obtain ⟨a1, q1, p1, rfl, hq1, b1, b1', b1'', HC1⟩ := cmds_open h1
  obtain ⟨a2, q2, p2, rfl, hq2, b2, b2', b2'', HC2⟩ := cmds_open h2
  have H0 : Hid (d1.length = q1 ∧ d2.length = q2 ∧ (∀ c ∈ d1, InC c) ∧ (∀ c ∈ d2, InC c)) := ⟨hq1, hq2, cmds_in h1, cmds_in h2⟩
  clear h1 h2 hq1 hq2
  go_enter Tryz.func6, Tryz.ntmps6
  go_wp2_with fail
  refine (new42 1048576 w (by decide) (by decide)).mono ?_
  rintro e w1 ⟨p, rfl, g1, F1, hd1, hF1⟩
  obtain ⟨db, rfl⟩ : ∃ b, p = .pointer (some ⟨b, 0, none⟩) := by obtain ⟨b, _, _, _, h, _⟩ := hd1; exact ⟨b, h⟩
  have H1 : Hid (DK w1 F1 (.pointer (some ⟨db, 0, none⟩)) (St.of 1048576 [] []) ∧ w.grownBy w1 none ∧ ∀ k, F1 k → w.heap.size ≤ k) := ⟨hd1, g1, hF1⟩
  clear hd1 g1 hF1
  go_wp2_with fail
  refine (append23 F1 _ _ (St.of 1048576 [] []) n d1 w1 H1.out.1 (by simp [St.of]) (HC1.out.grown H1.out.2.1)).mono ?_
  rintro e w2 hA
  rcases hA with ⟨hne, rfl, g2⟩ | ⟨hr0, m1, hm1, rfl, hlen, hD⟩
  · obtain ⟨rc, hrc⟩ : ∃ x, refA n d1 = x := ⟨_, rfl⟩
    rw [hrc] at hne ⊢
    have HG : Hid (w.grownBy w2 none) := grown_trans H1.out.2.1 g2
    have q1 : (rc = 0) = False := eq_false hne
    have q2 : (rc == 0) = false := by simpa using hne
    clear hne g2 hrc
    go_wp2_with fail
    refine (known14 w2).mono ?_
    rintro e w3 ⟨rfl, g3⟩
    have HG3 : Hid (w.grownBy w3 none) := grown_trans HG.out g3
    clear g3
    go_wp2_with fail
    go_ret
    exact ⟨rfl, HG3.out⟩
  have hok1 := okL_of hr0 H0.out.2.2.1
  have hmle : m1 ≤ d1.length := by rw [← hm1]; exact fit_le _ _ _
  have hm3 := (refA_ok hr0).2.2.1
  have hnr := refA_ok hr0
  have hlog : (if m1 = 0 then St.of 1048576 [] [] else (St.of 1048576 [] []).write (logOf n (d1.take m1))).log = logOf n (d1.take m1) ∧ (if m1 = 0 then St.of 1048576 [] [] else (St.of 1048576 [] []).write (logOf n (d1.take m1))).cap = 1048576 ∧ (if m1 = 0 then St.of 1048576 [] [] else (St.of 1048576 [] []).write (logOf n (d1.take m1))).steps ≤ 1 := by
    split
    · rename_i h
      subst h
      simp [St.of, logOf, seqE, Frame.flat]
    · rw [St.write_fits hlen]
      simp [St.of, St.step]
  obtain ⟨S1, hS1⟩ : ∃ x, (if m1 = 0 then St.of 1048576 [] [] else (St.of 1048576 [] []).write (logOf n (d1.take m1))) = x := ⟨_, rfl⟩
  rw [hS1] at hD hlog
  obtain ⟨g2, F2, hd2, hF2⟩ := dAft_grown hD H1.out.2.1 H1.out.2.2
  have hl1 : (logOf n (d1.take m1)).length ≤ 1048576 := by have := hlen; simp [St.of] at this; exact this
  have H2 : Hid (DK w2 F2 (.pointer (some ⟨db, 0, none⟩)) S1 ∧ w.grownBy w2 none ∧ (∀ k, F2 k → w.heap.size ≤ k) ∧ S1.log = logOf n (d1.take m1) ∧ S1.cap = 1048576 ∧ S1.steps ≤ 1 ∧ OkL n (d1.take m1) ∧ (logOf n (d1.take m1)).length ≤ 1048576 ∧ m1 ≤ 1024 ∧ (d1.take m1).length = m1 ∧ 1 ≤ n ∧ n ≤ 4611686018427386880) := ⟨hd2, g2, hF2, hlog.1, hlog.2.1, hlog.2.2, hok1.take _, hl1, by omega, by rw [List.length_take]; omega, hnr.1, hnr.2.1⟩
  clear hd2 g2 hF2 hlog hS1 hD hlen hm1 hr0 hok1 hmle hm3 hl1 hnr
  go_wp2_with fail
  refine (sync18 F2 _ S1 w2 H2.out.1 (by have := H2.out; omega)).mono ?_
  rintro e w3 ⟨rfl, hD⟩
  obtain ⟨g3, F3, hd3, hF3⟩ := dAft_grown hD H2.out.2.1 H2.out.2.2.1
  have H3 : Hid (Mid w w3 F3 db n (d1.take m1) [] S1.sync ∧ S1.sync.steps ≤ 2) := by
    have h := H2.out
    refine ⟨⟨hd3, g3, hF3, ?_, ?_, by simpa using h.2.2.2.2.2.2.1, h.2.2.2.2.1, ?_⟩, ?_⟩
    · simp [St.sync, St.step, h.2.2.2.1]
    · simp [St.sync, h.2.2.2.1]
    · simp [St.sync, St.step, h.2.2.2.1, h.2.2.2.2.2.2.2.1]
    · simp [St.sync, St.step]; omega
  have hw1 : IntKind.i64.wrap (n + (m1 : Int)) = n + (m1 : Int) := by
    have := H2.out
    unfold IntKind.wrap
    simp [IntKind.bits, IntKind.signed]
    omega
  clear hD g3 hd3 hF3
  go_upto_if 38 with fail
  go_cut [12] (fun x wc => ∃ (m2 : Nat) (F : Nat → Prop) (S3 : St), x = .int .i64 (m2 : Int) ∧ m2 ≤ q2 ∧ m2 ≤ 1024 ∧ Hid (Mid w wc F db n (d1.take m1) (d2.take m2) S3))
  case first =>
    have HZ : Hid (Mid w w3 F3 db n (d1.take m1) (d2.take 0) S1.sync) := by
      show Mid _ _ _ _ _ _ _ _
      simpa using H3.out.1
    by_cases hle : n + (m1 : Int) ≤ 4611686018427386880
    · rw [show decide (n + (m1 : Int) ≤ 4611686018427386880) = true from decide_eq_true hle]
      clear hle
      go_wp2_with fail
      refine (append23 F3 _ _ S1.sync (n + (m1 : Int)) d2 w3 H3.out.1.dk (by have := H3.out.2; omega) (HC2.out.grown H3.out.1.gr)).mono ?_
      rintro e w4 hA
      rcases hA with ⟨hne, rfl, g4⟩ | ⟨hr0, m2, hm2, rfl, hlen, hD⟩
      · obtain ⟨rc, hrc⟩ : ∃ x, refA (n + (m1 : Int)) d2 = x := ⟨_, rfl⟩
        rw [hrc] at hne ⊢
        have HG : Hid (Mid w w4 F3 db n (d1.take m1) (d2.take 0) S1.sync) := { HZ.out with dk := HZ.out.dk.grown g4, gr := grown_trans HZ.out.gr g4 }
        have r1 : (rc = 0) = False := eq_false hne
        have r2 : (rc == 0) = false := by simpa using hne
        clear hne g4 hrc
        go_wp2_with fail
        go_meet
        case rel => exact ⟨0, F3, S1.sync, rfl, by omega, by omega, HG.out⟩
      · have hml : m2 ≤ d2.length := by rw [← hm2]; exact fit_le _ _ _
        have hnr := refA_ok hr0
        obtain ⟨g4, F4, hd4, hF4⟩ := dAft_grown hD H3.out.1.gr H3.out.1.new
        have hM := H3.out.1
        have hlog : S1.sync.log = logOf n (d1.take m1) := by have := hM.log; simpa using this
        have hok : OkL n (d1.take m1 ++ d2.take m2) := OkL.app H2.out.2.2.2.2.2.2.1 (fun c hc => ⟨hnr.2.2.2 c (List.mem_of_mem_take hc), H0.out.2.2.2 c (List.mem_of_mem_take hc)⟩) (by have h9 := H2.out; rw [List.length_take]; have h8 := h9.2.2.2.2.2.2.2.2.2.1; rw [List.length_take] at h8; rw [List.length_take]; omega)
        have hla : logOf n (d1.take m1 ++ d2.take m2) = logOf n (d1.take m1) ++ logOf (n + (m1 : Int)) (d2.take m2) := by rw [log_app, H2.out.2.2.2.2.2.2.2.2.2.1]
        have HG : Hid (∃ S3, Mid w w4 F4 db n (d1.take m1) (d2.take m2) S3) := by
          by_cases h0 : m2 = 0
          · subst h0
            rw [if_pos rfl] at hd4
            exact ⟨_, hd4, g4, hF4, by simpa using hM.log, hM.sure, hok, hM.cap, hM.len⟩
          · rw [if_neg h0, St.write_fits hlen] at hd4
            refine ⟨_, hd4, g4, hF4, ?_, hM.sure, hok, hM.cap, ?_⟩
            · simp only [hla, hlog]
            · have h8 := hM.cap
              have h9 := hM.len
              simp only [List.length_append]
              omega
        have HB : Hid (m2 ≤ q2 ∧ m2 ≤ 1024) := ⟨by have := H0.out.2.1; omega, by have := hnr.2.2.1; omega⟩
        clear hD hlen hm2 hr0 hml hnr g4 hd4 hF4 hM hlog hok hla
        go_wp2_with fail
        go_meet
        case rel =>
          obtain ⟨S3, hS3⟩ := HG.out
          exact ⟨m2, F4, S3, rfl, HB.out.1, HB.out.2, hS3⟩
    · rw [show decide (n + (m1 : Int) ≤ 4611686018427386880) = false from decide_eq_false hle]
      clear hle
      go_wp2_with fail
      go_meet
      case rel => exact ⟨0, F3, S1.sync, rfl, by omega, by omega, HZ.out⟩
  case rest =>
    obtain ⟨m2, F, S3, rfl, hm2, hm2', HM⟩ := hcut
    have H3' : Hid (1 ≤ n ∧ n ≤ 4611686018427386880 ∧ m1 ≤ 1024 ∧ (d1.take m1).length = m1 ∧ (d2.take m2).length = m2 ∧ m1 ≤ q1) := by
      have h := H2.out
      have h8 := h.2.2.2.2.2.2.2.2.2.1
      have h9 := H0.out
      refine ⟨h.2.2.2.2.2.2.2.2.2.2.1, h.2.2.2.2.2.2.2.2.2.2.2, h.2.2.2.2.2.2.2.2.1, h8, by rw [List.length_take]; omega, ?_⟩
      rw [List.length_take] at h8
      omega
    clear H1 H2 H3
    go_wp2_with fail
    refine (stop14 F _ S3 keep wc HM.out.dk).mono ?_
    rintro e w5 ⟨p5, rfl, g5, F5, hd5, hF5⟩
    obtain ⟨pb, rfl⟩ : ∃ b, p5 = .pointer (some ⟨b, 0, none⟩) := by obtain ⟨b, _, _, _, h, _⟩ := hd5; exact ⟨b, h⟩
    obtain ⟨j, R, hj1, hj2, hsc⟩ : ∃ j R, m1 ≤ j ∧ j ≤ m1 + m2 ∧ Frame.Sc (S3.stop keep).log ((seqE n ((d1.take m1 ++ d2.take m2).take j)).map frE) R := by
      have h := HM.out
      have hk := h.dk.ok.sure
      have hc : (logOf n (d1.take m1)).length ≤ S3.keeps keep ∧ S3.keeps keep ≤ (logOf n (d1.take m1 ++ d2.take m2)).length := by
        rw [← h.log]
        unfold St.keeps
        rw [← h.sure]
        omega
      obtain ⟨j, R, q1, q2, q3⟩ := stops_plain h.ok _ hc.1 hc.2
      refine ⟨j, R, by have := H3'.out; omega, by have := H3'.out; omega, ?_⟩
      simp only [St.stop, h.log]
      exact q3
    have H5 : Hid (DK w5 F5 (.pointer (some ⟨pb, 0, none⟩)) (S3.stop keep) ∧ w.grownBy w5 none ∧ Frame.Sc (S3.stop keep).log ((seqE n ((d1.take m1 ++ d2.take m2).take j)).map frE) R ∧ (S3.stop keep).log.length ≤ 1048576) := ⟨hd5, grown_trans HM.out.gr g5, hsc, by have := HM.out.len; simp [St.stop]; omega⟩
    clear hd5 g5 hF5 hsc
    go_wp2_with fail
    refine (scan33 F5 _ (S3.stop keep) _ R w5 H5.out.1 H5.out.2.2.1 (by have := H5.out.2.2.2; omega)).mono ?_
    rintro e w6 ⟨g6, hE⟩
    have hes := ents_seq ((d1.take m1 ++ d2.take m2).take j) n 0 (HM.out.ok.take j) (.inl (by decide))
    rw [hes] at hE
    rcases hE with ⟨_, vv, rfl, hE⟩ | ⟨h, _⟩
    rotate_left
    · cases h
    obtain ⟨ea, ec, eE⟩ := LRow.shape hE
    have hnl : (seqE n ((d1.take m1 ++ d2.take m2).take j)).length = j := by rw [seq_len, List.length_take, List.length_append, H3'.out.2.2.2.1, H3'.out.2.2.2.2.1]; omega
    rw [hnl] at eE
    subst eE
    obtain ⟨x1, hx1⟩ : ∃ x, (Frame.flat ((seqE n ((d1.take m1 ++ d2.take m2).take j)).map frE)).length = x := ⟨_, rfl⟩
    obtain ⟨x2, hx2⟩ : ∃ x, (S3.stop keep).log.length = x := ⟨_, rfl⟩
    obtain ⟨x3, hx3⟩ : ∃ x, Frame.ends R = x := ⟨_, rfl⟩
    rw [hx1, hx2, hx3]
    have H6 : Hid (w.grownBy w6 none ∧ Ents w6 (.slice ea j ec) (seqE n ((d1.take m1 ++ d2.take m2).take j)) ∧ (seqE n ((d1.take m1 ++ d2.take m2).take j)).length = j) := ⟨grown_trans H5.out.2.1 g6, hE.ents, hnl⟩
    have hecap : j ≤ ec := by
      obtain ⟨vs, hr, _⟩ := hE
      rcases hr.2 with ⟨he, hz⟩ | ⟨g, cp, cur, he, _, _, hq, _⟩
      · simp at he; omega
      · simp at he
        obtain ⟨_, hjq, rfl⟩ := he
        rw [← hjq] at hq
        exact hq
    clear hE hes g6 hx1 hx2 hx3 hnl H5 HM
    go_upto_region 15 with fail
    obtain ⟨w7, hw7, H7⟩ := al1 w6 #[.slice ea j ec, .int .i64 x1, .int .i64 x2, .int .i64 x3] 38
    rw [hw7]
    clear hw7
    obtain ⟨tb, htb⟩ : ∃ x, w6.heap.size = x := ⟨_, rfl⟩
    rw [htb] at H7 ⊢
    have HT : Hid (w.grownBy w7 none ∧ Blk w7 tb 38 #[.slice ea j ec, .int .i64 x1, .int .i64 x2, .int .i64 x3] ∧ Ents w7 (.slice ea j ec) (seqE n ((d1.take m1 ++ d2.take m2).take j))) := ⟨grown_trans H6.out.1 H7.out.2.1, H7.out.1, H6.out.2.1.grown H7.out.2.1⟩
    have c0 := H7.out.1.cell 0
    simp at c0
    have z1 : ((j : Int) < (m1 : Int)) = False := eq_false (by omega)
    have z2 : (j < m1) = False := eq_false (by omega)
    obtain ⟨mm, hmm⟩ : ∃ x, m1 + m2 = x := ⟨_, rfl⟩
    have z3 : (m1 : Int) + (m2 : Int) = (mm : Int) := by omega
    have z4 : IntKind.i64.wrap (mm : Int) = (mm : Int) := by
      have := H3'.out
      unfold IntKind.wrap
      simp [IntKind.bits, IntKind.signed]
      omega
    have z5 : ((mm : Int) < (j : Int)) = False := eq_false (by omega)
    have z6 : (mm < j) = False := eq_false (by omega)
    have HJ : Hid (m1 ≤ j ∧ j ≤ m1 + m2 ∧ m1 + m2 = mm) := ⟨hj1, hj2, hmm⟩
    clear htb H7 hmm
    go_wp2_with fail
    have hj3 : j ≤ 2048 := by have := HJ.out; have := H3'.out; omega
    go_loopw [14] (fun i wr => ∃ k : Nat, i = .int .i64 (k : Int) ∧ k ≤ j ∧ Hid (w7.grownBy wr none)) (fun i _ => j - (intOf i).toNat)
    case atStart => exact ⟨0, rfl, Nat.zero_le _, grown_refl _ _⟩
    case round =>
      obtain ⟨k, rfl, hk, HG⟩ := hrel
      clear c0
      have c0 := (HT.out.2.1.grown HG.out (by simp)).cell 0
      simp at c0
      by_cases hlt : k < j
      · have i0 : (0 : Int) ≤ (k : Int) := by omega
        have i1 : (k : Int) < (j : Int) := by omega
        have hkE : k < (seqE n ((d1.take m1 ++ d2.take m2).take j)).length := by rw [H6.out.2.2]; exact hlt
        obtain ⟨gb, off, o1, o2, o3, rfl, hat, hops⟩ := ents_at' HT.out.2.2 k hkE
        have hkc : k < ((d1.take m1 ++ d2.take m2).take j).length := by rw [← seq_len _ n]; exact hkE
        rw [seq_at _ n k hkE hkc] at hat hops
        obtain ⟨c, hc⟩ : ∃ c, ((d1.take m1 ++ d2.take m2).take j)[k] = c := ⟨_, rfl⟩
        rw [hc] at hat hops
        have HE : Hid (EntAt w7 gb (off + k * 7) o1 o2 o3 (n + (k : Int), c) ∧ Ops w7 (.slice o1 o2 o3) c.ops) := ⟨hat, hops⟩
        have hsrc : (k < m1 ∧ ∃ h : k < d1.length, d1[k] = c) ∨ (m1 ≤ k ∧ ∃ h : k - m1 < d2.length, d2[k - m1] = c) := by
          rw [List.getElem_take] at hc
          rcases Nat.lt_or_ge k m1 with h | h
          · have h1 : k < (d1.take m1).length := by rw [H3'.out.2.2.2.1]; exact h
            rw [List.getElem_append_left h1, List.getElem_take] at hc
            exact .inl ⟨h, _, hc⟩
          · have h1 : (d1.take m1).length ≤ k := by rw [H3'.out.2.2.2.1]; exact h
            rw [List.getElem_append_right h1, List.getElem_take] at hc
            simp only [H3'.out.2.2.2.1] at hc
            exact .inr ⟨h, _, hc⟩
        have HSRC : Hid _ := hsrc
        clear hat hops hc hsrc
        go_upto_if 85 with fail
        have HLT : Hid (k < j) := hlt
        obtain ⟨w8, hw8, H8⟩ := al1 wr #[.int .i64 0, .int .i64 0, .int .i64 0, .int .i64 0, .int .i64 0, .slice none 0 0] 32
        rw [hw8]
        clear hw8
        obtain ⟨cb, hcb⟩ : ∃ x, wr.heap.size = x := ⟨_, rfl⟩
        have HCB : Hid (wr.heap.size = cb) := hcb
        rw [hcb] at H8 ⊢
        clear hcb
        have HW8 : Hid (w.grownBy w8 none ∧ w7.grownBy w8 none) := ⟨grown_trans HT.out.1 (grown_trans HG.out H8.out.2.1), grown_trans HG.out H8.out.2.1⟩
        have hfr := free7 H8.out.1
        obtain ⟨f0, f1, f2, f3, f4, f5, _⟩ := hfr
        have g0 := H8.out.1.cell 0
        have g1 := H8.out.1.cell 1
        have g2 := H8.out.1.cell 2
        have g3 := H8.out.1.cell 3
        have g4 := H8.out.1.cell 4
        have g5 := H8.out.1.cell 5
        simp at g0 g1 g2 g3 g4 g5
        go_cut [15] (fun x wc => ∃ (s1 : Option Addr) (s2 s3 : Nat), x = .pointer (some ⟨cb, 0, none⟩) ∧ Hid (Blk wc cb 32 (cmdA (.slice s1 s2 s3) c) ∧ Ops wc (.slice s1 s2 s3) c.ops ∧ w7.grownBy wc none))
        case first =>
          rcases HSRC.out with ⟨hs, hd, he⟩ | ⟨hs, hd, he⟩
          · obtain ⟨b, of, s1, s2, s3, rfl, hat, hops, hin⟩ := cmds_at HC1.out k hd
            rw [he] at hat hops
            obtain ⟨e0, e1, e2, e3, e4, e5⟩ := hat.grown HW8.out.1
            have j1 : (k : Int) < (q1 : Int) := by have := H0.out.1; omega
            have HO : Hid (Ops w (.slice s1 s2 s3) c.ops) := hops
            first | rw [show decide ((k : Int) < (m1 : Int)) = true from decide_eq_true (by omega)] | rw [show decide (k < m1) = true from decide_eq_true hs]
            clear hat hops hin he hd HSRC
            go_wp2_with fail
            obtain ⟨w9, hw9, H9⟩ := set6 H8.out.1 (.int .i64 c.kind) (.int .i64 c.token) (.int .i64 c.session) (.int .i64 c.number) (.int .i64 c.mark) (.slice s1 s2 s3)
            rw [hw9]
            have gg := grown_new H8.out.2.1 H9.out.2 (fun x hx => by simp at hx; have := HCB.out; omega)
            go_meet
            case rel => exact ⟨s1, s2, s3, rfl, H9.out.1, (HO.out.grown HT.out.1).grown (grown_trans HG.out gg), grown_trans HG.out gg⟩
          · obtain ⟨b, of, s1, s2, s3, rfl, hat, hops, hin⟩ := cmds_at HC2.out (k - m1) hd
            rw [he] at hat hops
            obtain ⟨kk, hkk⟩ : ∃ x, k - m1 = x := ⟨_, rfl⟩
            rw [hkk] at hat
            obtain ⟨e0, e1, e2, e3, e4, e5⟩ := hat.grown HW8.out.1
            have j0 : (0 : Int) ≤ (kk : Int) := by omega
            have j1 : (kk : Int) < (q2 : Int) := by have := H0.out.2.1; omega
            have j2 : (k : Int) - (m1 : Int) = (kk : Int) := by omega
            have j3 : IntKind.i64.wrap (kk : Int) = (kk : Int) := by
              have := HJ.out
              have := H3'.out
              unfold IntKind.wrap
              simp [IntKind.bits, IntKind.signed]
              omega
            have HO : Hid (Ops w (.slice s1 s2 s3) c.ops) := hops
            first | rw [show decide ((k : Int) < (m1 : Int)) = false from decide_eq_false (by omega)] | rw [show decide (k < m1) = false from decide_eq_false (by omega)]
            clear hat hops hin he hd HSRC hkk
            go_wp2_with fail
            obtain ⟨w9, hw9, H9⟩ := set6 H8.out.1 (.int .i64 c.kind) (.int .i64 c.token) (.int .i64 c.session) (.int .i64 c.number) (.int .i64 c.mark) (.slice s1 s2 s3)
            rw [hw9]
            have gg := grown_new H8.out.2.1 H9.out.2 (fun x hx => by simp at hx; have := HCB.out; omega)
            go_meet
            case rel => exact ⟨s1, s2, s3, rfl, H9.out.1, (HO.out.grown HT.out.1).grown (grown_trans HG.out gg), grown_trans HG.out gg⟩
        case rest =>
          obtain ⟨s1, s2, s3, rfl, H9⟩ := hcut
          clear f0 f1 f2 f3 f4 f5 g0 g1 g2 g3 g4 g5 H8 HW8 HG c0 HSRC
          have hwn : IntKind.i64.wrap (n + (k : Int)) = n + (k : Int) := by
            have := H3'.out
            have := HJ.out
            unfold IntKind.wrap
            simp [IntKind.bits, IntKind.signed]
            omega
          have HCC : Hid (∀ y : World, wc.grownBy y none → y.cell? ⟨tb, 0, none⟩ = some (.slice (some ⟨gb, off, none⟩) j ec) ∧ EntAt y gb (off + k * 7) o1 o2 o3 (n + (k : Int), c) ∧ y.cell? ⟨cb, 0, none⟩ = some (.int .i64 c.kind) ∧ y.cell? ⟨cb, 1, none⟩ = some (.int .i64 c.token) ∧ y.cell? ⟨cb, 2, none⟩ = some (.int .i64 c.session) ∧ y.cell? ⟨cb, 3, none⟩ = some (.int .i64 c.number) ∧ y.cell? ⟨cb, 4, none⟩ = some (.int .i64 c.mark) ∧ y.cell? ⟨cb, 5, none⟩ = some (.slice s1 s2 s3)) := fun y hy => by
            have g := grown_trans H9.out.2.2 hy
            obtain ⟨h0, h1, h2, h3, h4, h5, h6⟩ := HE.out.1
            exact ⟨(HT.out.2.1.grown g (by simp)).cell 0, ⟨g.cell h0 (by simp), g.cell h1 (by simp), g.cell h2 (by simp), g.cell h3 (by simp), g.cell h4 (by simp), g.cell h5 (by simp), g.cell h6 (by simp)⟩, CB.cells (CB.grown H9.out.1 hy)⟩
          have HEW : Hid (Ops wc (.slice o1 o2 o3) c.ops) := HE.out.2.grown H9.out.2.2
          clear HE
          go_upto_region 24 with fail
          refine wp_region_noPanic ?_
          refine wp_region_hold 1000 (fun y => wc.grownBy y none) (by kernel_rfl) ?_
          have G0 : Hid (wc.grownBy wc.drew none) := grown_drew _ _
          generalize wc.drew = wd at G0 ⊢
          have J : Idx [0, 1, 2, 3, 4, 5, 6, 7, 8, 9, 10, 11, 12, 13, 14, 15, 16, 17] := trivial
          iterate 18 (refine tk J (G0.out) rfl rfl (fun wk hk => by obtain ⟨m0, ⟨n0, n1, n2, n3, n4, n5, n6⟩, m1', m2', m3', m4', m5', m6'⟩ := HCC.out wk hk; go_simp; try rfl) ?_; replace J := J.tl; try simp only [Act.put, List.setIfInBounds_toArray, List.set_cons_zero, List.set_cons_succ])
          clear J
          refine wpHold_one (i := 18) rfl (by kernel_rfl) (by rfl) (fun K hK => ?_)
          go_wp2_with fail
          refine (same16 (.slice o1 o2 o3) (.slice s1 s2 s3) c c wd (HEW.out.grown G0.out) (H9.out.2.1.grown G0.out)).mono ?_
          rintro e wd ⟨rfl, gg⟩
          rw [show decide (c = c) = true from decide_eq_true rfl]
          replace G0 : Hid (wc.grownBy wd none) := grown_trans G0.out gg
          clear gg
          go_wp2_with fail
          refine hK.out _ _ (fun _ => G0.out) ?_
          clear hK K
          try simp only [Act.put, List.setIfInBounds_toArray, List.set_cons_zero, List.set_cons_succ]
          have J : Idx [19, 20] := trivial
          iterate 2 (refine tk J (G0.out) rfl rfl (fun wk hk => by obtain ⟨m0, ⟨n0, n1, n2, n3, n4, n5, n6⟩, m1', m2', m3', m4', m5', m6'⟩ := HCC.out wk hk; go_simp; try rfl) ?_; replace J := J.tl; try simp only [Act.put, List.setIfInBounds_toArray, List.set_cons_zero, List.set_cons_succ])
          clear J
          refine wpHold_done (by kernel_rfl) ?_
          refine (‹∀ (a : Act) (w : World), Code.wp Tryz.prog _ _ a w → _› _ _ ?_)
          have HGW : Hid (w7.grownBy wd none) := grown_trans H9.out.2.2 G0.out
          clear HCC HEW H9 hwn
          go_wp2_with fail
          go_roundw
          case rel => exact ⟨k + 1, by go_num, HLT.out, HGW.out⟩
          case measure => have := HLT.out; simp [intOf]; omega
      · have e : k = j := by omega
        subst e
        go_wp2_with fail
        refine (known14 wr).mono ?_
        rintro e w9 ⟨rfl, g9⟩
        have HG9 : Hid (w.grownBy w9 none) := grown_trans HT.out.1 (grown_trans HG.out g9)
        clear g9
        go_wp2_with fail
        go_ret
        exact ⟨rfl, HG9.out⟩
end Go.Proofs.YtadhfejefpildaaGreat
