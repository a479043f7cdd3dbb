/-
  A call's form: the list of its ops' forms, or it is given up.
-/
import Derived.Test.YtfocmbnhkldnfaaGreatDoorDopAll
import Derived.Test.YtfocmbnhkldnfaaGreatDoorE
namespace Go.Proofs.YtfocmbnhkldnfaaGreatDoor
open Go.RowKit Disk
open Names (Str)

theorem opForm_len {o : POp} (h : mayOp o = true) : (opForm o).length ≤ 1200 := by
  have hm := may_of h
  have hk := hm.kind
  have h0 := Wire.numForm_len10 o.kind.toNat (by omega)
  have h1 := bytesForm_len o.table (by have := tab_len hm.tab; omega)
  have h2 := bytesForm_len o.key (by have := hm.key; omega)
  have h3 := bytesForm_len o.value hm.value
  have h4 := bytesForm_len o.old hm.old
  have h5 := bytesForm_len o.to (by have := hm.to; omega)
  have h6 : (flagForm o.has).length = 1 := by cases o.has <;> rfl
  unfold opForm frontForm tailForm
  split
  · simp; omega
  · split
    · simp; omega
    · split
      · rename_i h5'
        have := hm.most h5'
        have h7 := Wire.numForm_len10 o.most.toNat (by omega)
        simp; omega
      · simp; omega
theorem forms_len : ∀ {l : List POp}, l.all mayOp = true → (l.flatMap opForm).length ≤ 1200 * l.length
  | [], _ => by simp
  | o :: l, h => by
    simp only [List.all_cons, Bool.and_eq_true] at h
    have := opForm_len h.1
    have := forms_len h.2
    rw [List.flatMap_cons, List.length_append, List.length_cons]; omega
theorem take_snoc {α : Type} (l : List α) (k : Nat) (hk : k < l.length) : l.take (k + 1) = l.take k ++ [l[k]] := by simp
theorem flatMap_take {α : Type} (f : α → Bs) (l : List α) (k : Nat) (hk : k < l.length) : (l.take (k + 1)).flatMap f = (l.take k).flatMap f ++ f l[k] := by
  rw [take_snoc l k hk]; simp only [List.flatMap_append, List.flatMap_cons, List.flatMap_nil, List.append_nil]
theorem all_take {α : Type} (p : α → Bool) (l : List α) (k : Nat) (hk : k < l.length) : (l.take (k + 1)).all p = ((l.take k).all p && p l[k]) := by
  rw [take_snoc l k hk]; simp only [List.all_append, List.all_cons, List.all_nil, Bool.and_true]
theorem all_false {α : Type} (p : α → Bool) (l : List α) (k : Nat) (hk : k < l.length) (h : p l[k] = false) : l.all p = false := by
  rw [List.all_eq_false]; exact ⟨l[k], List.getElem_mem hk, by simp [h]⟩

theorem ne81 (w : World) : (binOp .eql 81 (.func (.func 76) #[] #[]) .nilFunc).run Tryz.prog w = .ok (.bool false) w := by kernel_rfl

set_option maxRecDepth 100000 in
set_option maxHeartbeats 4000000 in
theorem put119 (v : Value) (l : List POp) (w : World) (hv : Ops w v l) (hz : l.length ≤ 16) :
    Calls Tryz.prog 119 #[v, .func (.func 76) #[] #[]] w fun e w' => (l.all mayOp = true ∧ ∃ u, e = .returned (.tuple #[u, .int .i64 0]) ∧ Own w' w.heap.size u (callForm l) ∧ w.grownBy w' none) ∨ (l.all mayOp = false ∧ e = Pan 2 ∧ w.grownBy w' none) := by
  obtain ⟨ao, n, cap, rfl, hn, hn2, HV⟩ := ops_open hv
  have HN : Hid (l.length = n) := hn
  have q1 := ne81
  have hn16 : n ≤ 16 := by omega
  have wu : IntKind.u64.wrap (n : Int) = (n : Int) := by rw [IntKind.wrap_u64]; omega
  clear hv hn hn2 hz
  go_enter Tryz.func119, Tryz.ntmps119
  go_wp2_with (go_at_call 103; refine (Wire.number9_int _ n rfl (by omega) w).mono ?_)
  rintro e w1 ⟨r1, rfl, o1, g1⟩
  have S1 : Hid (Own w1 w.heap.size r1 (Wire.numForm n) ∧ w.grownBy w1 none) := ⟨o1, g1⟩
  clear o1 g1
  go_wp2_with fail
  go_loopw [6, 17] (fun x i wr => ∃ k : Nat, k ≤ n ∧ i = .int .i64 k ∧ Own wr w.heap.size x (Wire.numForm n ++ (l.take k).flatMap opForm) ∧ w.grownBy wr none ∧ (l.take k).all mayOp = true) (fun _ i _ => n - (intOf i).toNat)
  case atStart => exact ⟨0, by omega, rfl, by simpa using S1.out.1, S1.out.2, by simp⟩
  case round =>
    obtain ⟨k, hk, rfl, hown, hg, hall⟩ := hrel
    by_cases hlt : k < n
    · have hkl : k < l.length := by rw [HN.out]; omega
      obtain ⟨b1, off, kk, x, ol, t, rfl, h1, s1⟩ := ops_at (HV.out.grown hg) k hkl
      have HE : Hid _ := flatMap_take opForm l k hkl
      have HA : Hid _ := all_take mayOp l k hkl
      have HF : Hid _ := all_false mayOp l k hkl
      have HL : Hid ((Wire.numForm n ++ (l.take k).flatMap opForm).length ≤ 20000) := by
        have h1 := forms_len hall
        have h2 := Wire.numForm_len10 n (by omega)
        rw [List.length_take] at h1
        unfold Hid
        rw [List.length_append]; omega
      obtain ⟨o, ho⟩ : ∃ o, o = l[k] := ⟨_, rfl⟩
      rw [← ho] at h1 s1 HE HA HF
      obtain ⟨_, _, _, _, _, _, _, _, rfl, rfl, rfl, rfl⟩ := s1.shapes
      obtain ⟨a0, a1, a2, a3, a4, a5, a6, a7⟩ := h1
      unfold Str at a1
      have i1 : (0 : Int) ≤ (k : Int) := by omega
      have i2 : (k : Int) < (n : Int) := by omega
      have HO : Hid (Own wr w.heap.size u6 (Wire.numForm n ++ (l.take k).flatMap opForm) ∧ w.grownBy wr none ∧ (l.take k).all mayOp = true) := ⟨hown, hg, hall⟩
      have HS : Hid _ := s1
      clear ho hown hg hall s1 hkl
      go_wp2_with (go_at_call 76; refine (opform76 _ _ _ _ o _ (OpSeg.grown HS.out (World.grownBy_alloc _ _ none))).mono ?_)
      rintro e w2 (⟨hok, u, rfl, ho2, hg2⟩ | ⟨hno, rfl, hg2⟩)
      · have S3 : Hid (Own w2 w.heap.size u6 (Wire.numForm n ++ (l.take k).flatMap opForm) ∧ w.grownBy w2 none ∧ Own w2 w.heap.size u (opForm o)) := by
          have g3 : wr.grownBy w2 none := grown_trans (World.grownBy_alloc _ _ none) hg2
          refine ⟨HO.out.1.grown g3, grown_trans HO.out.2.1 g3, ho2.mono ?_⟩
          have := HO.out.2.1.size
          simp; omega
        have HB : Hid ((Wire.numForm n ++ (l.take k).flatMap opForm).length + (opForm o).length ≤ 140737488355328) := by
          have := opForm_len hok
          have := HL.out
          unfold Hid; omega
        have HK : Hid (mayOp o = true) := hok
        clear ho2 hg2 hok
        go_wp2_with (at_builtin; refine app22 _ rfl (.tmp 21) (.tmp 24) rfl w.heap.size _ _ _ _ rfl rfl S3.out.1 S3.out.2.2.seg HB.out S3.out.2.1.size ?_; intro v3 w3 o3 g3 l3)
        have S4 : Hid (Own w3 w.heap.size v3 (Wire.numForm n ++ (l.take (k + 1)).flatMap opForm) ∧ w.grownBy w3 none) := by
          refine ⟨by rw [HE.out, ← List.append_assoc]; exact o3, grown_new S3.out.2.1 g3 (fun x hx => (S3.out.1.lt x hx).1)⟩
        clear o3 g3 l3 S3
        go_wp2_with fail
        go_roundw
        case rel => exact ⟨k + 1, by omega, by go_num, S4.out.1, S4.out.2, by rw [HA.out, HO.out.2.2, HK.out]; rfl⟩
        case measure => simp [intOf]; omega
      · unfold Pan
        go_wp2_with fail
        exact ⟨rfl, .inr ⟨HF.out hno, rfl, grown_trans HO.out.2.1 (grown_trans (World.grownBy_alloc _ _ none) hg2)⟩⟩
    · have e : k = n := by omega
      subst e
      rw [List.take_of_length_le (by rw [HN.out]; omega)] at hown hall
      have S2 : Hid (Own wr w.heap.size u6 (callForm l) ∧ w.grownBy wr none ∧ l.all mayOp = true) := ⟨by unfold callForm; rw [HN.out]; exact hown, hg, hall⟩
      clear hown hg hall
      go_wp2_with fail
      go_ret2
      exact .inl ⟨S2.out.2.2, _, rfl, S2.out.1, S2.out.2.1⟩

set_option maxRecDepth 100000 in
set_option maxHeartbeats 1000000 in
theorem forms75 (v : Value) (l : List POp) (w : World) (hv : Ops w v l) (hz : l.length ≤ 16) :
    Calls Tryz.prog 75 #[v, .func (.func 76) #[] #[]] w (FormOr (l.all mayOp) (callForm l) 2 w) := by
  have HV : Hid (Ops w v l) := hv
  go_enter Tryz.func75, Tryz.ntmps75
  go_wp2_with (go_at_call 119; refine (put119 _ l _ HV.out hz).mono ?_)
  rintro e w1 (⟨hok, u, rfl, ho, hg⟩ | ⟨hno, rfl, hg⟩)
  · have HO : Hid (Own w1 w.heap.size u (callForm l) ∧ w.grownBy w1 none ∧ l.all mayOp = true) := ⟨ho, hg, hok⟩
    clear ho hg hok
    go_wp2_with (go_at_call 55; refine (sure_yes _ _).mono ?_; rintro e w2 ⟨rfl, hw2⟩; rw [hw2]; clear hw2)
    go_ret
    exact .inl ⟨HO.out.2.2, _, rfl, HO.out.1, HO.out.2.1⟩
  · have HO : Hid (l.all mayOp = false ∧ w.grownBy w1 none) := ⟨hno, hg⟩
    clear hno hg
    unfold Pan
    go_wp2_with fail
    exact ⟨rfl, .inr ⟨HO.out.1, rfl, HO.out.2⟩⟩

/-- A call's form, or an error. -/
def FormE (ok : Bool) (F : Bs) (w : World) (e : Ending) (w' : World) : Prop := (ok = true ∧ ∃ u, e = .returned (.tuple #[u, .int .i64 0]) ∧ Own w' w.heap.size u F ∧ w.grownBy w' none) ∨ (ok = false ∧ e = .returned (.tuple #[.slice none 0 0, .int .i64 2]) ∧ w.grownBy w' none)

set_option maxRecDepth 100000 in
set_option maxHeartbeats 1000000 in
theorem form74 (b : Nat) (v : Value) (l : List POp) (w : World) (hb : w.cell? ⟨b, 0, none⟩ = some v) (hv : Ops w v l) :
    Calls Tryz.prog 74 #[.pointer (some ⟨b, 0, none⟩)] w (Within w (fun u w' => mayCall l = true ∧ Own w' w.heap.size u (callForm l)) (fun c _ => mayCall l = false ∧ c = 2)) := by
  obtain ⟨ao, n, cap, rfl, hn, hn2, HV⟩ := ops_open hv
  have HN : Hid (l.length = n) := hn
  clear hv hn
  by_cases h1 : 1 ≤ n
  · by_cases h16 : n ≤ 16
    · have i1 : (1 : Int) ≤ (n : Int) := by omega
      have i2 : (n : Int) ≤ 16 := by omega
      have HM : Hid (mayCall l = l.all mayOp) := by unfold mayCall; rw [HN.out]; simp [h1, h16, Hid]
      go_enter Tryz.func74, Tryz.ntmps74
      go_wp2_with (first | (go_at_call 55; refine (sure_yes _ _).mono ?_; rintro e w2 ⟨rfl, hw2⟩; rw [hw2]; clear hw2) | (go_at_call 75; refine (forms75 _ l _ HV.out (by rw [HN.out]; omega)).mono ?_))
      rintro e w1 (⟨hok, u, rfl, ho, hg⟩ | ⟨hno, rfl, hg⟩)
      · have HO : Hid (Own w1 w.heap.size u (callForm l) ∧ w.grownBy w1 none ∧ l.all mayOp = true) := ⟨ho, hg, hok⟩
        clear ho hg hok
        go_wp2_with fail
        go_ret
        exact .inl ⟨_, rfl, ⟨by rw [HM.out]; exact HO.out.2.2, HO.out.1⟩, HO.out.2.1⟩
      · have HO : Hid (l.all mayOp = false ∧ w.grownBy w1 none) := ⟨hno, hg⟩
        clear hno hg
        unfold Pan
        go_wp2_with fail
        exact ⟨rfl, .inr ⟨2, rfl, ⟨by rw [HM.out]; exact HO.out.1, rfl⟩, HO.out.2⟩⟩
    · have i1 : (1 : Int) ≤ (n : Int) := by omega
      have i2 : ((n : Int) ≤ 16) = False := eq_false (by omega)
      have HM : Hid (mayCall l = false) := by unfold mayCall; rw [HN.out]; simp [h16, Hid]
      go_enter Tryz.func74, Tryz.ntmps74
      go_wp2_with (first | (go_at_call 55; refine (sure_no _ _).mono ?_; rintro e w2 ⟨rfl, hw2⟩; rw [hw2]; clear hw2; unfold Pan))
      exact ⟨rfl, .inr ⟨2, rfl, ⟨HM.out, rfl⟩, grown_refl _ _⟩⟩
  · have i1 : ((1 : Int) ≤ (n : Int)) = False := eq_false (by omega)
    have HM : Hid (mayCall l = false) := by unfold mayCall; rw [HN.out]; simp [h1, Hid]
    go_enter Tryz.func74, Tryz.ntmps74
    go_wp2_with (first | (go_at_call 55; refine (sure_no _ _).mono ?_; rintro e w2 ⟨rfl, hw2⟩; rw [hw2]; clear hw2; unfold Pan))
    exact ⟨rfl, .inr ⟨2, rfl, ⟨HM.out, rfl⟩, grown_refl _ _⟩⟩

/-- A later world keeps bytes of one's own. -/
theorem own_later {w w' : World} {B b : Nat} {v : Value} {L : Bs} (h : Own w B v L) (hl : Later b w w') : Own w' B v L := by
  obtain ⟨x, hx, hg⟩ := hl
  exact h.same fun k hk => hg.block k (h.lt k hk).2 (fun e => h.other hx (by decide) (by rw [hk, e]))

set_option maxRecDepth 100000 in
set_option maxHeartbeats 1000000 in
theorem form38 (v : Value) (l : List POp) (w : World) (hv : Ops w v l) :
    Calls Tryz.prog 38 #[.agg #[v]] w (FormE (mayCall l) (callForm l) w) := by
  have HV : Hid (Ops w v l) := hv
  obtain ⟨ao, cap, e⟩ := hv.shape
  obtain ⟨n, hn⟩ : ∃ n, n = l.length := ⟨_, rfl⟩
  rw [← hn] at e
  subst e
  clear hv hn
  have hmf : ∀ (fn : Fn) (first cap : Array Value) (w : World), (Instr.makeFunc fn first cap).run Tryz.prog w = .ok (.func fn first cap) w := fun _ _ _ _ => rfl
  have hin : Calls Tryz.prog 74 #[.pointer (some ⟨w.heap.size, 0, none⟩)] ((w.alloc (.cells #[.slice ao n cap] 24)).alloc (.cells #[.int .i64 0] 30)) _ := form74 w.heap.size (.slice ao n cap) l _ (by simp [go_sem]) (HV.out.grown (grown_trans (World.grownBy_alloc _ _ none) (World.grownBy_alloc _ _ none)))
  have HF : Hid _ := face57_74 _ _ _ _ hin
  clear hin
  go_enter Tryz.func38, Tryz.ntmps38
  go_wp2_with (go_at_call 57; refine Calls.mono HF.out ?_)
  rintro e w1 ⟨(⟨u, w2, rfl, ⟨hm, ho⟩, hl⟩ | ⟨c, w2, rfl, ⟨hm, rfl⟩, hl⟩), hg⟩
  · have HO : Hid (mayCall l = true ∧ Own w1 w.heap.size u (callForm l) ∧ w.grownBy w1 none) := ⟨hm, own_later (ho.mono (B' := w.heap.size) (by simp; omega)) hl, grown_trans (World.grownBy_alloc _ _ none) hg⟩
    clear hm ho hl hg HF
    go_wp2_with fail
    go_ret2
    exact .inl ⟨HO.out.1, _, rfl, HO.out.2.1, HO.out.2.2⟩
  · have HO : Hid (mayCall l = false ∧ w.grownBy w1 none) := ⟨hm, grown_trans (World.grownBy_alloc _ _ none) hg⟩
    clear hm hl hg HF
    go_wp2_with fail
    go_ret2
    exact .inr ⟨HO.out.1, rfl, HO.out.2⟩
end Go.Proofs.YtfocmbnhkldnfaaGreatDoor
