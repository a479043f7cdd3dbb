/-
  Calls as texts, there and back, on plain lists: words joined and split, what they say; no form is the beginning of another one.
-/
import Derived.Test.YtfocmbnhkldnfaaGreatDoorPa
import Derived.Lib.AtoiAllCases
namespace Go.Proofs.YtfocmbnhkldnfaaGreatDoor
open Names (Str)

theorem pre_no {c : UInt8} {s x r : List UInt8} (hx : x ≠ []) (h : c ∉ x) : (c :: s).isPrefixOf (x ++ r) = false := by
  cases x with
  | nil => exact absurd rfl hx
  | cons a y =>
    have : c ≠ a := fun e => h (by simp [e])
    simp [List.isPrefixOf, this]
theorem index_hit {c : UInt8} {s x r : List UInt8} (h : c ∉ x) : Lib.index (x ++ (c :: s ++ r)) (c :: s) = x.length := by
  refine Lib.index_first (by simp) ?_ ?_
  · unfold Lib.occAt
    rw [List.drop_left]
    simp [List.isPrefixOf_iff_prefix]
  · intro j hj
    unfold Lib.occAt
    rw [List.drop_append_of_le_length (by omega)]
    refine pre_no ?_ (fun e => h (List.mem_of_mem_drop e))
    intro e
    have := congrArg List.length e
    simp at this; omega
theorem index_no {c : UInt8} {s x : List UInt8} (h : c ∉ x) : Lib.index x (c :: s) = -1 := by
  refine Lib.index_none fun j _ => ?_
  unfold Lib.occAt
  by_cases hd : x.drop j = []
  · rw [hd]; rfl
  · have := pre_no (s := s) (r := []) hd (fun e => h (List.mem_of_mem_drop e))
    rwa [List.append_nil] at this
theorem join_one (x sep : List UInt8) : Lib.join [x] sep = x := by simp [Lib.join, List.intercalate]
theorem join_two (x y sep : List UInt8) (L : List (List UInt8)) : Lib.join (x :: y :: L) sep = x ++ (sep ++ Lib.join (y :: L) sep) := by simp [Lib.join, List.intercalate]
theorem count_join {c : UInt8} {s : List UInt8} : ∀ (L : List (List UInt8)) (fuel : Nat), L ≠ [] → L.length ≤ fuel → (∀ x ∈ L, c ∉ x) → Lib.countFrom (c :: s) fuel (Lib.join L (c :: s)) = L.length - 1
  | [], _, h, _, _ => absurd rfl h
  | [x], fuel, _, hf, hx => by
    obtain ⟨f, rfl⟩ : ∃ f, fuel = f + 1 := ⟨fuel - 1, by simp at hf; omega⟩
    rw [join_one]
    unfold Lib.countFrom
    rw [index_no (hx x (by simp))]; rfl
  | x :: y :: L, fuel, _, hf, hx => by
    obtain ⟨f, rfl⟩ : ∃ f, fuel = f + 1 := ⟨fuel - 1, by simp at hf; omega⟩
    rw [join_two]
    unfold Lib.countFrom
    rw [index_hit (hx x (by simp))]
    have e : ((x.length : Int) == -1) = false := by rw [beq_eq_false_iff_ne]; omega
    rw [e]
    have d : (x ++ (c :: s ++ Lib.join (y :: L) (c :: s))).drop ((x.length : Int).toNat + (c :: s).length) = Lib.join (y :: L) (c :: s) := by
      rw [show ((x.length : Int).toNat + (c :: s).length) = (x ++ (c :: s)).length by simp, ← List.append_assoc, List.drop_left]
    rw [d, count_join (y :: L) f (by simp) (by simp at hf ⊢; omega) (fun z hz => hx z (by simp at hz ⊢; exact Or.inr hz))]
    simp; omega
theorem split_at {c : UInt8} {s : List UInt8} : ∀ (L : List (List UInt8)), L ≠ [] → (∀ x ∈ L, c ∉ x) → Lib.splitK (c :: s) 0 (L.length - 1) (Lib.join L (c :: s)) = L
  | [], h, _ => absurd rfl h
  | [x], _, _ => by rw [join_one]; rfl
  | x :: y :: L, _, hx => by
    rw [join_two, show (x :: y :: L).length - 1 = ((y :: L).length - 1) + 1 by simp]
    unfold Lib.splitK
    rw [index_hit (hx x (by simp))]
    have e : ((x.length : Int) == -1) = false := by rw [beq_eq_false_iff_ne]; omega
    rw [e]
    have d : (x ++ (c :: s ++ Lib.join (y :: L) (c :: s))).drop ((x.length : Int).toNat + (c :: s).length) = Lib.join (y :: L) (c :: s) := by
      rw [show ((x.length : Int).toNat + (c :: s).length) = (x ++ (c :: s)).length by simp, ← List.append_assoc, List.drop_left]
    rw [d, split_at (y :: L) (by simp) (fun z hz => hx z (by simp at hz ⊢; exact Or.inr hz))]
    simp
theorem join_long {c : UInt8} {s : List UInt8} : ∀ (L : List (List UInt8)), L.length ≤ (Lib.join L (c :: s)).length + 1
  | [] => by simp
  | [x] => by simp
  | x :: y :: L => by
    have := join_long (c := c) (s := s) (y :: L)
    rw [join_two]
    simp at this ⊢; omega
theorem split_join {c : UInt8} {s : List UInt8} {L : List (List UInt8)} (h : L ≠ []) (hx : ∀ x ∈ L, c ∉ x) : Lib.split (Lib.join L (c :: s)) (c :: s) = L := by
  unfold Lib.split Lib.count
  rw [count_join L _ h (join_long L) hx, split_at L h hx]

theorem dec_one {n : Nat} (h : n < 10) : Lib.decDigits n = [UInt8.ofNat (48 + n)] := by rw [Lib.decDigits, dif_pos h]
theorem dec_two {n : Nat} (h : 10 ≤ n) (h' : n < 100) : Lib.decDigits n = [UInt8.ofNat (48 + n / 10), UInt8.ofNat (48 + n % 10)] := by
  rw [Lib.decDigits, dif_neg (by omega), dec_one (by omega)]; rfl
theorem dig_toNat {k : Nat} (h : k < 10) : (UInt8.ofNat (48 + k)).toNat = 48 + k := by
  rw [UInt8.toNat_ofNat']; omega
theorem atoi_dec {n : Nat} (h : n < 100) : Lib.atoiAll (Lib.decDigits n) = .ok (n : Int) := by
  by_cases h1 : n < 10
  · rw [dec_one h1, Lib.atoiAll_plain _ _ (by rw [dig_toNat h1]; omega) (by rw [dig_toNat h1]; omega)]
    simp only [Lib.parseMag, Lib.parseUint10, dig_toNat h1]
    rw [if_neg (by simp), if_pos (by omega), if_neg (by omega), if_neg (by omega)]
    simp only [Lib.signless]
    rw [if_neg (by omega)]
    simp
  · have ha : n / 10 < 10 := by omega
    have hb : n % 10 < 10 := by omega
    rw [dec_two (by omega) h, Lib.atoiAll_plain _ _ (by rw [dig_toNat ha]; omega) (by rw [dig_toNat ha]; omega)]
    simp only [Lib.parseMag, Lib.parseUint10, dig_toNat ha, dig_toNat hb]
    rw [if_neg (by simp), if_pos (by omega), if_neg (by omega), if_neg (by omega), if_pos (by omega), if_neg (by omega), if_neg (by omega)]
    simp only [Lib.signless]
    rw [if_neg (by omega)]
    simp; omega
theorem itoa_dec (n : Nat) : Lib.itoa (n : Int) = Lib.decDigits n := by unfold Lib.itoa; rw [if_neg (by omega)]; rfl
theorem dec_in {n : Nat} (h : n < 100) : (Lib.decDigits n).length ≤ 2 ∧ ∀ x ∈ Lib.decDigits n, 48 ≤ x.toNat ∧ x.toNat ≤ 57 := by
  by_cases h1 : n < 10
  · rw [dec_one h1]
    refine ⟨by simp, fun x hx => ?_⟩
    rw [List.mem_singleton] at hx; subst hx; rw [dig_toNat h1]; omega
  · rw [dec_two (by omega) h]
    refine ⟨by simp, fun x hx => ?_⟩
    rw [List.mem_cons, List.mem_singleton] at hx
    rcases hx with rfl | rfl
    · rw [dig_toNat (show n / 10 < 10 by omega)]; omega
    · rw [dig_toNat (show n % 10 < 10 by omega)]; omega

/- The words. -/
theorem alnum_in {c : UInt8} (h : Names.alnum c = true) : 48 ≤ c.toNat ∧ c.toNat ≤ 122 ∧ c.toNat ≠ 59 := by
  simp [Names.alnum] at h
  omega
def Fine (x : Bs) : Prop := ∀ c ∈ x, c.toNat ≠ 32 ∧ c.toNat ≠ 59
theorem fine_tab {x : Bs} (h : Names.tabB x = true) : Fine x := by
  simp only [Names.tabB, Bool.and_eq_true, List.all_eq_true] at h
  intro c hc
  have := alnum_in (h.2 c hc)
  omega
theorem fine_esc (c : UInt8) : Fine (Names.esc c) := by
  unfold Names.esc
  split
  · rename_i h
    simp [Names.plainB] at h
    intro x hx
    simp at hx; subst hx
    omega
  · have h1 := Names.dig_nat (n := c.toNat / 16) (by have := c.toNat_lt; omega)
    have h2 := Names.dig_nat (n := c.toNat % 16) (by omega)
    intro x hx
    simp at hx
    rcases hx with rfl | rfl | rfl
    · decide
    · rw [h1]; split <;> omega
    · rw [h2]; split <;> omega
theorem fine_txt (b : Bs) : Fine (Names.txt b) := by
  unfold Names.txt
  split
  · intro c hc; simp at hc; subst hc; decide
  · intro c hc
    unfold Names.body at hc
    obtain ⟨a, _, ha⟩ := List.mem_flatMap.1 hc
    exact fine_esc a c ha
theorem fine_kind {k : Int} (h : 1 ≤ k ∧ k ≤ 5) : Fine (kindWord k) := by
  have : k = 1 ∨ k = 2 ∨ k = 3 ∨ k = 4 ∨ k = 5 := by omega
  rcases this with rfl | rfl | rfl | rfl | rfl <;> (unfold Fine; decide)
theorem fine_old (o : POp) : Fine (oldW o) := by
  unfold oldW
  split
  · intro c hc
    simp at hc
    rcases hc with rfl | hc
    · decide
    · exact fine_txt _ c hc
  · intro c hc; simp at hc; subst hc; decide
theorem fine_dec {n : Nat} (h : n < 100) : Fine (Lib.decDigits n) := fun c hc => by have := (dec_in h).2 c hc; omega
theorem fine_tail {o : POp} (h : May o) : ∀ x ∈ tailWords o, Fine x := by
  intro x hx
  unfold tailWords at hx
  split at hx
  · simp at hx; subst hx; exact fine_txt _
  · split at hx
    · simp at hx
      rcases hx with rfl | rfl
      · exact fine_old _
      · exact fine_txt _
    · split at hx
      · rename_i h5
        have := h.most h5
        simp at hx
        rcases hx with rfl | rfl
        · exact fine_txt _
        · exact fine_dec (by omega)
      · simp at hx
theorem fine_words {o : POp} (h : May o) : ∀ x ∈ opWords o, Fine x := by
  intro x hx
  unfold opWords at hx
  simp at hx
  rcases hx with rfl | rfl | rfl | hx
  · exact fine_kind h.kind
  · exact fine_tab h.tab
  · exact fine_txt _
  · exact fine_tail h x hx
theorem no32 {x : Bs} (h : Fine x) : (32 : UInt8) ∉ x := fun e => (h _ e).1 rfl
theorem no59 {x : Bs} (h : Fine x) : (59 : UInt8) ∉ x := fun e => (h _ e).2 rfl
theorem split_words {o : POp} (h : May o) : Lib.split (opTxt o) [32] = opWords o := split_join (by simp [opWords]) fun x hx => no32 (fine_words h x hx)
theorem mem_join : ∀ {L : List Bs} {sep : Bs} {c : UInt8}, c ∈ Lib.join L sep → (∃ x ∈ L, c ∈ x) ∨ c ∈ sep
  | [], sep, c, h => by simp [Lib.join, List.intercalate] at h
  | [x], sep, c, h => by rw [join_one] at h; exact Or.inl ⟨x, by simp, h⟩
  | x :: y :: L, sep, c, h => by
    rw [join_two] at h
    simp only [List.mem_append] at h
    rcases h with h | h | h
    · exact Or.inl ⟨x, by simp, h⟩
    · exact Or.inr h
    · rcases mem_join h with ⟨z, hz, hc⟩ | h
      · exact Or.inl ⟨z, by simp at hz ⊢; exact Or.inr hz, hc⟩
      · exact Or.inr h
theorem opTxt_no59 {o : POp} (h : May o) : (59 : UInt8) ∉ opTxt o := by
  intro e
  rcases mem_join e with ⟨x, hx, hc⟩ | e
  · exact no59 (fine_words h x hx) hc
  · simp at e
theorem split_call {l : List POp} (h0 : l ≠ []) (h : ∀ o ∈ l, May o) : Lib.split (callTxt l) [59, 32] = l.map opTxt :=
  split_join (by simpa using h0) fun x hx => by
    obtain ⟨o, ho, rfl⟩ := List.mem_map.1 hx
    exact opTxt_no59 (h o ho)

/- What the words say. -/
theorem wBytes_txt (b : Bs) (r : List Bs) : wBytes (Names.txt b :: r) = some (b, r) := by
  unfold wBytes wNext
  simp [Names.read_txt b]
theorem wOld_old {o : POp} (h : May o) (r : List Bs) : wOld (oldW o :: r) = some ((o.has, o.old), r) := by
  unfold wOld wNext oldW
  cases hh : o.has
  · simp [h.has hh]
  · simp [Names.read_txt o.old]
theorem wNum_dec {n : Nat} (h : n < 100) (r : List Bs) : wNum (Lib.decDigits n :: r) = some ((n : Int), r) := by
  unfold wNum wNext
  simp only [Option.bind_some]
  rw [atoi_dec h]
  simp [itoa_dec]
theorem wKinds_word {k : Int} (h : 1 ≤ k ∧ k ≤ 5) (r : List Bs) : wKinds (kindWord k :: r) = some (k.toNat, r) := by
  have : k = 1 ∨ k = 2 ∨ k = 3 ∨ k = 4 ∨ k = 5 := by omega
  rcases this with rfl | rfl | rfl | rfl | rfl <;> rfl
theorem wRest_tail {o : POp} (h : May o) : wRest o.kind.toNat o.table o.key (tailWords o) = some (o, []) := by
  have hk := h.kind
  have ek : ((o.kind.toNat : Nat) : Int) = o.kind := by omega
  unfold wRest tailWords
  by_cases h2 : o.kind = 2
  · rw [if_pos (by omega), if_pos h2, wBytes_txt]
    simp only [Option.bind_some, Option.some.injEq, Prod.mk.injEq, and_true]
    rw [ek]
    have := h.named
    rw [named, if_neg (by omega), if_pos h2] at this
    exact this.symm
  · rw [if_neg (by omega), if_neg h2]
    by_cases h4 : o.kind = 4
    · rw [if_pos (by omega), if_pos h4, wOld_old h]
      simp only [Option.bind_some]
      rw [wBytes_txt]
      simp only [Option.bind_some, Option.some.injEq, Prod.mk.injEq, and_true]
      rw [ek]
      have := h.named
      rw [named, if_neg (by omega), if_neg h2, if_pos h4] at this
      exact this.symm
    · rw [if_neg (by omega), if_neg h4]
      by_cases h5 : o.kind = 5
      · have hm := h.most h5
        rw [if_pos (by omega), if_pos h5, wBytes_txt]
        simp only [Option.bind_some]
        rw [wNum_dec (by omega)]
        simp only [Option.bind_some, Option.some.injEq, Prod.mk.injEq, and_true]
        rw [ek, show ((o.most.toNat : Nat) : Int) = o.most by omega]
        have := h.named
        rw [named, if_neg (by omega), if_neg h2, if_neg h4, if_pos h5] at this
        exact this.symm
      · rw [if_neg (by omega), if_neg h5]
        simp only [Option.some.injEq, Prod.mk.injEq, and_true]
        rw [ek]
        have := h.named
        rw [named, if_pos (by omega)] at this
        exact this.symm
theorem wOpT_txt {o : POp} (h : May o) : wOpT (opTxt o) = some o := by
  unfold wOpT
  rw [split_words h]
  show wOp (kindWord o.kind :: o.table :: Names.txt o.key :: tailWords o) = some o
  rw [wOp_of (L1 := o.table :: Names.txt o.key :: tailWords o) (L2 := Names.txt o.key :: tailWords o) (L3 := tailWords o) (wKinds_word h.kind _) rfl (wBytes_txt _ _) (wRest_tail h)]
  rfl
theorem wOps_txt : ∀ {l : List POp}, (∀ o ∈ l, May o) → wOps (l.map opTxt) = some l
  | [], _ => rfl
  | o :: l, h => by
    rw [List.map_cons, wOps, wOpT_txt (h o (by simp)), Option.bind_some, wOps_txt (fun x hx => h x (by simp [hx]))]
    rfl
theorem may_all {l : List POp} (h : mayCall l = true) : l ≠ [] ∧ l.length ≤ 16 ∧ ∀ o ∈ l, May o := by
  unfold mayCall at h
  simp only [Bool.and_eq_true, decide_eq_true_eq, List.all_eq_true] at h
  refine ⟨fun e => ?_, h.1.2, fun o ho => may_of (h.2 o ho)⟩
  rw [e] at h
  simp at h
theorem parse_txt {l : List POp} (h : chk l = 0) : pParse (callTxt l) = some l := by
  obtain ⟨h0, _, ha⟩ := may_all (chk_may h)
  unfold pParse
  rw [split_call h0 ha, wOps_txt ha]
  simp [h]

/- How long the text is. -/
theorem join_sum (sep : Bs) : ∀ (L : List Bs) (n : Nat), (L.map fun x => x.length + sep.length).sum ≤ n → (Lib.join L sep).length ≤ n
  | [], n, _ => by simp [Lib.join, List.intercalate]
  | [x], n, h => by rw [join_one]; simp at h; omega
  | x :: y :: L, n, h => by
    rw [List.map_cons, List.sum_cons] at h
    rw [join_two, List.length_append, List.length_append]
    have := join_sum sep (y :: L) (n - (x.length + sep.length)) (by omega)
    omega
theorem bytesForm_long (b : Bs) : b.length + 1 ≤ (bytesForm b).length := by
  have := Wire.numForm_pos b.length
  unfold bytesForm
  simp; omega
theorem tab_pos {L : Bs} (h : Names.tabB L = true) : 1 ≤ L.length := by
  simp [Names.tabB] at h; exact h.1.1
theorem opTxt_three {o : POp} (h : May o) : (opTxt o).length + 2 ≤ 3 * (opForm o).length := by
  have hk := h.kind
  have ht := tab_pos h.tab
  have f1 := Wire.numForm_pos o.kind.toNat
  have f2 := bytesForm_long o.table
  have f3 := bytesForm_long o.key
  have f4 := bytesForm_long o.value
  have f5 := bytesForm_long o.old
  have f6 := bytesForm_long o.to
  have f7 := Wire.numForm_pos o.most.toNat
  have f8 : 1 ≤ (flagForm o.has).length := by unfold flagForm; split <;> simp
  have t3 := Names.txt_len o.key
  have t4 := Names.txt_len o.value
  have t5 := Names.txt_len o.old
  have t6 := Names.txt_len o.to
  have e : (opForm o).length = (Wire.numForm o.kind.toNat).length + (bytesForm o.table).length + (bytesForm o.key).length + (tailForm o).length := by
    unfold opForm frontForm; simp; omega
  have e2 : (opTxt o).length ≤ (kindWord o.kind).length + o.table.length + (Names.txt o.key).length + 2 + ((tailWords o).map fun x => x.length + 1).sum := by
    unfold opTxt opWords
    generalize tailWords o = T
    have hs : ∀ (T : List Bs) (x : Bs), (Lib.join (x :: T) [32]).length ≤ x.length + (T.map fun x => x.length + 1).sum := by
      intro T
      induction T with
      | nil => intro x; rw [join_one]; simp
      | cons y T ih =>
        intro x
        have := ih y
        rw [join_two]
        simp at this ⊢; omega
    have := hs (o.table :: Names.txt o.key :: T) (kindWord o.kind)
    simp at this ⊢; omega
  have hw : (kindWord o.kind).length ≤ if o.kind = 3 then 6 else 4 := by
    have : o.kind = 1 ∨ o.kind = 2 ∨ o.kind = 3 ∨ o.kind = 4 ∨ o.kind = 5 := by omega
    rcases this with h | h | h | h | h <;> simp [h, kindWord]
  have ho : (oldW o).length ≤ 3 * o.old.length + 2 := by
    unfold oldW
    split
    · simp; omega
    · simp
  unfold tailForm at e
  unfold tailWords at e2
  by_cases h2 : o.kind = 2
  · rw [if_pos h2] at e e2
    rw [if_neg (by omega)] at hw
    simp at e2; omega
  · rw [if_neg h2] at e e2
    by_cases h4 : o.kind = 4
    · rw [if_pos h4] at e e2
      rw [if_neg (by omega)] at hw
      simp at e e2; omega
    · rw [if_neg h4] at e e2
      by_cases h5 : o.kind = 5
      · rw [if_pos h5] at e e2
        rw [if_neg (by omega)] at hw
        have hm := h.most h5
        have hd := (dec_in (n := o.most.toNat) (by omega)).1
        simp at e e2; omega
      · rw [if_neg h5] at e e2
        simp at e e2
        split at hw <;> omega
theorem sum_three : ∀ {l : List POp}, (∀ o ∈ l, May o) → ((l.map opTxt).map fun x => x.length + 2).sum ≤ 3 * (l.flatMap opForm).length
  | [], _ => by simp
  | o :: l, h => by
    have h1 := opTxt_three (h o (by simp))
    have h2 := sum_three (l := l) (fun x hx => h x (by simp [hx]))
    simp only [List.map_cons, List.sum_cons, List.flatMap_cons, List.length_append]
    omega
theorem callTxt_three {l : List POp} (h : chk l = 0) : (callTxt l).length ≤ 12288 := by
  obtain ⟨_, _, ha⟩ := may_all (chk_may h)
  have h1 := join_sum [59, 32] (l.map opTxt) _ (sum_three ha)
  have h2 : (callForm l).length ≤ 4096 := by
    unfold chk at h
    split at h
    · split at h
      · assumption
      · omega
    · omega
  have h3 : (l.flatMap opForm).length ≤ (callForm l).length := by unfold callForm; simp
  show (Lib.join (l.map opTxt) [59, 32]).length ≤ 12288
  omega
theorem parseC_txt {l : List POp} (h : chk l = 0) : parseC (callTxt l) = (l, 0) := by
  unfold parseC
  rw [if_pos (callTxt_three h), parse_txt h]

/- Bytes. -/
theorem chk_len {l : List POp} (h : chk l = 0) : (callForm l).length ≤ 4096 := by
  unfold chk at h
  split at h
  · split at h
    · assumption
    · omega
  · omega
theorem chk_cases (l : List POp) : chk l = 0 ∨ chk l = 2 ∨ chk l = 3 := by
  unfold chk
  split
  · split <;> simp
  · simp
theorem readC_form {l : List POp} (h : chk l = 0) : readC (callForm l) = (l, 0) := by
  unfold readC
  rw [if_pos (chk_len h), (pCall_iff).2 ⟨chk_may h, rfl⟩]
theorem form_ahead {l m : List POp} {M N : Bs} (h : mayCall l = true) (h' : mayCall m = true) (e : callForm l ++ M = callForm m ++ N) : l = m ∧ M = N := by
  unfold mayCall at h h'
  simp only [Bool.and_eq_true, decide_eq_true_eq] at h h'
  have h1 := pList_form (p := pOp) (f := opForm) (ok := mayOp) (fun x M hx => pOp_form hx M) (l := l) (most := 16) M h.2 h.1.2 (by decide)
  have h2 := pList_form (p := pOp) (f := opForm) (ok := mayOp) (fun x M hx => pOp_form hx M) (l := m) (most := 16) N h'.2 h'.1.2 (by decide)
  rw [show listForm opForm l = callForm l from rfl, e] at h1
  rw [show listForm opForm m = callForm m from rfl, h1] at h2
  simpa using h2
theorem form_inj {l m : List POp} (h : chk l = 0) (h' : chk m = 0) : callForm l = callForm m ↔ l = m :=
  ⟨fun e => (form_ahead (M := []) (N := []) (chk_may h) (chk_may h') (by simpa using e)).1, fun e => by rw [e]⟩
theorem txt_inj {l m : List POp} (h : chk l = 0) (h' : chk m = 0) : callTxt l = callTxt m ↔ l = m :=
  ⟨fun e => by have := parse_txt h; rw [e, parse_txt h'] at this; simpa using this.symm, fun e => by rw [e]⟩
theorem form_pos (l : List POp) : 1 ≤ (callForm l).length := by
  have := Wire.numForm_pos l.length
  unfold callForm
  simp; omega
theorem readC_less {l : List POp} (h : chk l = 0) : readC ((callForm l).take ((callForm l).length - 1)) = ([], 4) := by
  have hl := chk_len h
  have hp := form_pos l
  unfold readC
  rw [if_pos (by simp; omega)]
  cases e : pCall ((callForm l).take ((callForm l).length - 1)) with
  | none => rfl
  | some m =>
    exfalso
    obtain ⟨hm, em⟩ := pCall_iff.1 e
    have e2 : callForm m ++ (callForm l).drop ((callForm l).length - 1) = callForm l ++ [] := by rw [← em, List.take_append_drop, List.append_nil]
    obtain ⟨_, e3⟩ := form_ahead hm (chk_may h) e2
    have := congrArg List.length e3
    simp at this; omega
theorem readC_more {l : List POp} (h : chk l = 0) : readC (callForm l ++ [0]) = ([], if (callForm l).length = 4096 then 3 else 4) := by
  have hl := chk_len h
  unfold readC
  by_cases h6 : (callForm l).length = 4096
  · rw [if_neg (by simp; omega), if_pos h6]
  · rw [if_pos (by simp; omega), if_neg h6]
    cases e : pCall (callForm l ++ [0]) with
    | none => rfl
    | some m =>
      exfalso
      obtain ⟨hm, em⟩ := pCall_iff.1 e
      obtain ⟨_, e3⟩ := form_ahead (M := [0]) (N := []) (chk_may h) hm (by rw [em, List.append_nil])
      simp at e3
/- What a text says has this text. -/
theorem splitK_ne (sep : Bs) : ∀ (k : Nat) (s : Bs), Lib.splitK sep 0 k s ≠ []
  | 0, s => by simp [Lib.splitK]
  | k + 1, s => by unfold Lib.splitK; split <;> simp
theorem join_splitK (sep : Bs) : ∀ (k : Nat) (s : Bs), Lib.join (Lib.splitK sep 0 k s) sep = s
  | 0, s => by rw [Lib.splitK, join_one]
  | k + 1, s => by
    unfold Lib.splitK
    split
    · exact join_one _ _
    · rename_i h
      rcases Lib.index_spec s sep with ⟨e, _⟩ | ⟨i, e, hi, ho, _⟩
      · rw [e] at h; exact absurd rfl h
      · rw [e]
        have et : ((i : Int).toNat) = i := by omega
        rw [et, Nat.add_zero]
        obtain ⟨r, hr⟩ := List.isPrefixOf_iff_prefix.1 ho
        have ed : s.drop (i + sep.length) = r := by rw [← List.drop_drop, ← hr, List.drop_left]
        have ih := join_splitK sep k (s.drop (i + sep.length))
        obtain ⟨y, T, hy⟩ : ∃ y T, Lib.splitK sep 0 k (s.drop (i + sep.length)) = y :: T := by
          cases hc : Lib.splitK sep 0 k (s.drop (i + sep.length)) with
          | nil => exact absurd hc (splitK_ne _ _ _)
          | cons y T => exact ⟨y, T, rfl⟩
        rw [hy] at ih ⊢
        rw [join_two, ih, ed, hr, List.take_append_drop]
theorem join_split (s sep : Bs) : Lib.join (Lib.split s sep) sep = s := join_splitK sep _ s
theorem txt_read {x : Bs} (h : Names.readE x = 0) : Names.txt (Names.readL x) = x := by
  by_cases h37 : x = [37]
  · subst h37
    rw [Names.read_mark.1]; rfl
  · unfold Names.readE at h
    by_cases hb : x ≠ [] ∧ Names.body (Names.ld x) = x
    · have er : Names.readL x = Names.ld x := by unfold Names.readL; rw [if_pos ⟨h37, hb⟩]
      have en : Names.ld x ≠ [] := fun e => by
        have := hb.2
        rw [e] at this
        exact hb.1 this.symm
      rw [er]
      unfold Names.txt
      rw [if_neg en, hb.2]
    · rw [if_pos ⟨h37, hb⟩] at h; cases h
theorem wBytes_inv {L r : List Bs} {b : Bs} (h : wBytes L = some (b, r)) : L = Names.txt b :: r := by
  cases L with
  | nil => simp [wBytes, wNext] at h
  | cons x T =>
    unfold wBytes wNext at h
    simp only [Option.bind_some] at h
    split at h
    · rename_i h0
      simp at h
      obtain ⟨rfl, rfl⟩ := h
      rw [txt_read h0]
    · cases h
theorem wOld_inv {L r : List Bs} {y : Bool × Bs} {o : POp} (h : wOld L = some (y, r)) (e : y = (o.has, o.old)) : L = oldW o :: r := by
  cases L with
  | nil => simp [wOld, wNext] at h
  | cons x T =>
    unfold wOld wNext at h
    simp only [Option.bind_some] at h
    unfold oldW
    split at h
    · rename_i h0
      simp at h
      obtain ⟨rfl, rfl⟩ := h
      simp at e
      rw [e.1, h0]; rfl
    · split at h
      · rename_i c q hq
        split at h
        · rename_i hc
          split at h
          · rename_i hz
            simp at h
            obtain ⟨rfl, rfl⟩ := h
            simp at e
            rw [e.1, ← e.2, txt_read hz, hc]; rfl
          · cases h
        · cases h
      · cases h
theorem wNum_inv {L r : List Bs} {v : Int} (h : wNum L = some (v, r)) (h0 : 0 ≤ v) : L = Lib.decDigits v.toNat :: r := by
  cases L with
  | nil => simp [wNum, wNext] at h
  | cons x T =>
    unfold wNum wNext at h
    simp only [Option.bind_some] at h
    split at h
    · split at h
      · rename_i u hu hi
        simp at h
        obtain ⟨rfl, rfl⟩ := h
        rw [← hi]
        unfold Lib.itoa
        rw [if_neg (by omega)]
      · cases h
    · cases h
theorem wKinds_inv {L r : List Bs} {k : Nat} (h : wKinds L = some (k, r)) : L = kindWord k :: r := by
  cases L with
  | nil => simp [wKinds, wNext] at h
  | cons x T =>
    unfold wKinds wNext wKind at h
    simp only [Option.bind_some] at h
    split at h
    · rename_i h1; simp at h; obtain ⟨rfl, rfl⟩ := h; rw [h1]; rfl
    · split at h
      · rename_i h1; simp at h; obtain ⟨rfl, rfl⟩ := h; rw [h1]; rfl
      · split at h
        · rename_i h1; simp at h; obtain ⟨rfl, rfl⟩ := h; rw [h1]; rfl
        · split at h
          · rename_i h1; simp at h; obtain ⟨rfl, rfl⟩ := h; rw [h1]; rfl
          · split at h
            · rename_i h1; simp at h; obtain ⟨rfl, rfl⟩ := h; rw [h1]; rfl
            · cases h
theorem wRest_inv {k : Nat} {t key : Bs} {L r : List Bs} {o : POp} (h : wRest k t key L = some (o, r)) (hm : May o) : L = tailWords o ++ r ∧ o.kind = k ∧ o.table = t ∧ o.key = key := by
  unfold wRest at h
  split at h
  · rename_i hk
    cases hv : wBytes L with
    | none => rw [hv] at h; cases h
    | some v =>
      rw [hv] at h
      simp at h
      obtain ⟨rfl, rfl⟩ := h
      refine ⟨?_, rfl, rfl, rfl⟩
      rw [wBytes_inv (b := v.1) (r := v.2) hv, tailWords, if_pos (by simp; omega)]; rfl
  · rename_i h2
    split at h
    · rename_i hk
      cases hf : wOld L with
      | none => rw [hf] at h; cases h
      | some f =>
        rw [hf] at h
        simp only [Option.bind_some] at h
        cases hv : wBytes f.2 with
        | none => rw [hv] at h; cases h
        | some v =>
          rw [hv] at h
          simp at h
          obtain ⟨ho, rfl⟩ := h
          refine ⟨?_, by rw [← ho], by rw [← ho], by rw [← ho]⟩
          rw [wOld_inv (y := f.1) (r := f.2) (o := o) hf (by rw [← ho]), wBytes_inv (b := v.1) (r := v.2) hv, tailWords, if_neg (by rw [← ho]; simp; omega), if_pos (by rw [← ho]; simp; omega)]
          rw [← ho]; rfl
    · rename_i h4
      split at h
      · rename_i hk
        cases hv : wBytes L with
        | none => rw [hv] at h; cases h
        | some x =>
          rw [hv] at h
          simp only [Option.bind_some] at h
          cases hn : wNum x.2 with
          | none => rw [hn] at h; cases h
          | some m =>
            rw [hn] at h
            simp at h
            obtain ⟨ho, rfl⟩ := h
            have hmost : 1 ≤ m.1 := by
              have := hm.most (by rw [← ho]; simp; omega)
              rw [← ho] at this
              exact this.1
            refine ⟨?_, by rw [← ho], by rw [← ho], by rw [← ho]⟩
            rw [wBytes_inv (b := x.1) (r := x.2) hv, wNum_inv (v := m.1) (r := m.2) hn (by omega), tailWords, if_neg (by rw [← ho]; simp; omega), if_neg (by rw [← ho]; simp; omega), if_pos (by rw [← ho]; simp; omega)]
            rw [← ho]; rfl
      · rename_i h5
        simp at h
        obtain ⟨rfl, rfl⟩ := h
        refine ⟨?_, rfl, rfl, rfl⟩
        rw [tailWords, if_neg (by simp; omega), if_neg (by simp; omega), if_neg (by simp; omega)]; rfl
theorem wOp_inv {L : List Bs} {o : POp} (h : wOp L = some o) (hm : May o) : L = opWords o := by
  unfold wOp at h
  cases hk : wKinds L with
  | none => rw [hk] at h; cases h
  | some k =>
    rw [hk] at h
    simp only [Option.bind_some] at h
    cases ht : wNext k.2 with
    | none => rw [ht] at h; cases h
    | some t =>
      rw [ht] at h
      simp only [Option.bind_some] at h
      cases hy : wBytes t.2 with
      | none => rw [hy] at h; cases h
      | some y =>
        rw [hy] at h
        simp only [Option.bind_some] at h
        cases hr : wRest k.1 t.1 y.1 y.2 with
        | none => rw [hr] at h; cases h
        | some x =>
          rw [hr] at h
          simp only [Option.bind_some] at h
          split at h
          · rename_i hx
            simp at h hx
            subst h
            obtain ⟨e, e1, e2, e3⟩ := wRest_inv (o := x.1) (r := x.2) hr hm
            rw [wKinds_inv (k := k.1) (r := k.2) hk]
            have en : k.2 = t.1 :: t.2 := by
              cases hc : k.2 with
              | nil => rw [hc] at ht; cases ht
              | cons a T => rw [hc] at ht; simp [wNext] at ht; rw [← ht]
            rw [en, wBytes_inv (b := y.1) (r := y.2) hy, e, hx, List.append_nil]
            unfold opWords
            rw [e1, e2, e3]; rfl
          · cases h
theorem wOps_inv : ∀ {L : List Bs} {l : List POp}, wOps L = some l → (∀ o ∈ l, May o) → L = l.map opTxt
  | [], l, h, _ => by simp [wOps] at h; subst h; rfl
  | p :: L, l, h, hm => by
    unfold wOps at h
    cases ho : wOpT p with
    | none => rw [ho] at h; cases h
    | some o =>
      rw [ho] at h
      simp only [Option.bind_some] at h
      cases hr : wOps L with
      | none => rw [hr] at h; cases h
      | some r =>
        rw [hr] at h
        simp at h
        subst h
        rw [List.map_cons, ← wOps_inv hr (fun x hx => hm x (by simp [hx]))]
        have e := wOp_inv ho (hm o (by simp))
        have : p = opTxt o := by unfold opTxt; rw [← e, join_split]
        rw [this]
theorem pParse_iff {s : Bs} {l : List POp} : pParse s = some l ↔ chk l = 0 ∧ s = callTxt l := by
  constructor
  · intro h
    unfold pParse at h
    cases hw : wOps (Lib.split s [59, 32]) with
    | none => rw [hw] at h; cases h
    | some m =>
      rw [hw] at h
      simp only [Option.bind_some] at h
      split at h
      · rename_i hc
        simp at h
        subst h
        refine ⟨hc, ?_⟩
        have := wOps_inv hw (may_all (chk_may hc)).2.2
        unfold callTxt
        rw [← this, join_split]
      · cases h
  · rintro ⟨h, rfl⟩
    exact parse_txt h
end Go.Proofs.YtfocmbnhkldnfaaGreatDoor
