/-
  What a row's listed variables give a walk, and a world that holds them.
-/
import Derived.Test.YtfocmbnhkldnfaaGreatDoorRows
import Derived.Test.YtfocmbnhkldnfaaGreatDoorEv
import Derived.Stop.LaidErr
import Derived.Lib.LaidTab
import Derived.LaidHandle
import Derived.Deep.DeepLaidRun
import Derived.Shelf.Vars
import Derived.HandedShaped
namespace Go.Proofs.YtfocmbnhkldnfaaGreatDoor
open Go.RowKit Disk

theorem returnsInHanded_of_change_both {H : Type} {enc : TypeId × Value → H} {a : Assume} {C : Checked} {os : Os} {f : FuncId} {fn : Func} {s : ChangeSpec} {conds : List PathCond} {apart fresh handsOn again : Bool} {X : World → Array Value → Prop}
    (hX : ∀ (w w' : World) (args : Array Value), w.heap = w'.heap → X w args → X w' args)
    (own : ownKnob C.prog.godebug = none) (started : os.Started) (noInit : C.prog.inits.idxOf? f = none) (hfn : C.prog.funcs[f]? = some fn)
    (witness : ∃ (w : World) (tape : Tape) (i : Input), w.os = os ∧ (w.forCall tape i).Shaped C.prog ∧ i.vars = [] ∧ Input.okWide C.prog (w.forCall tape i) .any w.heap.size f i ∧
      ((s.pre enc C.prog fn conds apart (w.forCall tape i).memory i.args ∧ X (w.forCall tape i).memory i.args) ∧ sizedMet enc C.prog fn (OpenSpec.ofChange s) apart (w.forCall tape i).memory i.args) ∧ a.holds C.prog (lone (Frame.enter C.prog f i.args .normal) [] (w.forCall tape i)))
    (contract : ∀ (W : World) (base : Nat) (args : Array Value) (ds gs : List (DataW H)) (before : List MemPlace),
      (∀ (j : Nat) t v, fn.params[j]? = some t → args[j]? = some v → Value.okWide C.prog W .any base t v) →
      DataW.Whole enc C.prog fn.params.toList s.vars apart W args.toList ds gs before →
      conds.all (PathCond.test C.prog ⟨fn.params.toList, ds, s.plain.varTypes C.prog, gs⟩) = true →
      (DataW.weightsEach C.prog (fn.params.toList ++ s.plain.varTypes C.prog) (ds ++ gs)).all (· ≤ reachBytes) = true → X W args →
      W.ShapedOpen C.prog →
      Calls C.prog f args W fun e W' => ∃ v, e = .returned v ∧ s.post enc C.prog fn apart fresh handsOn again W args v W') :
    ReturnsInHanded a C os f .any (fun w args => (s.pre enc C.prog fn conds apart w args ∧ X w args) ∧ sizedMet enc C.prog fn (OpenSpec.ofChange s) apart w args) (s.post enc C.prog fn apart fresh handsOn again) := by
  refine returnsInHanded_of_calls own started noInit witness ?_
  intro w tape i _ hsh _ hok hpre _
  obtain ⟨_, _, _, fn', hfn', _, _, _, _, hval⟩ := hok
  have e : fn' = fn := Option.some.inj (hfn'.symm.trans hfn)
  subst e
  obtain ⟨⟨⟨ds, gs, before, hw, hc⟩, hx⟩, hz⟩ := hpre
  have hw' := DataW.Whole.of_heap (w' := w.forCall tape i) (by rfl) hw
  refine (contract (w.forCall tape i) w.heap.size i.args ds gs before hval hw' hc (hz.weights hw) (hX _ _ _ (by rfl) hx) hsh).mono fun e W' ⟨v, he, hp⟩ => ?_
  subst he
  exact ChangeSpec.post_blind hp

/-- The listed variables. -/
def lst : List (String × DataW Unit) := [("math/bits.deBruijn32tab", Rows.laid_math_bits_deBruijn32tab), ("math/bits.deBruijn64tab", Rows.laid_math_bits_deBruijn64tab), ("internal/strconv.uint64pow10", Rows.laid_internal_strconv_uint64pow10), ("unicode/utf8.acceptRanges", Rows.laid_unicode_utf8_acceptRanges), ("strconv.ErrRange", Rows.laid_strconv_ErrRange), ("strconv.ErrSyntax", Rows.laid_strconv_ErrSyntax), ("wicket/calls.kindWords", Rows.laid_wicket_calls_kindWords), ("unicode/utf8.first", Rows.laid_unicode_utf8_first)]

theorem strs_of_trod {H : Type} {enc : TypeId × Value → H} {P : Program} {w : World} {base : Nat} {sp : Nat → Bool} {held : Bool} {fuel : Nat} {t e : TypeId} {n : Nat} {cs : List Value} {zs : List (List UInt8)} {p : List MemPlace}
    (ht : P.underlying t = some (.array n e)) (he : P.underlying e = some .string) (hce : P.cellsOf e = 1) (hct : P.cellsOf t = n)
    (h : DataW.trod enc P w base sp held fuel t cs = some (DataW.agg (zs.map fun z => (DataW.lit (.string z) : DataW H)), p)) : ∀ (i : Nat) (z : List UInt8), zs[i]? = some z → ∃ s : ByteArray, cs[i]? = some (.string s) ∧ s.data.toList = z := by
  cases fuel with
  | zero => simp [DataW.trod] at h
  | succ fuel =>
    simp only [DataW.trod, ht, hce, hct, Nat.mul_one] at h
    split at h
    · obtain ⟨xs, hm, hx⟩ := Option.map_eq_some_iff.1 h
      have hxs : xs.map (·.1) = zs.map fun z => (DataW.lit (.string z) : DataW H) := by
        have := congrArg Prod.fst hx
        simpa using this
      have hxl : xs.length = n := by simpa using Lib.mapM_length hm
      have hzl : zs.length = n := by
        have := congrArg List.length hxs
        simp at this
        omega
      intro i z hz
      have hi : i < n := by rw [← hzl]; exact (List.getElem?_eq_some_iff.1 hz).1
      obtain ⟨b, hb, hf⟩ := Lib.mapM_at hm i i (by simp [hi])
      obtain ⟨s, hc, rfl, _⟩ := DataW.trod_string he hf
      have h1 : cs[i]? = some (.string s) := by
        have := congrArg (·[0]?) hc
        simpa [List.getElem?_take, List.getElem?_drop] using this
      have h2 : (xs.map (·.1))[i]? = some (DataW.lit (.string s.data.toList) : DataW H) := by simp [hb]
      rw [hxs] at h2
      simp only [List.getElem?_map, Option.map_eq_some_iff, DataW.lit.injEq, Lit.string.injEq] at h2
      obtain ⟨z', hz', e⟩ := h2
      rw [hz] at hz'
      cases hz'
      exact ⟨s, h1, e.symm⟩
    · cases h

theorem lst_plain : (lst.filter fun x => x.2.handleName?.isSome) = [] := by
  have e : (lst.map fun x => x.2.handleName?.isSome) = lst.map fun _ => false := by kernel_rfl
  rw [List.filter_eq_nil_iff]
  intro x hx
  have := List.map_inj_left.1 e x hx
  rw [this]; decide
theorem star : "*" ++ "errors.errorString" = "*errors.errorString" := by decide
theorem row265 (u : TypeId) (h : Tryz.prog.typeName? 3 u = some "*errors.errorString") : u = 265 :=
  typeName_ptr_named (nm := "errors.errorString") (by rw [star]; kernel_rfl) (by kernel_rfl) (by decide) u (by rw [star]; exact h)
theorem pow_data : (Rows.laid_internal_strconv_uint64pow10 : DataW Unit) = Lib.tabData .u64 Lib.pow10Tab := by kernel_rfl
theorem kw_data : (Rows.laid_wicket_calls_kindWords : DataW Unit) = .agg ([[], [103, 101, 116], [112, 117, 116], [100, 101, 108, 101, 116, 101], [115, 119, 97, 112], [115, 99, 97, 110]].map fun (z : List UInt8) => (DataW.lit (.string z) : DataW Unit)) := by kernel_rfl
theorem bytes_of {s : ByteArray} {a : Array UInt8} (h : s.data.toList = a.toList) : s = ⟨a⟩ := by
  obtain ⟨d⟩ := s
  congr 1
  exact Array.toList_inj.1 h
theorem under265 : Tryz.prog.underlying 265 = some (.pointer 267) := by kernel_rfl
theorem under113 : Tryz.prog.underlying 113 = some (.array 6 9) := by kernel_rfl
theorem under254 : Tryz.prog.underlying 254 = some (.array 20 80) := by kernel_rfl
theorem underU : Tryz.prog.underlying 80 = some (.int .u64) := by kernel_rfl

set_option maxRecDepth 100000 in
theorem kw_of {W : World} {r : List (String × DataW Unit)} (h : laidMet Tryz.prog (("wicket/calls.kindWords", Rows.laid_wicket_calls_kindWords) :: r) W) : KW W := by
  rw [kw_data] at h
  obtain ⟨ps, ⟨g, t, cs, fuel, p, q, hg, ht, hvar, hd, _, _⟩, _⟩ := h
  obtain rfl := Option.some.inj ((show Tryz.prog.globalNamed "wicket/calls.kindWords" = some 0 by kernel_rfl).symm.trans hg)
  obtain rfl := Option.some.inj ((show (Tryz.prog.globals[0]?).map (·.type) = some 113 by kernel_rfl).symm.trans ht)
  have hall := strs_of_trod under113 Tryz.underlying9 (by kernel_rfl) (by kernel_rfl) hd
  have up : ∀ (i : Nat) (a : Array UInt8), [[], [103, 101, 116], [112, 117, 116], [100, 101, 108, 101, 116, 101], [115, 119, 97, 112], [115, 99, 97, 110]][i]? = some a.toList → W.cell? ⟨0, i, none⟩ = some (.string ⟨a⟩) := by
    intro i a hi
    obtain ⟨s, h1, h2⟩ := hall i _ hi
    have := World.var?_cell hg hvar i
    rw [this, ← Array.getElem?_toList, h1, bytes_of h2]
  exact ⟨up 0 #[] rfl, up 1 #[103, 101, 116] rfl, up 2 #[112, 117, 116] rfl, up 3 #[100, 101, 108, 101, 116, 101] rfl, up 4 #[115, 119, 97, 112] rfl, up 5 #[115, 99, 97, 110] rfl⟩

set_option maxRecDepth 100000 in
theorem env_of {W : World} (h : laidMetH Tryz.prog lst W) (hs : W.ShapedOpen Tryz.prog) : EnvF W := by
  have h' : laidMet Tryz.prog lst W := by unfold laidMetH at h; rw [lst_plain] at h; exact h
  clear h
  unfold lst at h'
  have t2 := h'.tail.tail
  have t4 := t2.tail.tail
  have t5 := t4.tail
  have t6 := t5.tail
  obtain ⟨a1, _, hr, _⟩ := laid_sentinel t4 (show Tryz.prog.globalNamed "strconv.ErrRange" = some 3 by kernel_rfl) (show (Tryz.prog.globals[3]?).map (·.type) = some 121 by kernel_rfl) Tryz.underlying121 row265 under265 Tryz.underlying267 rfl rfl Tryz.underlying9 (by kernel_rfl) (by kernel_rfl)
  obtain ⟨a2, _, hy, _⟩ := laid_sentinel t5 (show Tryz.prog.globalNamed "strconv.ErrSyntax" = some 2 by kernel_rfl) (show (Tryz.prog.globals[2]?).map (·.type) = some 121 by kernel_rfl) Tryz.underlying121 row265 under265 Tryz.underlying267 rfl rfl Tryz.underlying9 (by kernel_rfl) (by kernel_rfl)
  have cr := World.var?_cell (show Tryz.prog.globalNamed "strconv.ErrRange" = some 3 by kernel_rfl) hr 0
  have cy := World.var?_cell (show Tryz.prog.globalNamed "strconv.ErrSyntax" = some 2 by kernel_rfl) hy 0
  refine ⟨kw_of t6, ?_, ⟨265, .pointer (some a2), by simpa using cy⟩, ⟨265, .pointer (some a1), by simpa using cr⟩, ?_, ?_⟩
  · exact cell_of_shapedOpen_int (zero := #[.int .i64 0]) (t := 3) hs (of_decide_eq_true (by kernel_rfl)) (by kernel_rfl) rfl (by kernel_rfl) (by kernel_rfl) Tryz.underlying3
  · rw [pow_data] at t2
    exact Lib.tabIs_of_head (show Tryz.prog.globalNamed "internal/strconv.uint64pow10" = some 4 by kernel_rfl) (show (Tryz.prog.globals[4]?).map (·.type) = some 254 by kernel_rfl) under254 underU (by kernel_rfl) (by kernel_rfl) t2
  · obtain ⟨ps, ⟨g, t, cs, fuel, p, q, hg, ht, hvar, _⟩, _⟩ := h'.tail
    obtain rfl := Option.some.inj ((show Tryz.prog.globalNamed "math/bits.deBruijn64tab" = some 8 by kernel_rfl).symm.trans hg)
    rcases Nat.lt_or_ge 8 W.heap.size with h | h
    · exact h
    · unfold World.var? at hvar
      rw [hg] at hvar
      simp [Array.getElem?_eq_none h] at hvar
end Go.Proofs.YtfocmbnhkldnfaaGreatDoor
