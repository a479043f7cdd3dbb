/-
  Two disks side by side, the program's and the document's, both there or both not.
-/
import Derived.Test.YtegacmcekladfaaU
namespace Go.Proofs.Ytegacmcekladfaa
open Go.RowKit

/-- A disk that is nil, or stands so. -/
def DQ (w : World) (F : Nat → Prop) (v : Value) : Option St → Prop
  | none => v = .pointer none
  | some S => DK w F v S
def RQ (w : World) (F : Nat → Prop) (v : Value) : Option St → Prop
  | none => v = .pointer none
  | some S => RK w F v S

/-- Its steps are at most m. -/
def Few (m : Nat) (X : Option St) : Prop := ∀ S, X = some S → S.steps ≤ m
/-- A code that nil answers otherwise. -/
def codeQ (X : Option St) (f : St → Int) : Int := match X with
  | none => 1
  | some S => f S

theorem DQ.same {w w' : World} {F : Nat → Prop} {v : Value} {X : Option St} (h : DQ w F v X) (hz : w.heap.size ≤ w'.heap.size) (hs : ∀ k, F k → w'.heap[k]? = w.heap[k]?) : DQ w' F v X := by
  cases X with
  | none => exact h
  | some S => exact DK.same h hz hs
theorem RQ.same {w w' : World} {F : Nat → Prop} {v : Value} {X : Option St} (h : RQ w F v X) (hz : w.heap.size ≤ w'.heap.size) (hs : ∀ k, F k → w'.heap[k]? = w.heap[k]?) : RQ w' F v X := by
  cases X with
  | none => exact h
  | some S => exact RK.same h hz hs
theorem DQ.isNil {w : World} {F : Nat → Prop} {v : Value} {X : Option St} (h : DQ w F v X) : (X = none ∧ v = .pointer none) ∨ (∃ S b, X = some S ∧ v = .pointer (some ⟨b, 0, none⟩)) := by
  cases X with
  | none => exact .inl ⟨rfl, h⟩
  | some S =>
    obtain ⟨b, _, _, _, e, _⟩ := h
    exact .inr ⟨S, b, rfl, e⟩
theorem RQ.isNil {w : World} {F : Nat → Prop} {v : Value} {X : Option St} (h : RQ w F v X) : (X = none ∧ v = .pointer none) ∨ (∃ S b, X = some S ∧ v = .pointer (some ⟨b, 0, none⟩)) := by
  cases X with
  | none => exact .inl ⟨rfl, h⟩
  | some S =>
    obtain ⟨b, _, _, _, e, _⟩ := h
    exact .inr ⟨S, b, rfl, e⟩

/-- What a step of one of them leaves. -/
def DAQ (w : World) (F : Nat → Prop) (w' : World) (v : Value) (X : Option St) : Prop := ∃ F', DQ w' F' v X ∧ Aft w F w' F' ∧ ∀ k, F' k → k < w'.heap.size
def RAQ (w : World) (F : Nat → Prop) (w' : World) (v : Value) (X : Option St) : Prop := ∃ F', RQ w' F' v X ∧ Aft w F w' F' ∧ ∀ k, F' k → k < w'.heap.size
theorem DAft.q {w w' : World} {F : Nat → Prop} {v : Value} {S : St} (h : DAft w F w' v S) : DAQ w F w' v (some S) := by
  obtain ⟨F', h1, h2⟩ := h
  exact ⟨F', h1, h2, h1.lt⟩
theorem RAft.q {w w' : World} {F : Nat → Prop} {v : Value} {S : St} (h : RAft w F w' v S) : RAQ w F w' v (some S) := by
  obtain ⟨F', h1, h2⟩ := h
  exact ⟨F', h1, h2, h1.lt⟩
theorem aft_refl (w : World) (F : Nat → Prop) : Aft w F w F := aft_grown (grown_refl _ _)

/-- A new one. -/
def DNQ (w w' : World) (v : Value) (X : Option St) : Prop := w.grownBy w' none ∧ ∃ F, DQ w' F v X ∧ (∀ k, F k → w.heap.size ≤ k) ∧ ∀ k, F k → k < w'.heap.size
def RNQ (w w' : World) (v : Value) (X : Option St) : Prop := w.grownBy w' none ∧ ∃ F, RQ w' F v X ∧ (∀ k, F k → w.heap.size ≤ k) ∧ ∀ k, F k → k < w'.heap.size
theorem DNew.q {w w' : World} {v : Value} {S : St} (h : DNew w w' v S) : DNQ w w' v (some S) := by
  obtain ⟨h1, F, h2, h3⟩ := h
  exact ⟨h1, F, h2, h3, h2.lt⟩
theorem RNew.q {w w' : World} {v : Value} {S : St} (h : RNew w w' v S) : RNQ w w' v (some S) := by
  obtain ⟨h1, F, h2, h3⟩ := h
  exact ⟨h1, F, h2, h3, h2.lt⟩

theorem writeD (F : Nat → Prop) (v : Value) (X : Option St) (u : Value) (M : List UInt8) (w : World) (h : DQ w F v X) (hl : ∀ k, F k → k < w.heap.size) (hm : Few 9223372036854775806 X) (hu : Seg w u M) (hd : M ≠ [] → ∀ k, u.ownBlock = some k → ¬ F k) :
    Calls Try.prog 19 #[v, u] w fun e w' => e = .returned (.int .i64 (codeQ X fun S => S.writeCode M)) ∧ DAQ w F w' v (X.map fun S => S.write M) := by
  cases X with
  | none =>
    have e : v = .pointer none := h
    subst e
    refine (write19_gone _ _ w (.inl rfl)).mono ?_
    rintro e w' ⟨rfl, rfl⟩
    exact ⟨rfl, F, rfl, aft_refl _ _, hl⟩
  | some S =>
    refine (write19 F v u S M w h (by have := hm S rfl; omega) hu hd).mono ?_
    rintro e w' ⟨rfl, h2⟩
    exact ⟨rfl, h2.q⟩
theorem writeR (F : Nat → Prop) (v : Value) (X : Option St) (u : Value) (M : List UInt8) (w : World) (h : RQ w F v X) (hl : ∀ k, F k → k < w.heap.size) (hm : Few 9223372036854775806 X) (hu : Seg w u M) (hd : M ≠ [] → ∀ k, u.ownBlock = some k → ¬ F k) :
    Calls Try.prog 34 #[v, u] w fun e w' => e = .returned (.int .i64 (codeQ X fun S => S.writeCode M)) ∧ RAQ w F w' v (X.map fun S => S.write M) := by
  cases X with
  | none =>
    have e : v = .pointer none := h
    subst e
    refine (ref34_nil _ w).mono ?_
    rintro e w' ⟨rfl, rfl⟩
    exact ⟨rfl, F, rfl, aft_refl _ _, hl⟩
  | some S =>
    refine (ref34 F v u S M w h (by have := hm S rfl; omega) hu hd).mono ?_
    rintro e w' ⟨rfl, h2⟩
    exact ⟨rfl, h2.q⟩

theorem putD (F : Nat → Prop) (v : Value) (X : Option St) (u : Value) (M : List UInt8) (w : World) (h : DQ w F v X) (hl : ∀ k, F k → k < w.heap.size) (hm : Few 9223372036854775806 X) (hu : Seg w u M) (hd : M ≠ [] → ∀ k, u.ownBlock = some k → ¬ F k) (hM : M.length ≤ 140737488351232) :
    Calls Try.prog 17 #[v, u] w fun e w' => e = .returned (.int .i64 (codeQ X fun _S => 0)) ∧ DAQ w F w' v (X.map fun S => S.put M) := by
  cases X with
  | none =>
    have e : v = .pointer none := h
    subst e
    refine (put17_gone _ _ w (.inl rfl)).mono ?_
    rintro e w' ⟨rfl, rfl⟩
    exact ⟨rfl, F, rfl, aft_refl _ _, hl⟩
  | some S =>
    refine (put17 F v u S M w h (by have := hm S rfl; omega) hu hd hM).mono ?_
    rintro e w' ⟨rfl, h2⟩
    exact ⟨rfl, h2.q⟩
theorem putR (F : Nat → Prop) (v : Value) (X : Option St) (u : Value) (M : List UInt8) (w : World) (h : RQ w F v X) (hl : ∀ k, F k → k < w.heap.size) (hm : Few 9223372036854775806 X) (hu : Seg w u M) (hd : M ≠ [] → ∀ k, u.ownBlock = some k → ¬ F k) (hM : M.length ≤ 140737488351232) :
    Calls Try.prog 35 #[v, u] w fun e w' => e = .returned (.int .i64 (codeQ X fun _S => 0)) ∧ RAQ w F w' v (X.map fun S => S.put M) := by
  cases X with
  | none =>
    have e : v = .pointer none := h
    subst e
    refine (ref35_nil _ w).mono ?_
    rintro e w' ⟨rfl, rfl⟩
    exact ⟨rfl, F, rfl, aft_refl _ _, hl⟩
  | some S =>
    refine (ref35 F v u S M w h (by have := hm S rfl; omega) hu hd hM).mono ?_
    rintro e w' ⟨rfl, h2⟩
    exact ⟨rfl, h2.q⟩

theorem syncD (F : Nat → Prop) (v : Value) (X : Option St) (w : World) (h : DQ w F v X) (hl : ∀ k, F k → k < w.heap.size) (hm : Few 9223372036854775806 X) :
    Calls Try.prog 18 #[v] w fun e w' => e = .returned (.int .i64 (codeQ X fun _S => 0)) ∧ DAQ w F w' v (X.map fun S => S.sync) := by
  cases X with
  | none =>
    have e : v = .pointer none := h
    subst e
    refine (sync18_gone _ w (.inl rfl)).mono ?_
    rintro e w' ⟨rfl, rfl⟩
    exact ⟨rfl, F, rfl, aft_refl _ _, hl⟩
  | some S =>
    refine (sync18 F v S w h (by have := hm S rfl; omega)).mono ?_
    rintro e w' ⟨rfl, h2⟩
    exact ⟨rfl, h2.q⟩
theorem syncR (F : Nat → Prop) (v : Value) (X : Option St) (w : World) (h : RQ w F v X) (hl : ∀ k, F k → k < w.heap.size) (hm : Few 9223372036854775806 X) :
    Calls Try.prog 36 #[v] w fun e w' => e = .returned (.int .i64 (codeQ X fun _S => 0)) ∧ RAQ w F w' v (X.map fun S => S.sync) := by
  cases X with
  | none =>
    have e : v = .pointer none := h
    subst e
    refine (ref36_nil w).mono ?_
    rintro e w' ⟨rfl, rfl⟩
    exact ⟨rfl, F, rfl, aft_refl _ _, hl⟩
  | some S =>
    refine (ref36 F v S w h (by have := hm S rfl; omega)).mono ?_
    rintro e w' ⟨rfl, h2⟩
    exact ⟨rfl, h2.q⟩

theorem trimD (F : Nat → Prop) (v : Value) (X : Option St) (n : Int) (w : World) (h : DQ w F v X) (hl : ∀ k, F k → k < w.heap.size) (hm : Few 9223372036854775806 X) :
    Calls Try.prog 20 #[v, .int .i64 n] w fun e w' => e = .returned (.int .i64 (codeQ X fun S => S.trimCode n)) ∧ DAQ w F w' v (X.map fun S => S.trim n) := by
  cases X with
  | none =>
    have e : v = .pointer none := h
    subst e
    refine (trim20_gone _ _ w (.inl rfl)).mono ?_
    rintro e w' ⟨rfl, rfl⟩
    exact ⟨rfl, F, rfl, aft_refl _ _, hl⟩
  | some S =>
    refine (trim20 F v S n w h (by have := hm S rfl; omega)).mono ?_
    rintro e w' ⟨rfl, h2⟩
    exact ⟨rfl, h2.q⟩
theorem trimR (F : Nat → Prop) (v : Value) (X : Option St) (n : Int) (w : World) (h : RQ w F v X) (hl : ∀ k, F k → k < w.heap.size) (hm : Few 9223372036854775806 X) :
    Calls Try.prog 37 #[v, .int .i64 n] w fun e w' => e = .returned (.int .i64 (codeQ X fun S => S.trimCode n)) ∧ RAQ w F w' v (X.map fun S => S.trim n) := by
  cases X with
  | none =>
    have e : v = .pointer none := h
    subst e
    refine (ref37_nil _ w).mono ?_
    rintro e w' ⟨rfl, rfl⟩
    exact ⟨rfl, F, rfl, aft_refl _ _, hl⟩
  | some S =>
    refine (ref37 F v S n w h (by have := hm S rfl; omega)).mono ?_
    rintro e w' ⟨rfl, h2⟩
    exact ⟨rfl, h2.q⟩

theorem dropD (F : Nat → Prop) (v : Value) (X : Option St) (n : Int) (w : World) (h : DQ w F v X) (hl : ∀ k, F k → k < w.heap.size) (hm : Few 9223372036854775806 X) :
    Calls Try.prog 21 #[v, .int .i64 n] w fun e w' => e = .returned (.int .i64 (codeQ X fun S => S.dropCode n)) ∧ DAQ w F w' v (X.map fun S => S.drop n) := by
  cases X with
  | none =>
    have e : v = .pointer none := h
    subst e
    refine (drop21_gone _ _ w (.inl rfl)).mono ?_
    rintro e w' ⟨rfl, rfl⟩
    exact ⟨rfl, F, rfl, aft_refl _ _, hl⟩
  | some S =>
    refine (drop21 F v S n w h (by have := hm S rfl; omega)).mono ?_
    rintro e w' ⟨rfl, h2⟩
    exact ⟨rfl, h2.q⟩
theorem dropR (F : Nat → Prop) (v : Value) (X : Option St) (n : Int) (w : World) (h : RQ w F v X) (hl : ∀ k, F k → k < w.heap.size) (hm : Few 9223372036854775806 X) :
    Calls Try.prog 38 #[v, .int .i64 n] w fun e w' => e = .returned (.int .i64 (codeQ X fun S => S.dropCode n)) ∧ RAQ w F w' v (X.map fun S => S.drop n) := by
  cases X with
  | none =>
    have e : v = .pointer none := h
    subst e
    refine (ref38_nil _ w).mono ?_
    rintro e w' ⟨rfl, rfl⟩
    exact ⟨rfl, F, rfl, aft_refl _ _, hl⟩
  | some S =>
    refine (ref38 F v S n w h (by have := hm S rfl; omega)).mono ?_
    rintro e w' ⟨rfl, h2⟩
    exact ⟨rfl, h2.q⟩

theorem switchD (F : Nat → Prop) (v : Value) (X : Option St) (w : World) (h : DQ w F v X) (hl : ∀ k, F k → k < w.heap.size) (hm : Few 9223372036854775806 X) :
    Calls Try.prog 22 #[v] w fun e w' => e = .returned (.int .i64 (codeQ X fun S => S.switchCode)) ∧ DAQ w F w' v (X.map fun S => S.switch) := by
  cases X with
  | none =>
    have e : v = .pointer none := h
    subst e
    refine (switch22_gone _ w (.inl rfl)).mono ?_
    rintro e w' ⟨rfl, rfl⟩
    exact ⟨rfl, F, rfl, aft_refl _ _, hl⟩
  | some S =>
    refine (switch22 F v S w h (by have := hm S rfl; omega)).mono ?_
    rintro e w' ⟨rfl, h2⟩
    exact ⟨rfl, h2.q⟩
theorem switchR (F : Nat → Prop) (v : Value) (X : Option St) (w : World) (h : RQ w F v X) (hl : ∀ k, F k → k < w.heap.size) (hm : Few 9223372036854775806 X) :
    Calls Try.prog 39 #[v] w fun e w' => e = .returned (.int .i64 (codeQ X fun S => S.switchCode)) ∧ RAQ w F w' v (X.map fun S => S.switch) := by
  cases X with
  | none =>
    have e : v = .pointer none := h
    subst e
    refine (ref39_nil w).mono ?_
    rintro e w' ⟨rfl, rfl⟩
    exact ⟨rfl, F, rfl, aft_refl _ _, hl⟩
  | some S =>
    refine (ref39 F v S w h (by have := hm S rfl; omega)).mono ?_
    rintro e w' ⟨rfl, h2⟩
    exact ⟨rfl, h2.q⟩

theorem stopD (F : Nat → Prop) (v : Value) (X : Option St) (n : Int) (w : World) (h : DQ w F v X) (_h1 : -9223372036854775808 ≤ n) (_h2 : n ≤ 9223372036854775807) :
    Calls Try.prog 14 #[v, .int .i64 n] w fun e w' => ∃ p, e = .returned p ∧ DNQ w w' p (X.map fun S => S.stop n) := by
  cases X with
  | none =>
    have e : v = .pointer none := h
    subst e
    refine (stop14_gone _ _ w (.inl rfl)).mono ?_
    rintro e w' ⟨rfl, rfl⟩
    exact ⟨_, rfl, grown_refl _ _, fun _ => False, rfl, fun _ h => h.elim, fun _ h => h.elim⟩
  | some S =>
    refine (stop14 F v S n w h).mono ?_
    rintro e w' ⟨p, rfl, h2⟩
    exact ⟨p, rfl, h2.q⟩

theorem stopR (F : Nat → Prop) (v : Value) (X : Option St) (n : Int) (w : World) (h : RQ w F v X) (h1 : -9223372036854775808 ≤ n) (h2 : n ≤ 9223372036854775807) :
    Calls Try.prog 40 #[v, .int .i64 n] w fun e w' => ∃ p, e = .returned p ∧ RNQ w w' p (X.map fun S => S.stop n) := by
  cases X with
  | none =>
    have e : v = .pointer none := h
    subst e
    refine (ref40_nil _ w).mono ?_
    rintro e w' ⟨rfl, rfl⟩
    exact ⟨_, rfl, grown_refl _ _, fun _ => False, rfl, fun _ h => h.elim, fun _ h => h.elim⟩
  | some S =>
    refine (ref40 F v S n w h h1 h2).mono ?_
    rintro e w' ⟨p, rfl, h2⟩
    exact ⟨p, rfl, h2.q⟩

theorem copyD (F : Nat → Prop) (v : Value) (X : Option St) (w : World) (h : DQ w F v X) :
    Calls Try.prog 23 #[v] w fun e w' => ∃ p, e = .returned p ∧ DNQ w w' p (X.map fun S => S) := by
  cases X with
  | none =>
    have e : v = .pointer none := h
    subst e
    refine (copy23_gone _ w (.inl rfl)).mono ?_
    rintro e w' ⟨rfl, rfl⟩
    exact ⟨_, rfl, grown_refl _ _, fun _ => False, rfl, fun _ h => h.elim, fun _ h => h.elim⟩
  | some S =>
    refine (copy23 F v S w h).mono ?_
    rintro e w' ⟨p, rfl, h2⟩
    exact ⟨p, rfl, h2.q⟩

theorem copyR (F : Nat → Prop) (v : Value) (X : Option St) (w : World) (h : RQ w F v X) :
    Calls Try.prog 41 #[v] w fun e w' => ∃ p, e = .returned p ∧ RNQ w w' p (X.map fun S => S) := by
  cases X with
  | none =>
    have e : v = .pointer none := h
    subst e
    refine (ref41_nil w).mono ?_
    rintro e w' ⟨rfl, rfl⟩
    exact ⟨_, rfl, grown_refl _ _, fun _ => False, rfl, fun _ h => h.elim, fun _ h => h.elim⟩
  | some S =>
    refine (ref41 F v S w h).mono ?_
    rintro e w' ⟨p, rfl, h2⟩
    exact ⟨p, rfl, h2.q⟩

theorem tellsQ (F G : Nat → Prop) (d r : Value) (X : Option St) (w : World) (hd : DQ w F d X) (hr : RQ w G r X) : Calls Try.prog 10 #[d, r] w fun e w' => e = .returned (.bool true) ∧ w.grownBy w' none := by
  cases X with
  | none =>
    have e1 : d = .pointer none := hd
    have e2 : r = .pointer none := hr
    subst e1 e2
    exact tells10_gone _ w (.inl rfl)
  | some S => exact tells10 F G d r S w hd hr

/-- Both, each in memory of its own, behind what lay there at first. -/
structure Mid (W0 w : World) (F G : Nat → Prop) (d r : Value) (X Y : Option St) : Prop where
  gr : W0.grownBy w none
  dq : DQ w F d X
  rq : RQ w G r Y
  dis : ∀ k, F k → ¬ G k
  lf : ∀ k, F k → W0.heap.size ≤ k
  lg : ∀ k, G k → W0.heap.size ≤ k
  uf : ∀ k, F k → k < w.heap.size
  ug : ∀ k, G k → k < w.heap.size

theorem Mid.grown {W0 w w' : World} {F G : Nat → Prop} {d r : Value} {X Y : Option St} (h : Mid W0 w F G d r X Y) (hg : w.grownBy w' none) : Mid W0 w' F G d r X Y :=
  ⟨grown_trans h.gr hg, h.dq.same hg.size (grown_same hg h.uf), h.rq.same hg.size (grown_same hg h.ug), h.dis, h.lf, h.lg, fun k hk => Nat.lt_of_lt_of_le (h.uf k hk) hg.size, fun k hk => Nat.lt_of_lt_of_le (h.ug k hk) hg.size⟩
/-- A block of neither is written. -/
theorem Mid.over {W0 w w' : World} {F G : Nat → Prop} {d r : Value} {X Y : Option St} {q : Option Nat} (h : Mid W0 w F G d r X Y) (hg : w.grownBy w' q) (hq : ∀ k, q = some k → W0.heap.size ≤ k ∧ ¬ F k ∧ ¬ G k) : Mid W0 w' F G d r X Y :=
  ⟨grown_new h.gr hg (fun k hk => (hq k hk).1), h.dq.same hg.size (fun k hk => hg.block k (h.uf k hk) (fun e => (hq k e.symm).2.1 hk)), h.rq.same hg.size (fun k hk => hg.block k (h.ug k hk) (fun e => (hq k e.symm).2.2 hk)), h.dis, h.lf, h.lg, fun k hk => Nat.lt_of_lt_of_le (h.uf k hk) hg.size, fun k hk => Nat.lt_of_lt_of_le (h.ug k hk) hg.size⟩
theorem Mid.stepD {W0 w w' : World} {F G F' : Nat → Prop} {d r : Value} {X X' Y : Option St} (h : Mid W0 w F G d r X Y) (h1 : DQ w' F' d X') (h2 : Aft w F w' F') (h3 : ∀ k, F' k → k < w'.heap.size) : Mid W0 w' F' G d r X' Y :=
  ⟨(Fr.trans (Fr.of (F := F) h.gr (by simp)) h2.fr (fun _ hk => .inl hk)).grown h.lf, h1, h.rq.same h2.fr.size (h2.fr.same h.ug (fun k hk hf => h.dis k hf hk)), h2.disj h.ug h.dis, fun k hk => by
    rcases h2.sub k hk with h4 | h4
    · exact h.lf k h4
    · exact Nat.le_trans h.gr.size h4, h.lg, h3, fun k hk => Nat.lt_of_lt_of_le (h.ug k hk) h2.fr.size⟩
theorem Mid.stepR {W0 w w' : World} {F G G' : Nat → Prop} {d r : Value} {X Y Y' : Option St} (h : Mid W0 w F G d r X Y) (h1 : RQ w' G' r Y') (h2 : Aft w G w' G') (h3 : ∀ k, G' k → k < w'.heap.size) : Mid W0 w' F G' d r X Y' :=
  ⟨(Fr.trans (Fr.of (F := G) h.gr (by simp)) h2.fr (fun _ hk => .inl hk)).grown h.lg, h.dq.same h2.fr.size (h2.fr.same h.uf (fun k hk hf => h.dis k hk hf)), h1, fun k hk hg => (h2.disj h.uf (fun k hk hf => h.dis k hf hk)) k hg hk, h.lf, fun k hk => by
    rcases h2.sub k hk with h4 | h4
    · exact h.lg k h4
    · exact Nat.le_trans h.gr.size h4, fun k hk => Nat.lt_of_lt_of_le (h.uf k hk) h2.fr.size, h3⟩

/-- Both stand alike. -/
def PairQ (W0 w : World) (d r : Value) (X : Option St) : Prop := ∃ F G, Mid W0 w F G d r X X

theorem Few.map {m : Nat} {X : Option St} {f : St → St} (h : Few m X) (hf : ∀ S, (f S).steps ≤ S.steps + 1) : Few (m + 1) (X.map f) := by
  intro S hS
  cases X with
  | none => simp at hS
  | some T =>
    simp at hS
    subst hS
    have := h T rfl
    have := hf T
    omega
theorem Few.mono {m n : Nat} {X : Option St} (h : Few m X) (hmn : m ≤ n) : Few n X := fun S hS => Nat.le_trans (h S hS) hmn
theorem steps_write (S : St) (M : List UInt8) : (S.write M).steps ≤ S.steps + 1 := by unfold St.write; cases S.full M <;> exact Nat.le_refl _
theorem steps_put (S : St) (M : List UInt8) : (S.put M).steps ≤ S.steps + 1 := by
  unfold St.put
  by_cases e : S.last = 0
  · rw [if_pos e]; exact Nat.le_refl _
  · rw [if_neg e]; exact Nat.le_refl _
theorem steps_sync (S : St) : S.sync.steps ≤ S.steps + 1 := Nat.le_refl _
theorem steps_trim (S : St) (n : Int) : (S.trim n).steps ≤ S.steps + 1 := by unfold St.trim; cases S.trimBad n <;> exact Nat.le_refl _
theorem steps_drop (S : St) (n : Int) : (S.drop n).steps ≤ S.steps + 1 := by unfold St.drop; cases S.dropBad n <;> exact Nat.le_refl _
theorem steps_switch (S : St) : S.switch.steps ≤ S.steps + 1 := by unfold St.switch; cases S.spareHas <;> exact Nat.le_refl _
theorem steps_stop (S : St) (n : Int) : (S.stop n).steps ≤ S.steps + 1 := Nat.zero_le _
end Go.Proofs.Ytegacmcekladfaa
