/-
  Texts of ops: on plain lists; the words of the kinds.
-/
import Derived.Test.YtfocmbnhkldnfaaGreatDoorJ
import Derived.Test.YtfocmbnhkldnfaaGreatDoorNamesAll
import Derived.Test.YtfocmbnhkldnfaaGreatDoorShelf
namespace Go.Proofs.YtfocmbnhkldnfaaGreatDoor
open Go.RowKit Disk
open Names (Str)

def kindWord (k : Int) : Bs := if k = 1 then [103, 101, 116] else if k = 2 then [112, 117, 116] else if k = 3 then [100, 101, 108, 101, 116, 101] else if k = 4 then [115, 119, 97, 112] else if k = 5 then [115, 99, 97, 110] else []
def oldW (o : POp) : Bs := if o.has then 43 :: Names.txt o.old else [45]
def tailWords (o : POp) : List Bs := if o.kind = 2 then [Names.txt o.value] else if o.kind = 4 then [oldW o, Names.txt o.value] else if o.kind = 5 then [Names.txt o.to, Lib.decDigits o.most.toNat] else []
def opWords (o : POp) : List Bs := [kindWord o.kind, o.table, Names.txt o.key] ++ tailWords o
def opTxt (o : POp) : Bs := Lib.join (opWords o) [32]
def callTxt (l : List POp) : Bs := Lib.join (l.map opTxt) [59, 32]

/-- The kinds' words stand where the program keeps them. -/
def KW (w : World) : Prop := w.cell? ⟨0, 0, none⟩ = some (.string ⟨#[]⟩) ∧ w.cell? ⟨0, 1, none⟩ = some (.string ⟨#[103, 101, 116]⟩) ∧ w.cell? ⟨0, 2, none⟩ = some (.string ⟨#[112, 117, 116]⟩) ∧ w.cell? ⟨0, 3, none⟩ = some (.string ⟨#[100, 101, 108, 101, 116, 101]⟩) ∧ w.cell? ⟨0, 4, none⟩ = some (.string ⟨#[115, 119, 97, 112]⟩) ∧ w.cell? ⟨0, 5, none⟩ = some (.string ⟨#[115, 99, 97, 110]⟩)
theorem KW.grown {w w' : World} (h : KW w) (hg : w.grownBy w' none) : KW w' := ⟨grown_fun hg h.1, grown_fun hg h.2.1, grown_fun hg h.2.2.1, grown_fun hg h.2.2.2.1, grown_fun hg h.2.2.2.2.1, grown_fun hg h.2.2.2.2.2⟩

theorem below_grown {w w' : World} (h : Below w.heap.size w w') : w.grownBy w' none := ⟨h.os, h.tape, h.output, h.size, fun k hk _ => h.5 k hk⟩

set_option maxRecDepth 100000 in
set_option maxHeartbeats 2000000 in
theorem old78 (k v ol t : Value) (a : POp) (w : World) (ha : OpSeg w k v ol t a) (hl : a.old.length ≤ 256) :
    Calls Tryz.prog 78 #[opV k v ol t a] w fun e w' => e = .returned (Str (oldW a)) ∧ w.grownBy w' none := by
  obtain ⟨a1, a2, a3, a4, b1, b2, b3, b4, rfl, rfl, rfl, rfl⟩ := ha.shapes
  have HA : Hid (OpSeg w (.slice a1 a.key.length b1) (.slice a2 a.value.length b2) (.slice a3 a.old.length b3) (.slice a4 a.to.length b4) a) := ha
  clear ha
  unfold opV Str
  cases hh : a.has with
  | false =>
    have HO : Hid (oldW a = [45]) := by unfold oldW; rw [hh]; rfl
    clear hh
    go_enter Tryz.func78, Tryz.ntmps78
    go_wp2_with fail
    go_ret
    exact ⟨by rw [HO.out]; rfl, World.grownBy_alloc _ _ none⟩
  | true =>
    have HO : Hid (oldW a = [43] ++ Names.txt a.old) := by unfold oldW; rw [hh]; rfl
    have HL : Hid ((Names.txt a.old).length ≤ 1000) := by have := Names.txt_len a.old; unfold Hid; omega
    clear hh
    have ad := fun wk => Names.str_add [43] (Names.txt a.old) wk (by have := HL.out; simp; omega)
    go_enter Tryz.func78, Tryz.ntmps78
    go_wp2_with (go_at_call 77; refine (Names.text15 _ a.old _ (HA.out.old.grown (World.grownBy_alloc _ _ none)) (by omega)).mono ?_)
    rintro e w1 ⟨rfl, hg⟩
    have HG : Hid (w.grownBy w1 none) := grown_trans (World.grownBy_alloc _ _ none) hg
    clear hg
    unfold Str
    go_wp2_with fail
    go_ret
    exact ⟨by rw [HO.out]; rfl, HG.out⟩

/-- A row of strings of the call's own. -/
def SRow (w : World) (B : Nat) (v : Value) (L : List Bs) : Prop := w.ownsRow B 9 1 v L.length (L.map Str)
theorem SRow.grown {w w' : World} {B : Nat} {v : Value} {L : List Bs} (h : SRow w B v L) (hg : w.grownBy w' none) : SRow w' B v L := owns_grown h hg
theorem srow_nil (w : World) (B : Nat) : SRow w B (.slice none 0 0) [] := World.ownsRow_nil _ _ _ _
theorem srow_lit (w : World) (L : List Bs) (B n : Nat) (hn : n = L.length) (hB : B ≤ w.heap.size) (hz : n ≤ 1000) : SRow (w.alloc (.cells (L.map Str).toArray 9)) B (.slice (some ⟨w.heap.size, 0, none⟩) n n) L := by
  subst hn
  refine ⟨by simp, .inr ⟨w.heap.size, L.length, (L.map Str).toArray, rfl, hB, heap_alloc_new w _, Nat.le_refl _, by unfold maxLen; omega, by simp, ?_⟩⟩
  simp
  rw [List.take_of_length_le (by simp)]
theorem Tryz.info9 : (Tryz.prog.info? 9).map (fun i => (i.zero, i.size, i.bytes)) = some (some (.string ⟨#[]⟩), 1, 16) := by kernel_rfl
/-- Strings appended to a row of strings. -/
theorem app9_wp {o : Oper} {a : Act} {K : Act → World → Prop} {Q : Exit → Act → World → Prop} (w : World) (s x : Operand)
    (ho : o.op = .call { callee := .builtin .append, args := #[s, x], argTypes := #[73, 73] })
    (B : Nat) (v : Value) (L : List Bs) (M : List Bs) (m g : Nat) (hm : m = M.length) (hs : a.eval s = v) (hx : a.eval x = .slice (some ⟨g, 0, none⟩) m m)
    (hrow : SRow w B v L) (hc : Blk w g 9 (M.map Str).toArray) (h0 : 0 < m) (hz : L.length + m ≤ 1000000) (hB : B ≤ w.heap.size)
    (h : ∀ g' cap' w', SRow w' B (.slice (some ⟨g', 0, none⟩) (L.length + m) cap') (L ++ M) → w.grownBy w' v.ownBlock → (v.ownBlock = some g' ∨ g' = w.heap.size) → K (a.put o.dst (.slice (some ⟨g', 0, none⟩) (L.length + m) cap')) w') : o.wp Tryz.prog a w K Q := by
  obtain ⟨i0, hi, hz0, hz1, hz2⟩ := info_parts Tryz.info9
  subst hm
  refine wp_append_lies w s x 73 ho B 9 i0 _ 1 16 Tryz.underlying73 hi hz0 hz1 hz2 rfl (by decide) v L.length (L.map Str) hs hrow ⟨g, 0, none⟩ M.length M.length (M.map Str) hx (by simp) ?_ ?_ h0 (by unfold maxLen; omega) (by omega) hB w.heap.size rfl ?_
  · intro j y hj
    have e : (⟨g, 0, none⟩ : Addr).add j = ⟨g, j, none⟩ := by unfold Addr.add; split <;> simp_all
    rw [e, hc.cell j]
    simpa using hj
  · intro y hy
    simp at hy
    obtain ⟨x, _, rfl⟩ := hy
    rfl
  · intro g' cap' w' r2 r3 r4 _
    refine h g' cap' w' ?_ r3 r4
    unfold SRow
    rw [List.length_append, List.map_append]
    exact r2
theorem app9 {ops : Array Oper} {rest : List Oper} {o : Oper} {a : Act} {Q : Exit → Act → World → Prop} (w : World) (hw : Region.wanted o (yielded ops a.tmps) = true) (s x : Operand)
    (ho : o.op = .call { callee := .builtin .append, args := #[s, x], argTypes := #[73, 73] })
    (B : Nat) (v : Value) (L : List Bs) (M : List Bs) (m g : Nat) (hm : m = M.length) (hs : a.eval s = v) (hx : a.eval x = .slice (some ⟨g, 0, none⟩) m m)
    (hrow : SRow w B v L) (hc : Blk w g 9 (M.map Str).toArray) (h0 : 0 < m) (hz : L.length + m ≤ 1000000) (hB : B ≤ w.heap.size)
    (h : ∀ g' cap' w', SRow w' B (.slice (some ⟨g', 0, none⟩) (L.length + m) cap') (L ++ M) → w.grownBy w' v.ownBlock → (v.ownBlock = some g' ∨ g' = w.heap.size) → wpList Tryz.prog ops Q rest (a.put o.dst (.slice (some ⟨g', 0, none⟩) (L.length + m) cap')) w') : wpList Tryz.prog ops Q (o :: rest) a w :=
  BigFrame.wpList_want hw fun _ hK => app9_wp w s x ho B v L M m g hm hs hx hrow hc h0 hz hB fun g' cap' w' h1 h2 h3 => hK _ _ (h g' cap' w' h1 h2 h3)

/-- strings.Join of such a row. -/
theorem join40 (v : Value) (L : List Bs) (sep : Bs) (B : Nat) (w : World) (h : SRow w B v L) (hz : L.length ≤ 1000000) (hj : (Lib.join L sep).length ≤ 140737488355328) :
    Calls Tryz.prog 40 #[v, .string ⟨sep.toArray⟩] w fun e w' => e = .returned (Str (Lib.join L sep)) ∧ w.grownBy w' none := by
  have e1 : (L.map fun x => (⟨x.toArray⟩ : ByteArray)).map (·.data.toList) = L := by simp [Function.comp_def]
  rcases h.2 with ⟨rfl, h0⟩ | ⟨g, cap, cur, rfl, hb, hg, h1, h2, h3, h4⟩
  · have e : L = [] := List.length_eq_zero_iff.1 h0
    subst e
    refine (Tryz.strings_Join_none none 0 ⟨sep.toArray⟩ w).mono ?_
    rintro e w' ⟨rfl, rfl⟩
    exact ⟨rfl, grown_refl _ _⟩
  · have hr : SRow w B (.slice (some ⟨g, 0, none⟩) L.length cap) L := h
    have := Tryz.strings_Join g 0 cap (L.map fun x => (⟨x.toArray⟩ : ByteArray)) ⟨sep.toArray⟩ w (by
      intro j x hx
      rw [Nat.zero_add]
      have hj : j < L.length := by have := (List.getElem?_eq_some_iff.1 hx).1; simpa using this
      have hc := World.ownsRow.cellAt hr j (by omega)
      rw [hc]
      simp [hj] at hx ⊢
      rw [← hx]
      rfl) (by have := (Array.getElem?_eq_some_iff.1 hg).1; exact this) (by simp; omega) (by simpa using h1) (by rw [e1]; exact hj)
    rw [e1] at this
    simp only [List.length_map] at this
    refine this.mono ?_
    rintro e w' ⟨rfl, hbl⟩
    exact ⟨rfl, below_grown hbl⟩
end Go.Proofs.YtfocmbnhkldnfaaGreatDoor
