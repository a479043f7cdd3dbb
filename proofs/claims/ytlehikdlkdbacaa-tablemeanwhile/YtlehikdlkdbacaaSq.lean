/-
  What was told is written over: what is no byte stays.
-/
import Derived.Test.YtlehikdlkdbacaaSp
namespace Go.Proofs.Ytlehikdlkdbacaa
open Go.RowKit Disk

/-- What is no byte stays, a byte stays one. -/
def Wk (w w' : World) : Prop := ∀ k j u, w.cell? ⟨k, j, none⟩ = some u → ((∀ i, u ≠ .int .u8 i) → w'.cell? ⟨k, j, none⟩ = some u) ∧ ((∃ i, u = .int .u8 i) → ∃ i, w'.cell? ⟨k, j, none⟩ = some (.int .u8 i))
def Wq (G : Nat → Prop) (w w' : World) : Prop := Wr G w w' ∧ Wk w w'
theorem Wq.refl (G : Nat → Prop) (w : World) : Wq G w w := ⟨Wr.refl _ _, fun k j u h => ⟨fun _ => h, fun ⟨i, e⟩ => ⟨i, by rw [h, e]⟩⟩⟩
theorem Wq.trans {G : Nat → Prop} {a b c : World} (h : Wq G a b) (k : Wq G b c) : Wq G a c := by
  refine ⟨h.1.trans k.1, fun x j u hu => ⟨fun hn => ?_, fun hi => ?_⟩⟩
  · exact (k.2 x j u ((h.2 x j u hu).1 hn)).1 hn
  · obtain ⟨i, e⟩ := (h.2 x j u hu).2 hi
    exact (k.2 x j _ e).2 ⟨i, rfl⟩
theorem Wq.store {G : Nat → Prop} {w : World} {g : Nat} {c : Array Value} (hb : Blk w g 5 c) (hB : G g) (j : Nat) (i : Int) (hi : ∃ i, w.cell? ⟨g, j, none⟩ = some (.int .u8 i)) : Wq G w (w.setCell ⟨g, j, none⟩ (.int .u8 i)) := by
  refine ⟨Wr.store hb hB j _, fun x y u hu => ?_⟩
  by_cases e : x = g
  · subst e
    have h1 := (hb.store j (.int .u8 i)).cell y
    have h2 := hb.cell y
    by_cases ej : j = y
    · subst ej
      obtain ⟨i0, h0⟩ := hi
      rw [h0] at hu
      simp at hu
      subst hu
      refine ⟨fun hn => absurd rfl (hn i0), fun _ => ⟨i, ?_⟩⟩
      rw [h1]
      rw [h0] at h2
      have hlt := (Array.getElem?_eq_some_iff.1 h2.symm).1
      simp [hlt]
    · have h3 : (w.setCell ⟨x, j, none⟩ (.int .u8 i)).cell? ⟨x, y, none⟩ = w.cell? ⟨x, y, none⟩ := by
        rw [h1, h2]
        simp [ej]
      rw [h3, hu]
      exact ⟨fun _ => rfl, fun ⟨i, e⟩ => ⟨i, by rw [e]⟩⟩
  · have h3 : (w.setCell ⟨g, j, none⟩ (.int .u8 i)).cell? ⟨x, y, none⟩ = some u := (grown_setCell w g j (.int .u8 i)).cell hu (by simp; omega)
    rw [h3]
    exact ⟨fun _ => rfl, fun ⟨i, e⟩ => ⟨i, by rw [e]⟩⟩
/-- Bytes, whatever they are. -/
def SegI (w : World) (v : Value) : Prop := ∀ g n cap, v = .slice (some ⟨g, 0, none⟩) n cap → ∀ q, q < n → ∃ i, w.cell? ⟨g, q, none⟩ = some (.int .u8 i)
theorem Seg.ints {w : World} {v : Value} {L : List UInt8} (h : Seg w v L) : SegI w v := by
  rintro g n cap rfl q hq
  obtain ⟨ao, c, e, _, _, _, h6⟩ := h
  simp at e
  obtain ⟨e1, e2, e3⟩ := e
  obtain ⟨b, off, e4, hc⟩ := h6 q (by omega)
  rw [← e1] at e4
  simp at e4
  obtain ⟨rfl, rfl⟩ := e4
  rw [Nat.zero_add] at hc
  exact ⟨_, hc⟩
theorem SegI.wk {w wr : World} {v : Value} (h : SegI w v) (hk : Wk w wr) : SegI wr v := fun g n cap e q hq => by
  obtain ⟨i, hi⟩ := h g n cap e q hq
  exact (hk _ _ _ hi).2 ⟨_, rfl⟩
theorem SegI.grown {w wr : World} {v : Value} (h : SegI w v) (hk : w.grownBy wr none) : SegI wr v := fun g n cap e q hq => by
  obtain ⟨i, hi⟩ := h g n cap e q hq
  exact ⟨i, hk.cell hi (by simp)⟩
theorem seg_int {w wr : World} {g n cap : Nat} (h : SegI w (.slice (some ⟨g, 0, none⟩) n cap)) (hk : Wk w wr) {q : Nat} (hq : q < n) : ∃ i, wr.cell? ⟨g, q, none⟩ = some (.int .u8 i) := (h.wk hk) g n cap rfl q hq

set_option maxRecDepth 100000 in
set_option maxHeartbeats 4000000 in
theorem spoil33k (bl n : Nat) (B : Nat → Prop) (cs : List Value) (ns : List Nat) (hn : cs.length = n) (hnn : ns.length = n) (hn6 : n ≤ 1000) (w : World) (hb : Blk w bl 30 cs.toArray) (ho : ∀ j (h : j < cs.length) (h' : j < ns.length), OwnX w B cs[j] ns[j]) (hs : ∀ j (h : j < cs.length), SegI w cs[j]) :
    Calls Try.prog 33 #[.slice (some ⟨bl, 0, none⟩) n n] w fun e w' => e = .returned (.tuple #[]) ∧ Wq B w w' := by
  have HB : Hid (Blk w bl 30 cs.toArray ∧ cs.length = n ∧ ns.length = n) := ⟨hb, hn, hnn⟩
  have HO : Hid (∀ j (h : j < cs.length) (h' : j < ns.length), OwnX w B cs[j] ns[j]) := ho
  have HSG : Hid (∀ j (h : j < cs.length), SegI w cs[j]) := hs
  clear hb hn hnn ho hs
  go_enter Try.func33, Try.ntmps33
  go_wp2_with fail
  go_loopw [2] (fun i wr => ∃ (k : Nat), k ≤ n ∧ i = .int .i64 (k : Int) ∧ Wq B w wr) (fun i _ => n - (intOf i).toNat)
  case atStart => exact ⟨0, Nat.zero_le _, rfl, Wq.refl _ _⟩
  case round =>
    obtain ⟨k, hk, rfl, hwr⟩ := hrel
    have HR : Hid (Wq B w wr) := hwr
    clear hwr
    rcases Nat.lt_or_ge k n with hlt | hge
    · have hkc : k < cs.length := by rw [HB.out.2.1]; exact hlt
      have hkn : k < ns.length := by rw [HB.out.2.2]; exact hlt
      have HX : Hid (OwnX w B cs[k] ns[k]) := HO.out k hkc hkn
      obtain ⟨m, hm⟩ : ∃ m, ns[k] = m := ⟨_, rfl⟩
      obtain ⟨u, hu⟩ : ∃ u, cs[k] = u := ⟨_, rfl⟩
      have HLS : Hid (SegI w u) := by rw [Hid, ← hu]; exact HSG.out k hkc
      rw [hm, hu] at HX
      have HC : Hid (∀ y, Wr B w y → y.cell? ⟨bl, k, none⟩ = some u) := fun y hy => by
        rw [(hy.blk HB.out.1 (by decide)).cell, ← hu]
        simp [hkc]
      have i0 : (0 : Int) ≤ (k : Int) := by omega
      have i1 : (k : Int) < (n : Int) := by omega
      obtain ⟨au, cu, eu⟩ : ∃ a c, u = .slice a m c := by
        rcases HX.out with ⟨e, h0⟩ | ⟨g, cap, cur, e, _⟩
        · exact ⟨none, 0, by rw [e, h0]⟩
        · exact ⟨_, _, e⟩
      subst eu
      have hm63 : m ≤ 9223372036854775807 := by
        rcases HX.out with ⟨_, h0⟩ | ⟨_, _, _, _, _, _, _, h⟩ <;> omega
      clear hm hu hkc hkn
      go_upto_region 3 with fail
      go_wp2_with fail
      go_loopw [3] (fun j w2 => ∃ (q : Nat), q ≤ m ∧ j = .int .i64 (q : Int) ∧ Wq B w w2) (fun j _ => m - (intOf j).toNat)
      case atStart => exact ⟨0, Nat.zero_le _, rfl, HR.out⟩
      case round =>
        obtain ⟨q, hq, rfl, hwr⟩ := hrel
        have HR2 : Hid (Wq B w wr) := hwr
        have c0 := HC.out wr hwr.1
        clear hwr
        rcases Nat.lt_or_ge q m with hlt2 | hge2
        · have hx := HX.out.wr HR2.out.1
          rcases hx with ⟨e, h0⟩ | ⟨g, cap, cur, e, hB, hbk, hsz, _⟩
          · omega
          · simp at e
            obtain ⟨rfl, rfl⟩ := e
            have d0 := hbk.cell q
            have f0 := hbk.free q
            rw [Array.getElem?_eq_getElem (by omega)] at d0
            have hint : ∃ i, wr.cell? ⟨g, q, none⟩ = some (.int .u8 i) := seg_int HLS.out HR2.out.2 hlt2
            have HS : Hid (Wq B w (wr.setCell ⟨g, q, none⟩ (.int .u8 90))) := HR2.out.trans (Wq.store hbk hB q 90 hint)
            clear hint
            obtain ⟨oldv, hold⟩ : ∃ x, cur[q]'(by omega) = x := ⟨_, rfl⟩
            rw [hold] at d0
            have j0 : (0 : Int) ≤ (q : Int) := by omega
            have j1 : (q : Int) < (m : Int) := by omega
            clear hbk hB hsz hold
            go_wp2_with fail
            go_roundw
            case rel => exact ⟨q + 1, by omega, by go_num, HS.out⟩
            case measure => simp [intOf]; omega
        · have e : q = m := by omega
          subst e
          go_wp2_with fail
          go_roundw
          case rel => exact ⟨k + 1, by omega, by go_num, HR2.out⟩
          case measure => simp [intOf]; omega
    · have e : k = n := by omega
      subst e
      go_wp2_with fail
      go_end0
      exact ⟨rfl, HR.out⟩
end Go.Proofs.Ytlehikdlkdbacaa
