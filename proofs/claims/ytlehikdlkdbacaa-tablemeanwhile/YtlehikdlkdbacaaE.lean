/-
  Steps in memory; whether there is too much.
-/
import Derived.Test.YtlehikdlkdbacaaD
namespace Go.Proofs.Ytlehikdlkdbacaa
open Go.RowKit Disk
open Names (cmpL keyB valueB)

structure PStep where
  kind : Int
  key : Bs
  value : Bs
  n : Int

def scells : List (Value × Value) → List PStep → List Value
  | p :: l, s :: ss => .int .i64 s.kind :: p.1 :: p.2 :: .int .i64 s.n :: scells l ss
  | _, _ => []
theorem scells_at : ∀ (ks : List (Value × Value)) (ss : List PStep) (j : Nat) (h : j < ks.length) (h' : j < ss.length), (scells ks ss)[j * 4]? = some (.int .i64 ss[j].kind) ∧ (scells ks ss)[j * 4 + 1]? = some ks[j].1 ∧ (scells ks ss)[j * 4 + 2]? = some ks[j].2 ∧ (scells ks ss)[j * 4 + 3]? = some (.int .i64 ss[j].n)
  | p :: l, s :: ss, 0, _, _ => ⟨rfl, rfl, rfl, rfl⟩
  | p :: l, s :: ss, j + 1, h, h' => by
    have := scells_at l ss j (by simpa using h) (by simpa using h')
    rw [show (j + 1) * 4 = j * 4 + 1 + 1 + 1 + 1 by omega]
    simpa [scells] using this
/-- A list of steps. -/
def Stps (w : World) (v : Value) (ss : List PStep) : Prop := ∃ ks : List (Value × Value), ks.length = ss.length ∧ Vec w 4 v ss.length (scells ks ss) ∧ ∀ j (h : j < ks.length) (h' : j < ss.length), Seg w ks[j].1 ss[j].key ∧ Seg w ks[j].2 ss[j].value
theorem Stps.grown {w w' : World} {v : Value} {ss : List PStep} (h : Stps w v ss) (hg : w.grownBy w' none) : Stps w' v ss := by
  obtain ⟨ks, h1, h2, h3⟩ := h
  exact ⟨ks, h1, h2.grown hg, fun j a b => ⟨(h3 j a b).1.grown hg, (h3 j a b).2.grown hg⟩⟩
theorem stps_open {w : World} {v : Value} {ss : List PStep} (h : Stps w v ss) : ∃ ao n cap, v = .slice ao n cap ∧ ss.length = n ∧ n ≤ 9223372036854775807 ∧ Hid (Stps w (.slice ao n cap) ss) := by
  have h' := h
  obtain ⟨ks, _, ⟨ao, cap, rfl, h2, h3, _⟩, _⟩ := h'
  unfold maxLen at h3
  exact ⟨ao, _, cap, rfl, rfl, by omega, h⟩
theorem stps_at {w : World} {ao : Option Addr} {n cap : Nat} {ss : List PStep} (h : Stps w (.slice ao n cap) ss) (j : Nat) (hj : j < ss.length) : ∃ b off x y, ao = some ⟨b, off, none⟩ ∧ w.cell? ⟨b, off + j * 4, none⟩ = some (.int .i64 ss[j].kind) ∧ w.cell? ⟨b, off + j * 4 + 1, none⟩ = some x ∧ w.cell? ⟨b, off + j * 4 + 2, none⟩ = some y ∧ w.cell? ⟨b, off + j * 4 + 3, none⟩ = some (.int .i64 ss[j].n) ∧ Seg w x ss[j].key ∧ Seg w y ss[j].value := by
  obtain ⟨ks, e1, h2, h1⟩ := h
  obtain ⟨ao', cap', e, _, _, _, _, h6⟩ := h2
  simp at e
  obtain ⟨rfl, rfl, rfl⟩ := e
  have hk : j < ks.length := by omega
  have hc := scells_at ks ss j hk hj
  obtain ⟨b, off, e, c0⟩ := h6 _ _ hc.1
  obtain ⟨b1, off1, e1, c1⟩ := h6 _ _ hc.2.1
  obtain ⟨b2, off2, e2, c2⟩ := h6 _ _ hc.2.2.1
  obtain ⟨b3, off3, e3, c3⟩ := h6 _ _ hc.2.2.2
  rw [e] at e1 e2 e3
  simp at e1 e2 e3
  obtain ⟨rfl, rfl⟩ := e1
  obtain ⟨rfl, rfl⟩ := e2
  obtain ⟨rfl, rfl⟩ := e3
  exact ⟨b, off, _, _, e, c0, by rw [Nat.add_assoc]; exact c1, by rw [Nat.add_assoc]; exact c2, by rw [Nat.add_assoc]; exact c3, (h1 j hk hj).1, (h1 j hk hj).2⟩
theorem stps_nil (w : World) : Stps w (.slice none 0 0) [] := ⟨[], rfl, vec_nil _ _, fun j h => absurd h (by simp)⟩

/-- What much tells, where it says no. -/
def Few (l : List PRow) (ss : List PStep) : Prop := l.length ≤ 300 ∧ (∀ r ∈ l, r.1.length ≤ 9999 ∧ r.2.length ≤ 9999) ∧ ∀ (j : Nat) (h : j < ss.length), j < 60 → ss[j].key.length ≤ 9999 ∧ ss[j].value.length ≤ 9999

def MuchPost (l : List PRow) (ss : List PStep) (w : World) (e : Ending) (w' : World) : Prop := ∃ b : Bool, e = .returned (.bool b) ∧ (b = false → Few l ss) ∧ w' = w

set_option maxRecDepth 100000 in
set_option maxHeartbeats 4000000 in
theorem much7 (v u : Value) (l : List PRow) (ss : List PStep) (w : World) (hv : Rws w v l) (hu : Stps w u ss) :
    Calls Try.prog 7 #[v, u] w fun e w' => MuchPost l ss w e w' := by
  obtain ⟨ao, n, ca, rfl, hna, la, la2, HA⟩ := rws_open hv
  obtain ⟨bo, m, cb, rfl, hnb, lb, HB⟩ := stps_open hu
  have HN : Hid (l.length = n ∧ ss.length = m) := ⟨hna, hnb⟩
  clear hv hu hna hnb
  by_cases h300 : n ≤ 300
  · have h1 : ¬ (300 : Int) < (n : Int) := by omega
    go_enter Try.func7, Try.ntmps7
    go_wp2_with fail
    go_loopw [5] (fun i wr => ∃ (k : Nat), k ≤ n ∧ i = .int .i64 (k : Int) ∧ w = wr ∧ (∀ j (h : j < l.length), j < k → l[j].1.length ≤ 9999 ∧ l[j].2.length ≤ 9999)) (fun i _ => n - (intOf i).toNat)
    case atStart => exact ⟨0, Nat.zero_le _, rfl, rfl, fun j _ h => absurd h (by omega)⟩
    case round =>
      obtain ⟨k, hk, rfl, hw1, hall⟩ := hrel
      have HW1 : Hid (w = wr) := hw1
      clear hw1
      have HL : Hid (∀ j (h : j < l.length), j < k → l[j].1.length ≤ 9999 ∧ l[j].2.length ≤ 9999) := hall
      clear hall
      rcases Nat.lt_or_ge k n with hlt | hge
      · have ka : k < l.length := by rw [HN.out.1]; exact hlt
        obtain ⟨b1, o1, x1, y1, rfl, c1, d1, s1, t1⟩ := rws_at HA.out k ka
        obtain ⟨ax, nx, cx, rfl, hx, _, _⟩ := Names.seg_open s1
        obtain ⟨ay, ny, cy, rfl, hy, _, _⟩ := Names.seg_open t1
        have HX : Hid (l[k].1.length = nx ∧ l[k].2.length = ny) := ⟨hx, hy⟩
        rw [HW1.out] at c1 d1
        have i0 : (0 : Int) ≤ (k : Int) := by omega
        have i1 : (k : Int) < (n : Int) := by omega
        clear s1 t1 hx hy
        by_cases g1 : (9999 : Int) < (nx : Int)
        · go_wp2_with fail
          go_ret
          exact ⟨true, rfl, by simp, HW1.out.symm⟩
        · by_cases g2 : (9999 : Int) < (ny : Int)
          · go_wp2_with fail
            go_ret
            exact ⟨true, rfl, by simp, HW1.out.symm⟩
          · go_wp2_with fail
            go_roundw
            case rel =>
              refine ⟨k + 1, by omega, by go_num, HW1.out, fun j h h3 => ?_⟩
              rcases Nat.lt_or_ge j k with h4 | h4
              · exact HL.out j h h4
              · have : j = k := by omega
                subst this
                rw [HX.out.1, HX.out.2]
                omega
            case measure => simp [intOf]; omega
      · have hkn : k = n := by omega
        subst hkn
        have HF : Hid (∀ r ∈ l, r.1.length ≤ 9999 ∧ r.2.length ≤ 9999) := by
          intro r hr
          obtain ⟨j, hj, rfl⟩ := List.mem_iff_getElem.1 hr
          exact HL.out j hj (by rw [HN.out.1] at hj; exact hj)
        clear HL
        rw [← HW1.out]
        clear HW1
        go_wp2_with fail
        go_loopw [6] (fun i wr => ∃ (k : Nat), k ≤ m ∧ k ≤ 60 ∧ i = .int .i64 (k : Int) ∧ w = wr ∧ (∀ j (h : j < ss.length), j < k → ss[j].key.length ≤ 9999 ∧ ss[j].value.length ≤ 9999)) (fun i _ => 60 - (intOf i).toNat)
        case atStart => exact ⟨0, Nat.zero_le _, Nat.zero_le _, rfl, rfl, fun j _ h => absurd h (by omega)⟩
        case round =>
          obtain ⟨k2, hk2, hk60, rfl, hww, hall⟩ := hrel
          have HL : Hid (∀ j (h : j < ss.length), j < k2 → ss[j].key.length ≤ 9999 ∧ ss[j].value.length ≤ 9999) := hall
          have HWW : Hid (w = wr) := hww
          clear hall hww
          by_cases hgo : k2 < m ∧ k2 < 60
          · have ka : k2 < ss.length := by rw [HN.out.2]; exact hgo.1
            obtain ⟨b1, o1, x1, y1, rfl, _, c1, d1, _, s1, t1⟩ := stps_at HB.out k2 ka
            obtain ⟨ax, nx, cx, rfl, hx, _, _⟩ := Names.seg_open s1
            obtain ⟨ay, ny, cy, rfl, hy, _, _⟩ := Names.seg_open t1
            have HX : Hid (ss[k2].key.length = nx ∧ ss[k2].value.length = ny) := ⟨hx, hy⟩
            rw [HWW.out] at c1 d1
            have i0 : (0 : Int) ≤ (k2 : Int) := by omega
            have i1 : (k2 : Int) < (m : Int) := by omega
            have i2 : (k2 : Int) < 60 := by omega
            clear s1 t1 hx hy
            by_cases g1 : (9999 : Int) < (nx : Int)
            · go_wp2_with fail
              go_ret
              exact ⟨true, rfl, by simp, HWW.out.symm⟩
            · by_cases g2 : (9999 : Int) < (ny : Int)
              · go_wp2_with fail
                go_ret
                exact ⟨true, rfl, by simp, HWW.out.symm⟩
              · go_wp2_with fail
                go_roundw
                case rel =>
                  refine ⟨k2 + 1, by omega, by omega, by go_num, HWW.out, fun j h h3 => ?_⟩
                  rcases Nat.lt_or_ge j k2 with h4 | h4
                  · exact HL.out j h h4
                  · have : j = k2 := by omega
                    subst this
                    rw [HX.out.1, HX.out.2]
                    omega
                case measure => simp [intOf]; omega
          · by_cases g1 : (k2 : Int) < (m : Int)
            · have g2 : ¬ (k2 : Int) < 60 := by omega
              go_wp2_with fail
              go_ret
              exact ⟨false, rfl, fun _ => ⟨by rw [HN.out.1]; exact h300, HF.out, fun j h h60 => HL.out j h (by omega)⟩, HWW.out.symm⟩
            · go_wp2_with fail
              go_ret
              exact ⟨false, rfl, fun _ => ⟨by rw [HN.out.1]; exact h300, HF.out, fun j h h60 => HL.out j h (by have := HN.out.2; omega)⟩, HWW.out.symm⟩
  · have h1 : (300 : Int) < (n : Int) := by omega
    go_enter Try.func7, Try.ntmps7
    go_wp2_with fail
    go_ret
    exact ⟨true, rfl, by simp, rfl⟩
end Go.Proofs.Ytlehikdlkdbacaa
