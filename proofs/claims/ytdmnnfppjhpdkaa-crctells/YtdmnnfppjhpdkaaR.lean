/-
  Parts of rows of bytes; lists of lists.
-/
import Derived.Test.YtdmnnfppjhpdkaaN
namespace Go.Proofs.Ytdmnnfppjhpdkaa
open Go.RowKit

theorem seg_take {w : World} {ao : Option Addr} {cap : Nat} {L : List UInt8} (m : Nat) (hm : m ≤ L.length) (h : Seg w (.slice ao L.length cap) L) : Seg w (.slice ao m cap) (L.take m) := by
  obtain ⟨ao', cap', hv, h1, h2, h3, h4⟩ := h
  simp at hv; obtain ⟨rfl, rfl⟩ := hv
  refine ⟨ao, cap, by simp [hm], by simp; omega, h2, h3, fun j hj => ?_⟩
  simp at hj
  obtain ⟨b, off, e, hc⟩ := h4 j (by omega)
  exact ⟨b, off, e, by simpa using hc⟩

theorem seg_drop {w : World} {ao : Option Addr} {cap : Nat} {L : List UInt8} (m : Nat) (hm : m ≤ L.length) (h : Seg w (.slice ao L.length cap) L) : Seg w (.slice (Option.map (fun x => x.add m) ao) (L.length - m) (cap - m)) (L.drop m) := by
  obtain ⟨ao', cap', hv, h1, h2, h3, h4⟩ := h
  simp at hv; obtain ⟨rfl, rfl⟩ := hv
  refine ⟨Option.map (fun x => x.add m) ao, cap - m, by simp, by simp; omega, by omega, fun h => by simp at h; have := h3 h; omega, fun j hj => ?_⟩
  simp at hj
  obtain ⟨b, off, e, hc⟩ := h4 (m + j) (by omega)
  refine ⟨b, off + m, ?_, by rw [Nat.add_assoc]; simpa using hc⟩
  rw [e]; simp only [Option.map_some, Addr.add]
  by_cases hz : m = 0
  · subst hz; simp
  · simp [hz]

theorem seg_drop_all {w : World} {ao : Option Addr} {cap : Nat} {L : List UInt8} (m : Nat) (hm : m ≤ L.length) (hc : cap = m) (h : Seg w (.slice ao L.length cap) L) : Seg w (.slice ao (L.length - m) 0) (L.drop m) := by
  obtain ⟨ao', cap', hv, h1, h2, h3, h4⟩ := h
  simp at hv; obtain ⟨rfl, rfl⟩ := hv
  have : L.length = m := by omega
  refine ⟨ao, 0, by simp, by simp; omega, by omega, fun _ => rfl, fun j hj => ?_⟩
  simp at hj; omega

theorem seg_mid {w : World} {ao : Option Addr} {cap : Nat} {L : List UInt8} (k m : Nat) (hm : k + m ≤ L.length) (h : Seg w (.slice ao L.length cap) L) : Seg w (.slice (Option.map (fun x => x.add k) ao) m (cap - k)) ((L.drop k).take m) := by
  have h1 := seg_drop k (by omega) h
  have e : L.length - k = (L.drop k).length := by simp
  rw [e] at h1
  exact seg_take m (by simp; omega) h1

theorem seg_mid_end {w : World} {ao : Option Addr} {cap : Nat} {L : List UInt8} (k : Nat) (hm : k ≤ L.length) (hc : cap = k) (h : Seg w (.slice ao L.length cap) L) : Seg w (.slice ao 0 0) [] := by
  have h1 := seg_drop_all k hm hc h
  have h2 := h.shape
  obtain ⟨ao', cap', hv, h3, _⟩ := h
  simp at hv
  have e : L.length = k := by omega
  have e2 : L.drop k = [] := List.drop_eq_nil_of_le (by omega)
  rw [e2] at h1
  rw [show L.length - k = 0 by omega] at h1
  exact h1

theorem wrap_i64 (x : Int) (h1 : -9223372036854775808 ≤ x) (h2 : x ≤ 9223372036854775807) : IntKind.i64.wrap x = x := by
  simp only [IntKind.wrap, IntKind.bits, IntKind.signed]
  simp
  omega

theorem flatten_take_le (Ls : List (List UInt8)) (k : Nat) : (Ls.take k).flatten.length ≤ Ls.flatten.length := by
  have := congrArg List.length (congrArg List.flatten (List.take_append_drop k Ls))
  simp only [List.flatten_append, List.length_append] at this
  omega

theorem flatten_take_succ (Ls : List (List UInt8)) (k : Nat) (h : k < Ls.length) : (Ls.take (k + 1)).flatten = (Ls.take k).flatten ++ Ls[k] := by
  rw [List.take_succ_eq_append_getElem h, List.flatten_append, List.flatten_cons, List.flatten_nil, List.append_nil]

theorem str_append (L M : List UInt8) : (⟨L.toArray⟩ : ByteArray) ++ (⟨M.toArray⟩ : ByteArray) = ⟨(L ++ M).toArray⟩ := by
  apply ByteArray.ext
  rw [ByteArray.data_append]
  simp

theorem str_add (L M : List UInt8) (wk : World) (h : L.length + M.length ≤ 9223372036854775807) : (Op.stringOp .add ⟨L.toArray⟩ ⟨M.toArray⟩).run Try.prog wk = .ok (.string ⟨(L ++ M).toArray⟩) wk := by
  have h1 := run_string_add_sum (P := Try.prog) (w := wk) ⟨L.toArray⟩ ⟨M.toArray⟩ (by simpa [ByteArray.size] using h)
  rw [str_append] at h1
  exact h1

end Go.Proofs.Ytdmnnfppjhpdkaa
