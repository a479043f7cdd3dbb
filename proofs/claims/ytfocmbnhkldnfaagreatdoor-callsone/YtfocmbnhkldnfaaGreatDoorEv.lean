/-
  What the program's and the library's variables hold.
-/
import Derived.Test.YtfocmbnhkldnfaaGreatDoorV
namespace Go.Proofs.YtfocmbnhkldnfaaGreatDoor
open Go.RowKit Disk
open Names (Str)

structure EnvF (w : World) : Prop where
  kw : KW w
  maxl : ∃ m, w.cell? ⟨1, 0, none⟩ = some (.int .i64 m)
  syn : ∃ tp p, w.cell? ⟨2, 0, none⟩ = some (.iface tp p)
  rng : ∃ tp p, w.cell? ⟨3, 0, none⟩ = some (.iface tp p)
  tab : Lib.TabIs Tryz.prog w "internal/strconv.uint64pow10" .u64 Lib.pow10Tab
  sz : 9 ≤ w.heap.size

theorem pow_global : ∃ g, g < 9 ∧ Tryz.prog.globalNamed "internal/strconv.uint64pow10" = some g := ⟨4, by decide, by kernel_rfl⟩
theorem EnvF.low {w w' : World} (h : EnvF w) (hs : w.heap.size ≤ w'.heap.size) (hb : ∀ k, k < 9 → w'.heap[k]? = w.heap[k]?) : EnvF w' := by
  have up : ∀ {b j v}, b < 9 → w.cell? ⟨b, j, none⟩ = some v → w'.cell? ⟨b, j, none⟩ = some v := by
    intro b j v hlt hc
    rw [World.cell?_of_block (w := w) (by exact hb b hlt)]
    exact hc
  obtain ⟨m, hm⟩ := h.maxl
  obtain ⟨t1, p1, h1⟩ := h.syn
  obtain ⟨t2, p2, h2⟩ := h.rng
  refine ⟨⟨up (by decide) h.kw.1, up (by decide) h.kw.2.1, up (by decide) h.kw.2.2.1, up (by decide) h.kw.2.2.2.1, up (by decide) h.kw.2.2.2.2.1, up (by decide) h.kw.2.2.2.2.2⟩, ⟨m, up (by decide) hm⟩, ⟨t1, p1, up (by decide) h1⟩, ⟨t2, p2, up (by decide) h2⟩, ?_, by have := h.sz; omega⟩
  obtain ⟨g, hg, e⟩ := pow_global
  have ht := h.tab
  unfold Lib.TabIs World.var? at ht ⊢
  rw [e] at ht ⊢
  simp only [Option.bind_some] at ht ⊢
  rw [hb g hg]
  exact ht
theorem EnvF.grown {w w' : World} (h : EnvF w) (hg : w.grownBy w' none) : EnvF w' := h.low hg.size fun k hk => hg.block k (by have := h.sz; omega) (by simp)
theorem EnvF.set {w w' : World} {b : Nat} (h : EnvF w) (hg : w.grownBy w' (some b)) (hb : 9 ≤ b) : EnvF w' := h.low hg.size fun k hk => hg.block k (by have := h.sz; omega) (fun e => by simp at e; omega)
end Go.Proofs.YtfocmbnhkldnfaaGreatDoor
