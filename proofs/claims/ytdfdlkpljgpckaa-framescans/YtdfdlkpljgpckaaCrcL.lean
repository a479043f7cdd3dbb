/-
  Laws of the walk: a whole array loaded from its block, stored into its block.
-/
import Derived.Test.YtdfdlkpljgpckaaCrcA
import Derived.Deep.WholeRow
namespace Go.Proofs.Ytdfdlkpljgpckaa.Crc
open Go.RowKit

theorem wpList_load_row {P : Program} (w : World) {ops : Array Oper} {rest : List Oper} {o : Oper} {a : Act} {Q : Exit → Act → World → Prop}
    (hgd : o.guard = none) (p : Operand) (t : TypeId) (ho : o.op = .load t p) (g n : Nat) (e : TypeId) (c : Array Value) (hu : P.underlying t = some (.array n e)) (hi : (P.info? t).map (·.size) = some c.size)
    (hp : a.eval p = .pointer (some ⟨g, 0, none⟩)) (hg : w.heap[g]? = some (.cells c t (0, 0)))
    (h : wpList P ops Q rest (a.put o.dst (.agg c)) w) : wpList P ops Q (o :: rest) a w := by
  refine wpList_plain hgd fun K hK' => ?_
  have hrun : (Instr.loadAt t (.pointer (some ⟨g, 0, none⟩))).run P w = .ok (.agg c) w := by
    simp only [Instr.loadAt, Instr.sureAddr, Sem.run_bind, Sem.run_pure, Result.andThen]
    exact run_loadVar_row w g t t c (0, 0) _ hg hu rfl hi
  unfold Oper.wp
  simp [execOp, ho, hp, hrun, Result.andThen]
  exact hK' _ _ h

theorem wpList_store_row {P : Program} (w : World) {ops : Array Oper} {rest : List Oper} {o : Oper} {a : Act} {Q : Exit → Act → World → Prop}
    (hgd : o.guard = none) (hds : o.dst = none) (p x : Operand) (t : TypeId) (ho : o.op = .store t p x) (g : Nat) (c old : Array Value) (hi : (P.info? t).map (·.size) = some c.size) (hs : old.size = c.size) (h1 : c.all (·.oneCell') = true)
    (hp : a.eval p = .pointer (some ⟨g, 0, none⟩)) (hx : a.eval x = .agg c) (hg : w.heap[g]? = some (.cells old t (0, 0)))
    (h : wpList P ops Q rest a (w.setRow g c)) : wpList P ops Q (o :: rest) a w := by
  refine wpList_plain hgd fun K hK' => ?_
  have hrun : (Instr.storeAt t (.pointer (some ⟨g, 0, none⟩)) (.agg c)).run P w = .ok () (w.setRow g c) := by
    simp only [Instr.storeAt, Instr.sureAddr, Sem.run_bind, Sem.run_pure, Result.andThen]
    exact run_storeVar_row w g t t old c hg hi hs h1
  unfold Oper.wp
  simp [execOp, ho, hp, hx, hrun, Result.andThen]
  refine hK' _ _ ?_
  rw [hds]
  exact h

theorem exec_load_row {P : Program} (w : World) {o : Oper} (ev : Operand → Value) (p : Operand) (t : TypeId) (ho : o.op = .load t p) (g n : Nat) (e : TypeId) (c : Array Value) (hu : P.underlying t = some (.array n e)) (hi : (P.info? t).map (·.size) = some c.size)
    (hp : ev p = .pointer (some ⟨g, 0, none⟩)) (hg : w.heap[g]? = some (.cells c t (0, 0))) : (execOp ev o).run P w = .ok (.value (.agg c)) w := by
  have hrun : (Instr.loadAt t (.pointer (some ⟨g, 0, none⟩))).run P w = .ok (.agg c) w := by
    simp only [Instr.loadAt, Instr.sureAddr, Sem.run_bind, Sem.run_pure, Result.andThen]
    exact run_loadVar_row w g t t c (0, 0) _ hg hu rfl hi
  simp [execOp, ho, hp, hrun, Result.andThen]

theorem grown_setRow (w : World) (g : Nat) (c : Array Value) : w.grownBy (w.setRow g c) (some g) := by
  refine ⟨rfl, rfl, rfl, by simp, fun k _ hk => ?_⟩
  simp only [World.setRow, Array.getElem?_modify]
  rw [if_neg (fun e => hk (by rw [e]))]
end Go.Proofs.Ytdfdlkpljgpckaa.Crc
