import Derived.Test.YtanoabliahcbeaaGreatCrfAll
import Derived.Test.YtanoabliahcbeaaGreatCdxAll
namespace Go.Proofs.YtanoabliahcbeaaGreat.Calls
open Go.RowKit Disk
open Names (Str)
structure Acc (W0 z:World)(x:Value)(A:Bs)(P t:Nat)(cs:Array Value):Prop where
 own:Own z W0.heap.size x A
 grown:W0.grownBy z none
 blk:Blk z P t cs
theorem Acc.call {W0 z z':World}{x:Value}{A:Bs}{P t:Nat}{cs:Array Value}(h:Acc W0 z x A P t cs)(hg:z.grownBy z' none):Acc W0 z' x A P t cs:=⟨h.own.grown hg,grown_trans h.grown hg,h.blk.grown hg (by simp)⟩
end Go.Proofs.YtanoabliahcbeaaGreat.Calls
