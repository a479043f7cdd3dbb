import Derived.Test.YtncbdhdfemidlaaGreatOabAll
namespace Go.Proofs.YtncbdhdfemidlaaGreat
open Go.RowKit Disk
open _root_.Go.Proofs.YtncbdhdfemidlaaGreat.Calls _root_.Go.Proofs.YtncbdhdfemidlaaGreat.Command
structure FS (w X:World)(m am tm:PMsg)(B1 q7 q9 q11 q12 bs:Nat)(ov av o7 a7 o9 a9 bb:Value):Prop where
 gr:w.grownBy X none
 m1:MB X B1 ov av m
 m7:MB X q7 o7 a7 (anewM am)
 p7:OpsOwn X bs o7 (anewM am).ask.ops
 s7:Own X bs a7 (anewM am).tell.answer
 m9:MB X q9 o9 a9 (anewM tm)
 p9:OpsOwn X bs o9 (anewM tm).ask.ops
 s9:Own X bs a9 (anewM tm).tell.answer
 m11:MB X q11 ov (.slice none 0 0) am
 m12:MB X q12 (.slice none 0 0) av tm
 b:Own X bs bb (if okM m=true then formM m else [])
 l7:bs<=q7
 l9:bs<=q9
 l11:bs<=q11
 l12:bs<=q12
variable {w X:World} {m am tm:PMsg} {B1 q7 q9 q11 q12 bs:Nat} {ov av o7 a7 o9 a9 bb:Value}
theorem FS.grown {X':World}(h:FS w X m am tm B1 q7 q9 q11 q12 bs ov av o7 a7 o9 a9 bb)(hg:X.grownBy X' none):FS w X' m am tm B1 q7 q9 q11 q12 bs ov av o7 a7 o9 a9 bb :=
 ⟨grown_trans h.gr hg,h.m1.grown hg,h.m7.grown hg,h.p7.grown hg,h.s7.grown hg,h.m9.grown hg,h.p9.grown hg,h.s9.grown hg,h.m11.grown hg,h.m12.grown hg,h.b.grown hg,h.l7,h.l9,h.l11,h.l12⟩
theorem FS.far {X':World}{g:Nat}(h:FS w X m am tm B1 q7 q9 q11 q12 bs ov av o7 a7 o9 a9 bb)(hg:X.grownBy X' (some g))(h1:B1<g)(h2:g<bs)(h3:w.heap.size<=g):FS w X' m am tm B1 q7 q9 q11 q12 bs ov av o7 a7 o9 a9 bb:=by
 have:=h.l7
 have:=h.l9
 have:=h.l11
 have:=h.l12
 exact ⟨grown_new h.gr hg (by intro x hx;simp at hx;omega),h.m1.but hg (by omega),h.m7.but hg (by omega),opsOwn_far h.p7 hg h2,own_far h.s7 hg h2,h.m9.but hg (by omega),opsOwn_far h.p9 hg h2,own_far h.s9 hg h2,h.m11.but hg (by omega),h.m12.but hg (by omega),own_far h.b hg h2,h.l7,h.l9,h.l11,h.l12⟩
end Go.Proofs.YtncbdhdfemidlaaGreat
