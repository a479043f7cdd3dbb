/-
  The document's Begin.
-/
import Derived.Test.YtdfdlkpljgpckaaSma
import Derived.Test.YtdfdlkpljgpckaaSmb
import Derived.Test.YtdfdlkpljgpckaaSmc
import Derived.Test.YtdfdlkpljgpckaaSmd
import Derived.Test.YtdfdlkpljgpckaaSme
namespace Go.Proofs.Ytdfdlkpljgpckaa
open Go.RowKit Disk

theorem begin27 (v : Value) (L : List UInt8) (w : World) (hs : Seg w v L) (hmax : L.length ≤ 140737488355328) : Calls Try.prog 27 #[v] w (BegPost L w) := by
  by_cases h : L.length < 9
  · exact begin27_few v L w hs h
  · obtain ⟨ao, cap, hv⟩ := hs.shape
    subst hv
    by_cases h1 : 2147483647 < lenOf L
    · exact begin27_long ao cap L w hs (by omega) hmax h1
    · by_cases h2 : L.length < 9 + lenOf L
      · exact begin27_torn ao cap L w hs (by omega) hmax h1 h2
      · by_cases h3 : cap = 9
        · by_cases h4 : L.take 9 = hdr (kindOf L) (bodyOf L)
          · exact begin27_nine_same ao cap L w hs (by omega) hmax h1 h2 h3 h4
          · exact begin27_nine_other ao cap L w hs (by omega) hmax h1 h2 h3 h4
        · by_cases h4 : L.take 9 = hdr (kindOf L) (bodyOf L)
          · exact begin27_more_same ao cap L w hs (by omega) hmax h1 h2 h3 h4
          · exact begin27_more_other ao cap L w hs (by omega) hmax h1 h2 h3 h4
end Go.Proofs.Ytdfdlkpljgpckaa
