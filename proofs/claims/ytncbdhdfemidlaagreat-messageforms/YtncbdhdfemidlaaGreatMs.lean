import Derived.Test.YtncbdhdfemidlaaGreatMh
import Derived.Deep.Slices
namespace Go.Proofs.YtncbdhdfemidlaaGreat
open Go.RowKit Disk
theorem Tryz.ut30:Tryz.prog.underlying 30=some (.slice (Tryz.prog.elem 30)):=by kernel_rfl
theorem Tryz.size5 (w:World):(sizeOf (Tryz.prog.elem 30)).run Tryz.prog w=.ok 1 w:=by kernel_rfl
theorem run_rest30 (ao:Option Addr)(n cap lo:Nat)(h1:lo<=n)(w:World) :
  (Instr.slice 30 (.slice ao n cap) (some (.int .i64 (lo:Int))) none none).run Tryz.prog w=.ok (sliced ao lo n cap 1) w:=by
 rw [run_slice_l _ 30 ao n cap Tryz.ut30 .i64 lo (by omega) (by omega),Tryz.size5]
 simp [Result.andThen]
theorem seg_rest {w:World}{ao:Option Addr}{n cap:Nat}{L:List UInt8}(hn:L.length=n)(m:Nat)(hm:m<=L.length)(h:Seg w (.slice ao n cap) L):Seg w (sliced ao m n cap 1) (L.drop m):=by
 subst hn
 unfold sliced
 by_cases hc:cap=m
 ·have h2:Seg w (.slice ao (L.length-m) 0) (L.drop m):=Wire.seg_drop_all m hm hc h
  subst hc
  simpa using h2
 ·have h2:Seg w (.slice (Option.map (fun x=>x.add m) ao) (L.length-m) (cap-m)) (L.drop m):=Wire.seg_drop m hm h
  simpa [hc] using h2
end Go.Proofs.YtncbdhdfemidlaaGreat
