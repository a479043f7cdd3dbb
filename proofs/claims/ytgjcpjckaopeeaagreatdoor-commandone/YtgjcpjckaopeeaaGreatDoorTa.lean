import Derived.Test.YtgjcpjckaopeeaaGreatDoorRows
import Derived.Test.YtgjcpjckaopeeaaGreatDoorKbbAll
import Derived.Test.YtgjcpjckaopeeaaGreatDoorCallsCq
import Derived.ProofKit
import Derived.OpenShut
import Derived.Lib.SmallJoins
import Derived.SizedLaws
import Derived.Deep.Slices
import Derived.Deep.SlicePairs
import Derived.JoinedCond
namespace Go.Proofs.YtgjcpjckaopeeaaGreatDoor
open Go.ChangeShapes Go.WideShapes Go.ChangeAt Go.RowKit Go.Joins Go.Deep Disk
open _root_.Go.Proofs.YtgjcpjckaopeeaaGreatDoor.Calls
open Names (Str)
theorem Tryz.laidOut:laidOutB Tryz.prog=true:=by kernel_rfl
theorem Tryz.cells2:Tryz.prog.cellsOf 2=1:=by kernel_rfl
theorem Tryz.cells3:Tryz.prog.cellsOf 3=1:=by kernel_rfl
theorem Tryz.cells4:Tryz.prog.cellsOf 4=1:=by kernel_rfl
theorem Tryz.cells9:Tryz.prog.cellsOf 9=1:=by kernel_rfl
theorem Tryz.cells22:Tryz.prog.cellsOf 22=1:=by kernel_rfl
theorem Tryz.cells23:Tryz.prog.cellsOf 23=1:=by kernel_rfl
theorem Tryz.cells25:Tryz.prog.cellsOf 25=1:=by kernel_rfl
theorem Tryz.cells27:Tryz.prog.cellsOf 27=6:=by kernel_rfl
theorem Tryz.cells32:Tryz.prog.cellsOf 32=1:=by kernel_rfl
theorem Tryz.cells51:Tryz.prog.cellsOf 51=1:=by kernel_rfl
theorem Tryz.cells53:Tryz.prog.cellsOf 53=8:=by kernel_rfl
theorem Tryz.cells5':Tryz.prog.cellsOf 5=1:=by kernel_rfl
theorem bytesF53:Tryz.prog.bytesOf 53=136:=by kernel_rfl
theorem addr_add (b off j:Nat):(⟨b,off,none⟩:Addr).add j=⟨b,off+j,none⟩:=by
 unfold Addr.add;by_cases hz:j=0
 ·subst hz;simp
 ·simp [hz]
section
variable {H:Type} {enc:TypeId × Value->H} {W:World}
instance:Inhabited POp:=⟨⟨0,[],[],[],false,[],[],0⟩⟩
def Fits (t:TypeId)(d:DataW H):Prop:=∀n ∈ d.weights Tryz.prog t,n<=140737488351232
theorem all_memF {e:TypeId}:∀{l:List (DataW H)} {d:DataW H},d ∈ l->∀n ∈ d.weights Tryz.prog e,n ∈ DataW.weightsAll Tryz.prog e l
 | x :: r,d,hd,n,hn=>by
  simp only [DataW.weightsAll,List.mem_append]
  rcases List.mem_cons.1 hd with rfl | h
  ·exact .inl hn
  ·exact .inr (all_memF h n hn)
theorem fits_of {ts:List TypeId}{ds:List (DataW H)}(h:(DataW.weightsEach Tryz.prog ts ds).all (·<=reachBytes)=true){j:Nat}{t:TypeId}{d:DataW H}(ht:ts[j]? = some t)(hd:ds[j]? = some d):Fits t d:=fun n hn=>by
 have h2:n<=reachBytes:=of_decide_eq_true (List.all_eq_true.1 h n (DataW.weights_mem_each ht hd n hn))
 simp only [reachBytes] at h2
 omega
theorem fits_field {t:TypeId}{fs:Array Field}{parts:List (DataW H)}(hu:Tryz.prog.underlying t=some (.struct fs))(h:Fits t (.agg parts)){j:Nat}{e:TypeId}{d:DataW H}(ht:(fs.toList.map (·.type))[j]? = some e)(hd:parts[j]? = some d):Fits e d:=fun n hn=>by
 refine h n ?_
 simp only [DataW.weights,hu]
 exact DataW.weights_mem_each ht hd n hn
theorem fits_slice {t e:TypeId}{elems spare:List (DataW H)}(hu:Tryz.prog.underlying t=some (.slice e))(h:Fits t (.slice elems spare)):(elems.length+spare.length)*Tryz.prog.bytesOf e<=140737488351232/\∀d ∈ elems,Fits e d:=by
 refine ⟨h _ ?_,fun d hd n hn=>h n ?_⟩
 ·simp only [DataW.weights,hu]
  exact List.mem_cons_self
 ·simp only [DataW.weights,hu]
  exact List.mem_cons_of_mem _ (List.mem_append_left _ (all_memF hd n hn))
end
end Go.Proofs.YtgjcpjckaopeeaaGreatDoor
