import Derived.Test.YtgjcpjckaopeeaaGreatDoorRows
import Derived.Test.YtgjcpjckaopeeaaGreatDoorKbbAll
import Derived.Test.YtgjcpjckaopeeaaGreatDoorCallsCq
import Derived.ProofKit
import Derived.OpenShut
import Derived.Lib.SmallJoins
import Derived.SizedLaws
import Derived.Deep.Slices
import Derived.Deep.SlicePairs
import Derived.JoinedCond
namespace Go.Proofs.YtgjcpjckaopeeaaGreatDoor
open Go.ChangeShapes Go.WideShapes Go.ChangeAt Go.RowKit Go.Joins Go.Deep Disk
open Go.Proofs.YtgjcpjckaopeeaaGreatDoor.Calls
open Names (Str)
theorem Tryz.laidOut:laidOutB Tryz.prog=true:=by kernel_rfl
theorem Tryz.cells5':Tryz.prog.cellsOf 5=1:=by kernel_rfl
theorem rl {H:Type}(d:DataW H):1<=Rows.uptoBulk d:=by
 cases d with
 | lit l=>cases l <;> simp [Rows.uptoBulk]
 | nil=>simp [Rows.uptoBulk]
 | ptr d=>simp [Rows.uptoBulk]
 | slice elems spare=>simp [Rows.uptoBulk]
 | agg parts=>simp [Rows.uptoBulk]
 | iface t d=>simp [Rows.uptoBulk]
 | map entries=>simp [Rows.uptoBulk]
 | held h=>simp [Rows.uptoBulk]
theorem kV {H:Type}:∀l:List (DataW H),l.length<=Rows.uptoBulkAll l
 | []=>by simp [Rows.uptoBulkAll]
 | d :: r=>by have:=rl d;have:=kV r;simp only [Rows.uptoBulkAll,List.length_cons];omega
theorem mE {H:Type}(elems spare:List (DataW H)):Rows.uptoBulk (.slice elems spare)=Rows.uptoBulkAll elems+Rows.uptoBulkAll spare+1:=by simp only [Rows.uptoBulk]
theorem mF {H:Type}{d:DataW H}{L:List UInt8}(h:(d=.nil/\L=[])\/∃elems spare,d=.slice elems spare/\elems.length=L.length):L.length<=Rows.uptoBulk d:=by
 rcases h with ⟨_,rfl⟩ | ⟨elems,spare,rfl,he⟩
 ·simp
 ·have:=kV elems
  rw [mE];omega
theorem rm (b off j:Nat):(⟨b,off,none⟩:Addr).add j=⟨b,off+j,none⟩:=by
 unfold Addr.add;by_cases hz:j=0
 ·subst hz;simp
 ·simp [hz]
section
variable {H:Type} {enc:TypeId × Value->H} {W:World}
theorem mG {fuel:Nat}{v:Value}{x:DataW H × List MemPlace}(h:DataW.trod enc Tryz.prog W 0 (fun _=>true) true fuel 32 [v]=some x) :
  ∃L:List UInt8,Seg W v L/\L.length<=Rows.uptoBulk x.1:=by
 rcases open_ints Tryz.underlying32 Tryz.underlying5 Tryz.cells5' h with ⟨hcs,hx⟩ | ⟨a,len,cap,zs,hcs,_,hl,hm,hz,hx,hcell,hwz⟩
 ·simp at hcs
  subst hcs
  exact ⟨[],dd W,by simp⟩
 ·simp at hcs hz
  subst hcs
  have hlen:((zs.take len).map fun n=>UInt8.ofNat n.toNat).length=len:=by simp;omega
  refine ⟨(zs.take len).map fun n=>UInt8.ofNat n.toNat,⟨some a,cap,by rw [hlen],by rw [hlen];exact hl,hm,by simp,fun j hj=>?_⟩,?_⟩
  ·rw [hlen] at hj
   have hc:=hcell j (by omega)
   have h0:=hcell 0 (by omega)
   obtain ⟨b,off,spot⟩:=a
   have hspot:spot=none:=by simpa [Addr.add] using World.cell?_spot h0
   subst hspot
   refine ⟨b,off,rfl,?_⟩
   rw [rm] at hc
   rw [hc]
   have hjz:j<zs.length:=by omega
   have hb:=bounds_u8 (hwz (zs[j]) (List.getElem_mem hjz))
   simp [List.getD,hjz]
   omega
  ·refine mF (.inr ⟨_,_,by rw [hx],?_⟩)
   simp [lits]
instance:Inhabited POp:=⟨⟨0,[],[],[],false,[],[],0⟩⟩
end
end Go.Proofs.YtgjcpjckaopeeaaGreatDoor
