import Derived.Test.YtadhfejefpildaaGreatFa
import Derived.Test.YtadhfejefpildaaGreatRows
import Derived.ProofKit
import Derived.OpenShut
import Derived.Lib.SmallJoins
import Derived.SizedLaws
import Derived.Deep.Slices
import Derived.Deep.SlicePairs
import Derived.JoinedCond
namespace Go.Proofs.YtadhfejefpildaaGreat
open Go.ChangeShapes Go.WideShapes Go.ChangeAt Go.RowKit Go.Joins Go.Deep Disk
open _root_.Go.Proofs.YtadhfejefpildaaGreat.Names (Str)
open _root_.Go.Proofs.YtadhfejefpildaaGreat.Calls (POp opV OpSeg Ops OpAt)
open _root_.Go.Proofs.YtadhfejefpildaaGreat.Command
theorem Tryz.laidOut:laidOutB Tryz.prog=true:=by kernel_rfl
theorem Tryz.cells5:Tryz.prog.cellsOf 5=1:=by kernel_rfl
theorem bulk_one {H:Type}(d:DataW H):1<=Rows.uptoBulk d:=by
 cases d with
 | lit l=>cases l <;> simp [Rows.uptoBulk]
 | nil=>simp [Rows.uptoBulk]
 | ptr d=>simp [Rows.uptoBulk]
 | slice elems spare=>simp [Rows.uptoBulk]
 | agg parts=>simp [Rows.uptoBulk]
 | iface t d=>simp [Rows.uptoBulk]
 | map entries=>simp [Rows.uptoBulk]
 | held h=>simp [Rows.uptoBulk]
theorem bulk_len {H:Type}:∀l:List (DataW H),l.length<=Rows.uptoBulkAll l
 | []=>by simp [Rows.uptoBulkAll]
 | d :: r=>by have:=bulk_one d;have:=bulk_len r;simp only [Rows.uptoBulkAll,List.length_cons];omega
theorem bulk_slice {H:Type}(elems spare:List (DataW H)):Rows.uptoBulk (.slice elems spare)=Rows.uptoBulkAll elems+Rows.uptoBulkAll spare+1:=by simp only [Rows.uptoBulk]
theorem bulk_small {H:Type}{l:List (DataW H)}(hk:Rows.uptoSmall H l=true):Rows.uptoBulkAll l<=1048576:=of_decide_eq_true hk
instance:Inhabited POp:=⟨⟨0,[],[],[],false,[],[],0⟩⟩
instance:Inhabited PCmd:=⟨zeroC⟩
theorem addr_add (b off j:Nat):(⟨b,off,none⟩:Addr).add j=⟨b,off+j,none⟩:=by
 unfold Addr.add;by_cases hz:j=0
 ·subst hz;simp
 ·simp [hz]
section
variable {H:Type} {enc:TypeId × Value->H} {W:World}
theorem open_bytes {fuel:Nat}{v:Value}{x:DataW H × List MemPlace}(h:DataW.trod enc Tryz.prog W 0 (fun _=>true) true fuel 23 [v]=some x):∃L:List UInt8,Seg W v L:=by
 rcases open_ints Tryz.underlying23 Tryz.underlying5 Tryz.cells5 h with ⟨hcs,hx⟩ | ⟨a,len,cap,zs,hcs,_,hl,hm,hz,hx,hcell,hwz⟩
 ·simp at hcs
  subst hcs
  exact ⟨[],seg_nil W⟩
 ·simp at hcs hz
  subst hcs
  have hlen:((zs.take len).map fun n=>UInt8.ofNat n.toNat).length=len:=by simp;omega
  refine ⟨(zs.take len).map fun n=>UInt8.ofNat n.toNat,⟨some a,cap,by rw [hlen],by rw [hlen];exact hl,hm,by simp,fun j hj=>?_⟩⟩
  rw [hlen] at hj
  have hc:=hcell j (by omega)
  have h0:=hcell 0 (by omega)
  obtain ⟨b,off,spot⟩:=a
  have hspot:spot=none:=by simpa [Addr.add] using World.cell?_spot h0
  subst hspot
  refine ⟨b,off,rfl,?_⟩
  rw [addr_add] at hc
  rw [hc]
  have hjz:j<zs.length:=by omega
  have hb:=bounds_u8 (hwz (zs[j]) (List.getElem_mem hjz))
  simp [List.getD,hjz]
  omega
end
end Go.Proofs.YtadhfejefpildaaGreat
