import Derived.Test.YtakmlhhapegpoaaGreatShiAll
import Derived.Test.YtakmlhhapegpoaaGreatRows
import Derived.ProofKit
import Derived.OpenShut
import Derived.Lib.SmallJoins
import Derived.SizedLaws
import Derived.Deep.Slices
import Derived.Deep.SlicePairs
import Derived.Test.YtakmlhhapegpoaaGreatCjAll
set_option maxHeartbeats 1000000
set_option maxRecDepth 100000
namespace Go.Proofs.YtakmlhhapegpoaaGreat
open Go.ChangeShapes Go.WideShapes Go.ChangeAt Go.RowKit Go.Joins Go.Deep Disk Table
open Names (Str)
open _root_.Go.Proofs.YtakmlhhapegpoaaGreat.Calls (POp opV OpSeg Ops OpAt)
theorem Tryz.laidOut:laidOutB Tryz.prog=true:=by kernel_rfl
theorem Tryz.cells3:Tryz.prog.cellsOf 3=1:=by kernel_rfl
theorem Tryz.cells4:Tryz.prog.cellsOf 4=1:=by kernel_rfl
theorem Tryz.cells5:Tryz.prog.cellsOf 5=1:=by kernel_rfl
theorem Tryz.cells9:Tryz.prog.cellsOf 9=1:=by kernel_rfl
theorem Tryz.cells35:Tryz.prog.cellsOf 35=1:=by kernel_rfl
theorem Tryz.cells37:Tryz.prog.cellsOf 37=1:=by kernel_rfl
theorem Tryz.cells59:Tryz.prog.cellsOf 59=1:=by kernel_rfl
theorem Tryz.cells65:Tryz.prog.cellsOf 65=1:=by kernel_rfl
theorem Tryz.cells61:Tryz.prog.cellsOf 61=3:=by kernel_rfl
theorem Tryz.cells67:Tryz.prog.cellsOf 67=8:=by kernel_rfl
theorem Tryz.cells23:Tryz.prog.cellsOf 23=2:=by kernel_rfl
theorem bytesF67:Tryz.prog.bytesOf 67=136:=by kernel_rfl
theorem bytesF5:Tryz.prog.bytesOf 5=1:=by kernel_rfl
instance:Inhabited POp:=⟨⟨0,[],[],[],false,[],[],0⟩⟩
theorem ncells_get:∀(ks:List (Bs × Value × Value)) (j:Nat) (u:Value),(ncells ks)[j]? = some u->∃i,∃h:i<ks.length,(j=i*3/\u=Str ks[i].1)\/(j=i*3+1/\u=ks[i].2.1)\/(j=i*3+2/\u=ks[i].2.2)
 | [],j,u,h=>by simp [ncells] at h
 | p :: l,0,u,h=>⟨0,by simp,.inl ⟨rfl,by simpa [ncells] using h.symm⟩⟩
 | p :: l,1,u,h=>⟨0,by simp,.inr (.inl ⟨rfl,by simpa [ncells] using h.symm⟩)⟩
 | p :: l,2,u,h=>⟨0,by simp,.inr (.inr ⟨rfl,by simpa [ncells] using h.symm⟩)⟩
 | p :: l,j+3,u,h=>by
  have h':(ncells l)[j]? = some u:=by simpa [ncells] using h
  obtain ⟨i,hi,hh⟩:=ncells_get l j u h'
  refine ⟨i+1,by simpa using hi,?_⟩
  rcases hh with ⟨rfl,rfl⟩ | ⟨rfl,rfl⟩ | ⟨rfl,rfl⟩
  ·exact .inl ⟨by omega,rfl⟩
  ·exact .inr (.inl ⟨by omega,rfl⟩)
  ·exact .inr (.inr ⟨by omega,rfl⟩)
theorem add_add' (a:Addr)(i j:Nat):(a.add i).add j=a.add (i+j):=by
 obtain ⟨b,off,spot⟩:=a
 unfold Addr.add
 by_cases h1:i=0
 ·subst h1;simp
 ·by_cases h2:j=0
  ·subst h2;simp
  ·simp [h1,h2,Nat.add_assoc]
section
variable {H:Type} {enc:TypeId × Value->H} {W:World}
def Fits (t:TypeId)(d:DataW H):Prop:=∀n ∈ d.weights Tryz.prog t,n<=140737488351232
theorem all_memF {e:TypeId}:∀{l:List (DataW H)} {d:DataW H},d ∈ l->∀n ∈ d.weights Tryz.prog e,n ∈ DataW.weightsAll Tryz.prog e l
 | x :: r,d,hd,n,hn=>by
  simp only [DataW.weightsAll,List.mem_append]
  rcases List.mem_cons.1 hd with rfl | h
  ·exact .inl hn
  ·exact .inr (all_memF h n hn)
theorem fits_of {ts:List TypeId}{ds:List (DataW H)}(h:(DataW.weightsEach Tryz.prog ts ds).all (·<=reachBytes)=true){j:Nat}{t:TypeId}{d:DataW H}(ht:ts[j]? = some t)(hd:ds[j]? = some d):Fits t d:=fun n hn=>by
 have h2:n<=reachBytes:=of_decide_eq_true (List.all_eq_true.1 h n (DataW.weights_mem_each ht hd n hn))
 simp only [reachBytes] at h2
 omega
theorem fits_field {t:TypeId}{fs:Array Field}{parts:List (DataW H)}(hu:Tryz.prog.underlying t=some (.struct fs))(h:Fits t (.agg parts)){j:Nat}{e:TypeId}{d:DataW H}(ht:(fs.toList.map (·.type))[j]? = some e)(hd:parts[j]? = some d):Fits e d:=fun n hn=>by
 refine h n ?_
 simp only [DataW.weights,hu]
 exact DataW.weights_mem_each ht hd n hn
theorem fits_slice {t e:TypeId}{elems spare:List (DataW H)}(hu:Tryz.prog.underlying t=some (.slice e))(h:Fits t (.slice elems spare)):(elems.length+spare.length)*Tryz.prog.bytesOf e<=140737488351232/\∀d ∈ elems,Fits e d:=by
 refine ⟨h _ ?_,fun d hd n hn=>h n ?_⟩
 ·simp only [DataW.weights,hu]
  exact List.mem_cons_self
 ·simp only [DataW.weights,hu]
  exact List.mem_cons_of_mem _ (List.mem_append_left _ (all_memF hd n hn))
theorem open_bytes {fuel:Nat}{v:Value}{x:DataW H × List MemPlace}(h:DataW.trod enc Tryz.prog W 0 (fun _=>true) true fuel 59 [v]=some x)(hb:Fits 59 x.1) :
  ∃L:List UInt8,Seg W v L/\L.length<=140737488351232:=by
 rcases open_ints Tryz.underlying59 Tryz.underlying5 Tryz.cells5 h with ⟨hcs,hx⟩ | ⟨a,len,cap,zs,hcs,_,hl,hm,hz,hx,hcell,hwz⟩
 ·simp at hcs
  subst hcs
  exact ⟨[],seg_nil W,by simp⟩
 ·simp at hcs hz
  subst hcs
  have hlen:((zs.take len).map fun n=>UInt8.ofNat n.toNat).length=len:=by simp;omega
  refine ⟨(zs.take len).map fun n=>UInt8.ofNat n.toNat,⟨some a,cap,by rw [hlen],by rw [hlen];exact hl,hm,by simp,fun j hj=>?_⟩,?_⟩
  ·rw [hlen] at hj
   have hc:=hcell j (by omega)
   have h0:=hcell 0 (by omega)
   obtain ⟨b,off,spot⟩:=a
   have hspot:spot=none:=by simpa [Addr.add] using World.cell?_spot h0
   subst hspot
   refine ⟨b,off,rfl,?_⟩
   rw [addr_add] at hc
   rw [hc]
   have hjz:j<zs.length:=by omega
   have hb:=bounds_u8 (hwz (zs[j]) (List.getElem_mem hjz))
   simp [List.getD,hjz]
   omega
  ·rw [hx] at hb
   obtain ⟨hsz,_⟩:=fits_slice Tryz.underlying59 hb
   rw [bytesF5] at hsz
   rw [hlen]
   simp [lits] at hsz
   omega
theorem open_opsF {fuel:Nat}{v:Value}{x:DataW H × List MemPlace}(h:DataW.trod enc Tryz.prog W 0 (fun _=>true) true fuel 35 [v]=some x)(hb:Fits 35 x.1) :
  ∃(A:List POp) (av:Option Addr) (n c:Nat),v=.slice av n c/\n<=c/\c<=9223372036854775807/\Ops W v A/\Calls.Fit A:=by
 rcases open_slice Tryz.underlying35 h with ⟨hcs,hx⟩ | ⟨a,len,cap,m,n,D,Pl,hcs,_,hl,hm,hmm,hx,hel⟩
 ·simp at hcs
  subst hcs
  exact ⟨[],none,0,0,rfl,by omega,by omega,⟨none,0,rfl,by simp,fun j hj=>absurd hj (by simp)⟩,by simp [Calls.Fit]⟩
 ·simp at hcs hmm
  subst hcs
  subst hmm
  rw [hx] at hb
  obtain ⟨hsz,hfe⟩:=fits_slice Tryz.underlying35 hb
  rw [bytesF67] at hsz
  have hlen:len<=1034834473200:=by
   simp at hsz
   omega
  have each:∀i,i<len->∃q:POp × Value × Value × Value × Value,W.cell? (a.add (i*8))=some (.int .i64 q.1.kind)/\W.cell? (a.add (i*8+1))=some (Str q.1.table)/\W.cell? (a.add (i*8+2))=some q.2.1/\W.cell? (a.add (i*8+3))=some q.2.2.1/\W.cell? (a.add (i*8+4))=some (.bool q.1.has)/\W.cell? (a.add (i*8+5))=some q.2.2.2.1/\W.cell? (a.add (i*8+6))=some q.2.2.2.2/\W.cell? (a.add (i*8+7))=some (.int .i64 q.1.most)/\OpSeg W q.2.1 q.2.2.1 q.2.2.2.1 q.2.2.2.2 q.1/\(q.1.key.length<=140737488351232/\q.1.value.length<=140737488351232/\q.1.old.length<=140737488351232/\q.1.to.length<=140737488351232):=by
   intro i hi
   obtain ⟨cs',h1,h2⟩:=hel i (by omega)
   rw [Tryz.cells67] at h1
   obtain ⟨_,hlen',hcell⟩:=World.cells?_some h1
   obtain ⟨xs,k,hk,hxy,_,hxl,hfd⟩:=DataW.trod_struct Tryz.underlying67 h2
   have hfi:=hfe (D i) (List.mem_map.2 ⟨i,List.mem_range.2 hi,rfl⟩)
   match xs,hxl,cs',hlen' with
   | [y0,y1,y2,y3,y4,y5,y6,y7],_,[v0,v1,v2,v3,v4,v5,v6,v7],_ =>
    simp only [Prod.mk.injEq] at hxy
    rw [hxy.1] at hfi
    have g0:=hfd 0 _ rfl
    have g1:=hfd 1 _ rfl
    have g2:=hfd 2 _ rfl
    have g3:=hfd 3 _ rfl
    have g4:=hfd 4 _ rfl
    have g5:=hfd 5 _ rfl
    have g6:=hfd 6 _ rfl
    have g7:=hfd 7 _ rfl
    simp [Tryz.cells3,Tryz.cells4,Tryz.cells9,Tryz.cells59,Tryz.cells65] at g0 g1 g2 g3 g4 g5 g6 g7
    have e0:=hcell 0 (by omega)
    have e1:=hcell 1 (by omega)
    have e2:=hcell 2 (by omega)
    have e3:=hcell 3 (by omega)
    have e4:=hcell 4 (by omega)
    have e5:=hcell 5 (by omega)
    have e6:=hcell 6 (by omega)
    have e7:=hcell 7 (by omega)
    rw [add_add'] at e0 e1 e2 e3 e4 e5 e6 e7
    obtain ⟨z0,r0,_,w0⟩:=DataW.trod_int Tryz.underlying65 g0
    obtain ⟨z7,r7,_,w7⟩:=DataW.trod_int Tryz.underlying3 g7
    obtain ⟨⟨⟨tl⟩⟩,r1,_,w1⟩:=DataW.trod_string Tryz.underlying9 g1
    obtain ⟨bo,r4,_⟩:=DataW.trod_bool Tryz.underlying4 g4
    simp at r0 r7 r1 r4
    have b0:=bounds_i64 w0
    have b7:=bounds_i64 w7
    obtain ⟨M2,hM2,l2⟩:=open_bytes g2 (fits_field Tryz.underlying67 hfi (j:=2) rfl rfl)
    obtain ⟨M3,hM3,l3⟩:=open_bytes g3 (fits_field Tryz.underlying67 hfi (j:=3) rfl rfl)
    obtain ⟨M5,hM5,l5⟩:=open_bytes g5 (fits_field Tryz.underlying67 hfi (j:=5) rfl rfl)
    obtain ⟨M6,hM6,l6⟩:=open_bytes g6 (fits_field Tryz.underlying67 hfi (j:=6) rfl rfl)
    subst r0 r7 r1 r4
    refine ⟨(⟨z0,tl,M2,M3,bo,M5,M6,z7⟩,v2,v3,v5,v6),by simpa using e0,by simpa [Str] using e1,by simpa using e2,by simpa using e3,by simpa using e4,by simpa using e5,by simpa using e6,by simpa using e7,⟨hM2,hM3,hM5,hM6,⟨b0.1,b0.2,b7.1,b7.2,?_⟩⟩,l2,l3,l5,l6⟩
    have:tl.length<=maxLen:=w1
    unfold maxLen at this
    simp only
    omega
  obtain ⟨q,hq⟩:=choose_lt each
  refine ⟨(List.range len).map fun i=>(q i).1,some a,len,m,rfl,by omega,by unfold maxLen at hm;omega,⟨some a,m,by simp,by simp;omega,fun j hj=>?_⟩,by simp;omega,fun o ho=>?_⟩
  ·simp at hj
   obtain ⟨h0,h1,h2,h3,h4,h5,h6,h7,h8,_⟩:=hq j hj
   obtain ⟨b,off,spot⟩:=a
   have hz:=(hq 0 (by omega)).1
   have hspot:spot=none:=by simpa [Addr.add] using World.cell?_spot hz
   subst hspot
   rw [addr_add] at h0 h1 h2 h3 h4 h5 h6 h7
   rw [<-Nat.add_assoc] at h1 h2 h3 h4 h5 h6 h7
   refine ⟨b,off,(q j).2.1,(q j).2.2.1,(q j).2.2.2.1,(q j).2.2.2.2,rfl,?_,?_⟩
   ·simp only [List.getElem_map,List.getElem_range]
    exact ⟨h0,h1,h2,h3,h4,h5,h6,h7⟩
   ·simp only [List.getElem_map,List.getElem_range]
    exact h8
  ·obtain ⟨i,hi,rfl⟩:=List.mem_map.1 ho
   obtain ⟨_,_,_,_,_,_,_,_,_,h9⟩:=hq i (List.mem_range.1 hi)
   exact ⟨by omega,by omega,by omega,by omega⟩
theorem open_named {fuel:Nat}{v:Value}{x:DataW H × List MemPlace}(h:DataW.trod enc Tryz.prog W 0 (fun _=>true) true fuel 24 [v]=some x)(hb:Fits 24 x.1):∃l:List NRow,Nms W v l/\∀r ∈ l,r.1.length<=9223372036854775807/\r.2.1.length<=140737488355328/\r.2.2.length<=140737488355328:=by
 rcases open_slice Tryz.underlying24 h with ⟨hcs,hx⟩ | ⟨a,len,cap,m,n,D,Pl,hcs,_,hl,hm,hmm,hx,hel⟩
 ·simp at hcs
  subst hcs
  exact ⟨[],nms_nil W,by simp⟩
 ·simp at hcs hmm
  subst hcs
  subst hmm
  rw [hx] at hb
  obtain ⟨_,hfe⟩:=fits_slice Tryz.underlying24 hb
  have each:∀i,i<len->∃q:NRow × (Value × Value),W.cell? (a.add (i*3))=some (Str q.1.1)/\W.cell? (a.add (i*3+1))=some q.2.1/\W.cell? (a.add (i*3+2))=some q.2.2/\Seg W q.2.1 q.1.2.1/\Seg W q.2.2 q.1.2.2/\q.1.1.length<=9223372036854775807/\q.1.2.1.length<=140737488355328/\q.1.2.2.length<=140737488355328:=by
   intro i hi
   obtain ⟨cs',h1,h2⟩:=hel i (by omega)
   rw [Tryz.cells61] at h1
   obtain ⟨_,hlen,hcell⟩:=World.cells?_some h1
   obtain ⟨xs,k,hk,hxy,_,hxl,hfd⟩:=DataW.trod_struct Tryz.underlying61 h2
   have hfi:=hfe (D i) (List.mem_map.2 ⟨i,List.mem_range.2 hi,rfl⟩)
   match xs,hxl,cs',hlen with
   | [y0,y1,y2],_,[v0,v1,v2],_ =>
    simp only [Prod.mk.injEq] at hxy
    rw [hxy.1] at hfi
    have g0:=hfd 0 _ rfl
    have g1:=hfd 1 _ rfl
    have g2:=hfd 2 _ rfl
    simp [Tryz.cells9,Tryz.cells59] at g0 g1 g2
    have e0:=hcell 0 (by omega)
    have e1:=hcell 1 (by omega)
    have e2:=hcell 2 (by omega)
    rw [add_add'] at e0 e1 e2
    obtain ⟨⟨⟨tl⟩⟩,r0,_,w0⟩:=DataW.trod_string Tryz.underlying9 g0
    simp at r0
    subst r0
    obtain ⟨M,hM,lM⟩:=open_bytes g1 (fits_field Tryz.underlying61 hfi (j:=1) rfl rfl)
    obtain ⟨N,hN,lN⟩:=open_bytes g2 (fits_field Tryz.underlying61 hfi (j:=2) rfl rfl)
    refine ⟨((tl,M,N),(v1,v2)),by simpa [Str] using e0,by simpa using e1,by simpa using e2,hM,hN,?_,by simp only;omega,by simp only;omega⟩
    have:tl.length<=maxLen:=w0
    unfold maxLen at this
    simp only
    omega
  obtain ⟨q,hq⟩:=choose_lt each
  refine ⟨(List.range len).map fun i=>(q i).1,⟨(List.range len).map fun i=>((q i).1.1,(q i).2),⟨by simp,fun j h1 h2=>?_⟩,some a,m,by simp,by simp;omega,hm,by simp,by rw [ncells_len];simp,fun j u hu=>?_⟩,fun r hr=>?_⟩
  ·simp at h1
   simp
   exact ⟨(hq j h1).2.2.2.1,(hq j h1).2.2.2.2.1⟩
  ·obtain ⟨i,hi,hh⟩:=ncells_get _ j u hu
   simp at hi
   obtain ⟨b,off,spot⟩:=a
   have hz:=(hq 0 (by omega)).1
   have hspot:spot=none:=by simpa [Addr.add] using World.cell?_spot hz
   subst hspot
   have c0:=(hq i hi).1
   have c1:=(hq i hi).2.1
   have c2:=(hq i hi).2.2.1
   rw [addr_add] at c0 c1 c2
   refine ⟨b,off,rfl,?_⟩
   rcases hh with ⟨rfl,rfl⟩ | ⟨rfl,rfl⟩ | ⟨rfl,rfl⟩
   ·simpa using c0
   ·simpa using c1
   ·simpa using c2
  ·obtain ⟨i,hi,rfl⟩:=List.mem_map.1 hr
   exact (hq i (List.mem_range.1 hi)).2.2.2.2.2
theorem open_calls {fuel:Nat}{v:Value}{x:DataW H × List MemPlace}(h:DataW.trod enc Tryz.prog W 0 (fun _=>true) true fuel 25 [v]=some x)(hb:Fits 25 x.1):∃ls:List (List POp),Cls W v ls/\∀c ∈ ls,Calls.Fit c:=by
 rcases open_slice Tryz.underlying25 h with ⟨hcs,hx⟩ | ⟨a,len,cap,m,n,D,Pl,hcs,_,hl,hm,hmm,hx,hel⟩
 ·simp at hcs
  subst hcs
  exact ⟨[],⟨none,0,rfl,by simp,by omega,fun j hj=>absurd hj (by simp)⟩,by simp⟩
 ·simp at hcs hmm
  subst hcs
  subst hmm
  rw [hx] at hb
  obtain ⟨_,hfe⟩:=fits_slice Tryz.underlying25 hb
  have each:∀i,i<len->∃q:List POp × Option Addr × Nat × Nat,W.cell? (a.add i)=some (.slice q.2.1 q.2.2.1 q.2.2.2)/\q.2.2.1<=q.2.2.2/\q.2.2.2<=9223372036854775807/\Ops W (.slice q.2.1 q.2.2.1 q.2.2.2) q.1/\Calls.Fit q.1:=by
   intro i hi
   obtain ⟨cs',h1,h2⟩:=hel i (by omega)
   have hfi:=hfe (D i) (List.mem_map.2 ⟨i,List.mem_range.2 hi,rfl⟩)
   rw [Tryz.cells37] at h1
   obtain ⟨_,hlen,hcell⟩:=World.cells?_some h1
   obtain ⟨xs,k,hk,hxy,_,hxl,hfd⟩:=DataW.trod_struct Tryz.underlying37 h2
   match xs,hxl,cs',hlen with
   | [y0],_,[v0],_ =>
    have g0:=hfd 0 _ rfl
    simp [Tryz.cells35] at g0
    simp only [Prod.mk.injEq] at hxy
    rw [hxy.1] at hfi
    have e0:=hcell 0 (by omega)
    rw [add_add'] at e0
    obtain ⟨A,av,nn,c,rfl,h3,h4,h5,h6⟩:=open_opsF g0 (fits_field Tryz.underlying37 hfi (j:=0) rfl rfl)
    exact ⟨(A,av,nn,c),by simpa using e0,h3,h4,h5,h6⟩
  obtain ⟨q,hq⟩:=choose_lt each
  refine ⟨(List.range len).map fun i=>(q i).1,⟨some a,m,by simp,by simp;omega,by unfold maxLen at hm;omega,fun j hj=>?_⟩,fun c hc=>by obtain ⟨i,hi,rfl⟩:=List.mem_map.1 hc;exact (hq i (List.mem_range.1 hi)).2.2.2.2⟩
  simp at hj
  obtain ⟨b,off,spot⟩:=a
  have hz:=(hq 0 (by omega)).1
  have hspot:spot=none:=by simpa [Addr.add] using World.cell?_spot hz
  subst hspot
  have c0:=(hq j hj).1
  rw [addr_add] at c0
  simp only [List.getElem_map,List.getElem_range]
  exact ⟨b,off,(q j).2.1,(q j).2.2.1,(q j).2.2.2,rfl,c0,(hq j hj).2.1,(hq j hj).2.2.1,(hq j hj).2.2.2.1⟩
theorem open_quota {r:Reach}{b0:Nat}{v:Value}{d:DataW H}{p:List MemPlace}(hv:Value.okWide Tryz.prog W r b0 23 v)(h:DataW.Trod enc Tryz.prog W 0 (fun _=>true) true 23 v d p):∃q:Int × Int,v=quoV q:=by
 obtain ⟨cs,rfl,hsz⟩:=okWide_struct Tryz.underlying23 hv
 rw [Tryz.cells23] at hsz
 obtain ⟨l⟩:=cs
 match l,hsz with
 | [v0,v1],_ =>
  obtain ⟨fuel,hf⟩:=h
  obtain ⟨xs,k,hk,hxy,_,hxl,hfd⟩:=DataW.trod_struct Tryz.underlying23 hf
  match xs,hxl with
  | [y0,y1],_ =>
   have g0:=hfd 0 _ rfl
   have g1:=hfd 1 _ rfl
   simp [Value.cells,Tryz.cells3] at g0 g1
   obtain ⟨z0,r0,_,w0⟩:=DataW.trod_int Tryz.underlying3 g0
   obtain ⟨z1,r1,_,w1⟩:=DataW.trod_int Tryz.underlying3 g1
   simp at r0 r1
   subst r0 r1
   exact ⟨(z0,z1),rfl⟩
end
end Go.Proofs.YtakmlhhapegpoaaGreat
