import Derived.Test.YtadhfejefpildaaGreatEf
import Derived.Test.YtadhfejefpildaaGreatRows
import Derived.ProofKit
import Derived.OpenShut
import Derived.Lib.SmallJoins
import Derived.SizedLaws
import Derived.Deep.Slices
import Derived.Deep.SlicePairs
set_option maxHeartbeats 1000000
set_option maxRecDepth 100000
namespace Go.Proofs.YtadhfejefpildaaGreat
open Go.ChangeShapes Go.WideShapes Go.ChangeAt Go.RowKit Go.Joins Go.Deep Disk
open Go.Proofs.YtadhfejefpildaaGreat.Names (Str)
open Go.Proofs.YtadhfejefpildaaGreat.Calls (POp opV OpSeg Ops OpAt)
open Go.Proofs.YtadhfejefpildaaGreat.Command
theorem Tryz.laidOut:laidOutB Tryz.prog=true:=by kernel_rfl
theorem Tryz.cells2:Tryz.prog.cellsOf 2=1:=by kernel_rfl
theorem Tryz.cells3:Tryz.prog.cellsOf 3=1:=by kernel_rfl
theorem Tryz.cells4:Tryz.prog.cellsOf 4=1:=by kernel_rfl
theorem Tryz.cells5:Tryz.prog.cellsOf 5=1:=by kernel_rfl
theorem Tryz.cells9:Tryz.prog.cellsOf 9=1:=by kernel_rfl
theorem Tryz.cells23:Tryz.prog.cellsOf 23=1:=by kernel_rfl
theorem Tryz.cells27:Tryz.prog.cellsOf 27=1:=by kernel_rfl
theorem Tryz.cells28:Tryz.prog.cellsOf 28=1:=by kernel_rfl
theorem Tryz.cells30:Tryz.prog.cellsOf 30=1:=by kernel_rfl
theorem Tryz.cells32:Tryz.prog.cellsOf 32=6:=by kernel_rfl
theorem Tryz.cells145:Tryz.prog.cellsOf 145=1:=by kernel_rfl
theorem Tryz.cells147:Tryz.prog.cellsOf 147=8:=by kernel_rfl
theorem qm:Tryz.prog.bytesOf 147=136:=by kernel_rfl
theorem sC:Tryz.prog.bytesOf 32=64:=by kernel_rfl
instance:Inhabited POp:=⟨⟨0,[],[],[],false,[],[],0⟩⟩
instance:Inhabited PCmd:=⟨bi⟩
theorem ik (b off j:Nat):(⟨b,off,none⟩:Addr).add j=⟨b,off+j,none⟩:=by
 unfold Addr.add;by_cases hz:j=0
 ·subst hz;simp
 ·simp [hz]
theorem jN (a:Addr)(i j:Nat):(a.add i).add j=a.add (i+j):=by
 obtain ⟨b,off,spot⟩:=a
 unfold Addr.add
 by_cases h1:i=0
 ·subst h1;simp
 ·by_cases h2:j=0
  ·subst h2;simp
  ·simp [h1,h2,Nat.add_assoc]
section
variable {H:Type} {enc:TypeId × Value->H} {W:World}
theorem d_ {fuel:Nat}{v:Value}{x:DataW H × List MemPlace}(h:DataW.trod enc Tryz.prog W 0 (fun _=>true) true fuel 23 [v]=some x):∃L:List UInt8,Seg W v L:=by
 rcases open_ints Tryz.underlying23 Tryz.underlying5 Tryz.cells5 h with ⟨hcs,hx⟩ | ⟨a,len,cap,zs,hcs,_,hl,hm,hz,hx,hcell,hwz⟩
 ·simp at hcs
  subst hcs
  exact ⟨[],cG W⟩
 ·simp at hcs hz
  subst hcs
  have hlen:((zs.take len).map fun n=>UInt8.ofNat n.toNat).length=len:=by simp;omega
  refine ⟨(zs.take len).map fun n=>UInt8.ofNat n.toNat,⟨some a,cap,by rw [hlen],by rw [hlen];exact hl,hm,by simp,fun j hj=>?_⟩⟩
  rw [hlen] at hj
  have hc:=hcell j (by omega)
  have h0:=hcell 0 (by omega)
  obtain ⟨b,off,spot⟩:=a
  have hspot:spot=none:=by simpa [Addr.add] using World.cell?_spot h0
  subst hspot
  refine ⟨b,off,rfl,?_⟩
  rw [ik] at hc
  rw [hc]
  have hjz:j<zs.length:=by omega
  have hb:=bounds_u8 (hwz (zs[j]) (List.getElem_mem hjz))
  simp [List.getD,hjz]
  omega
def Fits (t:TypeId)(d:DataW H):Prop:=∀n ∈ d.weights Tryz.prog t,n<=140737488351232
theorem mu {e:TypeId}:∀{l:List (DataW H)} {d:DataW H},d ∈ l->∀n ∈ d.weights Tryz.prog e,n ∈ DataW.weightsAll Tryz.prog e l
 | x :: r,d,hd,n,hn=>by
  simp only [DataW.weightsAll,List.mem_append]
  rcases List.mem_cons.1 hd with rfl | h
  ·exact .inl hn
  ·exact .inr (mu h n hn)
theorem um {ts:List TypeId}{ds:List (DataW H)}(h:(DataW.weightsEach Tryz.prog ts ds).all (·<=reachBytes)=true){j:Nat}{t:TypeId}{d:DataW H}(ht:ts[j]? = some t)(hd:ds[j]? = some d):Fits t d:=fun n hn=>by
 have h2:n<=reachBytes:=of_decide_eq_true (List.all_eq_true.1 h n (DataW.weights_mem_each ht hd n hn))
 simp only [reachBytes] at h2
 omega
theorem gK {t:TypeId}{fs:Array Field}{parts:List (DataW H)}(hu:Tryz.prog.underlying t=some (.struct fs))(h:Fits t (.agg parts)){j:Nat}{e:TypeId}{d:DataW H}(ht:(fs.toList.map (·.type))[j]? = some e)(hd:parts[j]? = some d):Fits e d:=fun n hn=>by
 refine h n ?_
 simp only [DataW.weights,hu]
 exact DataW.weights_mem_each ht hd n hn
theorem gL {t e:TypeId}{elems spare:List (DataW H)}(hu:Tryz.prog.underlying t=some (.slice e))(h:Fits t (.slice elems spare)):(elems.length+spare.length)*Tryz.prog.bytesOf e<=140737488351232/\∀d ∈ elems,Fits e d:=by
 refine ⟨h _ ?_,fun d hd n hn=>h n ?_⟩
 ·simp only [DataW.weights,hu]
  exact List.mem_cons_self
 ·simp only [DataW.weights,hu]
  exact List.mem_cons_of_mem _ (List.mem_append_left _ (mu hd n hn))
theorem qo {fuel:Nat}{v:Value}{x:DataW H × List MemPlace}(h:DataW.trod enc Tryz.prog W 0 (fun _=>true) true fuel 28 [v]=some x)(hb:Fits 28 x.1) :
  ∃(A:List POp) (av:Option Addr) (n c:Nat),v=.slice av n c/\n<=c/\c<=9223372036854775807/\Ops W v A:=by
 rcases open_slice Tryz.underlying28 h with ⟨hcs,hx⟩ | ⟨a,len,cap,m,n,D,Pl,hcs,_,hl,hm,hmm,hx,hel⟩
 ·simp at hcs
  subst hcs
  exact ⟨[],none,0,0,rfl,by omega,by omega,none,0,rfl,by simp,fun j hj=>absurd hj (by simp)⟩
 ·simp at hcs hmm
  subst hcs
  subst hmm
  rw [hx] at hb
  obtain ⟨hsz,_⟩:=gL Tryz.underlying28 hb
  rw [qm] at hsz
  have hlen:len<=1099511627776:=by
   simp at hsz
   omega
  have each:∀i,i<len->∃q:POp × Value × Value × Value × Value,W.cell? (a.add (i*8))=some (.int .i64 q.1.kind)/\W.cell? (a.add (i*8+1))=some (Str q.1.table)/\W.cell? (a.add (i*8+2))=some q.2.1/\W.cell? (a.add (i*8+3))=some q.2.2.1/\W.cell? (a.add (i*8+4))=some (.bool q.1.has)/\W.cell? (a.add (i*8+5))=some q.2.2.2.1/\W.cell? (a.add (i*8+6))=some q.2.2.2.2/\W.cell? (a.add (i*8+7))=some (.int .i64 q.1.most)/\OpSeg W q.2.1 q.2.2.1 q.2.2.2.1 q.2.2.2.2 q.1:=by
   intro i hi
   obtain ⟨cs',h1,h2⟩:=hel i (by omega)
   rw [Tryz.cells147] at h1
   obtain ⟨_,hlen',hcell⟩:=World.cells?_some h1
   obtain ⟨xs,k,hk,hxy,_,hxl,hfd⟩:=DataW.trod_struct Tryz.underlying147 h2
   match xs,hxl,cs',hlen' with
   | [y0,y1,y2,y3,y4,y5,y6,y7],_,[v0,v1,v2,v3,v4,v5,v6,v7],_ =>
    have g0:=hfd 0 _ rfl
    have g1:=hfd 1 _ rfl
    have g2:=hfd 2 _ rfl
    have g3:=hfd 3 _ rfl
    have g4:=hfd 4 _ rfl
    have g5:=hfd 5 _ rfl
    have g6:=hfd 6 _ rfl
    have g7:=hfd 7 _ rfl
    simp [Tryz.cells3,Tryz.cells4,Tryz.cells9,Tryz.cells23,Tryz.cells145] at g0 g1 g2 g3 g4 g5 g6 g7
    have e0:=hcell 0 (by omega)
    have e1:=hcell 1 (by omega)
    have e2:=hcell 2 (by omega)
    have e3:=hcell 3 (by omega)
    have e4:=hcell 4 (by omega)
    have e5:=hcell 5 (by omega)
    have e6:=hcell 6 (by omega)
    have e7:=hcell 7 (by omega)
    rw [jN] at e0 e1 e2 e3 e4 e5 e6 e7
    obtain ⟨z0,r0,_,w0⟩:=DataW.trod_int Tryz.underlying145 g0
    obtain ⟨z7,r7,_,w7⟩:=DataW.trod_int Tryz.underlying3 g7
    obtain ⟨⟨⟨tl⟩⟩,r1,_,w1⟩:=DataW.trod_string Tryz.underlying9 g1
    obtain ⟨bo,r4,_⟩:=DataW.trod_bool Tryz.underlying4 g4
    simp at r0 r7 r1 r4
    have b0:=bounds_i64 w0
    have b7:=bounds_i64 w7
    obtain ⟨M2,hM2⟩:=d_ g2
    obtain ⟨M3,hM3⟩:=d_ g3
    obtain ⟨M5,hM5⟩:=d_ g5
    obtain ⟨M6,hM6⟩:=d_ g6
    subst r0 r7 r1 r4
    refine ⟨(⟨z0,tl,M2,M3,bo,M5,M6,z7⟩,v2,v3,v5,v6),by simpa using e0,by simpa [Str] using e1,by simpa using e2,by simpa using e3,by simpa using e4,by simpa using e5,by simpa using e6,by simpa using e7,⟨hM2,hM3,hM5,hM6,⟨b0.1,b0.2,b7.1,b7.2,?_⟩⟩⟩
    have:tl.length<=maxLen:=w1
    unfold maxLen at this
    simp only
    omega
  obtain ⟨q,hq⟩:=choose_lt each
  refine ⟨(List.range len).map fun i=>(q i).1,some a,len,m,rfl,by omega,by unfold maxLen at hm;omega,some a,m,by simp,by simp;omega,fun j hj=>?_⟩
  simp at hj
  obtain ⟨h0,h1,h2,h3,h4,h5,h6,h7,h8⟩:=hq j hj
  obtain ⟨b,off,spot⟩:=a
  have hz:=(hq 0 (by omega)).1
  have hspot:spot=none:=by simpa [Addr.add] using World.cell?_spot hz
  subst hspot
  rw [ik] at h0 h1 h2 h3 h4 h5 h6 h7
  rw [<-Nat.add_assoc] at h1 h2 h3 h4 h5 h6 h7
  refine ⟨b,off,(q j).2.1,(q j).2.2.1,(q j).2.2.2.1,(q j).2.2.2.2,rfl,?_,?_⟩
  ·simp only [List.getElem_map,List.getElem_range]
   exact ⟨h0,h1,h2,h3,h4,h5,h6,h7⟩
  ·simp only [List.getElem_map,List.getElem_range]
   exact h8
theorem qp {fuel:Nat}{v:Value}{x:DataW H × List MemPlace}(h:DataW.trod enc Tryz.prog W 0 (fun _=>true) true fuel 66 [v]=some x)(hb:Fits 66 x.1):∃cs:List PCmd,Cmds W v cs:=by
 rcases open_slice Tryz.underlying66 h with ⟨hcs,hx⟩ | ⟨a,len,cap,m,n,D,Pl,hcs,_,hl,hm,hmm,hx,hel⟩
 ·simp at hcs
  subst hcs
  exact ⟨[],none,0,rfl,by simp,by omega,by simp,fun j hj=>absurd hj (by simp)⟩
 ·simp at hcs hmm
  subst hcs
  subst hmm
  rw [hx] at hb
  obtain ⟨hsz,hfe⟩:=gL Tryz.underlying66 hb
  rw [sC] at hsz
  have hlen:len<=2199023255488:=by
   simp at hsz
   omega
  have each:∀i,i<len->∃q:PCmd × Option Addr × Nat × Nat,W.cell? (a.add (i*6))=some (.int .i64 q.1.kind)/\W.cell? (a.add (i*6+1))=some (.int .i64 q.1.token)/\W.cell? (a.add (i*6+2))=some (.int .i64 q.1.session)/\W.cell? (a.add (i*6+3))=some (.int .i64 q.1.number)/\W.cell? (a.add (i*6+4))=some (.int .i64 q.1.mark)/\W.cell? (a.add (i*6+5))=some (.slice q.2.1 q.2.2.1 q.2.2.2)/\Ops W (.slice q.2.1 q.2.2.1 q.2.2.2) q.1.ops/\InC q.1:=by
   intro i hi
   obtain ⟨cs',h1,h2⟩:=hel i (by omega)
   have hfi:=hfe (D i) (List.mem_map.2 ⟨i,List.mem_range.2 hi,rfl⟩)
   rw [Tryz.cells32] at h1
   obtain ⟨_,hlen',hcell⟩:=World.cells?_some h1
   obtain ⟨xs,k,hk,hxy,_,hxl,hfd⟩:=DataW.trod_struct Tryz.underlying32 h2
   match xs,hxl,cs',hlen' with
   | [y0,y1,y2,y3,y4,y5],_,[v0,v1,v2,v3,v4,v5],_ =>
    have g0:=hfd 0 _ rfl
    have g1:=hfd 1 _ rfl
    have g2:=hfd 2 _ rfl
    have g3:=hfd 3 _ rfl
    have g4:=hfd 4 _ rfl
    have g5:=hfd 5 _ rfl
    simp [Tryz.cells27,Tryz.cells2,Tryz.cells30] at g0 g1 g2 g3 g4 g5
    simp only [Prod.mk.injEq] at hxy
    rw [hxy.1] at hfi
    have e0:=hcell 0 (by omega)
    have e1:=hcell 1 (by omega)
    have e2:=hcell 2 (by omega)
    have e3:=hcell 3 (by omega)
    have e4:=hcell 4 (by omega)
    have e5:=hcell 5 (by omega)
    rw [jN] at e0 e1 e2 e3 e4 e5
    obtain ⟨z0,r0,_,w0⟩:=DataW.trod_int Tryz.underlying27 g0
    obtain ⟨z1,r1,_,w1⟩:=DataW.trod_int Tryz.underlying2 g1
    obtain ⟨z2,r2,_,w2⟩:=DataW.trod_int Tryz.underlying2 g2
    obtain ⟨z3,r3,_,w3⟩:=DataW.trod_int Tryz.underlying2 g3
    obtain ⟨z4,r4,_,w4⟩:=DataW.trod_int Tryz.underlying2 g4
    simp at r0 r1 r2 r3 r4
    have b0:=bounds_i64 w0
    have b1:=bounds_i64 w1
    have b2:=bounds_i64 w2
    have b3:=bounds_i64 w3
    have b4:=bounds_i64 w4
    obtain ⟨xs',k',hk',hxy',_,hxl',hfd'⟩:=DataW.trod_struct Tryz.underlying30 g5
    match xs',hxl' with
    | [u0],_ =>
     have q0:=hfd' 0 _ rfl
     try simp [Tryz.cells28] at q0
     have e5':y5.1=.agg (List.map (·.1) [u0]):=by rw [hxy']
     have hf5:Fits 30 y5.1:=gK Tryz.underlying32 hfi (j:=5) rfl rfl
     rw [e5'] at hf5
     have hf0:Fits 28 u0.1:=gK Tryz.underlying30 hf5 (j:=0) rfl rfl
     obtain ⟨A,av,nn,c,rfl,h3,h4,h5⟩:=qo q0 hf0
     subst r0 r1 r2 r3 r4
     exact ⟨(⟨z0,z1,z2,z3,z4,A⟩,av,nn,c),by simpa using e0,by simpa using e1,by simpa using e2,by simpa using e3,by simpa using e4,by simpa using e5,h5,⟨b0.1,b0.2,b1.1,b1.2,b2.1,b2.2,b3.1,b3.2,b4.1,b4.2⟩⟩
  obtain ⟨q,hq⟩:=choose_lt each
  refine ⟨(List.range len).map fun i=>(q i).1,some a,m,by simp,by simp;omega,by unfold maxLen at hm;omega,by simp;omega,fun j hj=>?_⟩
  simp at hj
  obtain ⟨h0,h1,h2,h3,h4,h5,h6,h7⟩:=hq j hj
  obtain ⟨b,off,spot⟩:=a
  have hz:=(hq 0 (by omega)).1
  have hspot:spot=none:=by simpa [Addr.add] using World.cell?_spot hz
  subst hspot
  rw [ik] at h0 h1 h2 h3 h4 h5
  rw [<-Nat.add_assoc] at h1 h2 h3 h4 h5
  simp only [List.getElem_map,List.getElem_range]
  exact ⟨b,off,(q j).2.1,(q j).2.2.1,(q j).2.2.2,rfl,⟨h0,h1,h2,h3,h4,h5⟩,h6,h7⟩
end
end Go.Proofs.YtadhfejefpildaaGreat
