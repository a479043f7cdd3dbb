import Derived.Test.YtadhfejefpildaaGreatHe
import Derived.Test.YtadhfejefpildaaGreatOa
set_option maxHeartbeats 1000000
set_option maxRecDepth 100000
namespace Go.Proofs.YtadhfejefpildaaGreat
open Go.ChangeShapes Go.WideShapes Go.ChangeAt Go.RowKit Go.Joins Go.Deep Disk
open Go.Proofs.YtadhfejefpildaaGreat.Command
theorem Tryz.cells66:Tryz.prog.cellsOf 66=1:=by kernel_rfl
theorem Tryz.cells68:Tryz.prog.cellsOf 68=5:=by kernel_rfl
theorem sD:Tryz.prog.bytesOf 68=72:=by kernel_rfl
instance:Inhabited WStep:=⟨⟨0,0,[],0,[]⟩⟩
section
variable {H:Type} {enc:TypeId × Value->H} {W:World}
theorem mv {fuel:Nat}{v:Value}{x:DataW H × List MemPlace}(h:DataW.trod enc Tryz.prog W 0 (fun _=>true) true fuel 60 [v]=some x)(hb:Fits 60 x.1):∃L:List WStep,lr W v L:=by
 rcases open_slice Tryz.underlying60 h with ⟨hcs,hx⟩ | ⟨a,len,cap,m,n,D,Pl,hcs,_,hl,hm,hmm,hx,hel⟩
 ·simp at hcs
  subst hcs
  exact ⟨[],none,0,rfl,by simp,by omega,by simp,fun j hj=>absurd hj (by simp)⟩
 ·simp at hcs hmm
  subst hcs
  subst hmm
  rw [hx] at hb
  obtain ⟨hsz,hfe⟩:=gL Tryz.underlying60 hb
  rw [sD] at hsz
  have hlen:len<=2199023255488:=by
   simp at hsz
   omega
  have each:∀i,i<len->∃q:WStep × (Option Addr × Nat × Nat) × (Option Addr × Nat × Nat),W.cell? (a.add (i*5))=some (.int .i64 q.1.kind)/\W.cell? (a.add (i*5+1))=some (.int .i64 q.1.first)/\W.cell? (a.add (i*5+2))=some (.slice q.2.1.1 q.2.1.2.1 q.2.1.2.2)/\W.cell? (a.add (i*5+3))=some (.int .i64 q.1.n)/\W.cell? (a.add (i*5+4))=some (.slice q.2.2.1 q.2.2.2.1 q.2.2.2.2)/\Cmds W (.slice q.2.1.1 q.2.1.2.1 q.2.1.2.2) q.1.cs/\Seg W (.slice q.2.2.1 q.2.2.2.1 q.2.2.2.2) q.1.data/\-9223372036854775808<=q.1.n/\q.1.n<=9223372036854775807:=by
   intro i hi
   obtain ⟨cs',h1,h2⟩:=hel i (by omega)
   have hfi:=hfe (D i) (List.mem_map.2 ⟨i,List.mem_range.2 hi,rfl⟩)
   rw [Tryz.cells68] at h1
   obtain ⟨_,hlen',hcell⟩:=World.cells?_some h1
   obtain ⟨xs,k,hk,hxy,_,hxl,hfd⟩:=DataW.trod_struct Tryz.underlying68 h2
   match xs,hxl,cs',hlen' with
   | [y0,y1,y2,y3,y4],_,[v0,v1,v2,v3,v4],_ =>
    have g0:=hfd 0 _ rfl
    have g1:=hfd 1 _ rfl
    have g2:=hfd 2 _ rfl
    have g3:=hfd 3 _ rfl
    have g4:=hfd 4 _ rfl
    simp [Tryz.cells3,Tryz.cells2,Tryz.cells66,Tryz.cells23] at g0 g1 g2 g3 g4
    simp only [Prod.mk.injEq] at hxy
    rw [hxy.1] at hfi
    have e0:=hcell 0 (by omega)
    have e1:=hcell 1 (by omega)
    have e2:=hcell 2 (by omega)
    have e3:=hcell 3 (by omega)
    have e4:=hcell 4 (by omega)
    rw [jN] at e0 e1 e2 e3 e4
    obtain ⟨z0,r0,_,w0⟩:=DataW.trod_int Tryz.underlying3 g0
    obtain ⟨z1,r1,_,w1⟩:=DataW.trod_int Tryz.underlying2 g1
    obtain ⟨z3,r3,_,w3⟩:=DataW.trod_int Tryz.underlying3 g3
    simp at r0 r1 r3
    have b3:=bounds_i64 w3
    have hf2:Fits 66 y2.1:=gK Tryz.underlying68 hfi (j:=2) rfl rfl
    obtain ⟨cs,hcs⟩:=qp g2 hf2
    obtain ⟨L,hL⟩:=d_ g4
    obtain ⟨ca,cc,hc,_⟩:=id hcs
    obtain ⟨la,lc,hl'⟩:=hL.shape
    subst r0 r1 r3 hc hl'
    exact ⟨(⟨z0,z1,cs,z3,L⟩,(ca,cs.length,cc),(la,L.length,lc)),by simpa using e0,by simpa using e1,by simpa using e2,by simpa using e3,by simpa using e4,hcs,hL,b3.1,b3.2⟩
  obtain ⟨q,hq⟩:=choose_lt each
  refine ⟨(List.range len).map fun i=>(q i).1,some a,m,by simp,by simp;omega,by unfold maxLen at hm;omega,by simp;omega,fun j hj=>?_⟩
  simp at hj
  obtain ⟨h0,h1,h2,h3,h4,h5,h6,h7,h8⟩:=hq j hj
  obtain ⟨b,off,spot⟩:=a
  have hz:=(hq 0 (by omega)).1
  have hspot:spot=none:=by simpa [Addr.add] using World.cell?_spot hz
  subst hspot
  rw [ik] at h0 h1 h2 h3 h4
  rw [<-Nat.add_assoc] at h1 h2 h3 h4
  simp only [List.getElem_map,List.getElem_range]
  exact ⟨b,off,_,_,_,_,_,_,rfl,⟨h0,h1,h2,h3,h4⟩,h5,h6,h7,h8⟩
end
end Go.Proofs.YtadhfejefpildaaGreat
