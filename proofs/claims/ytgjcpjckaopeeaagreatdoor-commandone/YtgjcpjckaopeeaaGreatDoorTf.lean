import Derived.Test.YtgjcpjckaopeeaaGreatDoorTa
set_option maxHeartbeats 1000000
set_option maxRecDepth 100000
namespace Go.Proofs.YtgjcpjckaopeeaaGreatDoor
open Go.ChangeShapes Go.WideShapes Go.ChangeAt Go.RowKit Go.Joins Go.Deep Disk
open _root_.Go.Proofs.YtgjcpjckaopeeaaGreatDoor.Calls
open Names (Str)
theorem bytesG5:Tryz.prog.bytesOf 5=1:=by kernel_rfl
section
variable {H:Type} {enc:TypeId × Value->H} {W:World}
theorem open_bytesG {fuel:Nat}{v:Value}{x:DataW H × List MemPlace}(h:DataW.trod enc Tryz.prog W 0 (fun _=>true) true fuel 32 [v]=some x)(hb:Fits 32 x.1) :
  ∃L:List UInt8,Seg W v L/\L.length<=140737488351232:=by
 rcases open_ints Tryz.underlying32 Tryz.underlying5 Tryz.cells5' h with ⟨hcs,hx⟩ | ⟨a,len,cap,zs,hcs,_,hl,hm,hz,hx,hcell,hwz⟩
 ·simp at hcs
  subst hcs
  exact ⟨[],seg_nil W,by simp⟩
 ·simp at hcs hz
  subst hcs
  have hlen:((zs.take len).map fun n=>UInt8.ofNat n.toNat).length=len:=by simp;omega
  refine ⟨(zs.take len).map fun n=>UInt8.ofNat n.toNat,⟨some a,cap,by rw [hlen],by rw [hlen];exact hl,hm,by simp,fun j hj=>?_⟩,?_⟩
  ·rw [hlen] at hj
   have hc:=hcell j (by omega)
   have h0:=hcell 0 (by omega)
   obtain ⟨b,off,spot⟩:=a
   have hspot:spot=none:=by simpa [Addr.add] using World.cell?_spot h0
   subst hspot
   refine ⟨b,off,rfl,?_⟩
   rw [addr_add] at hc
   rw [hc]
   have hjz:j<zs.length:=by omega
   have hb:=bounds_u8 (hwz (zs[j]) (List.getElem_mem hjz))
   simp [List.getD,hjz]
   omega
  ·rw [hx] at hb
   obtain ⟨hsz,_⟩:=fits_slice Tryz.underlying32 hb
   rw [bytesG5] at hsz
   rw [hlen]
   simp [lits] at hsz
   omega
theorem open_opsG {fuel:Nat}{v:Value}{x:DataW H × List MemPlace}(h:DataW.trod enc Tryz.prog W 0 (fun _=>true) true fuel 23 [v]=some x)(hb:Fits 23 x.1) :
  ∃A:List POp,Ops W v A/\Fit A:=by
 rcases open_slice Tryz.underlying23 h with ⟨hcs,hx⟩ | ⟨a,len,cap,m,n,D,Pl,hcs,_,hl,hm,hmm,hx,hel⟩
 ·simp at hcs
  subst hcs
  exact ⟨[],⟨none,0,rfl,by simp,fun j hj=>absurd hj (by simp)⟩,by simp [Fit]⟩
 ·simp at hcs hmm
  subst hcs
  subst hmm
  rw [hx] at hb
  obtain ⟨hsz,hfe⟩:=fits_slice Tryz.underlying23 hb
  rw [bytesF53] at hsz
  have hlen:len<=1034834473200:=by
   simp at hsz
   omega
  have each:∀i,i<len->∃q:POp × Value × Value × Value × Value,W.cell? (a.add (i*8))=some (.int .i64 q.1.kind)/\W.cell? (a.add (i*8+1))=some (Str q.1.table)/\W.cell? (a.add (i*8+2))=some q.2.1/\W.cell? (a.add (i*8+3))=some q.2.2.1/\W.cell? (a.add (i*8+4))=some (.bool q.1.has)/\W.cell? (a.add (i*8+5))=some q.2.2.2.1/\W.cell? (a.add (i*8+6))=some q.2.2.2.2/\W.cell? (a.add (i*8+7))=some (.int .i64 q.1.most)/\OpSeg W q.2.1 q.2.2.1 q.2.2.2.1 q.2.2.2.2 q.1/\(q.1.key.length<=140737488351232/\q.1.value.length<=140737488351232/\q.1.old.length<=140737488351232/\q.1.to.length<=140737488351232):=by
   intro i hi
   obtain ⟨cs',h1,h2⟩:=hel i (by omega)
   rw [Tryz.cells53] at h1
   obtain ⟨_,hlen',hcell⟩:=World.cells?_some h1
   obtain ⟨xs,k,hk,hxy,_,hxl,hfd⟩:=DataW.trod_struct Tryz.underlying53 h2
   have hfi:=hfe (D i) (List.mem_map.2 ⟨i,List.mem_range.2 hi,rfl⟩)
   match xs,hxl,cs',hlen' with
   | [y0,y1,y2,y3,y4,y5,y6,y7],_,[v0,v1,v2,v3,v4,v5,v6,v7],_ =>
    simp only [Prod.mk.injEq] at hxy
    rw [hxy.1] at hfi
    have g0:=hfd 0 _ rfl
    have g1:=hfd 1 _ rfl
    have g2:=hfd 2 _ rfl
    have g3:=hfd 3 _ rfl
    have g4:=hfd 4 _ rfl
    have g5:=hfd 5 _ rfl
    have g6:=hfd 6 _ rfl
    have g7:=hfd 7 _ rfl
    simp [Tryz.cells3,Tryz.cells4,Tryz.cells9,Tryz.cells32,Tryz.cells51] at g0 g1 g2 g3 g4 g5 g6 g7
    have e0:=hcell 0 (by omega)
    have e1:=hcell 1 (by omega)
    have e2:=hcell 2 (by omega)
    have e3:=hcell 3 (by omega)
    have e4:=hcell 4 (by omega)
    have e5:=hcell 5 (by omega)
    have e6:=hcell 6 (by omega)
    have e7:=hcell 7 (by omega)
    rw [add_add] at e0 e1 e2 e3 e4 e5 e6 e7
    obtain ⟨z0,r0,_,w0⟩:=DataW.trod_int Tryz.underlying51 g0
    obtain ⟨z7,r7,_,w7⟩:=DataW.trod_int Tryz.underlying3 g7
    obtain ⟨⟨⟨tl⟩⟩,r1,_,w1⟩:=DataW.trod_string Tryz.underlying9 g1
    obtain ⟨bo,r4,_⟩:=DataW.trod_bool Tryz.underlying4 g4
    simp at r0 r7 r1 r4
    have b0:=bounds_i64 w0
    have b7:=bounds_i64 w7
    obtain ⟨M2,hM2,l2⟩:=open_bytesG g2 (fits_field Tryz.underlying53 hfi (j:=2) rfl rfl)
    obtain ⟨M3,hM3,l3⟩:=open_bytesG g3 (fits_field Tryz.underlying53 hfi (j:=3) rfl rfl)
    obtain ⟨M5,hM5,l5⟩:=open_bytesG g5 (fits_field Tryz.underlying53 hfi (j:=5) rfl rfl)
    obtain ⟨M6,hM6,l6⟩:=open_bytesG g6 (fits_field Tryz.underlying53 hfi (j:=6) rfl rfl)
    subst r0 r7 r1 r4
    refine ⟨(⟨z0,tl,M2,M3,bo,M5,M6,z7⟩,v2,v3,v5,v6),by simpa using e0,by simpa [Str] using e1,by simpa using e2,by simpa using e3,by simpa using e4,by simpa using e5,by simpa using e6,by simpa using e7,⟨hM2,hM3,hM5,hM6,⟨b0.1,b0.2,b7.1,b7.2,?_⟩⟩,l2,l3,l5,l6⟩
    have:tl.length<=maxLen:=w1
    unfold maxLen at this
    simp only
    omega
  obtain ⟨q,hq⟩:=choose_lt each
  refine ⟨(List.range len).map fun i=>(q i).1,⟨some a,m,by simp,by simp;omega,fun j hj=>?_⟩,by simp;omega,fun o ho=>?_⟩
  ·simp at hj
   obtain ⟨h0,h1,h2,h3,h4,h5,h6,h7,h8,_⟩:=hq j hj
   obtain ⟨b,off,spot⟩:=a
   have hz:=(hq 0 (by omega)).1
   have hspot:spot=none:=by simpa [Addr.add] using World.cell?_spot hz
   subst hspot
   rw [addr_add] at h0 h1 h2 h3 h4 h5 h6 h7
   rw [<-Nat.add_assoc] at h1 h2 h3 h4 h5 h6 h7
   refine ⟨b,off,(q j).2.1,(q j).2.2.1,(q j).2.2.2.1,(q j).2.2.2.2,rfl,?_,?_⟩
   ·simp only [List.getElem_map,List.getElem_range]
    exact ⟨h0,h1,h2,h3,h4,h5,h6,h7⟩
   ·simp only [List.getElem_map,List.getElem_range]
    exact h8
  ·obtain ⟨i,hi,rfl⟩:=List.mem_map.1 ho
   obtain ⟨_,_,_,_,_,_,_,_,_,h9⟩:=hq i (List.mem_range.1 hi)
   exact ⟨by omega,by omega,by omega,by omega⟩
theorem open_cmdG {r:Reach}{b0:Nat}{v:Value}{d:DataW H}{p:List MemPlace}(hv:Value.okWide Tryz.prog W r b0 27 v)(h:DataW.Trod enc Tryz.prog W 0 (fun _=>true) true 27 v d p)(hb:Fits 27 d) :
  ∃(a:Value) (c:PCmd),v=cmdV a c/\Ops W a c.ops/\InC c/\Fit c.ops:=by
 obtain ⟨cs,rfl,hsz⟩:=okWide_struct Tryz.underlying27 hv
 rw [Tryz.cells27] at hsz
 obtain ⟨l⟩:=cs
 match l,hsz with
 | [v0,v1,v2,v3,v4,v5],_ =>
  obtain ⟨fuel,hf⟩:=h
  obtain ⟨xs,k,hk,hxy,_,hxl,hfd⟩:=DataW.trod_struct Tryz.underlying27 hf
  match xs,hxl with
  | [y0,y1,y2,y3,y4,y5],_ =>
   have g0:=hfd 0 _ rfl
   have g1:=hfd 1 _ rfl
   have g2:=hfd 2 _ rfl
   have g3:=hfd 3 _ rfl
   have g4:=hfd 4 _ rfl
   have g5:=hfd 5 _ rfl
   simp [Value.cells,Tryz.cells22,Tryz.cells2,Tryz.cells25] at g0 g1 g2 g3 g4 g5
   simp only [Prod.mk.injEq] at hxy
   rw [hxy.1] at hb
   obtain ⟨z0,r0,_,w0⟩:=DataW.trod_int Tryz.underlying22 g0
   obtain ⟨z1,r1,_,w1⟩:=DataW.trod_int Tryz.underlying2 g1
   obtain ⟨z2,r2,_,w2⟩:=DataW.trod_int Tryz.underlying2 g2
   obtain ⟨z3,r3,_,w3⟩:=DataW.trod_int Tryz.underlying2 g3
   obtain ⟨z4,r4,_,w4⟩:=DataW.trod_int Tryz.underlying2 g4
   simp at r0 r1 r2 r3 r4
   have b0:=bounds_i64 w0
   have b1:=bounds_i64 w1
   have b2:=bounds_i64 w2
   have b3:=bounds_i64 w3
   have b4:=bounds_i64 w4
   obtain ⟨xs',k',hk',hxy',_,hxl',hfd'⟩:=DataW.trod_struct Tryz.underlying25 g5
   match xs',hxl' with
   | [u0],_ =>
    have q0:=hfd' 0 _ rfl
    try simp [Tryz.cells23] at q0
    have e5:y5.1=.agg (List.map (·.1) [u0]):=by rw [hxy']
    have hf5:Fits 25 y5.1:=fits_field Tryz.underlying27 hb (j:=5) rfl rfl
    rw [e5] at hf5
    have hf0:Fits 23 u0.1:=fits_field Tryz.underlying25 hf5 (j:=0) rfl rfl
    obtain ⟨A,h1,hfit⟩:=open_opsG q0 hf0
    subst r0 r1 r2 r3 r4
    exact ⟨v5,⟨z0,z1,z2,z3,z4,A⟩,rfl,h1,⟨b0.1,b0.2,b1.1,b1.2,b2.1,b2.2,b3.1,b3.2,b4.1,b4.2⟩,hfit⟩
end
end Go.Proofs.YtgjcpjckaopeeaaGreatDoor
