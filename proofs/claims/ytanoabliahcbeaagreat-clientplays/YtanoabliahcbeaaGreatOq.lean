import Derived.Test.YtanoabliahcbeaaGreatLakAll
import Derived.Test.YtanoabliahcbeaaGreatRows
import Derived.ProofKit
import Derived.OpenShut
import Derived.Lib.SmallJoins
import Derived.SizedLaws
import Derived.Deep.Slices
import Derived.Deep.SlicePairs
set_option maxHeartbeats 1000000
set_option maxRecDepth 100000
namespace Go.Proofs.YtanoabliahcbeaaGreat
open Go.ChangeShapes Go.WideShapes Go.ChangeAt Go.RowKit Go.Joins Go.Deep Disk
open Names (Str)
open _root_.Go.Proofs.YtanoabliahcbeaaGreat.Calls _root_.Go.Proofs.YtanoabliahcbeaaGreat.Command
theorem Tryz.laidOut:laidOutB Tryz.prog=true:=by kernel_rfl
theorem Tryz.cells2:Tryz.prog.cellsOf 2=1:=by kernel_rfl
theorem Tryz.cells3:Tryz.prog.cellsOf 3=1:=by kernel_rfl
theorem Tryz.cells4:Tryz.prog.cellsOf 4=1:=by kernel_rfl
theorem Tryz.cells5:Tryz.prog.cellsOf 5=1:=by kernel_rfl
theorem Tryz.cells9:Tryz.prog.cellsOf 9=1:=by kernel_rfl
theorem Tryz.cells36:Tryz.prog.cellsOf 36=1:=by kernel_rfl
theorem Tryz.cells37:Tryz.prog.cellsOf 37=1:=by kernel_rfl
theorem Tryz.cells33:Tryz.prog.cellsOf 33=1:=by kernel_rfl
theorem Tryz.cells35:Tryz.prog.cellsOf 35=1:=by kernel_rfl
theorem Tryz.cells39:Tryz.prog.cellsOf 39=6:=by kernel_rfl
theorem Tryz.cells40:Tryz.prog.cellsOf 40=1:=by kernel_rfl
theorem Tryz.cells41:Tryz.prog.cellsOf 41=1:=by kernel_rfl
theorem Tryz.cells43:Tryz.prog.cellsOf 43=5:=by kernel_rfl
theorem Tryz.cells45:Tryz.prog.cellsOf 45=13:=by kernel_rfl
theorem Tryz.cells107:Tryz.prog.cellsOf 107=1:=by kernel_rfl
theorem Tryz.cells109:Tryz.prog.cellsOf 109=8:=by kernel_rfl
theorem bytesF116:Tryz.prog.bytesOf 109=136:=by kernel_rfl
theorem bytesF5:Tryz.prog.bytesOf 5=1:=by kernel_rfl
instance:Inhabited POp:=⟨⟨0,[],[],[],false,[],[],0⟩⟩
instance:Inhabited PMsg:=⟨zeroM⟩
theorem addr_add (b off j:Nat):(⟨b,off,none⟩:Addr).add j=⟨b,off+j,none⟩:=by
 unfold Addr.add;by_cases hz:j=0
 ·subst hz;simp
 ·simp [hz]
theorem add_add' (a:Addr)(i j:Nat):(a.add i).add j=a.add (i+j):=by
 obtain ⟨b,off,spot⟩:=a
 unfold Addr.add
 by_cases h1:i=0
 ·subst h1;simp
 ·by_cases h2:j=0
  ·subst h2;simp
  ·simp [h1,h2,Nat.add_assoc]
section
variable {H:Type} {enc:TypeId × Value->H} {W:World}
def Fits (t:TypeId)(d:DataW H):Prop:=∀n ∈ d.weights Tryz.prog t,n<=140737488351232
theorem all_memF {e:TypeId}:∀{l:List (DataW H)} {d:DataW H},d ∈ l->∀n ∈ d.weights Tryz.prog e,n ∈ DataW.weightsAll Tryz.prog e l
 | x :: r,d,hd,n,hn=>by
  simp only [DataW.weightsAll,List.mem_append]
  rcases List.mem_cons.1 hd with rfl | h
  ·exact .inl hn
  ·exact .inr (all_memF h n hn)
theorem fits_of {ts:List TypeId}{ds:List (DataW H)}(h:(DataW.weightsEach Tryz.prog ts ds).all (·<=reachBytes)=true){j:Nat}{t:TypeId}{d:DataW H}(ht:ts[j]? = some t)(hd:ds[j]? = some d):Fits t d:=fun n hn=>by
 have h2:n<=reachBytes:=of_decide_eq_true (List.all_eq_true.1 h n (DataW.weights_mem_each ht hd n hn))
 simp only [reachBytes] at h2
 omega
theorem fits_field {t:TypeId}{fs:Array Field}{parts:List (DataW H)}(hu:Tryz.prog.underlying t=some (.struct fs))(h:Fits t (.agg parts)){j:Nat}{e:TypeId}{d:DataW H}(ht:(fs.toList.map (·.type))[j]? = some e)(hd:parts[j]? = some d):Fits e d:=fun n hn=>by
 refine h n ?_
 simp only [DataW.weights,hu]
 exact DataW.weights_mem_each ht hd n hn
theorem fits_slice {t e:TypeId}{elems spare:List (DataW H)}(hu:Tryz.prog.underlying t=some (.slice e))(h:Fits t (.slice elems spare)):(elems.length+spare.length)*Tryz.prog.bytesOf e<=140737488351232/\∀d ∈ elems,Fits e d:=by
 refine ⟨h _ ?_,fun d hd n hn=>h n ?_⟩
 ·simp only [DataW.weights,hu]
  exact List.mem_cons_self
 ·simp only [DataW.weights,hu]
  exact List.mem_cons_of_mem _ (List.mem_append_left _ (all_memF hd n hn))
theorem open_bytes {fuel:Nat}{v:Value}{x:DataW H × List MemPlace}(h:DataW.trod enc Tryz.prog W 0 (fun _=>true) true fuel 41 [v]=some x)(hb:Fits 41 x.1) :
  ∃L:List UInt8,Seg W v L/\L.length<=140737488351232:=by
 rcases open_ints Tryz.underlying41 Tryz.underlying5 Tryz.cells5 h with ⟨hcs,hx⟩ | ⟨a,len,cap,zs,hcs,_,hl,hm,hz,hx,hcell,hwz⟩
 ·simp at hcs
  subst hcs
  exact ⟨[],seg_nil W,by simp⟩
 ·simp at hcs hz
  subst hcs
  have hlen:((zs.take len).map fun n=>UInt8.ofNat n.toNat).length=len:=by simp;omega
  refine ⟨(zs.take len).map fun n=>UInt8.ofNat n.toNat,⟨some a,cap,by rw [hlen],by rw [hlen];exact hl,hm,by simp,fun j hj=>?_⟩,?_⟩
  ·rw [hlen] at hj
   have hc:=hcell j (by omega)
   have h0:=hcell 0 (by omega)
   obtain ⟨b,off,spot⟩:=a
   have hspot:spot=none:=by simpa [Addr.add] using World.cell?_spot h0
   subst hspot
   refine ⟨b,off,rfl,?_⟩
   rw [addr_add] at hc
   rw [hc]
   have hjz:j<zs.length:=by omega
   have hb:=bounds_u8 (hwz (zs[j]) (List.getElem_mem hjz))
   simp [List.getD,hjz]
   omega
  ·rw [hx] at hb
   obtain ⟨hsz,_⟩:=fits_slice Tryz.underlying41 hb
   rw [bytesF5] at hsz
   rw [hlen]
   simp [lits] at hsz
   omega
theorem open_opsF {fuel:Nat}{v:Value}{x:DataW H × List MemPlace}(h:DataW.trod enc Tryz.prog W 0 (fun _=>true) true fuel 33 [v]=some x)(hb:Fits 33 x.1) :
  ∃(A:List POp) (av:Option Addr) (n c:Nat),v=.slice av n c/\n<=c/\c<=9223372036854775807/\Ops W v A/\Calls.Fit A:=by
 rcases open_slice Tryz.underlying33 h with ⟨hcs,hx⟩ | ⟨a,len,cap,m,n,D,Pl,hcs,_,hl,hm,hmm,hx,hel⟩
 ·simp at hcs
  subst hcs
  exact ⟨[],none,0,0,rfl,by omega,by omega,⟨none,0,rfl,by simp,fun j hj=>absurd hj (by simp)⟩,by simp [Calls.Fit]⟩
 ·simp at hcs hmm
  subst hcs
  subst hmm
  rw [hx] at hb
  obtain ⟨hsz,hfe⟩:=fits_slice Tryz.underlying33 hb
  rw [bytesF116] at hsz
  have hlen:len<=1034834473200:=by
   simp at hsz
   omega
  have each:∀i,i<len->∃q:POp × Value × Value × Value × Value,W.cell? (a.add (i*8))=some (.int .i64 q.1.kind)/\W.cell? (a.add (i*8+1))=some (Str q.1.table)/\W.cell? (a.add (i*8+2))=some q.2.1/\W.cell? (a.add (i*8+3))=some q.2.2.1/\W.cell? (a.add (i*8+4))=some (.bool q.1.has)/\W.cell? (a.add (i*8+5))=some q.2.2.2.1/\W.cell? (a.add (i*8+6))=some q.2.2.2.2/\W.cell? (a.add (i*8+7))=some (.int .i64 q.1.most)/\OpSeg W q.2.1 q.2.2.1 q.2.2.2.1 q.2.2.2.2 q.1/\(q.1.key.length<=140737488351232/\q.1.value.length<=140737488351232/\q.1.old.length<=140737488351232/\q.1.to.length<=140737488351232):=by
   intro i hi
   obtain ⟨cs',h1,h2⟩:=hel i (by omega)
   rw [Tryz.cells109] at h1
   obtain ⟨_,hlen',hcell⟩:=World.cells?_some h1
   obtain ⟨xs,k,hk,hxy,_,hxl,hfd⟩:=DataW.trod_struct Tryz.underlying109 h2
   have hfi:=hfe (D i) (List.mem_map.2 ⟨i,List.mem_range.2 hi,rfl⟩)
   match xs,hxl,cs',hlen' with
   | [y0,y1,y2,y3,y4,y5,y6,y7],_,[v0,v1,v2,v3,v4,v5,v6,v7],_ =>
    simp only [Prod.mk.injEq] at hxy
    rw [hxy.1] at hfi
    have g0:=hfd 0 _ rfl
    have g1:=hfd 1 _ rfl
    have g2:=hfd 2 _ rfl
    have g3:=hfd 3 _ rfl
    have g4:=hfd 4 _ rfl
    have g5:=hfd 5 _ rfl
    have g6:=hfd 6 _ rfl
    have g7:=hfd 7 _ rfl
    simp [Tryz.cells3,Tryz.cells4,Tryz.cells9,Tryz.cells41,Tryz.cells107] at g0 g1 g2 g3 g4 g5 g6 g7
    have e0:=hcell 0 (by omega)
    have e1:=hcell 1 (by omega)
    have e2:=hcell 2 (by omega)
    have e3:=hcell 3 (by omega)
    have e4:=hcell 4 (by omega)
    have e5:=hcell 5 (by omega)
    have e6:=hcell 6 (by omega)
    have e7:=hcell 7 (by omega)
    rw [add_add'] at e0 e1 e2 e3 e4 e5 e6 e7
    obtain ⟨z0,r0,_,w0⟩:=DataW.trod_int Tryz.underlying107 g0
    obtain ⟨z7,r7,_,w7⟩:=DataW.trod_int Tryz.underlying3 g7
    obtain ⟨⟨⟨tl⟩⟩,r1,_,w1⟩:=DataW.trod_string Tryz.underlying9 g1
    obtain ⟨bo,r4,_⟩:=DataW.trod_bool Tryz.underlying4 g4
    simp at r0 r7 r1 r4
    have b0:=bounds_i64 w0
    have b7:=bounds_i64 w7
    obtain ⟨M2,hM2,l2⟩:=open_bytes g2 (fits_field Tryz.underlying109 hfi (j:=2) rfl rfl)
    obtain ⟨M3,hM3,l3⟩:=open_bytes g3 (fits_field Tryz.underlying109 hfi (j:=3) rfl rfl)
    obtain ⟨M5,hM5,l5⟩:=open_bytes g5 (fits_field Tryz.underlying109 hfi (j:=5) rfl rfl)
    obtain ⟨M6,hM6,l6⟩:=open_bytes g6 (fits_field Tryz.underlying109 hfi (j:=6) rfl rfl)
    subst r0 r7 r1 r4
    refine ⟨(⟨z0,tl,M2,M3,bo,M5,M6,z7⟩,v2,v3,v5,v6),by simpa using e0,by simpa [Str] using e1,by simpa using e2,by simpa using e3,by simpa using e4,by simpa using e5,by simpa using e6,by simpa using e7,⟨hM2,hM3,hM5,hM6,⟨b0.1,b0.2,b7.1,b7.2,?_⟩⟩,l2,l3,l5,l6⟩
    have:tl.length<=maxLen:=w1
    unfold maxLen at this
    simp only
    omega
  obtain ⟨q,hq⟩:=choose_lt each
  refine ⟨(List.range len).map fun i=>(q i).1,some a,len,m,rfl,by omega,by unfold maxLen at hm;omega,⟨some a,m,by simp,by simp;omega,fun j hj=>?_⟩,by simp;omega,fun o ho=>?_⟩
  ·simp at hj
   obtain ⟨h0,h1,h2,h3,h4,h5,h6,h7,h8,_⟩:=hq j hj
   obtain ⟨b,off,spot⟩:=a
   have hz:=(hq 0 (by omega)).1
   have hspot:spot=none:=by simpa [Addr.add] using World.cell?_spot hz
   subst hspot
   rw [addr_add] at h0 h1 h2 h3 h4 h5 h6 h7
   rw [<-Nat.add_assoc] at h1 h2 h3 h4 h5 h6 h7
   refine ⟨b,off,(q j).2.1,(q j).2.2.1,(q j).2.2.2.1,(q j).2.2.2.2,rfl,?_,?_⟩
   ·simp only [List.getElem_map,List.getElem_range]
    exact ⟨h0,h1,h2,h3,h4,h5,h6,h7⟩
   ·simp only [List.getElem_map,List.getElem_range]
    exact h8
  ·obtain ⟨i,hi,rfl⟩:=List.mem_map.1 ho
   obtain ⟨_,_,_,_,_,_,_,_,_,h9⟩:=hq i (List.mem_range.1 hi)
   exact ⟨by omega,by omega,by omega,by omega⟩
theorem open_cells {fuel:Nat}{v0 v1 v2 v3 v4 v5 v6 v7 v8 v9 v10 v11 v12:Value}{x:DataW H × List MemPlace}(h:DataW.trod enc Tryz.prog W 0 (fun _=>true) true fuel 45 [v0,v1,v2,v3,v4,v5,v6,v7,v8,v9,v10,v11,v12]=some x)(hb:Fits 45 x.1) :
  ∃m:PMsg,v0=.int .i64 m.kind/\v1=.int .i64 m.client/\v2=.int .i64 m.ask.kind/\v3=.int .i64 m.ask.token/\v4=.int .i64 m.ask.session/\v5=.int .i64 m.ask.number/\v6=.int .i64 m.ask.mark/\v8=.int .i64 m.tell.kind/\v9=.int .i64 m.tell.token/\v10=.int .i64 m.tell.session/\v11=.int .i64 m.tell.number/\Ops W v7 m.ask.ops/\Seg W v12 m.tell.answer/\Fit m.ask.ops/\m.tell.answer.length<=140737488351232/\InM m:=by
 obtain ⟨xs,k,hk,hxy,_,hxl,hfd⟩:=DataW.trod_struct Tryz.underlying45 h
 match xs,hxl with
 | [y0,y1,y2,y3],_ =>
  have g0:=hfd 0 _ rfl
  have g1:=hfd 1 _ rfl
  have g2:=hfd 2 _ rfl
  have g3:=hfd 3 _ rfl
  simp [Tryz.cells36,Tryz.cells3,Tryz.cells39,Tryz.cells43] at g0 g1 g2 g3
  simp only [hxy] at hb
  obtain ⟨z0,r0,_,w0⟩:=DataW.trod_int Tryz.underlying36 g0
  obtain ⟨z1,r1,_,w1⟩:=DataW.trod_int Tryz.underlying3 g1
  have f2:Fits 39 y2.1:=fits_field Tryz.underlying45 hb (j:=2) rfl rfl
  have f3:Fits 43 y3.1:=fits_field Tryz.underlying45 hb (j:=3) rfl rfl
  obtain ⟨xs2,k2,hk2,hxy2,_,hxl2,hfd2⟩:=DataW.trod_struct Tryz.underlying39 g2
  obtain ⟨xs3,k3,hk3,hxy3,_,hxl3,hfd3⟩:=DataW.trod_struct Tryz.underlying43 g3
  match xs2,hxl2,xs3,hxl3 with
  | [a0,a1,a2,a3,a4,a5],_,[b0,b1,b2,b3,b4],_ =>
   have p0:=hfd2 0 _ rfl
   have p1:=hfd2 1 _ rfl
   have p2:=hfd2 2 _ rfl
   have p3:=hfd2 3 _ rfl
   have p4:=hfd2 4 _ rfl
   have p5:=hfd2 5 _ rfl
   have q0:=hfd3 0 _ rfl
   have q1:=hfd3 1 _ rfl
   have q2:=hfd3 2 _ rfl
   have q3:=hfd3 3 _ rfl
   have q4:=hfd3 4 _ rfl
   simp [Tryz.cells37,Tryz.cells2,Tryz.cells35,Tryz.cells40,Tryz.cells41] at p0 p1 p2 p3 p4 p5 q0 q1 q2 q3 q4
   have e2:y2.1=.agg (List.map (·.1) [a0,a1,a2,a3,a4,a5]):=by rw [hxy2]
   have e3:y3.1=.agg (List.map (·.1) [b0,b1,b2,b3,b4]):=by rw [hxy3]
   rw [e2] at f2
   rw [e3] at f3
   obtain ⟨c0,s0,_,u0⟩:=DataW.trod_int Tryz.underlying37 p0
   obtain ⟨c1,s1,_,u1⟩:=DataW.trod_int Tryz.underlying2 p1
   obtain ⟨c2,s2,_,u2⟩:=DataW.trod_int Tryz.underlying2 p2
   obtain ⟨c3,s3,_,u3⟩:=DataW.trod_int Tryz.underlying2 p3
   obtain ⟨c4,s4,_,u4⟩:=DataW.trod_int Tryz.underlying2 p4
   obtain ⟨d0,t0,_,o0⟩:=DataW.trod_int Tryz.underlying40 q0
   obtain ⟨d1,t1,_,o1⟩:=DataW.trod_int Tryz.underlying2 q1
   obtain ⟨d2,t2,_,o2⟩:=DataW.trod_int Tryz.underlying2 q2
   obtain ⟨d3,t3,_,o3⟩:=DataW.trod_int Tryz.underlying2 q3
   obtain ⟨M4,hM4,l4⟩:=open_bytes q4 (fits_field Tryz.underlying43 f3 (j:=4) rfl rfl)
   have f5:Fits 35 a5.1:=fits_field Tryz.underlying39 f2 (j:=5) rfl rfl
   obtain ⟨xs5,k5,hk5,hxy5,_,hxl5,hfd5⟩:=DataW.trod_struct Tryz.underlying35 p5
   match xs5,hxl5 with
   | [w5],_ =>
    have n0:=hfd5 0 _ rfl
    try simp [Tryz.cells33] at n0
    have e5:a5.1=.agg (List.map (·.1) [w5]):=by rw [hxy5]
    rw [e5] at f5
    obtain ⟨A,av,nn,c,rfl,h3,h4,h5,h6⟩:=open_opsF n0 (fits_field Tryz.underlying35 f5 (j:=0) rfl rfl)
    simp at r0 r1 s0 s1 s2 s3 s4 t0 t1 t2 t3
    subst r0 r1 s0 s1 s2 s3 s4 t0 t1 t2 t3
    have B0:=bounds_i64 w0
    have B1:=bounds_i64 w1
    have C0:=bounds_i64 u0
    have C1:=bounds_i64 u1
    have C2:=bounds_i64 u2
    have C3:=bounds_i64 u3
    have C4:=bounds_i64 u4
    have D0:=bounds_i64 o0
    have D1:=bounds_i64 o1
    have D2:=bounds_i64 o2
    have D3:=bounds_i64 o3
    exact ⟨⟨z0,z1,⟨c0,c1,c2,c3,c4,A⟩,⟨d0,d1,d2,d3,M4⟩⟩,rfl,rfl,rfl,rfl,rfl,rfl,rfl,rfl,rfl,rfl,rfl,h5,hM4,h6,by omega,⟨B0.1,B0.2,B1.1,B1.2,⟨C0.1,C0.2,C1.1,C1.2,C2.1,C2.2,C3.1,C3.2,C4.1,C4.2⟩,⟨D0.1,D0.2,D1.1,D1.2,D2.1,D2.2,D3.1,D3.2⟩⟩⟩
theorem Tryz.cells47:Tryz.prog.cellsOf 47=16:=by kernel_rfl
theorem Tryz.bytes47:Tryz.prog.bytesOf 47=176:=by kernel_rfl
instance:Inhabited Wn.PStep:=⟨⟨0,0,[],zeroM⟩⟩
theorem open_steps {fuel:Nat}{v:Value}{x:DataW H × List MemPlace}(h:DataW.trod enc Tryz.prog W 0 (fun _=>true) true fuel 26 [v]=some x)(hft:Fits 26 x.1):∃l:List Wn.PStep,Wn.StepsIn W v l:=by
 rcases open_slice Tryz.underlying26 h with ⟨hcs,hx⟩ | ⟨a,len,cap,m,n,D,Pl,hcs,_,hl,hm,hmm,hx,hel⟩
 ·simp at hcs
  subst hcs
  exact ⟨[],none,0,rfl,by simp,fun j hj=>absurd hj (by simp)⟩
 ·simp at hcs hmm
  subst hcs
  subst hmm
  rw [hx] at hft
  obtain ⟨hf1,hf2⟩:=fits_slice Tryz.underlying26 hft
  rw [Tryz.bytes47] at hf1
  simp at hf1
  have each:∀i,i<len->∃q:Wn.PStep × Value × Value × Value,(W.cell? (a.add (i*16))=some (.int .i64 q.1.kind)/\W.cell? (a.add (i*16+1))=some (.int .i64 q.1.n)/\W.cell? (a.add (i*16+2))=some q.2.1/\W.cell? (a.add (i*16+3))=some (.int .i64 q.1.tell.kind)/\W.cell? (a.add (i*16+4))=some (.int .i64 q.1.tell.client)/\W.cell? (a.add (i*16+5))=some (.int .i64 q.1.tell.ask.kind)/\W.cell? (a.add (i*16+6))=some (.int .i64 q.1.tell.ask.token)/\W.cell? (a.add (i*16+7))=some (.int .i64 q.1.tell.ask.session)/\W.cell? (a.add (i*16+8))=some (.int .i64 q.1.tell.ask.number)/\W.cell? (a.add (i*16+9))=some (.int .i64 q.1.tell.ask.mark)/\W.cell? (a.add (i*16+10))=some (q.2.2.1)/\W.cell? (a.add (i*16+11))=some (.int .i64 q.1.tell.tell.kind)/\W.cell? (a.add (i*16+12))=some (.int .i64 q.1.tell.tell.token)/\W.cell? (a.add (i*16+13))=some (.int .i64 q.1.tell.tell.session)/\W.cell? (a.add (i*16+14))=some (.int .i64 q.1.tell.tell.number)/\W.cell? (a.add (i*16+15))=some (q.2.2.2))/\Ops W q.2.1 q.1.ops/\Ops W q.2.2.1 q.1.tell.ask.ops/\Seg W q.2.2.2 q.1.tell.tell.answer/\GoodM q.1.tell/\-9223372036854775808<=q.1.n/\q.1.n<=9223372036854775807:=by
   intro i hi
   obtain ⟨cs',h1,h2⟩:=hel i (by omega)
   rw [Tryz.cells47] at h1
   obtain ⟨_,hlen,hcell⟩:=World.cells?_some h1
   obtain ⟨xs,k,hk,hxy,_,hxl,hfd⟩:=DataW.trod_struct Tryz.underlying47 h2
   have hfi:=hf2 (D i) (List.mem_map.2 ⟨i,List.mem_range.2 hi,rfl⟩)
   match xs,hxl,cs',hlen with
   | [y0,y1,y2,y3],_,[v0,v1,v2,v3,v4,v5,v6,v7,v8,v9,v10,v11,v12,v13,v14,v15],_ =>
    simp only [Prod.mk.injEq] at hxy
    rw [hxy.1] at hfi
    have g0:=hfd 0 _ rfl
    have g1:=hfd 1 _ rfl
    have g2:=hfd 2 _ rfl
    have g3:=hfd 3 _ rfl
    simp [Tryz.cells3,Tryz.cells2,Tryz.cells35,Tryz.cells45] at g0 g1 g2 g3
    have e0:=hcell 0 (by omega)
    have e1:=hcell 1 (by omega)
    have e2:=hcell 2 (by omega)
    have e3:=hcell 3 (by omega)
    have e4:=hcell 4 (by omega)
    have e5:=hcell 5 (by omega)
    have e6:=hcell 6 (by omega)
    have e7:=hcell 7 (by omega)
    have e8:=hcell 8 (by omega)
    have e9:=hcell 9 (by omega)
    have e10:=hcell 10 (by omega)
    have e11:=hcell 11 (by omega)
    have e12:=hcell 12 (by omega)
    have e13:=hcell 13 (by omega)
    have e14:=hcell 14 (by omega)
    have e15:=hcell 15 (by omega)
    rw [add_add'] at e0 e1 e2 e3 e4 e5 e6 e7 e8 e9 e10 e11 e12 e13 e14 e15
    obtain ⟨z0,r0,_,w0⟩:=DataW.trod_int Tryz.underlying3 g0
    obtain ⟨z1,r1,_,w1⟩:=DataW.trod_int Tryz.underlying2 g1
    have b1:=bounds_i64 w1
    have f2:Fits 35 y2.1:=fits_field Tryz.underlying47 hfi (j:=2) rfl rfl
    obtain ⟨xs5,k5,hk5,hxy5,_,hxl5,hfd5⟩:=DataW.trod_struct Tryz.underlying35 g2
    match xs5,hxl5 with
    | [w5],_ =>
     have n0:=hfd5 0 _ rfl
     try simp [Tryz.cells33] at n0
     have e5':y2.1=.agg (List.map (·.1) [w5]):=by rw [hxy5]
     rw [e5'] at f2
     obtain ⟨A,av,nn,c,hA,_,_,h5,_⟩:=open_opsF n0 (fits_field Tryz.underlying35 f2 (j:=0) rfl rfl)
     obtain ⟨mm,rfl,rfl,rfl,rfl,rfl,rfl,rfl,rfl,rfl,rfl,rfl,o1,o2,o3,o4,o5⟩:=open_cells g3 (fits_field Tryz.underlying47 hfi (j:=3) rfl rfl)
     simp at r0 r1
     subst r0 r1
     exact ⟨(⟨z0,z1,A,mm⟩,v2,v10,v15),⟨by simpa using e0,by simpa using e1,by simpa using e2,by simpa using e3,by simpa using e4,by simpa using e5,by simpa using e6,by simpa using e7,by simpa using e8,by simpa using e9,by simpa using e10,by simpa using e11,by simpa using e12,by simpa using e13,by simpa using e14,by simpa using e15⟩,h5,o1,o2,⟨o5,o3,o4⟩,b1.1,b1.2⟩
  obtain ⟨q,hq⟩:=choose_lt each
  refine ⟨(List.range len).map fun i=>(q i).1,some a,m,by simp,by simp;omega,fun j hj=>?_⟩
  simp at hj
  obtain ⟨⟨c0,c1,c2,c3,c4,c5,c6,c7,c8,c9,c10,c11,c12,c13,c14,c15⟩,o1,o2,o3,o4,o5⟩:=hq j hj
  obtain ⟨b,off,spot⟩:=a
  have hz:=(hq 0 (by omega)).1.1
  have hspot:spot=none:=by simpa [Addr.add] using World.cell?_spot hz
  subst hspot
  rw [addr_add] at c0 c1 c2 c3 c4 c5 c6 c7 c8 c9 c10 c11 c12 c13 c14 c15
  rw [<-Nat.add_assoc] at c1 c2 c3 c4 c5 c6 c7 c8 c9 c10 c11 c12 c13 c14 c15
  simp only [List.getElem_map,List.getElem_range]
  exact ⟨b,off,(q j).2.1,(q j).2.2.1,(q j).2.2.2,rfl,⟨c0,c1,c2,⟨c3,c4,c5,c6,c7,c8,c9,c10,c11,c12,c13,c14,c15⟩,o1,o2,o3,o4,o5⟩⟩
end
end Go.Proofs.YtanoabliahcbeaaGreat
