import Derived.Test.YtadhfejefpildaaGreatHe
import Derived.Deep.DeepCutAuto
import Derived.Deep.CutBlock
set_option maxHeartbeats 16000000
set_option maxRecDepth 100000
namespace Go.Proofs.YtadhfejefpildaaGreat
open Go.RowKit Disk Table
open Go.Proofs.YtadhfejefpildaaGreat.Calls
open Go.Proofs.YtadhfejefpildaaGreat.Command
open Go.Proofs.YtadhfejefpildaaGreat.Frame (Frs)
theorem sB {W0 w:World}{F G:Nat->Prop}{d r u:Value}{X Y:Option St}{M:List UInt8}(h:Mid W0 w F G d r X Y)(hu:Seg W0 u M):(M≠[]->∀k,u.ownBlock=some k->¬F k)/\(M≠[]->∀k,u.ownBlock=some k->¬G k):=by
 have q:M≠[]->∀k,u.ownBlock=some k->k<W0.heap.size:=fun hM k hk=>by
  obtain ⟨ao,cap,rfl,_,_,_,h4⟩:=hu
  obtain ⟨b,off,e,hc⟩:=h4 0 (List.length_pos_iff.2 hM)
  subst e
  simp [Value.ownBlock] at hk
  subst hk
  exact World.block_lt_of_cell? W0 _ hc
 exact ⟨fun hM k hk hf=>by have:=q hM k hk;have:=h.lf k hf;omega,fun hM k hk hf=>by have:=q hM k hk;have:=h.lg k hf;omega⟩
theorem ql {w:World}{ao:Option Addr}{N cap:Nat}{L:List WStep}(h:lr w (.slice ao N cap) L)(j:Nat)(hj:j<L.length):∃b off c1 c2 c3 t1 t2 t3,ao=some ⟨b,off,none⟩/\ii w b (off+j*5) c1 c2 c3 t1 t2 t3 L[j]/\Cmds w (.slice c1 c2 c3) L[j].cs/\Seg w (.slice t1 t2 t3) L[j].data/\-9223372036854775808<=L[j].n/\L[j].n<=9223372036854775807:=by
 obtain ⟨ao',cap',e,_,_,_,h4⟩:=h
 simp at e
 obtain ⟨rfl,rfl,rfl⟩:=e
 exact h4 j hj
theorem iF {W0 w w':World}{F G F':Nat->Prop}{d r:Value}{X X' Y:Option St}{zb t:Nat}{cc:Array Value}(h:Mid W0 w F G d r X Y)(hb:Blk w zb t cc)(hF:∀k,F k->k<zb)(h1:DQ w' F' d X')(h2:Aft w F w' F')(h3:∀k,F' k->k<w'.heap.size):Blk w' zb t cc/\Mid W0 w' F' G d r X' Y:=⟨hb.same (h2.fr.block zb hb.lt (fun e=>by have:=hF zb e;omega)),h.stepD h1 h2 h3⟩
theorem vD (c:Int)(v:Value)(L:List WStep)(w:World)(hs:lr w v L):Calls Tryz.prog 5 #[.int .i64 c,v] w fun e w'=>e=.returned (.bool true)/\w.grownBy w' none:=by
 have HS:Hid (lr w v L):=hs
 obtain ⟨ao,cap,e,l1,l2,l3,-⟩:=hs
 obtain ⟨N,hN⟩:∃x,L.length=x:=⟨_,rfl⟩
 rw [hN] at e l1 l3
 have HL:Hid (L.length=N):=hN
 subst e
 clear hN
 go_enter Tryz.func5,Tryz.ntmps5
 go_wp2_with fail
 refine (newD c w).mono ?_
 rintro e w1 ⟨d,rfl,g1,F,hd1,hd2,hd3⟩
 have H1:Hid (w.grownBy w1 none/\DQ w1 F d (newX c)/\(∀k,F k->w.heap.size<=k)/\∀k,F k->k<w1.heap.size):=⟨g1,hd1,hd2,hd3⟩
 clear g1 hd1 hd2 hd3
 obtain ⟨nb,hnb⟩:∃x,(newX c).isNone=x:=⟨_,rfl⟩
 have HNB:Hid ((newX c).isNone=nb):=hnb
 rw [hnb]
 clear hnb
 obtain ⟨ec,hec⟩:∃x:Int,(if nb=true then 2 else 0)=x:=⟨_,rfl⟩
 rw [hec]
 have q2:(ec != 0)=nb:=by rw [<-hec];cases nb <;> rfl
 clear hec
 go_wp2_with fail
 refine (newR c w1).mono ?_
 rintro e w2 ⟨r,rfl,g2,G,hr1,hr2,hr3⟩
 have H2:Hid (Mid w w2 F G d r (newX c) (newX c)):=⟨aa H1.out.1 g2,H1.out.2.1.same g2.size (cJ g2 H1.out.2.2.2),hr1,fun k h1 h2=>by have:=H1.out.2.2.2 k h1;have:=hr2 k h2;omega,H1.out.2.2.1,fun k hk=>Nat.le_trans H1.out.1.size (hr2 k hk),fun k hk=>Nat.lt_of_lt_of_le (H1.out.2.2.2 k hk) g2.size,hr3⟩
 clear g2 hr1 hr2 hr3
 have ed:=qj H2.out.dq
 have er:=qi H2.out.rq
 rw [HNB.out] at ed er
 have eg:=lq
 have q1:(nb != nb)=false:=by simp
 go_wp2_with fail
 clear ed er eg q1 q2 HNB H1
 go_loopw [8,5,7] (fun t dv rv wr=>∃(k:Nat) (X:Option St),t=.int .i64 (k:Int)/\k<=N/\Hid (uB w wr dv rv X/\QOk k X)) (fun t _ _ _=>N-(intOf t).toNat)
 case atStart=>exact ⟨0,newX c,rfl,Nat.zero_le _,⟨F,G,H2.out⟩,uj c⟩
 case round =>
  obtain ⟨k,X,rfl,hk,HP⟩:=hrel
  by_cases hlt:k<N
  ·obtain ⟨F,G,hmid⟩:=HP.out.1
   have HP2:Hid (Mid w wr F G u5 u7 X X/\QOk k X):=⟨hmid,HP.out.2⟩
   clear hmid HP
   have hkl:k<L.length:=by rw [HL.out];exact hlt
   obtain ⟨ga,oa,c1,c2,c3,t1,t2,t3,rfl,hat,hcm,hdt,hn1,hn2⟩:=ql HS.out k hkl
   obtain ⟨s,hse⟩:∃s,L[k]=s:=⟨_,rfl⟩
   rw [hse] at hat hcm hdt hn1 hn2
   obtain ⟨e0,e1,e2,e3,e4⟩:=hat.grown HP2.out.1.gr
   obtain ⟨kd,hkd⟩:∃x,s.kind=x:=⟨_,rfl⟩
   obtain ⟨fi,hfi⟩:∃x,s.first=x:=⟨_,rfl⟩
   obtain ⟨nn,hnn⟩:∃x,s.n=x:=⟨_,rfl⟩
   rw [hkd] at e0
   rw [hfi] at e1
   rw [hnn] at e3 hn1 hn2
   have HST:Hid (Cmds w (.slice c1 c2 c3) s.cs/\Seg w (.slice t1 t2 t3) s.data/\-9223372036854775808<=nn/\nn<=9223372036854775807):=⟨hcm,hdt,hn1,hn2⟩
   have HFEW:Hid (Few 9223372036854775806 X):=HP2.out.2.1.mono (by omega)
   have i0:(0:Int)<=(k:Int):=by omega
   have i1:(k:Int)<(N:Int):=by omega
   clear hat hcm hdt hn1 hn2 hse hkd hfi hnn
   go_upto_region 9 with fail
   obtain ⟨w3,hw3,H3⟩:=al1 wr #[.int .i64 kd,.int .i64 fi,.slice c1 c2 c3,.int .i64 nn,.slice t1 t2 t3] 68
   rw [hw3]
   clear hw3 e0 e1 e2 e3 e4
   obtain ⟨zb,hzb⟩:∃x,wr.heap.size=x:=⟨_,rfl⟩
   rw [hzb] at H3 ⊢
   have H4:Hid (Blk w3 zb 68 #[.int .i64 kd,.int .i64 fi,.slice c1 c2 c3,.int .i64 nn,.slice t1 t2 t3]/\Mid w w3 F G u5 u7 X X/\(∀k,F k->k<zb)/\(∀k,G k->k<zb)):=⟨H3.out.1,HP2.out.1.grown H3.out.2.1,by rw [<-hzb];exact HP2.out.1.uf,by rw [<-hzb];exact HP2.out.1.ug⟩
   clear hzb H3
   have z0:=H4.out.1.cell 0
   have z1:=H4.out.1.cell 1
   have z2:=H4.out.1.cell 2
   have z3:=H4.out.1.cell 3
   have z4:=H4.out.1.cell 4
   simp at z0 z1 z2 z3 z4
   go_upto_block 2 with fail
   go_cut [8,5,7] (fun b8 x5 x7 wc=>b8=.int .i64 (k:Int)/\∃X2,Hid (uB w wc x5 x7 X2/\QOk (k+1) X2))
   case first =>
    have hcase:kd=1\/kd=2\/kd=3\/kd=4\/kd=5\/(kd≠1/\kd≠2/\kd≠3/\kd≠4/\kd≠5):=by omega
    rcases hcase with rfl | rfl | rfl | rfl | rfl | ⟨h1,h2,h3,h4,h5⟩
    ·skip
     obtain ⟨x1,hx1⟩:∃x,(appX X fi s.cs).1=x:=⟨_,rfl⟩
     obtain ⟨y1,hy1⟩:∃x,(appX X fi s.cs).2.1=x:=⟨_,rfl⟩
     obtain ⟨X2,hX2⟩:∃x,(appX X fi s.cs).2.2=x:=⟨_,rfl⟩
     have HX2:Hid ((appX X fi s.cs).1=x1/\(appX X fi s.cs).2.1=y1/\(appX X fi s.cs).2.2=X2/\QOk (k+1) X2):=⟨hx1,hy1,hX2,by rw [<-hX2];exact uh HP2.out.2⟩
     have q1:(x1 != x1)=false:=by simp
     have q2:(y1 != y1)=false:=by simp
     clear hx1 hy1 hX2
     go_wp2_with fail
     refine (ud F u5 (.slice c1 c2 c3) X fi s.cs w3 H4.out.2.1.dq H4.out.2.1.uf HFEW.out (HST.out.1.grown H4.out.2.1.gr)).mono ?_
     rintro e w4 ⟨rfl,F2,hd4,ha4,hl4⟩
     rw [HX2.out.1,HX2.out.2.1]
     rw [HX2.out.2.2.1] at hd4
     have H5:Hid ((Blk w4 zb 68 #[.int .i64 1,.int .i64 fi,.slice c1 c2 c3,.int .i64 nn,.slice t1 t2 t3]/\Mid w w4 F2 G u5 u7 X2 X)/\w.grownBy w4 none):=⟨iF H4.out.2.1 H4.out.1 H4.out.2.2.1 hd4 ha4 hl4,(H4.out.2.1.stepD hd4 ha4 hl4).gr⟩
     clear hd4 ha4 hl4 z0 z1 z2 z3 z4
     have z0:=H5.out.1.1.cell 0
     have z1:=H5.out.1.1.cell 1
     have z2:=H5.out.1.1.cell 2
     have z3:=H5.out.1.1.cell 3
     have z4:=H5.out.1.1.cell 4
     simp at z0 z1 z2 z3 z4
     go_wp2_with fail
     refine (ue G u7 (.slice c1 c2 c3) X fi s.cs w4 H5.out.1.2.rq H5.out.1.2.ug HFEW.out (HST.out.1.grown H5.out.2)).mono ?_
     rintro e wz ⟨rfl,G2,hr5,ha5,hl5⟩
     rw [HX2.out.1,HX2.out.2.1]
     rw [HX2.out.2.2.1] at hr5
     have HZ:Hid (Mid w wz F2 G2 u5 u7 X2 X2/\QOk (k+1) X2):=⟨H5.out.1.2.stepR hr5 ha5 hl5,HX2.out.2.2.2⟩
     clear hr5 ha5 hl5 z0 z1 z2 z3 z4
     go_wp2_with fail
     clear q1 q2 HX2 H5 H4
     go_meet
     case rel=>exact ⟨rfl,X2,⟨F2,G2,HZ.out.1⟩,HZ.out.2⟩
    ·skip
     obtain ⟨fs,R,hsc⟩:=uk X
     have HSC:Hid (∀S,X=some S->Frame.Sc S.log fs R/\S.log.length<=1048576):=fun S hS=>⟨hsc S hS,by
      have h1:=HP2.out.2.2 S hS
      have h2:=HP2.out.1.dq
      rw [hS] at h2
      have h3:=(DK.ok h2).cap2
      omega⟩
     clear hsc
     obtain ⟨x1,hx1⟩:∃x,(cutX X fs fi).1=x:=⟨_,rfl⟩
     obtain ⟨y1,hy1⟩:∃x,(cutX X fs fi).2.1=x:=⟨_,rfl⟩
     obtain ⟨X2,hX2⟩:∃x,(cutX X fs fi).2.2=x:=⟨_,rfl⟩
     have HX2:Hid ((cutX X fs fi).1=x1/\(cutX X fs fi).2.1=y1/\(cutX X fs fi).2.2=X2/\QOk (k+1) X2):=⟨hx1,hy1,hX2,by rw [<-hX2];exact ui HP2.out.2⟩
     have q1:(x1 != x1)=false:=by simp
     have q2:(y1 != y1)=false:=by simp
     clear hx1 hy1 hX2
     go_wp2_with fail
     refine (cutD F u5 X fs R fi w3 H4.out.2.1.dq H4.out.2.1.uf HFEW.out HSC.out).mono ?_
     rintro e w4 ⟨rfl,F2,hd4,ha4,hl4⟩
     rw [HX2.out.1,HX2.out.2.1]
     rw [HX2.out.2.2.1] at hd4
     have H5:Hid ((Blk w4 zb 68 #[.int .i64 2,.int .i64 fi,.slice c1 c2 c3,.int .i64 nn,.slice t1 t2 t3]/\Mid w w4 F2 G u5 u7 X2 X)/\w.grownBy w4 none):=⟨iF H4.out.2.1 H4.out.1 H4.out.2.2.1 hd4 ha4 hl4,(H4.out.2.1.stepD hd4 ha4 hl4).gr⟩
     clear hd4 ha4 hl4 z0 z1 z2 z3 z4
     have z0:=H5.out.1.1.cell 0
     have z1:=H5.out.1.1.cell 1
     have z2:=H5.out.1.1.cell 2
     have z3:=H5.out.1.1.cell 3
     have z4:=H5.out.1.1.cell 4
     simp at z0 z1 z2 z3 z4
     go_wp2_with fail
     refine (cutR G u7 X fs R fi w4 H5.out.1.2.rq H5.out.1.2.ug HFEW.out HSC.out).mono ?_
     rintro e wz ⟨rfl,G2,hr5,ha5,hl5⟩
     rw [HX2.out.1,HX2.out.2.1]
     rw [HX2.out.2.2.1] at hr5
     have HZ:Hid (Mid w wz F2 G2 u5 u7 X2 X2/\QOk (k+1) X2):=⟨H5.out.1.2.stepR hr5 ha5 hl5,HX2.out.2.2.2⟩
     clear hr5 ha5 hl5 z0 z1 z2 z3 z4
     go_wp2_with fail
     clear q1 q2 HX2 H5 H4
     clear HSC fs R
     go_meet
     case rel=>exact ⟨rfl,X2,⟨F2,G2,HZ.out.1⟩,HZ.out.2⟩
    ·skip
     obtain ⟨x1,hx1⟩:∃x,(iM X fun _S=>0)=x:=⟨_,rfl⟩
     obtain ⟨X2,hX2⟩:∃x,(X.map fun S=>S.sync)=x:=⟨_,rfl⟩
     have HX2:Hid ((iM X fun _S=>0)=x1/\(X.map fun S=>S.sync)=X2/\QOk (k+1) X2):=⟨hx1,hX2,by rw [<-hX2];exact HP2.out.2.map nI (fun S h=>h)⟩
     have q1:(x1 != x1)=false:=by simp
     clear hx1 hX2
     go_wp2_with fail
     refine (v_ F u5 X w3 H4.out.2.1.dq H4.out.2.1.uf HFEW.out).mono ?_
     rintro e w4 ⟨rfl,F2,hd4,ha4,hl4⟩
     rw [HX2.out.1]
     rw [HX2.out.2.1] at hd4
     have H5:Hid (Mid w w4 F2 G u5 u7 X2 X):=H4.out.2.1.stepD hd4 ha4 hl4
     clear hd4 ha4 hl4 z0 z1 z2 z3 z4
     go_wp2_with fail
     refine (wf G u7 X w4 H5.out.rq H5.out.ug HFEW.out).mono ?_
     rintro e wz ⟨rfl,G2,hr5,ha5,hl5⟩
     rw [HX2.out.1]
     rw [HX2.out.2.1] at hr5
     have HZ:Hid (Mid w wz F2 G2 u5 u7 X2 X2/\QOk (k+1) X2):=⟨H5.out.stepR hr5 ha5 hl5,HX2.out.2.2⟩
     clear hr5 ha5 hl5
     go_wp2_with fail
     clear q1 HX2 H5 H4
     go_meet
     case rel=>exact ⟨rfl,X2,⟨F2,G2,HZ.out.1⟩,HZ.out.2⟩
    ·skip
     obtain ⟨X2,hX2⟩:∃x,(X.map fun S=>S.stop nn)=x:=⟨_,rfl⟩
     have HX2:Hid ((X.map fun S=>S.stop nn)=X2/\QOk (k+1) X2):=⟨hX2,by rw [<-hX2];exact HP2.out.2.map (fun S=>nK S nn) (fun S h=>sA S nn h)⟩
     clear hX2
     go_upto_region 24 with fail
     clear z0 z1 z2 z3 z4
     have HCC:Hid (∀y:World,w3.grownBy y none->y.cell? ⟨zb,3,none⟩=some (.int .i64 nn)):=fun y hy=>(H4.out.1.grown hy (by simp)).cell 3
     refine wp_region_noPanic ?_
     refine am 1000 (fun y=>w3.grownBy y none) (by kernel_rfl) ?_
     have G0:Hid (w3.grownBy w3.drew none):=af _ _
     generalize w3.drew=wd at G0 ⊢
     have J:Idx [0,1,2,4,5,6]:=trivial
     iterate 6 (refine tK J (G0.out) rfl rfl (fun wk hk=>by have m0:=HCC.out wk hk;go_simp;try rfl) ?_;replace J:=J.tl;try simp only [pN])
     refine wO 3 rfl fun K hK=>?_
     go_wp2_with fail
     refine (wg F u5 X nn wd (H4.out.2.1.grown G0.out).dq HST.out.2.2.1 HST.out.2.2.2).mono ?_
     rintro e w4 ⟨d2,rfl,g4,F2,hd4,hl4,hu4⟩
     rw [HX2.out.1] at hd4
     have G1:Hid (w3.grownBy w4 none/\DQ w4 F2 d2 X2/\(∀k,F2 k->wd.heap.size<=k)/\(∀k,F2 k->k<w4.heap.size)):=⟨aa G0.out g4,hd4,hl4,hu4⟩
     clear g4 hd4 hl4 hu4
     go_wp2_with fail
     refine hK.out _ _ (fun _=>G1.out.1) ?_
     clear hK K
     try simp only [pN]
     refine wO 7 rfl fun K hK=>?_
     go_wp2_with fail
     refine (wh G u7 X nn w4 (H4.out.2.1.grown G1.out.1).rq HST.out.2.2.1 HST.out.2.2.2).mono ?_
     rintro e wz ⟨r2,rfl,g5,G2,hr5,hl5,hu5⟩
     rw [HX2.out.1] at hr5
     have HZ:Hid (Mid w wz F2 G2 d2 r2 X2 X2/\QOk (k+1) X2):=by
      have h1:=G1.out
      have hw:=H4.out.2.1.gr
      have hs3:=hw.size
      have hs4:=G0.out.size
      have hs5:=h1.1.size
      have hs6:=g5.size
      exact ⟨⟨aa (aa hw h1.1) g5,h1.2.1.same g5.size (cJ g5 h1.2.2.2),hr5,fun x hx hy=>by have:=h1.2.2.2 x hx;have:=hl5 x hy;omega,fun x hx=>by have:=h1.2.2.1 x hx;omega,fun x hx=>by have:=hl5 x hx;omega,fun x hx=>by have:=h1.2.2.2 x hx;omega,hu5⟩,HX2.out.2⟩
     have G2':Hid (w3.grownBy wz none):=aa G1.out.1 g5
     clear g5 hr5 hl5 hu5
     go_wp2_with fail
     refine hK.out _ _ (fun _=>G2'.out) ?_
     clear hK K
     try simp only [pN]
     have J:Idx [8,9]:=trivial
     iterate 2 (refine tK J (G2'.out) rfl rfl (fun wk hk=>by have m0:=HCC.out wk hk;go_simp;try rfl) ?_;replace J:=J.tl;try simp only [pN])
     refine wD ?_
     simp only [NoPanic,Exit.inBlock,Exit.then]
     go_wp2_with fail
     clear HX2 HCC G0 G1 G2' H4
     go_meet
     case rel=>exact ⟨rfl,X2,⟨F2,G2,HZ.out.1⟩,HZ.out.2⟩
    ·skip
     obtain ⟨x1,hx1⟩:∃x,(iM X fun S=>S.writeCode s.data)=x:=⟨_,rfl⟩
     obtain ⟨X2,hX2⟩:∃x,(X.map fun S=>S.write s.data)=x:=⟨_,rfl⟩
     have HX2:Hid ((iM X fun S=>S.writeCode s.data)=x1/\(X.map fun S=>S.write s.data)=X2/\QOk (k+1) X2):=⟨hx1,hX2,by rw [<-hX2];exact HP2.out.2.map (fun S=>iN S s.data) (fun S h=>kB S s.data h)⟩
     have q1:(x1 != x1)=false:=by simp
     clear hx1 hX2
     go_upto_region 26 with fail
     clear z0 z1 z2 z3 z4
     have HCC:Hid (∀y:World,Blk y zb 68 #[.int .i64 5,.int .i64 fi,.slice c1 c2 c3,.int .i64 nn,.slice t1 t2 t3]->y.cell? ⟨zb,4,none⟩=some (.slice t1 t2 t3)):=fun y hy=>hy.cell 4
     refine wp_region_noPanic ?_
     refine am 1000 (fun y=>Blk y zb 68 #[.int .i64 5,.int .i64 fi,.slice c1 c2 c3,.int .i64 nn,.slice t1 t2 t3]) (by kernel_rfl) ?_
     have G0:Hid (Blk w3.drew zb 68 #[.int .i64 5,.int .i64 fi,.slice c1 c2 c3,.int .i64 nn,.slice t1 t2 t3]/\Mid w w3.drew F G u5 u7 X X):=⟨H4.out.1.grown (af _ none) (by simp),H4.out.2.1.grown (af _ none)⟩
     generalize w3.drew=wd at G0 ⊢
     have J:Idx [0,1,2,4,5,6]:=trivial
     iterate 6 (refine tK J (G0.out.1) rfl rfl (fun wk hk=>by have m0:=HCC.out wk hk;go_simp;try rfl) ?_;replace J:=J.tl;try simp only [pN])
     refine wO 3 rfl fun K hK=>?_
     go_wp2_with fail
     refine (vt F u5 X (.slice t1 t2 t3) s.data wd G0.out.2.dq G0.out.2.uf HFEW.out (HST.out.2.1.grown G0.out.2.gr) (sB G0.out.2 HST.out.2.1).1).mono ?_
     rintro e w4 ⟨rfl,F2,hd4,ha4,hl4⟩
     rw [HX2.out.1]
     rw [HX2.out.2.1] at hd4
     have G1:Hid (Blk w4 zb 68 #[.int .i64 5,.int .i64 fi,.slice c1 c2 c3,.int .i64 nn,.slice t1 t2 t3]/\Mid w w4 F2 G u5 u7 X2 X):=iF G0.out.2 G0.out.1 H4.out.2.2.1 hd4 ha4 hl4
     clear hd4 ha4 hl4
     go_wp2_with fail
     refine hK.out _ _ (fun _=>G1.out.1) ?_
     clear hK K
     try simp only [pN]
     refine wO 7 rfl fun K hK=>?_
     go_wp2_with fail
     refine (vu G u7 X (.slice t1 t2 t3) s.data w4 G1.out.2.rq G1.out.2.ug HFEW.out (HST.out.2.1.grown G1.out.2.gr) (sB G1.out.2 HST.out.2.1).2).mono ?_
     rintro e wz ⟨rfl,G2,hr5,ha5,hl5⟩
     rw [HX2.out.1]
     rw [HX2.out.2.1] at hr5
     have HZ:Hid (Mid w wz F2 G2 u5 u7 X2 X2/\QOk (k+1) X2):=⟨G1.out.2.stepR hr5 ha5 hl5,HX2.out.2.2⟩
     have G2':Hid (Blk wz zb 68 #[.int .i64 5,.int .i64 fi,.slice c1 c2 c3,.int .i64 nn,.slice t1 t2 t3]):=G1.out.1.same (ha5.fr.block zb G1.out.1.lt (fun e=>by have:=H4.out.2.2.2 zb e;omega))
     clear hr5 ha5 hl5
     go_wp2_with fail
     refine hK.out _ _ (fun _=>G2'.out) ?_
     clear hK K
     try simp only [pN]
     have J:Idx [8]:=trivial
     iterate 1 (refine tK J (G2'.out) rfl rfl (fun wk hk=>by have m0:=HCC.out wk hk;go_simp;try rfl) ?_;replace J:=J.tl;try simp only [pN])
     refine wD ?_
     refine (‹∀(a:Act) (w:World),Code.wp Tryz.prog _ _ a w->_› _ _ ?_)
     go_wp2_with fail
     clear HX2 HCC G0 G1 G2' H4 q1
     go_meet
     case rel=>exact ⟨rfl,X2,⟨F2,G2,HZ.out.1⟩,HZ.out.2⟩
    ·skip
     have q1:(kd==1)=false:=by simpa using h1
     have q2:(kd==2)=false:=by simpa using h2
     have q3:(kd==3)=false:=by simpa using h3
     have q4:(kd==4)=false:=by simpa using h4
     have q5:(kd==5)=false:=by simpa using h5
     have p1:=eq_false h1
     have p2:=eq_false h2
     have p3:=eq_false h3
     have p4:=eq_false h4
     have p5:=eq_false h5
     clear h1 h2 h3 h4 h5
     go_wp2_with fail
     have HZ:Hid (Mid w w3 F G u5 u7 X X/\QOk (k+1) X):=⟨H4.out.2.1,HP2.out.2.mono (Nat.le_succ _)⟩
     clear q1 q2 q3 q4 q5 p1 p2 p3 p4 p5 z0 z1 z2 z3 z4 H4 HFEW HP2
     go_meet
     case rel=>exact ⟨rfl,X,⟨F,G,HZ.out.1⟩,HZ.out.2⟩
   case rest =>
    obtain ⟨rfl,X2,HZ0⟩:=hcut
    obtain ⟨F2,G2,hmid⟩:=HZ0.out.1
    have HZ:Hid (Mid w wc F2 G2 u5 u7 X2 X2/\QOk (k+1) X2):=⟨hmid,HZ0.out.2⟩
    clear hmid HZ0 H4 HST HFEW HP2 H2 z0 z1 z2 z3 z4
    obtain ⟨wz,hwz⟩:∃x,x=wc:=⟨_,rfl⟩
    subst hwz
    obtain ⟨d2,hd2⟩:∃x,x=u5:=⟨_,rfl⟩
    subst hd2
    obtain ⟨r2,hr2⟩:∃x,x=u7:=⟨_,rfl⟩
    subst hr2
    refine (‹∀(a:Act) (w:World),Code.wp Tryz.prog _ _ a w->_› _ _ ?_)
    go_wp2_with fail
    rcases X2 with _ | S
    ·have hd:d2=.pointer none:=HZ.out.1.dq
     have hr:r2=.pointer none:=HZ.out.1.rq
     subst hd
     subst hr
     refine (nS wz).mono ?_
     rintro e w6 ⟨rfl,g6⟩
     have H6:Hid (wz.grownBy w6 none):=g6
     clear g6
     go_upto_region 29 with fail
     obtain ⟨w7,hw7,H7⟩:=al1 w6 #[.slice none 0 0,.int .i64 0,.int .i64 0,.int .i64 0] 38
     rw [hw7]
     clear hw7
     go_wp2_with fail
     go_roundw
     case rel=>exact ⟨k+1,none,by go_num,by omega,⟨F2,G2,HZ.out.1.grown (aa H6.out H7.out.2.1)⟩,HZ.out.2⟩
     case measure=>simp [intOf];omega
    ·obtain ⟨fs,R,hsc⟩:=Frame.eU _ S.log (Nat.le_refl _)
     have hlen:S.log.length<=1048576:=by
      have h1:=HZ.out.2.2 S rfl
      have h2:=(DK.ok HZ.out.1.dq).cap2
      omega
     obtain ⟨E,eg,en,ey,er,hE,hall⟩:=qk S.log fs R hsc hlen
     have HEA:Hid (E.length<=4398046511104/\(∀w x w',EntP S.log fs R w x w'->∃ao k cap,x=.returned (.tuple #[.agg #[.slice ao k cap,.int .i64 eg,.int .i64 en,.int .i64 ey],.int .i64 er])/\Ents w' (.slice ao k cap) E/\w.grownBy w' none)/\Frame.Sc S.log fs R/\S.log.length<=1048576):=⟨hE,hall,hsc,hlen⟩
     obtain ⟨rb,lv,v0,v1,rfl,hb⟩:RK wz G2 r2 S:=HZ.out.1.rq
     obtain ⟨la,lc,el⟩:=hb.log.seg.shape
     obtain ⟨ln,hln⟩:∃x,S.log.length=x:=⟨_,rfl⟩
     rw [hln] at el
     subst el
     have HRB:Hid (∀y:World,wz.grownBy y none->y.cell? ⟨rb,1,none⟩=some (.slice la ln lc)/\y.cell? ⟨rb,2,none⟩=some (.int .i64 S.sure)/\y.cell? ⟨rb,8,none⟩=some (.int .i64 S.steps)/\Seg y (.slice la ln lc) S.log):=fun y hy=>by
      obtain ⟨r0,r1,r2,r3,r4,r5,r6,r7,r8⟩:=hb.cells
      exact ⟨hy.cell r1 (by simp),hy.cell r2 (by simp),hy.cell r8 (by simp),hb.log.seg.grown hy⟩
     obtain ⟨su,hsu⟩:∃x:Int,(S.sure:Int)=x:=⟨_,rfl⟩
     obtain ⟨sp,hsp⟩:∃x:Int,(S.steps:Int)=x:=⟨_,rfl⟩
     rw [hsu,hsp] at HRB
     have HSS:Hid ((S.sure:Int)=su/\(S.steps:Int)=sp):=⟨hsu,hsp⟩
     clear hb hsc hlen hE hall hln hsu hsp
     refine (rU F2 d2 S fs R wz HZ.out.1.dq HEA.out.2.2.1 (by have:=HEA.out.2.2.2;omega)).mono ?_
     rintro e w6 hp
     obtain ⟨a1,k1,y1,rfl,he1,g6⟩:=HEA.out.2.1 _ _ _ hp
     have H6:Hid (Ents w6 (.slice a1 k1 y1) E/\wz.grownBy w6 none):=⟨he1,g6⟩
     clear hp he1 g6
     go_upto_region 29 with fail
     obtain ⟨w7,hw7,H7⟩:=al1 w6 #[.slice a1 k1 y1,.int .i64 eg,.int .i64 en,.int .i64 ey] 38
     rw [hw7]
     clear hw7
     obtain ⟨sb,hsb⟩:∃x,w6.heap.size=x:=⟨_,rfl⟩
     rw [hsb] at H7 ⊢
     clear hsb
     have G7:Hid (wz.grownBy w7 none):=aa H6.out.2 H7.out.2.1
     obtain ⟨x1,x2,x3,x4⟩:=HRB.out w7 G7.out
     clear x4
     go_wp2_with fail
     refine (jI (.slice la ln lc) S.log fs R w7 (HRB.out w7 G7.out).2.2.2 HEA.out.2.2.1 HEA.out.2.2.2).mono ?_
     rintro e w8 hp
     obtain ⟨a2,k2,y2,rfl,he2,g8⟩:=HEA.out.2.1 _ _ _ hp
     have H8:Hid (Ents w8 (.slice a2 k2 y2) E/\w7.grownBy w8 none):=⟨he2,g8⟩
     clear hp he2 g8 x1 x2 x3
     go_upto_region 33 with fail
     obtain ⟨w9,hw9,H9⟩:=al1 w8 #[.slice a2 k2 y2,.int .i64 eg,.int .i64 en,.int .i64 ey] 38
     rw [hw9]
     clear hw9
     obtain ⟨sd,hsd⟩:∃x,w8.heap.size=x:=⟨_,rfl⟩
     rw [hsd] at H9 ⊢
     clear hsd
     have G9:Hid (wz.grownBy w9 none/\Ents w9 (.slice a1 k1 y1) E/\Ents w9 (.slice a2 k2 y2) E/\Blk w9 sb 38 #[.slice a1 k1 y1,.int .i64 eg,.int .i64 en,.int .i64 ey]):=by
      have g:=aa H8.out.2 H9.out.2.1
      exact ⟨aa G7.out g,(H6.out.1.grown H7.out.2.1).grown g,H8.out.1.grown H9.out.2.1,H7.out.1.grown g (by simp)⟩
     have HCC:Hid (∀y:World,w9.grownBy y none->(y.cell? ⟨sb,0,none⟩=some (.slice a1 k1 y1)/\y.cell? ⟨sb,1,none⟩=some (.int .i64 eg)/\y.cell? ⟨sb,2,none⟩=some (.int .i64 en)/\y.cell? ⟨sb,3,none⟩=some (.int .i64 ey))/\(y.cell? ⟨sd,0,none⟩=some (.slice a2 k2 y2)/\y.cell? ⟨sd,1,none⟩=some (.int .i64 eg)/\y.cell? ⟨sd,2,none⟩=some (.int .i64 en)/\y.cell? ⟨sd,3,none⟩=some (.int .i64 ey))/\y.cell? ⟨rb,1,none⟩=some (.slice la ln lc)/\y.cell? ⟨rb,2,none⟩=some (.int .i64 su)/\y.cell? ⟨rb,8,none⟩=some (.int .i64 sp)/\(convert 23 9 (.slice la ln lc)).run Tryz.prog y=.ok (.string ⟨S.log.toArray⟩) y):=fun y hy=>by
      obtain ⟨h1,h2,h3,h4⟩:=HRB.out y (aa G9.out.1 hy)
      exact ⟨blk4 (G9.out.2.2.2.grown hy (by simp)),blk4 (H9.out.1.grown hy (by simp)),h1,h2,h3,aJ h4⟩
     have s1:(er != er)=false:=by simp
     have s2:(su != su)=false:=by simp
     have s3:(sp != sp)=false:=by simp
     refine wp_region_noPanic ?_
     refine am 1000 (fun y=>w9.grownBy y none) (by kernel_rfl) ?_
     have G0:Hid (w9.grownBy w9.drew none):=af _ _
     generalize w9.drew=wd at G0 ⊢
     have J:Idx [0,1,2,3,4,5]:=trivial
     iterate 6 (refine tK J (G0.out) rfl rfl (fun wk hk=>by obtain ⟨⟨m0,m1,m2,m3⟩,⟨n0,n1,n2,n3⟩,o1,o2,o3,o4⟩:=HCC.out wk hk;go_simp;try rfl) ?_;replace J:=J.tl;try simp only [pN])
     refine wO 6 rfl fun K hK=>?_
     go_wp2_with fail
     refine (ll (.slice a1 k1 y1) (.slice a2 k2 y2) E eg en ey wd (G9.out.2.1.grown G0.out) (G9.out.2.2.1.grown G0.out) HEA.out.1).mono ?_
     rintro e wa ⟨rfl,ga'⟩
     have G1:Hid (w9.grownBy wa none):=aa G0.out ga'
     clear ga'
     go_wp2_with fail
     refine hK.out _ _ (fun _=>G1.out) ?_
     clear hK K
     try simp only [pN]
     have J:Idx [7,8,9,10,13,14,15,16,17]:=trivial
     iterate 9 (refine tK J (G1.out) rfl rfl (fun wk hk=>by obtain ⟨⟨m0,m1,m2,m3⟩,⟨n0,n1,n2,n3⟩,o1,o2,o3,o4⟩:=HCC.out wk hk;go_simp;try rfl) ?_;replace J:=J.tl;try simp only [pN])
     refine wO 11 rfl fun K hK=>?_
     go_wp2_with fail
     refine (oI F2 d2 S wa ((HZ.out.1.grown (aa G9.out.1 G1.out)).dq)).mono ?_
     rintro e wb ⟨u,rfl,ou,gb'⟩
     obtain ⟨ua,un,uc,eu⟩:=Calls.aB ou
     subst eu
     have G2':Hid (w9.grownBy wb none):=aa G1.out gb'
     have R2:Hid (∀y:World,wb.grownBy y none->(convert 23 9 (.slice ua un uc)).run Tryz.prog y=.ok (.string ⟨S.log.toArray⟩) y):=fun y hy=>aJ (ou.seg.grown hy)
     clear gb' ou
     go_wp2_with fail
     refine hK.out _ _ (fun _=>G2'.out) ?_
     clear hK K
     try simp only [pN]
     refine wO 12 rfl fun K hK=>?_
     have sR:=R2.out wb (aj _ _)
     go_wp2_with fail
     refine hK.out _ _ (fun _=>G2'.out) ?_
     clear hK K
     try simp only [pN]
     have J:Idx [18,19,20,21,23,24,25,26]:=trivial
     iterate 8 (refine tK J (G2'.out) rfl rfl (fun wk hk=>by obtain ⟨⟨m0,m1,m2,m3⟩,⟨n0,n1,n2,n3⟩,o1,o2,o3,o4⟩:=HCC.out wk hk;go_simp;try rfl) ?_;replace J:=J.tl;try simp only [pN])
     refine wO 22 rfl fun K hK=>?_
     go_wp2_with fail
     refine (uz F2 d2 S wb ((HZ.out.1.grown (aa G9.out.1 G2'.out)).dq)).mono ?_
     rintro e wc ⟨rfl,hwc⟩
     subst hwc
     rw [HSS.out.1]
     go_wp2_with fail
     refine hK.out _ _ (fun _=>G2'.out) ?_
     clear hK K
     try simp only [pN]
     have J:Idx [27,28,29,30,32,33,34,35]:=trivial
     iterate 8 (refine tK J (G2'.out) rfl rfl (fun wk hk=>by obtain ⟨⟨m0,m1,m2,m3⟩,⟨n0,n1,n2,n3⟩,o1,o2,o3,o4⟩:=HCC.out wk hk;go_simp;try rfl) ?_;replace J:=J.tl;try simp only [pN])
     refine wO 31 rfl fun K hK=>?_
     go_wp2_with fail
     refine (vm F2 d2 S _ ((HZ.out.1.grown (aa G9.out.1 G2'.out)).dq)).mono ?_
     rintro e we ⟨rfl,hwe⟩
     subst hwe
     rw [HSS.out.2]
     go_wp2_with fail
     refine hK.out _ _ (fun _=>G2'.out) ?_
     clear hK K
     try simp only [pN]
     have J:Idx [36,37]:=trivial
     iterate 2 (refine tK J (G2'.out) rfl rfl (fun wk hk=>by obtain ⟨⟨m0,m1,m2,m3⟩,⟨n0,n1,n2,n3⟩,o1,o2,o3,o4⟩:=HCC.out wk hk;go_simp;try rfl) ?_;replace J:=J.tl;try simp only [pN])
     refine wD ?_
     refine (‹∀(a:Act) (w:World),Code.wp Tryz.prog _ _ a w->_› _ _ ?_)
     clear HCC s1 s2 s3
     go_wp2_with fail
     go_roundw
     case rel=>exact ⟨k+1,some S,by go_num,by omega,⟨F2,G2,HZ.out.1.grown (aa G9.out.1 G2'.out)⟩,HZ.out.2⟩
     case measure=>simp [intOf];omega
  ·skip
   have i1:((k:Int)<(N:Int))=False:=eq_false (by omega)
   have HW:Hid (w.grownBy wr none):=by
    obtain ⟨_,_,h⟩:=HP.out.1
    exact h.gr
   go_wp2_with fail
   refine (tR wr).mono ?_
   rintro e w5 ⟨rfl,g5⟩
   have HG:Hid (w.grownBy w5 none):=aa HW.out g5
   clear g5
   go_wp2_with fail
   go_ret
   exact ⟨rfl,HG.out⟩
end Go.Proofs.YtadhfejefpildaaGreat
