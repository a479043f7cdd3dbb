import Derived.Test.YtadhfejefpildaaGreatHc
set_option maxHeartbeats 8000000
set_option maxRecDepth 100000
namespace Go.Proofs.YtadhfejefpildaaGreat
open Go.RowKit Disk Table
open Go.Proofs.YtadhfejefpildaaGreat.Calls
open Go.Proofs.YtadhfejefpildaaGreat.Command
open Go.Proofs.YtadhfejefpildaaGreat.Frame (Frs)
def ig (F:Nat->Prop)(v:Value)(S:St)(fs:Frs)(n:Int)(w:World)(x:Ending)(w':World):Prop:=x=.returned (.tuple #[.int .i64 (cutS S fs n).1,.int .i64 (cutS S fs n).2.1])/\RAft w F w' v (cutS S fs n).2.2
theorem wA (F:Nat->Prop)(v:Value)(S:St)(fs:Frs)(R:Bs)(n:Int)(w:World)(h:RK w F v S)(hm:S.steps<9223372036854775807)(hsc:Frame.Sc S.log fs R)(hL:S.log.length<=1048576):Calls Tryz.prog 26 #[v,.int .i64 n] w (ig F v S fs n w):=by
 have HD:Hid (RK w F v S/\Frame.Sc S.log fs R/\S.log.length<=1048576/\S.steps<9223372036854775807/\S.Ok):=⟨h,hsc,hL,hm,h.ok⟩
 obtain ⟨b,lv,v0,v1,rfl,hb⟩:=h
 obtain ⟨la,lc,el⟩:=hb.log.seg.shape
 obtain ⟨ln,hln⟩:∃x,S.log.length=x:=⟨_,rfl⟩
 rw [hln] at el
 subst el
 obtain ⟨su,hsu⟩:∃x,S.sure=x:=⟨_,rfl⟩
 have HB:Hid (w.cell? ⟨b,1,none⟩=some (.slice la ln lc)/\w.cell? ⟨b,2,none⟩=some (.int .i64 su)/\Seg w (.slice la ln lc) S.log/\S.sure=su/\su<=1048576):=by
  obtain ⟨c0,c1,c2,c3,c4,c5,c6,c7,c8⟩:=hb.cells
  rw [hsu] at c2
  exact ⟨c1,c2,hb.log.seg,hsu,by have:=hb.ok.sure;omega⟩
 clear hb hsc hL hm hln hsu
 go_enter Tryz.func26,Tryz.ntmps26
 by_cases hn:n<0
 ·have HN:Hid (cutS S fs n=(0,2,S)):=by unfold Hid cutS;rw [if_pos hn]
  have q1:=eq_true hn
  clear hn
  go_wp2_with fail
  go_ret2
  unfold ig
  rw [HN.out]
  exact ⟨rfl,F,HD.out.1,aP (aj _ _)⟩
 have q1:=eq_false hn
 have HN:Hid (¬n<0):=hn
 clear hn
 have c1:=HB.out.1
 go_wp2_with fail
 refine (jI (.slice la ln lc) S.log fs R w HB.out.2.2.1 HD.out.2.1 HD.out.2.2.1).mono ?_
 rintro e w1 ⟨g1,hE⟩
 rcases hE with ⟨hok,vv,rfl,hE⟩ | ⟨hno,rfl⟩
 rotate_left
 ·have HZ:Hid (cutS S fs n=(0,8,S)/\w.grownBy w1 none):=⟨by unfold cutS;rw [if_neg (show ¬n<0 by have:=HN.out;omega),if_pos hno],g1⟩
  clear g1 hno c1
  go_upto_region 6 with fail
  obtain ⟨w2,hw2,H2⟩:=al1 w1 #[.slice none 0 0,.int .i64 0,.int .i64 0,.int .i64 0] 38
  rw [hw2]
  clear hw2
  go_wp2_with fail
  go_ret2
  unfold ig
  rw [HZ.out.1]
  have gg:=aa HZ.out.2 H2.out.2.1
  exact ⟨rfl,F,HD.out.1.grown gg,aP gg⟩
 obtain ⟨e1,e2,eE⟩:=LRow.shape hE
 obtain ⟨m,hmm⟩:∃x,(az 0 fs).1.length=x:=⟨_,rfl⟩
 rw [hmm] at eE
 subst eE
 obtain ⟨x1,hx1⟩:∃x,(Frame.flat fs).length=x:=⟨_,rfl⟩
 obtain ⟨x2,hx2⟩:∃x,S.log.length=x:=⟨_,rfl⟩
 obtain ⟨x3,hx3⟩:∃x,Frame.ends R=x:=⟨_,rfl⟩
 rw [hx1,hx2,hx3]
 have HM:Hid ((az 0 fs).1.length=m/\m<=1048576):=⟨hmm,by have:=cP fs 0;have:=HD.out.2.1.count;have:=HD.out;omega⟩
 have HPL:Hid (∀k,k<=m->aR fs k<=1048576):=fun k hk=>by
  have:=HD.out.2.1.len
  have:=Frame.fp fs k
  have:=HD.out
  unfold aR
  omega
 have HOK:Hid ((az 0 fs).2=true):=hok
 have H1:Hid (Ents w1 (.slice e1 m e2) (az 0 fs).1/\w.grownBy w1 none):=⟨hE.ents,g1⟩
 clear hE g1 hmm hx1 hx2 hx3 hok c1
 go_upto_region 6 with fail
 obtain ⟨w2,hw2,H2⟩:=al1 w1 #[.slice e1 m e2,.int .i64 x1,.int .i64 x2,.int .i64 x3] 38
 rw [hw2]
 clear hw2
 obtain ⟨sb,hsb⟩:∃x,w1.heap.size=x:=⟨_,rfl⟩
 rw [hsb] at H2 ⊢
 clear hsb
 have G2:Hid (w.grownBy w2 none/\Ents w2 (.slice e1 m e2) (az 0 fs).1):=⟨aa H1.out.2 H2.out.2.1,H1.out.1.grown H2.out.2.1⟩
 clear H1
 go_wp2_with fail
 go_loopw [8,9] (fun t s wr=>∃(j pl:Nat),t=.int .i64 (j:Int)/\s=.int .i64 (pl:Int)/\Hid (j<=m/\aR fs j=pl/\cnt (cutA fs n S.sure) j=j/\w2.grownBy wr none)) (fun t _ _=>m-(intOf t).toNat)
 case atStart=>exact ⟨0,0,rfl,rfl,Nat.zero_le _,by simp [aR,Frame.flat],rfl,aj _ _⟩
 case round =>
  obtain ⟨j,pl,rfl,rfl,HI⟩:=hrel
  have HGW:Hid (w.grownBy wr none):=aa G2.out.1 HI.out.2.2.2
  obtain ⟨s0,s1,s2,s3⟩:=blk4 (H2.out.1.grown HI.out.2.2.2 (by simp))
  by_cases hlt:j<m
  ·have hjl:j<(az 0 fs).1.length:=by rw [HM.out.1];exact hlt
   obtain ⟨ga,oa,r1,r2,r3,rfl,hat,hops⟩:=dZ G2.out.2 j hjl
   obtain ⟨en,hen⟩:∃x,(az 0 fs).1[j]=x:=⟨_,rfl⟩
   rw [hen] at hat hops
   obtain ⟨a0,a1,a2,a3,a4,a5,a6⟩:=hat.grown HI.out.2.2.2
   have HO:Hid (Ops w2 (.slice r1 r2 r3) en.2.ops/\(az 0 fs).1[j]=en/\okE en=true/\InC en.2):=⟨hops,hen,by rw [<-hen];exact (fj hjl).1,by rw [<-hen];exact (fj hjl).2.1⟩
   have i0:(0:Int)<=(j:Int):=by omega
   have i1:(j:Int)<(m:Int):=by omega
   clear hat hops hen
   by_cases hle:en.1<=n
   ·have q2:=eq_true hle
    go_wp2_with fail
    refine (rec9 r1 r2 r3 en.1 en.2 wr (HO.out.1.grown HI.out.2.2.2) HO.out.2.2.2 HO.out.2.2.1).mono ?_
    rintro e w4 ⟨ru,rfl,oru,g4⟩
    obtain ⟨ra,rc,er⟩:=oru.seg.shape
    obtain ⟨rl,hrl⟩:∃x,(Frame.frm 1 (bt (en.1,en.2))).length=x:=⟨_,rfl⟩
    rw [hrl] at er
    subst er
    have H4:Hid (w.grownBy w4 none/\w2.grownBy w4 none/\aR fs (j+1)=pl+rl):=by
     refine ⟨aa HGW.out g4,aa HI.out.2.2.2 g4,?_⟩
     rw [jK hjl,HO.out.2.1,HI.out.2.1]
     exact congrArg (pl + ·) hrl
    have hbd:pl+rl<=1048576:=by rw [<-H4.out.2.2];exact HPL.out (j+1) (by omega)
    clear g4 oru hrl a0 a1 a2 a3 a4 a5 a6 s0 s1 s2 s3
    obtain ⟨x,hx⟩:∃x,pl+rl=x:=⟨_,rfl⟩
    have y1:(pl:Int)+(rl:Int)=(x:Int):=by omega
    have y2:IntKind.i64.wrap (x:Int)=(x:Int):=jC (by omega) (by omega)
    have c2:=H4.out.1.cell HB.out.2.1 (by simp)
    by_cases hf:su<x
    ·have q7:((su:Int)<(x:Int))=True:=eq_true (by omega)
     have q8:(su<x)=True:=eq_true hf
     have HX:Hid (cutN fs n S.sure=j):=by
      have hf:cutA fs n S.sure j=false:=by
       cases hh:cutA fs n S.sure j
       ·rfl
       ·have hq:=(ft hjl).1 hh
        rw [H4.out.2.2,HB.out.2.2.2.1] at hq
        omega
      have:=jJ (eV fs n S.sure) hf ((az 0 fs).1.length-j)
      rw [show j+((az 0 fs).1.length-j)=(az 0 fs).1.length by omega] at this
      unfold cutN
      rw [this]
      exact HI.out.2.2.1
     have HPB:Hid (pl<=1048576/\j<=1048576/\aR fs j=pl):=⟨by have:=HPL.out j (by have:=HI.out.1;omega);have:=HI.out.2.1;omega,by have:=HI.out.1;have:=HM.out;omega,HI.out.2.1⟩
     by_cases hj0:j=0
     ·have q5:((j:Int)==0)=true:=by simp [hj0]
      have q6:=eq_true hj0
      have HJ:Hid (j=0):=hj0
      clear hj0
      go_wp2_with fail
      go_ret2
      unfold ig cutS
      rw [if_neg (show ¬n<0 by have:=HN.out;omega),if_neg (by rw [HOK.out];simp),HX.out,if_pos HJ.out,HJ.out]
      exact ⟨rfl,F,HD.out.1.grown H4.out.1,aP H4.out.1⟩
     ·have q5:((j:Int)==0)=false:=by simp [hj0]
      have q6:=eq_false hj0
      have HJ:Hid (¬j=0):=hj0
      clear hj0
      go_wp2_with fail
      refine (rP F _ S (pl:Int) w4 (HD.out.1.grown H4.out.1) HD.out.2.2.2.1).mono ?_
      rintro e w9 ⟨rfl,hA⟩
      have HA:Hid (RAft w4 F w9 (.pointer (some ⟨b,0,none⟩)) (S.drop (pl:Int))):=hA
      rw [show S.dropCode (pl:Int)=0 by unfold St.dropCode St.dropBad;rw [if_neg (by have:=gk fs n S.sure;rw [HX.out,HPB.out.2.2] at this;simp;omega)]]
      clear hA
      go_wp2_with fail
      go_ret2
      unfold ig cutS
      rw [if_neg (show ¬n<0 by have:=HN.out;omega),if_neg (by rw [HOK.out];simp),HX.out,if_neg HJ.out,HPB.out.2.2]
      exact ⟨rfl,HA.out.after (aP H4.out.1)⟩
    ·have q7:((su:Int)<(x:Int))=False:=eq_false (by omega)
     have q8:(su<x)=False:=eq_false hf
     have HNX:Hid (aR fs (j+1)=x/\cnt (cutA fs n S.sure) (j+1)=j+1):=⟨by rw [H4.out.2.2,hx],i9 (eV fs n S.sure) j ((ft hjl).2 ⟨by rw [HO.out.2.1];exact hle,by rw [H4.out.2.2,HB.out.2.2.2.1];omega⟩)⟩
     have hm2:=HM.out.2
     clear hf hx hbd
     go_wp2_with fail
     go_roundw
     case rel=>exact ⟨j+1,x,by go_num,rfl,by omega,HNX.out.1,HNX.out.2,H4.out.2.1⟩
     case measure=>simp [intOf];omega
   ·have q2:=eq_false hle
    have HLE:Hid (¬en.1<=n):=hle
    have HX:Hid (cutN fs n S.sure=j):=by
     have hf:cutA fs n S.sure j=false:=by
      cases hh:cutA fs n S.sure j
      ·rfl
      ·have hq:=(ft hjl).1 hh
       rw [HO.out.2.1] at hq
       exact absurd hq.1 (show ¬en.1<=n by have:=HLE.out;omega)
     have:=jJ (eV fs n S.sure) hf ((az 0 fs).1.length-j)
     rw [show j+((az 0 fs).1.length-j)=(az 0 fs).1.length by omega] at this
     unfold cutN
     rw [this]
     exact HI.out.2.2.1
    have HPB:Hid (pl<=1048576/\j<=1048576/\aR fs j=pl):=⟨by have:=HPL.out j (by have:=HI.out.1;omega);have:=HI.out.2.1;omega,by have:=HI.out.1;have:=HM.out;omega,HI.out.2.1⟩
    by_cases hj0:j=0
    ·have q5:((j:Int)==0)=true:=by simp [hj0]
     have q6:=eq_true hj0
     have HJ:Hid (j=0):=hj0
     clear hj0
     go_wp2_with fail
     go_ret2
     unfold ig cutS
     rw [if_neg (show ¬n<0 by have:=HN.out;omega),if_neg (by rw [HOK.out];simp),HX.out,if_pos HJ.out,HJ.out]
     exact ⟨rfl,F,HD.out.1.grown HGW.out,aP HGW.out⟩
    ·have q5:((j:Int)==0)=false:=by simp [hj0]
     have q6:=eq_false hj0
     have HJ:Hid (¬j=0):=hj0
     clear hj0
     go_wp2_with fail
     refine (rP F _ S (pl:Int) wr (HD.out.1.grown HGW.out) HD.out.2.2.2.1).mono ?_
     rintro e w9 ⟨rfl,hA⟩
     have HA:Hid (RAft wr F w9 (.pointer (some ⟨b,0,none⟩)) (S.drop (pl:Int))):=hA
     rw [show S.dropCode (pl:Int)=0 by unfold St.dropCode St.dropBad;rw [if_neg (by have:=gk fs n S.sure;rw [HX.out,HPB.out.2.2] at this;simp;omega)]]
     clear hA
     go_wp2_with fail
     go_ret2
     unfold ig cutS
     rw [if_neg (show ¬n<0 by have:=HN.out;omega),if_neg (by rw [HOK.out];simp),HX.out,if_neg HJ.out,HPB.out.2.2]
     exact ⟨rfl,HA.out.after (aP HGW.out)⟩
  ·have q7:((j:Int)<(m:Int))=False:=eq_false (by omega)
   have q8:(j<m)=False:=eq_false hlt
   have HX:Hid (cutN fs n S.sure=j):=by
    have e:j=m:=by have:=HI.out.1;omega
    unfold cutN
    rw [HM.out.1,<-e]
    exact HI.out.2.2.1
   have HPB:Hid (pl<=1048576/\j<=1048576/\aR fs j=pl):=⟨by have:=HPL.out j (by have:=HI.out.1;omega);have:=HI.out.2.1;omega,by have:=HI.out.1;have:=HM.out;omega,HI.out.2.1⟩
   by_cases hj0:j=0
   ·have q5:((j:Int)==0)=true:=by simp [hj0]
    have q6:=eq_true hj0
    have HJ:Hid (j=0):=hj0
    clear hj0
    go_wp2_with fail
    go_ret2
    unfold ig cutS
    rw [if_neg (show ¬n<0 by have:=HN.out;omega),if_neg (by rw [HOK.out];simp),HX.out,if_pos HJ.out,HJ.out]
    exact ⟨rfl,F,HD.out.1.grown HGW.out,aP HGW.out⟩
   ·have q5:((j:Int)==0)=false:=by simp [hj0]
    have q6:=eq_false hj0
    have HJ:Hid (¬j=0):=hj0
    clear hj0
    go_wp2_with fail
    refine (rP F _ S (pl:Int) wr (HD.out.1.grown HGW.out) HD.out.2.2.2.1).mono ?_
    rintro e w9 ⟨rfl,hA⟩
    have HA:Hid (RAft wr F w9 (.pointer (some ⟨b,0,none⟩)) (S.drop (pl:Int))):=hA
    rw [show S.dropCode (pl:Int)=0 by unfold St.dropCode St.dropBad;rw [if_neg (by have:=gk fs n S.sure;rw [HX.out,HPB.out.2.2] at this;simp;omega)]]
    clear hA
    go_wp2_with fail
    go_ret2
    unfold ig cutS
    rw [if_neg (show ¬n<0 by have:=HN.out;omega),if_neg (by rw [HOK.out];simp),HX.out,if_neg HJ.out,HPB.out.2.2]
    exact ⟨rfl,HA.out.after (aP HGW.out)⟩
end Go.Proofs.YtadhfejefpildaaGreat
