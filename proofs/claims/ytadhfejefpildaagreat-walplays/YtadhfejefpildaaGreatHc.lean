import Derived.Test.YtadhfejefpildaaGreatHa
import Derived.Test.YtadhfejefpildaaGreatFa
import Derived.Test.YtadhfejefpildaaGreatGb
set_option maxHeartbeats 8000000
set_option maxRecDepth 100000
namespace Go.Proofs.YtadhfejefpildaaGreat
open Go.RowKit Disk Table
open Go.Proofs.YtadhfejefpildaaGreat.Calls
open Go.Proofs.YtadhfejefpildaaGreat.Command
open Go.Proofs.YtadhfejefpildaaGreat.Frame (Frs)
def jL (F:Nat->Prop)(v:Value)(S:St)(n:Int)(cs:List PCmd)(w:World)(x:Ending)(w':World):Prop:=x=.returned (.tuple #[.int .i64 (appS S n cs).1,.int .i64 (appS S n cs).2.1])/\RAft w F w' v (appS S n cs).2.2
theorem i_ {F:Nat->Prop}{v:Value}{S:St}{n:Int}{cs:List PCmd}{w w':World}{r:Int}(h:RK w F v S)(hr:refA n cs=r)(h0:r≠0)(hg:w.grownBy w' none):jL F v S n cs w (.returned (.tuple #[.int .i64 0,.int .i64 r])) w':=by
 unfold jL appS
 rw [if_neg (by rw [hr];exact h0),hr]
 exact ⟨rfl,F,h.grown hg,aP hg⟩
theorem lo (ao:Option Addr)(m cap:Nat)(n:Int)(w:World):Calls Tryz.prog 24 #[.pointer none,.int .i64 n,.slice ao m cap] w fun e w'=>e=.returned (.tuple #[.int .i64 0,.int .i64 1])/\w.grownBy w' none:=by
 go_enter Tryz.func24,Tryz.ntmps24
 go_wp2_with fail
 go_ret2
 exact ⟨rfl,aj _ _⟩
theorem qh (n:Int)(w:World):Calls Tryz.prog 26 #[.pointer none,.int .i64 n] w fun e w'=>e=.returned (.tuple #[.int .i64 0,.int .i64 1])/\w.grownBy w' none:=by
 go_enter Tryz.func26,Tryz.ntmps26
 go_wp2_with fail
 go_ret2
 exact ⟨rfl,aj _ _⟩
theorem sr (F:Nat->Prop)(v u:Value)(S:St)(n:Int)(cs:List PCmd)(w:World)(h:RK w F v S)(hm:S.steps<9223372036854775807)(hc:Cmds w u cs):Calls Tryz.prog 24 #[v,.int .i64 n,u] w (jL F v S n cs w):=by
 obtain ⟨ao,q,cap,rfl,hq,h1,h2,h3,HC⟩:=eS hc
 have HD:Hid (RK w F v S/\cs.length=q/\S.steps<9223372036854775807/\(∀c ∈ cs,InC c)/\S.Ok):=⟨h,hq,hm,oO hc,h.ok⟩
 obtain ⟨b,lv,v0,v1,rfl,hb⟩:=h
 clear hb hc hq hm
 go_enter Tryz.func24,Tryz.ntmps24
 by_cases n1:n<1
 ·have HR:Hid (refA n cs=2):=by unfold Hid;unfold refA;rw [if_pos (.inl n1)]
  have q1:=eq_true n1
  clear n1
  go_wp2_with fail
  go_ret2
  exact i_ HD.out.1 HR.out (by decide) (aj _ _)
 by_cases n2:4611686018427386880<n
 ·have HR:Hid (refA n cs=2):=by unfold Hid;unfold refA;rw [if_pos (.inr (.inl n2))]
  have q1:=eq_false n1
  have q2:=eq_true n2
  clear n1 n2
  go_wp2_with fail
  go_ret2
  exact i_ HD.out.1 HR.out (by decide) (aj _ _)
 have q1:=eq_false n1
 have q2:=eq_false n2
 have HNN:Hid (¬n<1/\¬4611686018427386880<n):=⟨n1,n2⟩
 clear n1 n2
 go_wp2_with fail
 go_loopw [8] (fun t wr=>∃k:Nat,t=.int .i64 (k:Int)/\k<=q/\Hid (w.grownBy wr none/\dg (cs.take k)=true)) (fun t _=>q-(intOf t).toNat)
 case atStart=>exact ⟨0,rfl,Nat.zero_le _,aj _ _,by simp [dg]⟩
 case round =>
  obtain ⟨k,rfl,hk,HG⟩:=hrel
  by_cases hlt:k<q
  ·have hkl:k<cs.length:=by rw [HD.out.2.1];exact hlt
   obtain ⟨cb,off,o1,o2,o3,rfl,hat,hops,hin⟩:=iZ HC.out k hkl
   obtain ⟨e0,e1,e2,e3,e4,e5⟩:=hat.grown HG.out.1
   have i0:(0:Int)<=(k:Int):=by omega
   have i1:(k:Int)<(q:Int):=by omega
   obtain ⟨c,hc⟩:∃c,cs[k]=c:=⟨_,rfl⟩
   have HO:Hid (Ops w (.slice o1 o2 o3) c.ops/\cs[k]=c):=⟨by rw [<-hc];exact hops,hc⟩
   rw [hc] at e0 e1 e2 e3 e4
   clear hat hops hin hc
   go_wp2_with fail
   refine (eC (.slice o1 o2 o3) c wr (HO.out.1.grown HG.out.1)).mono ?_
   rintro e w2 ⟨rfl,g2⟩
   have HG2:Hid (w.grownBy w2 none):=aa HG.out.1 g2
   clear g2 e0 e1 e2 e3 e4 e5
   cases hok:okC c
   ·have HR:Hid (refA n cs=2):=by
     have hno:dg cs=false:=by
      unfold dg
      rw [List.all_eq_false]
      exact ⟨cs[k],List.getElem_mem _,by rw [HO.out.2,hok];simp⟩
     unfold Hid refA
     rw [if_pos (.inr (.inr hno))]
    rw [show chkC c=2 by unfold chkC;rw [hok];rfl]
    clear hok
    go_wp2_with fail
    go_ret2
    exact i_ HD.out.1 HR.out (by decide) HG2.out
   ·have HR:Hid (dg (cs.take (k+1))=true):=by
     unfold Hid dg
     rw [List.take_succ_eq_append_getElem hkl,List.all_append]
     have:=HG.out.2
     unfold dg at this
     simp [this,HO.out.2,hok]
    rw [show chkC c=0 by unfold chkC;rw [hok];rfl]
    clear hok
    go_wp2_with fail
    go_roundw
    case rel=>exact ⟨k+1,by go_num,by omega,HG2.out,HR.out⟩
    case measure=>simp [intOf];omega
  ·have e:k=q:=by omega
   subst e
   have HA:Hid (dg cs=true):=by
    have:=HG.out.2
    rw [<-HD.out.2.1,List.take_length] at this
    exact this
   by_cases hl:1024<k
   ·have HR:Hid (refA n cs=3):=by unfold Hid;unfold refA;rw [if_neg (by rw [HA.out];have:=HNN.out;simp;omega),if_pos (by rw [HD.out.2.1];exact hl)]
    have q3:((1024:Int)<(k:Int))=True:=eq_true (by omega)
    have q4:(1024<k)=True:=eq_true hl
    clear hl
    go_wp2_with fail
    go_ret2
    exact i_ HD.out.1 HR.out (by decide) HG.out.1
   have HR:Hid (refA n cs=0/\1<=n/\n<=4611686018427386880/\cs.length<=1024/\∀c ∈ cs,okC c=true):=by
    have hr:refA n cs=0:=by unfold refA;rw [if_neg (by rw [HA.out];have:=HNN.out;simp;omega),if_neg (by rw [HD.out.2.1];exact hl)]
    exact ⟨hr,kW hr⟩
   have q3:((1024:Int)<(k:Int))=False:=eq_false (by omega)
   have q4:(1024<k)=False:=eq_false hl
   obtain ⟨rm,hrm⟩:∃x,S.cap-S.log.length=x:=⟨_,rfl⟩
   have HM:Hid (S.cap-S.log.length=rm/\rm<=1048576):=⟨hrm,by have:=HD.out.2.2.2.2.cap2;omega⟩
   have HGW:Hid (w.grownBy wr none):=HG.out.1
   clear hl HG hrm HA
   obtain ⟨wo,hwo⟩:∃x,x=wr:=⟨_,rfl⟩
   subst hwo
   go_wp2_with fail
   go_loopw [9,10] (fun bv t wr=>∃(j:Nat) (b1:Option Addr) (b2 b3:Nat),bv=.slice b1 b2 b3/\t=.int .i64 (j:Int)/\Hid (w.grownBy wr none/\Disk.Own wr wo.heap.size (.slice b1 b2 b3) (aY n (cs.take j))/\FitI rm n cs j/\(aY n (cs.take j)).length=b2/\wo.heap.size<=wr.heap.size)) (fun _ t _=>k-(intOf t).toNat)
   case atStart=>exact ⟨0,none,0,0,rfl,rfl,HGW.out,Disk.Own.nil _ _,FitI.zero _ _ _,by simp [aY,seqE,Frame.flat],Nat.le_refl _⟩
   case round =>
    obtain ⟨j,b1,b2,b3,rfl,rfl,HI⟩:=hrel
    have hb2:=HI.out.2.2.2.1
    by_cases hlt:j<k
    ·have hkl:j<cs.length:=by rw [HD.out.2.1];exact hlt
     obtain ⟨cb,off,o1,o2,o3,rfl,hat,hops,hin⟩:=iZ HC.out j hkl
     obtain ⟨e0,e1,e2,e3,e4,e5⟩:=hat.grown HI.out.1
     have i0:(0:Int)<=(j:Int):=by omega
     have i1:(j:Int)<(k:Int):=by omega
     obtain ⟨c,hc⟩:∃c,cs[j]=c:=⟨_,rfl⟩
     have HO:Hid (Ops w (.slice o1 o2 o3) c.ops/\InC c/\cs[j]=c/\okC c=true):=⟨by rw [<-hc];exact hops,by rw [<-hc];exact hin,hc,by rw [<-hc];exact HR.out.2.2.2.2 _ (List.getElem_mem _)⟩
     rw [hc] at e0 e1 e2 e3 e4
     have hwn:IntKind.i64.wrap (n+(j:Int))=n+(j:Int):=by
      have:=HR.out
      unfold IntKind.wrap
      simp [IntKind.bits,IntKind.signed]
      omega
     clear hat hops hin hc
     go_wp2_with fail
     have hokE:okE (n+(j:Int),c)=true:=bZ.2 ⟨by have:=HR.out;simp;omega,by have:=HR.out;simp;omega,HO.out.2.2.2⟩
     refine (rec9 o1 o2 o3 (n+(j:Int)) c wr (HO.out.1.grown HI.out.1) HO.out.2.1 hokE).mono ?_
     rintro e w4 ⟨ru,rfl,oru,g4⟩
     obtain ⟨ra,rc,er⟩:=oru.seg.shape
     obtain ⟨rl,hrl⟩:∃x,(Frame.frm 1 (bt (n+(j:Int),c))).length=x:=⟨_,rfl⟩
     rw [hrl] at er
     subst er
     have H4':Hid (w.grownBy w4 none/\Disk.Own w4 wo.heap.size (.slice b1 b2 b3) (aY n (cs.take j))/\Seg w4 (.slice ra rl rc) (Frame.frm 1 (bt (n+(j:Int),c)))/\(Frame.frm 1 (bt (n+(j:Int),c))).length=rl/\rl<=6000/\wo.heap.size<=w4.heap.size):=by
      refine ⟨aa HI.out.1 g4,HI.out.2.1.grown g4,oru.seg,hrl,?_,?_⟩
      ·have:=eP hokE HO.out.2.1
       rw [<-hrl,Frame.dN]
       omega
      ·have:=g4.size
       have:=HI.out.2.2.2.2
       omega
     have hbr:b2<=rm:=by rw [<-hb2];exact HI.out.2.2.1.room
     have hr6:rl<=6000:=H4'.out.2.2.2.2.1
     clear g4 oru hrl hokE e0 e1 e2 e3 e4 e5 hwn
     obtain ⟨x,hx⟩:∃x,b2+rl=x:=⟨_,rfl⟩
     have s1:(b2:Int)+(rl:Int)=(x:Int):=by omega
     have s2:IntKind.i64.wrap (x:Int)=(x:Int):=jC (by omega) (by have:=HM.out;omega)
     go_wp2_with fail
     refine (vX F _ S w4 (HD.out.1.grown H4'.out.1)).mono ?_
     rintro e w5 ⟨rfl,g5,hz⟩
     clear hz
     rw [HM.out.1]
     have H4:Hid (w.grownBy w5 none/\Disk.Own w5 wo.heap.size (.slice b1 b2 b3) (aY n (cs.take j))/\Seg w5 (.slice ra rl rc) (Frame.frm 1 (bt (n+(j:Int),c)))/\(Frame.frm 1 (bt (n+(j:Int),c))).length=rl/\rl<=6000/\wo.heap.size<=w5.heap.size):=⟨aa H4'.out.1 g5,H4'.out.2.1.grown g5,H4'.out.2.2.1.grown g5,H4'.out.2.2.2.1,H4'.out.2.2.2.2.1,Nat.le_trans H4'.out.2.2.2.2.2 g5.size⟩
     clear g5 H4'
     by_cases hf:rm<x
     ·have q7:((rm:Int)<(x:Int))=True:=eq_true (by omega)
      have q8:(rm<x)=True:=eq_true hf
      have HX:Hid (fitN rm n cs=j):=HI.out.2.2.1.stop hkl (by rw [HO.out.2.2.1,H4.out.2.2.2.1,HI.out.2.2.2.1];omega)
      by_cases hj0:j=0
      ·have q5:((j:Int)==0)=true:=by simp [hj0]
       have q6:=eq_true hj0
       have HJ:Hid (j=0):=hj0
       clear hj0
       go_wp2_with fail
       go_ret2
       unfold jL appS
       rw [if_pos HR.out.1,HM.out.1,HX.out,if_pos HJ.out,HJ.out]
       exact ⟨rfl,F,HD.out.1.grown H4.out.1,aP H4.out.1⟩
      ·have q5:((j:Int)==0)=false:=by simp [hj0]
       have q6:=eq_false hj0
       have HJ:Hid (¬j=0):=hj0
       clear hj0
       go_wp2_with fail
       refine (rO F _ (.slice b1 b2 b3) S (aY n (cs.take j)) w5 (HD.out.1.grown H4.out.1) HD.out.2.2.1 H4.out.2.1.seg (fun _ y hy hF=>by have h9:=(H4.out.2.1.lt y hy).1;have:=HD.out.1.lt y hF;have:=HGW.out.size;omega)).mono ?_
       rintro e w9 ⟨rfl,hA⟩
       have HA:Hid (RAft w5 F w9 (.pointer (some ⟨b,0,none⟩)) (S.write (aY n (cs.take j)))):=hA
       rw [show S.writeCode (aY n (cs.take j))=0 by unfold St.writeCode St.full;rw [if_neg (by have:=HI.out.2.2.1.room;have:=HM.out.1;simp;omega)]]
       clear hA
       go_wp2_with fail
       go_ret2
       unfold jL appS
       rw [if_pos HR.out.1,HM.out.1,HX.out,if_neg HJ.out]
       exact ⟨rfl,HA.out.after (aP H4.out.1)⟩
     ·have q7:((rm:Int)<(x:Int))=False:=eq_false (by omega)
      have q8:(rm<x)=False:=eq_false hf
      have HFK:Hid (FitI rm n cs (j+1)):=HI.out.2.2.1.step hkl (by rw [HO.out.2.2.1,H4.out.2.2.2.1,HI.out.2.2.2.1];omega)
      have HLL:Hid (aY n (cs.take (j+1))=aY n (cs.take j) ++ Frame.frm 1 (bt (n+(j:Int),c))):=by unfold Hid;rw [g_ n cs j hkl,HO.out.2.2.1]
      clear hf hbr hx hb2
      go_wp2_with (at_builtin;refine bH w5 rfl _ _ rfl wo.heap.size (.slice b1 b2 b3) (aY n (cs.take j)) (.slice ra rl rc) (Frame.frm 1 (bt (n+(j:Int),c))) rfl rfl H4.out.2.1 H4.out.2.2.1 (by have:=HI.out.2.2.1.room;have:=HM.out;have:=H4.out;omega) H4.out.2.2.2.2.2 ?_)
      intro v' w6 o6 g6 h6
      have o6':Disk.Own w6 wo.heap.size v' (aY n (cs.take (j+1))):=by rw [HLL.out];exact o6
      clear o6
      obtain ⟨d1,d3,ed⟩:=o6'.seg.shape
      obtain ⟨d2,hd2⟩:∃x,(aY n (cs.take (j+1))).length=x:=⟨_,rfl⟩
      rw [hd2] at ed
      subst ed
      have H5:Hid (w.grownBy w6 none/\Disk.Own w6 wo.heap.size (.slice d1 d2 d3) (aY n (cs.take (j+1)))/\(aY n (cs.take (j+1))).length=d2/\wo.heap.size<=w6.heap.size):=⟨ah H4.out.1 g6 (fun y hy=>by have:=(H4.out.2.1.lt y hy).1;have:=HGW.out.size;omega),o6',hd2,Nat.le_trans H4.out.2.2.2.2.2 g6.size⟩
      clear o6' g6 h6 hd2
      go_wp2_with fail
      go_roundw
      case rel=>exact ⟨j+1,d1,d2,d3,rfl,by go_num,H5.out.1,H5.out.2.1,HFK.out,H5.out.2.2.1,H5.out.2.2.2⟩
      case measure=>simp [intOf];omega
    ·have q7:((j:Int)<(k:Int))=False:=eq_false (by omega)
     clear hb2
     have HX:Hid (fitN rm n cs=j):=by
      have h:=HI.out.2.2.1
      have e:j=k:=by have:=HI.out.2.2.1.le;have:=HD.out.2.1;omega
      rw [e,<-HD.out.2.1] at h
      rw [e,<-HD.out.2.1]
      exact h.end
     by_cases hj0:j=0
     ·have q5:((j:Int)==0)=true:=by simp [hj0]
      have q6:=eq_true hj0
      have HJ:Hid (j=0):=hj0
      clear hj0
      go_wp2_with fail
      go_ret2
      unfold jL appS
      rw [if_pos HR.out.1,HM.out.1,HX.out,if_pos HJ.out,HJ.out]
      exact ⟨rfl,F,HD.out.1.grown HI.out.1,aP HI.out.1⟩
     ·have q5:((j:Int)==0)=false:=by simp [hj0]
      have q6:=eq_false hj0
      have HJ:Hid (¬j=0):=hj0
      clear hj0
      go_wp2_with fail
      refine (rO F _ (.slice b1 b2 b3) S (aY n (cs.take j)) wr (HD.out.1.grown HI.out.1) HD.out.2.2.1 HI.out.2.1.seg (fun _ y hy hF=>by have h9:=(HI.out.2.1.lt y hy).1;have:=HD.out.1.lt y hF;have:=HGW.out.size;omega)).mono ?_
      rintro e w9 ⟨rfl,hA⟩
      have HA:Hid (RAft wr F w9 (.pointer (some ⟨b,0,none⟩)) (S.write (aY n (cs.take j)))):=hA
      rw [show S.writeCode (aY n (cs.take j))=0 by unfold St.writeCode St.full;rw [if_neg (by have:=HI.out.2.2.1.room;have:=HM.out.1;simp;omega)]]
      clear hA
      go_wp2_with fail
      go_ret2
      unfold jL appS
      rw [if_pos HR.out.1,HM.out.1,HX.out,if_neg HJ.out]
      exact ⟨rfl,HA.out.after (aP HI.out.1)⟩
end Go.Proofs.YtadhfejefpildaaGreat
