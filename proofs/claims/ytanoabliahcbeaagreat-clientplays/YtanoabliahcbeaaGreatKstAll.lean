import Derived.Test.YtanoabliahcbeaaGreatKpqAll
set_option maxHeartbeats 4000000
set_option maxRecDepth 100000
namespace Go.Proofs.YtanoabliahcbeaaGreat.Wn
open Go.RowKit Disk Table
open _root_.Go.Proofs.YtanoabliahcbeaaGreat.Calls _root_.Go.Proofs.YtanoabliahcbeaaGreat.Command
variable {Q F:Nat->Prop} {w w':World} {b:Nat} {oa wo:Option Addr} {wc:Nat} {s:CS}
theorem msgsOwn_mono {w:World}{B B':Nat}{v:Value}{l:List PMsg}(h:MsgsOwn w B v l)(hB:B'<=B):MsgsOwn w B' v l:=by
 obtain ⟨vs,h1,h2,h3,h4⟩:=LRow.mono h.1 hB
 refine ⟨⟨vs,h1,h2,h3,fun j a b=>?_⟩,h.2⟩
 obtain ⟨ov,av,e,ho,ha⟩:=h4 j a b
 exact ⟨ov,av,e,ho.mono hB,ha.mono hB⟩
def leaveM (s:CS):List PMsg:=if 0<s.ses then [msgClose s] else []
def leaveL (s:CS):List PRet:=if 0<s.ses then s.rets (fun _=>true) 2 [] else []
def leaveS (s:CS):CS:=if 0<s.ses\/s.asked=true then s.lost else s
def LeaveP (Q F:Nat->Prop)(b:Nat)(s:CS)(w:World)(e:Ending)(w':World):Prop:=∃v u,e=.returned (.tuple #[v,u])/\MsgsOwn w' w.heap.size v (leaveM s)/\Rets w' w.heap.size u (leaveL s)/\Stp Q F w b (leaveS s) w'
theorem leave_nocl (x:Value)(w:World)(h:NoCl w x):Calls Tryz.prog 17 #[x] w fun e w'=>e=.returned (.tuple #[.slice none 0 0,.slice none 0 0])/\w'=w:=by
 have HN:Hid (NoCl w x):=h
 clear h
 go_enter Tryz.func17,Tryz.ntmps17
 go_wp2_with fail
 refine (there_nocl x w HN.out).mono ?_
 rintro e w1 ⟨rfl,rfl⟩
 go_wp2_with fail
 go_ret2
 exact ⟨rfl,rfl⟩
theorem leave17 (w:World)(h:Cm Q F w b oa wo wc s)(ht:s.tok<=3999999999999992):Calls Tryz.prog 17 #[.pointer (some ⟨b,0,none⟩)] w (LeaveP Q F b s w):=by
 have HC:Hid (Cm Q F w b oa wo wc s/\s.tok<=3999999999999992):=⟨h,ht⟩
 obtain ⟨x,hx⟩:∃x,s.ses=x:=⟨_,rfl⟩
 have HX:Hid (s.ses=x/\0<=x):=⟨hx,by have:=h.ok.ses;omega⟩
 have c7:=h.blk.cell 7
 have c5:w.cell? ⟨b,5,none⟩=some (.bool s.asked):=h.blk.cell 5
 have c0:w.cell? ⟨b,0,none⟩=some (.int .i64 s.num):=h.blk.cell 0
 rw [hx] at c7
 simp at c7
 clear h ht hx
 by_cases h0:x=0
 ·subst h0
  have HL:Hid (leaveM s=[]/\leaveL s=[]/\s.L=[]):=by
   refine ⟨?_,?_,(HC.out.1.nowin HX.out.1).2⟩
   ·unfold leaveM;rw [HX.out.1];rfl
   ·unfold leaveL;rw [HX.out.1];rfl
  obtain ⟨f,hf⟩:∃f,s.asked=f:=⟨_,rfl⟩
  have HF:Hid (s.asked=f):=hf
  rw [hf] at c5
  clear hf
  cases f with
  | false =>
   have HS:Hid (leaveS s=s):=by unfold Hid leaveS;rw [HX.out.1,HF.out];simp
   go_enter Tryz.func17,Tryz.ntmps17
   go_wp2_with fail
   refine (there_cl w HC.out.1).mono ?_
   rintro e w1 ⟨rfl,rfl⟩
   go_wp2_with fail
   go_ret2
   unfold LeaveP
   rw [HL.out.1,HL.out.2.1,HS.out]
   exact ⟨_,_,rfl,msgsOwn_nil _ _,rets_nil _ _,Stp.same ⟨_,_,_,HC.out.1⟩ (grown_refl _ _)⟩
  | true =>
   have HS:Hid (leaveS s=s.lost):=by unfold Hid leaveS;rw [HF.out];simp
   go_enter Tryz.func17,Tryz.ntmps17
   go_wp2_with fail
   refine (there_cl w HC.out.1).mono ?_
   rintro e w1 ⟨rfl,rfl⟩
   go_wp2_with fail
   refine (renew45 b _ _ _ _ _ _ _ _ _ _ _ s.tok w1 HC.out.1.blk (by have:=HC.out.1.ok.tok;omega)).mono ?_
   rintro e w3 ⟨⟨y,rfl⟩,hb3,hg3⟩
   obtain ⟨hoa,_⟩:=HC.out.1.nowin HX.out.1
   rw [HX.out.1,hoa] at hb3
   have H3:Hid (Cm Q F w3 b none wo wc s.lost/\w1.grownBy w3 (some b)):=⟨HC.out.1.lost HC.out.2 hg3 hb3,hg3⟩
   clear hb3 hg3 hoa c5 c7 c0
   go_wp2_with fail
   go_ret2
   unfold LeaveP
   rw [HL.out.1,HL.out.2.1,HS.out]
   refine ⟨_,_,rfl,msgsOwn_nil _ _,rets_nil _ _,Stp.mk1 H3.out.1 (Fr.of H3.out.2 fun k hk=>?_) fun i hi=>.inl hi⟩
   simp at hk
   exact hk ▸ HC.out.1.fb
 ·have i1:(0:Int)<x:=by have:=HX.out;omega
  have HL:Hid (leaveM s=[msgClose s]/\leaveL s=s.rets (fun _=>true) 2 []/\leaveS s=s.lost):=by
   refine ⟨?_,?_,?_⟩
   ·unfold leaveM;rw [HX.out.1,if_pos i1]
   ·unfold leaveL;rw [HX.out.1,if_pos i1]
   ·unfold leaveS;rw [if_pos (.inl (by rw [HX.out.1];exact i1))]
  have HO:Hid (okM ⟨1,s.num,⟨3,0,x,0,0,[]⟩,zeroR⟩=true/\InC ⟨3,0,x,0,0,[]⟩):=by
   have:=ok_close HC.out.1.ok (by rw [HX.out.1];omega)
   unfold msgClose at this
   rw [HX.out.1] at this
   exact this
  have HN:Hid (s.ses≠0):=by rw [Hid,HX.out.1];exact h0
  clear h0
  go_enter Tryz.func17,Tryz.ntmps17
  go_wp2_with fail
  refine (there_cl w HC.out.1).mono ?_
  rintro e w1 ⟨rfl,rfl⟩
  go_wp2_with fail
  refine (ask43 b s.num (.slice none 0 0) ⟨3,0,x,0,0,[]⟩ w1 c0 (ops_none w1) HO.out.2 HC.out.1.ok.num HO.out.1).mono ?_
  rintro e w7 ⟨ov,av,rfl,ho,ha,hg⟩
  obtain ⟨uo,un,uc,rfl⟩:=isSl_ow ho
  obtain ⟨vo,vn,vc,rfl⟩:=isSl_on ha
  have H7:Hid (OpsOwn w7 w1.heap.size (.slice uo un uc) []/\Disk.Own w7 w1.heap.size (.slice vo vn vc) []/\w1.grownBy w7 none):=⟨ho,ha,hg⟩
  clear ho ha hg c0 c5 c7 i1
  unfold msgV zeroR
  dsimp only
  obtain ⟨w8,hw8,H8⟩:=al1 w7 #[.int .i64 1,.int .i64 s.num,.int .i64 3,.int .i64 0,.int .i64 x,.int .i64 0,.int .i64 0,.slice uo un uc,.int .i64 0,.int .i64 0,.int .i64 0,.int .i64 0,.slice vo vn vc] 45
  have HW8:Hid (w7.alloc (.cells #[.int .i64 1,.int .i64 s.num,.int .i64 3,.int .i64 0,.int .i64 x,.int .i64 0,.int .i64 0,.slice uo un uc,.int .i64 0,.int .i64 0,.int .i64 0,.int .i64 0,.slice vo vn vc] 45)=w8):=hw8
  clear hw8
  go_upto_region 5 with fail
  rw [HW8.out]
  obtain ⟨p8,hp8⟩:∃p,w7.heap.size=p:=⟨_,rfl⟩
  rw [hp8] at H8 ⊢
  have H9:Hid (w1.grownBy w8 none/\MsgsOwn w8 w1.heap.size (.slice (some ⟨p8,0,none⟩) 1 1) [msgClose s]/\w1.heap.size<=p8):=by
   have hs:=H7.out.2.2.size
   refine ⟨grown_trans H7.out.2.2 H8.out.2.1,?_,by omega⟩
   refine msgs_one (m:=msgClose s) (ov:=.slice uo un uc) (av:=.slice vo vn vc) ?_ (by omega) (H7.out.1.grown H8.out.2.1) (H7.out.2.1.grown H8.out.2.1)
   unfold MB msgA msgClose
   rw [HX.out.1]
   exact H8.out.1
  clear HW8 H8 hp8
  go_wp2_with fail
  refine (lose44 w8 (HC.out.1.grown H9.out.1) HN.out HC.out.2).mono ?_
  rintro e w10 ⟨v,rfl,hr,hs⟩
  obtain ⟨ro,rn,rc,rfl⟩:=hr.slice
  have H10:Hid (Rets w10 w1.heap.size (.slice ro rn rc) (s.rets (fun _=>true) 2 [])/\Stp Q F w1 b s.lost w10/\MsgsOwn w10 w1.heap.size (.slice (some ⟨p8,0,none⟩) 1 1) [msgClose s]):=by
   have C8:=HC.out.1.grown H9.out.1
   refine ⟨hr.mono H9.out.1.size,hs.from H9.out.1,?_⟩
   obtain ⟨_,_,_,hf,_⟩:=hs
   refine msgsOwn_fr H9.out.2.1 hf C8.gt fun k hk=>?_
   simp [Value.ownBlock] at hk
   exact HC.out.1.new (by rw [<-hk];exact H9.out.2.2)
  clear hr hs
  go_wp2_with fail
  go_ret2
  unfold LeaveP
  rw [HL.out.1,HL.out.2.1,HL.out.2.2]
  exact ⟨_,_,rfl,H10.out.2.2,H10.out.1,H10.out.2.1⟩
theorem Okc.at {now:Int}(h:Okc s)(h1:s.now<=now/\now<=1099511627776):Okc (s.at now):=by
 have hn:=h.now
 refine ⟨h.num,h.size,h.most,h.tmo,h.tok,⟨h.askAt.1,?_⟩,h.ses,h.none,h.last,⟨?_,h1.2⟩,h.few,fun c hc=>?_,h.wait⟩
 ·have:=h.askAt.2
  simp only [CS.at]
  omega
 ·simp only [CS.at]
  omega
 ·have:=h.call c hc
  simp only [CS.at]
  exact ⟨this.1,this.2.1,this.2.2.1,by omega,this.2.2.2.2⟩
def stepE (s:CS)(now:Int):Int:=if now<s.now\/1099511627776<now then 2 else 0
def stepM (s:CS)(now:Int):List PMsg:=if now<s.now\/1099511627776<now then [] else if s.ses=0 then enterMsgs (s.at now) else (s.at now).given.msgs
def stepS (s:CS)(now:Int):CS:=if now<s.now\/1099511627776<now then s else if s.ses=0 then enterS (s.at now) else (s.at now).given.sent
def StepP (Q F:Nat->Prop)(b:Nat)(s:CS)(now:Int)(w:World)(e:Ending)(w':World):Prop:=∃v,e=.returned (.tuple #[v,.int .i64 (stepE s now)])/\MsgsOwn w' w.heap.size v (stepM s now)/\Stp Q F w b (stepS s now) w'
theorem step_nocl (x:Value)(now:Int)(w:World)(h:NoCl w x):Calls Tryz.prog 11 #[x,.int .i64 now] w fun e w'=>e=.returned (.tuple #[.slice none 0 0,.int .i64 1])/\w'=w:=by
 have HN:Hid (NoCl w x):=h
 clear h
 go_enter Tryz.func11,Tryz.ntmps11
 go_wp2_with fail
 refine (there_nocl x w HN.out).mono ?_
 rintro e w1 ⟨rfl,rfl⟩
 go_wp2_with fail
 go_ret2
 exact ⟨rfl,rfl⟩
theorem step11 (w:World)(now:Int)(h:Cm Q F w b oa wo wc s):Calls Tryz.prog 11 #[.pointer (some ⟨b,0,none⟩),.int .i64 now] w (StepP Q F b s now w):=by
 have HC:Hid (Cm Q F w b oa wo wc s):=h
 have c11:=h.blk.cell 11
 obtain ⟨nn,hnn⟩:∃x,s.now=x:=⟨_,rfl⟩
 have HN:Hid (s.now=nn):=hnn
 rw [hnn] at c11
 simp at c11
 clear h hnn
 by_cases h1:now<nn
 ·have HP:Hid (stepE s now=2/\stepM s now=[]/\stepS s now=s):=by
   have e:now<s.now\/1099511627776<now:=.inl (by rw [HN.out];exact h1)
   exact ⟨by unfold stepE;rw [if_pos e],by unfold stepM;rw [if_pos e],by unfold stepS;rw [if_pos e]⟩
  go_enter Tryz.func11,Tryz.ntmps11
  go_wp2_with fail
  refine (there_cl w HC.out).mono ?_
  rintro e w1 ⟨rfl,rfl⟩
  go_wp2_with fail
  go_ret2
  unfold StepP
  rw [HP.out.1,HP.out.2.1,HP.out.2.2]
  exact ⟨_,rfl,msgsOwn_nil _ _,Stp.same ⟨_,_,_,HC.out⟩ (grown_refl _ _)⟩
 ·by_cases h2:1099511627776<now
  ·have HP:Hid (stepE s now=2/\stepM s now=[]/\stepS s now=s):=by
    have e:now<s.now\/1099511627776<now:=.inr h2
    exact ⟨by unfold stepE;rw [if_pos e],by unfold stepM;rw [if_pos e],by unfold stepS;rw [if_pos e]⟩
   go_enter Tryz.func11,Tryz.ntmps11
   go_wp2_with fail
   refine (there_cl w HC.out).mono ?_
   rintro e w1 ⟨rfl,rfl⟩
   go_wp2_with fail
   go_ret2
   unfold StepP
   rw [HP.out.1,HP.out.2.1,HP.out.2.2]
   exact ⟨_,rfl,msgsOwn_nil _ _,Stp.same ⟨_,_,_,HC.out⟩ (grown_refl _ _)⟩
  ·have HE:Hid (¬(now<s.now\/1099511627776<now)):=by rw [Hid,HN.out];omega
   have HB:Hid (Cm Q F (w.setCell ⟨b,11,none⟩ (.int .i64 now)) b oa wo wc (s.at now)/\Fr w (w.setCell ⟨b,11,none⟩ (.int .i64 now)) F):=by
    have gs:=grown_setCell w b 11 (.int .i64 now)
    refine ⟨HC.out.put gs (HC.out.blk.store 11 _) rfl rfl rfl rfl (HC.out.ok.at (by have:=HE.out;omega)),Fr.of gs fun k hk=>?_⟩
    simp at hk
    exact hk ▸ HC.out.fb
   have f11:=HC.out.blk.free 11
   go_enter Tryz.func11,Tryz.ntmps11
   go_wp2_with fail
   refine (there_cl w HC.out).mono ?_
   rintro e w1 ⟨rfl,rfl⟩
   go_upto_region 7 with fail
   generalize w1.setCell ⟨b,11,none⟩ (.int .i64 now)=w2 at HB ⊢
   clear c11 f11 h1 h2
   have c7:w2.cell? ⟨b,7,none⟩=some (.int .i64 s.ses):=HB.out.1.blk.cell 7
   obtain ⟨x,hx⟩:∃x,s.ses=x:=⟨_,rfl⟩
   have HX:Hid (s.ses=x):=hx
   rw [hx] at c7
   clear hx
   by_cases h0:x=0
   ·subst h0
    have HP:Hid (stepE s now=0/\stepM s now=enterMsgs (s.at now)/\stepS s now=enterS (s.at now)):=⟨by unfold stepE;rw [if_neg HE.out],by unfold stepM;rw [if_neg HE.out,if_pos HX.out],by unfold stepS;rw [if_neg HE.out,if_pos HX.out]⟩
    go_wp2_with fail
    refine (enter34 w2 HB.out.1).mono ?_
    rintro e w3 ⟨v,rfl,hm,hc,hg⟩
    obtain ⟨vo,vn,vc,rfl,hvn⟩:=hm.slice;clear hvn
    have H3:Hid (MsgsOwn w3 w1.heap.size (.slice vo vn vc) (enterMsgs (s.at now))/\Stp Q F w1 b (enterS (s.at now)) w3):=by
     refine ⟨msgsOwn_mono hm HB.out.2.size,Stp.mk1 hc (HB.out.2.trans (Fr.of (F:=F) hg fun k hk=>?_) fun i hi=>.inl hi) fun i hi=>.inl hi⟩
     simp at hk
     exact hk ▸ HC.out.fb
    clear hm hc hg c7
    go_wp2_with fail
    go_ret2
    unfold StepP
    rw [HP.out.1,HP.out.2.1,HP.out.2.2]
    exact ⟨_,rfl,H3.out⟩
   ·have HP:Hid (stepE s now=0/\stepM s now=(s.at now).given.msgs/\stepS s now=(s.at now).given.sent):=⟨by unfold stepE;rw [if_neg HE.out],by unfold stepM;rw [if_neg HE.out,if_neg (by rw [HX.out];exact h0)],by unfold stepS;rw [if_neg HE.out,if_neg (by rw [HX.out];exact h0)]⟩
    have HX0:Hid (s.ses≠0):=by rw [Hid,HX.out];exact h0
    have i1:(x==0)=false:=by simp [h0]
    clear h0
    go_wp2_with fail
    refine (give35 w2 HB.out.1 HX0.out).mono ?_
    rintro e w3 ⟨⟨y,rfl⟩,Q1,F1,⟨oa1,wo1,wc1,hc⟩,hf,hF,hQ⟩
    have H3:Hid (Cm Q1 F1 w3 b oa1 wo1 wc1 (s.at now).given/\Fr w2 w3 F/\(∀i,F1 i->F i\/w2.heap.size<=i)/\∀i,Q1 i->Q i\/w2.heap.size<=i):=⟨hc,hf,hF,hQ⟩
    clear hc hf hF hQ c7 i1
    go_wp2_with fail
    refine (send36 w3 H3.out.1 HX0.out).mono ?_
    rintro e w4 ⟨v,rfl,hm,hs⟩
    obtain ⟨vo,vn,vc,rfl,hvn⟩:=hm.slice;clear hvn
    have H4:Hid (MsgsOwn w4 w1.heap.size (.slice vo vn vc) (s.at now).given.msgs/\Stp Q F w1 b (s.at now).given.sent w4):=by
     have z1:=HB.out.2.size
     refine ⟨msgsOwn_mono hm (Nat.le_trans z1 H3.out.2.1.size),Stp.to (Q':=Q1) (F':=F1) (HB.out.2.trans H3.out.2.1 fun i hi=>.inl hi) (fun i hi=>?_) (fun i hi=>?_) hs⟩
     ·rcases H3.out.2.2.1 i hi with e | e
      ·exact .inl e
      ·exact .inr (Nat.le_trans z1 e)
     ·rcases H3.out.2.2.2 i hi with e | e
      ·exact .inl e
      ·exact .inr (Nat.le_trans z1 e)
    clear hm hs
    go_wp2_with fail
    go_ret2
    unfold StepP
    rw [HP.out.1,HP.out.2.1,HP.out.2.2]
    exact ⟨_,rfl,H4.out⟩
variable {Q F:Nat->Prop} {w w':World} {b:Nat} {oa wo:Option Addr} {wc:Nat} {s:CS}
theorem Cm.more {w1 w2:World}{g cap:Nat}{c:Cr}(h:Cm Q F w b oa wo wc s)(hg1:w.grownBy w1 none)(hr:CRow w2 0 (.slice (some ⟨g,0,none⟩) (s.wt.length+1) cap) (s.wt ++ [c]))(hg:w1.grownBy w2 (Value.slice wo s.wt.length wc).ownBlock)
  (hgg:(Value.slice wo s.wt.length wc).ownBlock=some g\/w.heap.size<=g) (ho:OpsOwn w2 0 (.slice c.o c.n c.c) c.ops) (ok:Okc (s.put c)) :
  Cm Q (fun i=>(F i/\(Value.slice wo s.wt.length wc).ownBlock≠some i)\/i=g) (w2.setCell ⟨b,9,none⟩ (.slice (some ⟨g,0,none⟩) (s.wt.length+1) cap)) b oa (some ⟨g,0,none⟩) cap (s.put c)/\Fr w (w2.setCell ⟨b,9,none⟩ (.slice (some ⟨g,0,none⟩) (s.wt.length+1) cap)) F:=by
 have gs:=grown_setCell w2 b 9 (.slice (some ⟨g,0,none⟩) (s.wt.length+1) cap)
 generalize hw3:w2.setCell ⟨b,9,none⟩ (.slice (some ⟨g,0,none⟩) (s.wt.length+1) cap)=w3 at gs
 have el:(s.put c).wt.length=s.wt.length+1:=by simp [CS.put]
 have hrow:∀k,(Value.slice wo s.wt.length wc).ownBlock=some k->∃C,Blk w k 105 C:=fun k hk=>h.wt_blk hk
 have hbr:(Value.slice wo s.wt.length wc).ownBlock≠some b:=fun e=>by
  obtain ⟨C,hC⟩:=hrow b e
  exact absurd (blk_type hC h.blk) (by decide)
 have f12:Fr w w2 (fun i=>(Value.slice wo s.wt.length wc).ownBlock=some i):=(Fr.of (F:=fun i=>(Value.slice wo s.wt.length wc).ownBlock=some i) hg1 (by simp)).trans (Fr.of hg fun k hk=>hk) fun i hi=>.inl hi
 have f23:Fr w2 w3 (fun i=>i=b):=Fr.of gs fun k hk=>by simp at hk;exact hk.symm
 have fr:Fr w w3 F:=(f12.mono fun i hi=>h.wf i hi).trans (f23.mono fun i hi=>(show i=b from hi) ▸ h.fb) fun i hi=>.inl hi
 have b2:Blk w2 b 85 _:=h.blk.same (f12.block b h.blk.lt hbr)
 have b3:Blk w3 b 85 #[.int .i64 s.num,.int .i64 s.size,.int .i64 s.most,.int .i64 s.tmo,.int .i64 s.tok,.bool s.asked,.int .i64 s.askAt,.int .i64 s.ses,.pointer oa,.slice (some ⟨g,0,none⟩) (s.wt.length+1) cap,.int .i64 s.last,.int .i64 s.now]:=by rw [<-hw3];exact b2.store 9 _
 have keep:∀i,i<w.heap.size->i≠b->(Value.slice wo s.wt.length wc).ownBlock≠some i->w3.heap[i]? = w.heap[i]?:=fun i hi h1 h2=>(f23.block i (Nat.lt_of_lt_of_le hi f12.size) h1).trans (f12.block i hi h2)
 have hgb:g≠b:=fun e=>by
  rcases hgg with e2 | e2
  ·exact hbr (e ▸ e2)
  ·have:=h.blk.lt
   omega
 have hr3:CRow w3 0 (.slice (some ⟨g,0,none⟩) (s.wt.length+1) cap) (s.wt ++ [c]):=owns_fr hr f23 fun k hk e=>by
  simp [Value.ownBlock] at hk
  exact hgb (hk.trans e)
 have hG2:Gt w2 (fun i=>i=b):=fun i hi=>⟨85,_,(show i=b from hi) ▸ b2,by decide,by decide⟩
 refine ⟨⟨by rw [el];exact b3,?_,?_,fun k hk=>?_,fun c' hc'=>?_,.inl ⟨h.fb,hbr⟩,fun i hi=>?_,fun i hi hq=>?_,fun i hi=>Nat.lt_of_lt_of_le (h.qlt i hi) fr.size,ok⟩,fr⟩
 ·rcases h.out with h1 | ⟨h1,ob,v,h2,hw,h4⟩
  ·exact .inl h1
  ·refine .inr ⟨h1,ob,v,h2,hw.kept fun i hi hl=>keep i hl ?_ ?_,fun i hi=>.inl ⟨h4 i hi,fun e=>by
    obtain ⟨C,hC⟩:=hrow i e
    exact h.fn_ne hw hC (by decide) (by decide) hi⟩⟩
   ·intro e
    subst e
    rcases hi with hi | hi
    ·exact h.fn_ne hw h.blk (by decide) (by decide) hi
    ·exact h.apart _ h.fb hi
   ·intro e
    obtain ⟨C,hC⟩:=hrow i e
    rcases hi with hi | hi
    ·exact h.fn_ne hw hC (by decide) (by decide) hi
    ·exact h.apart i (h.wf i e) hi
 ·rw [el]
  exact lrow_c.2 hr3
 ·simp [Value.ownBlock] at hk
  exact .inr hk.symm
 ·have hold:∀x,some x ∈ s.L\/x ∈ s.wt->OpsOwn w3 0 (.slice x.o x.n x.c) x.ops:=fun x hx=>opsOwn_fr (h.ops x hx) fr h.gt
  rcases hc' with hc' | hc'
  ·exact hold c' (.inl hc')
  ·simp [CS.put] at hc'
   rcases hc' with hc' | rfl
   ·exact hold c' (.inr hc')
   ·exact opsOwn_fr ho f23 hG2
 ·rcases hi with ⟨hi,e3⟩ | hi
  ·obtain ⟨t,cc,hb,hk⟩:=h.ft i hi
   by_cases e1:i=b
   ·subst e1
    exact ⟨85,_,b3,.inl rfl⟩
   ·exact ⟨t,cc,hb.same (keep i hb.lt e1 e3),hk⟩
  ·have hi':i=g:=hi
   subst hi'
   rcases hr3.shape with ⟨e,_⟩ | ⟨g',cap',cur,e,_,hb3,_⟩
   ·simp at e
   ·simp at e
    rw [<-e.1] at hb3
    exact ⟨105,_,hb3,.inr (.inr (.inr rfl))⟩
 ·rcases hi with ⟨hi,_⟩ | hi
  ·exact h.apart i hi hq
  ·have hi':i=g:=hi
   subst hi'
   rcases hgg with e | e
   ·exact h.apart _ (h.wf _ e) hq
   ·have:=h.qlt _ hq
    omega
def openW (s:CS)(ops:List POp):Int:=if chk ops=3 then 4 else if chk ops≠0 then 3 else if s.most<=outN s.L s.L.length+s.wt.length then 5 else 0
theorem Okc.put {c:Cr}(h:Okc s)(h1:((s.L.length+s.wt.length:Nat):Int)<s.last)(h2:outN s.L s.L.length+s.wt.length<s.most)(h3:mayCall c.ops=true/\(callForm c.ops).length<=4096)(h4:c.was=false/\c.tm=0)(h5:-9223372036854775808<=c.id/\c.id<=9223372036854775807):Okc (s.put c):=by
 refine ⟨h.num,h.size,h.most,h.tmo,h.tok,h.askAt,h.ses,h.none,?_,h.now,?_,fun c' hc'=>?_,fun c' hc'=>?_⟩
 ·have:=h.last
  simp [CS.put]
  omega
 ·simp [CS.put]
  omega
 ·rcases hc' with hc' | hc'
  ·exact h.call c' (.inl hc')
  ·simp [CS.put] at hc'
   rcases hc' with hc' | rfl
   ·exact h.call c' (.inr hc')
   ·have:=h.now.1
    refine ⟨h3.1,h3.2,by rw [h4.2];exact Int.le_refl _,by rw [h4.2];exact this,h5⟩
 ·simp [CS.put] at hc'
  rcases hc' with hc' | rfl
  ·exact h.wait c' hc'
  ·exact h4
def OpenP (Q F:Nat->Prop)(b:Nat)(s:CS)(ops:List POp)(w:World)(e:Ending)(w':World):Prop:=e=.returned (.int .i64 (openW s ops))/\∃s',((openW s ops=0/\∃o n c,s'=s.put ⟨s.last,o,n,c,ops,false,0⟩)\/(openW s ops≠0/\s'=s))/\Stp Q F w b s' w'
theorem open31 (w:World)(ov:Value)(ops:List POp)(h:Cm Q F w b oa wo wc s)(ho:Ops w ov ops)(hlast:((s.L.length+s.wt.length:Nat):Int)<s.last):Calls Tryz.prog 31 #[.pointer (some ⟨b,0,none⟩),.agg #[ov]] w (OpenP Q F b s ops w):=by
 obtain ⟨ao,an,ac,rfl⟩:=isSl_ops ho
 have HC:Hid (Cm Q F w b oa wo wc s/\Ops w (.slice ao an ac) ops/\((s.L.length+s.wt.length:Nat):Int)<s.last):=⟨h,ho,hlast⟩
 obtain ⟨er,her⟩:∃x,chk ops=x:=⟨_,rfl⟩
 have HER:Hid (chk ops=er):=her
 have hcases:er=0\/er=2\/er=3:=by
  rw [<-her]
  unfold chk
  split
  ·split
   ·exact .inl rfl
   ·exact .inr (.inr rfl)
  ·exact .inr (.inl rfl)
 clear h ho hlast her
 go_enter Tryz.func31,Tryz.ntmps31
 go_upto_region 1 with fail
 obtain ⟨w1,hw1,H1⟩:=al1 w #[.slice ao an ac] 35
 rw [hw1]
 clear hw1
 have q0:=H1.out.1.cell 0
 simp at q0
 go_wp2_with fail
 refine (bytes13 (.slice ao an ac) ops w1 (HC.out.2.1.grown H1.out.2.1)).mono ?_
 rintro e w2 ⟨u,rfl,hu,hg⟩
 rw [HER.out]
 obtain ⟨uo,un,uc,rfl⟩:=isSl_on hu
 have H2:Hid (w.grownBy w2 none/\Disk.Own w2 w1.heap.size (.slice uo un uc) (if chk ops=0 then callForm ops else [])/\Cm Q F w2 b oa wo wc s):=⟨grown_trans H1.out.2.1 hg,hu,HC.out.1.grown (grown_trans H1.out.2.1 hg)⟩
 clear hu hg q0
 rcases hcases with rfl | rfl | rfl
 rotate_left
 ·have HP:Hid (openW s ops=3):=by simp [Hid,openW,HER.out]
  go_wp2_with fail
  go_ret
  unfold OpenP
  rw [HP.out]
  exact ⟨rfl,s,.inr ⟨by decide,rfl⟩,Stp.same ⟨_,_,_,HC.out.1⟩ H2.out.1⟩
 ·have HP:Hid (openW s ops=4):=by simp [Hid,openW,HER.out]
  go_wp2_with fail
  go_ret
  unfold OpenP
  rw [HP.out]
  exact ⟨rfl,s,.inr ⟨by decide,rfl⟩,Stp.same ⟨_,_,_,HC.out.1⟩ H2.out.1⟩
 ·obtain ⟨n,hn⟩:∃n,s.wt.length=n:=⟨_,rfl⟩
  obtain ⟨k,hk⟩:∃k,outN s.L s.L.length=k:=⟨_,rfl⟩
  have HN:Hid (s.wt.length=n/\outN s.L s.L.length=k/\n+k<=1024):=⟨hn,hk,by have:=HC.out.1.ok.few;have:=HC.out.1.ok.most;omega⟩
  have c8:w2.cell? ⟨b,8,none⟩=some (.pointer oa):=H2.out.2.2.blk.cell 8
  have c9:w2.cell? ⟨b,9,none⟩=some (.slice wo n wc):=by rw [<-hn];exact H2.out.2.2.blk.cell 9
  have c2:w2.cell? ⟨b,2,none⟩=some (.int .i64 s.most):=H2.out.2.2.blk.cell 2
  have d1:IntKind.i64.wrap ((k:Int)+(n:Int))=(k:Int)+(n:Int):=by have:=HN.out;rw [IntKind.wrap_i64];omega
  clear hn hk
  go_upto_region 6 with fail
  refine wp_region_hold 1000 (fun y=>w2.grownBy y none) (by kernel_rfl) ?_
  have HD:Hid (w2.grownBy w2.drew none):=grown_drew _ _
  generalize w2.drew=wd at HD ⊢
  have J:Idx [0,1,2,3,5,6,7,8,9,11,12,13,14]:=trivial
  iterate 13 (refine tK J (HD.out) rfl rfl (fun wk hk=>by have k8:=hk.cell c8 (by simp);have k9:=hk.cell c9 (by simp);have k2:=hk.cell c2 (by simp);go_simp;try rfl) ?_;replace J:=J.tl;try simp only [pN])
  clear J
  refine wpHold_one (i:=4) rfl (by kernel_rfl) (by rfl) (fun K hK=>?_)
  go_wp2_with fail
  refine (wlen wd (H2.out.2.2.grown HD.out)).mono ?_
  rintro e w3 ⟨rfl,hg⟩
  rw [HN.out.2.1]
  have H3:Hid (w2.grownBy w3 none):=grown_trans HD.out hg
  clear hg
  go_wp2_with fail
  refine hK.out _ _ (fun _=>H3.out) ?_
  clear hK K
  try simp only [pN]
  have J:Idx [10,15,16]:=trivial
  iterate 3 (refine tK J (H3.out) rfl rfl (fun wk hk=>by have k8:=hk.cell c8 (by simp);have k9:=hk.cell c9 (by simp);have k2:=hk.cell c2 (by simp);go_simp;try rfl) ?_;replace J:=J.tl;try simp only [pN])
  clear J
  refine wpHold_done (by kernel_rfl) ?_
  refine (‹∀(a:Act) (w:World),Code.wp Tryz.prog _ _ a w->_› _ _ ?_)
  clear c8 c9 c2 d1
  by_cases hf:(s.most:Int)<=(k:Int)+(n:Int)
  ·have HP:Hid (openW s ops=5):=by
    unfold Hid openW
    rw [HER.out,HN.out.1,HN.out.2.1,if_neg (by decide),if_neg (by decide),if_pos (by omega)]
   go_wp2_with fail
   go_ret
   unfold OpenP
   rw [HP.out]
   exact ⟨rfl,s,.inr ⟨by decide,rfl⟩,Stp.same ⟨_,_,_,HC.out.1⟩ (grown_trans H2.out.1 H3.out)⟩
  ·have HP:Hid (openW s ops=0/\outN s.L s.L.length+s.wt.length<s.most/\mayCall ops=true/\(callForm ops).length<=4096/\readC (callForm ops)=(ops,0)):=by
    have hc:=chk0 HER.out
    refine ⟨?_,by rw [HN.out.1,HN.out.2.1];omega,hc.1,hc.2,readC_form HER.out⟩
    unfold openW
    rw [HER.out,HN.out.1,HN.out.2.1,if_neg (by decide),if_neg (by decide),if_neg (by omega)]
   go_wp2_with fail
   refine (read22 (.slice uo un uc) (callForm ops) w3 (by have:=HP.out.2.2.2.1;omega) (by have h:=H2.out.2.1;rw [HER.out,if_pos rfl] at h;exact (h.grown H3.out).seg)).mono ?_
   rintro e w4 ⟨u,he,ho,hg⟩
   rw [HP.out.2.2.2.2] at he ho
   subst he
   obtain ⟨ro,rn,rc,rfl⟩:=isSl_ow ho
   have H4:Hid (w.grownBy w4 none/\OpsOwn w4 w.heap.size (.slice ro rn rc) ops):=by
    have g:=grown_trans H2.out.1 H3.out
    exact ⟨grown_trans g hg,ho.mono g.size⟩
   clear ho hg
   have HZ:Hid (Blk (w4.alloc (.cells #[.slice none 0 0] 35)) w4.heap.size 35 #[.slice none 0 0]):=heap_alloc_new w4 _
   have y0:=HZ.out.cell 0
   have z0:=HZ.out.free 0
   simp only [List.getElem?_toArray,List.getElem?_cons_zero] at y0
   obtain ⟨w5,hw5,H5'⟩:=al1 w4 #[.slice ro rn rc] 35
   have HW5:Hid (w4.alloc (.cells #[.slice ro rn rc] 35)=w5):=hw5
   clear hw5
   go_upto_region 9 with fail
   rw [HW5.out]
   obtain ⟨p7,hp7⟩:∃x,w4.heap.size=x:=⟨_,rfl⟩
   rw [hp7] at H5' ⊢
   have H5:Hid (w.grownBy w5 none/\Cm Q F w5 b oa wo wc s/\Blk w5 p7 35 #[.slice ro rn rc]/\OpsOwn w5 w.heap.size (.slice ro rn rc) ops):=⟨grown_trans H4.out.1 H5'.out.2.1,HC.out.1.grown (grown_trans H4.out.1 H5'.out.2.1),H5'.out.1,H4.out.2.grown H5'.out.2.1⟩
   clear HW5 H5' HZ y0 z0 hp7
   have HRD:Hid (∀y,w5.grownBy y (Value.slice wo n wc).ownBlock->y.cell? ⟨b,9,none⟩=some (.slice wo n wc)/\y.cell? ⟨b,10,none⟩=some (.int .i64 s.last)/\y.cell? ⟨p7,0,none⟩=some (.slice ro rn rc)/\y.frozen? ⟨b,9,none⟩=false):=by
    intro y hy
    have hb:=H5.out.2.1.blk
    rw [HN.out.1] at hb
    have hw:∀k,(Value.slice wo n wc).ownBlock=some k->∃C,Blk w5 k 105 C:=fun k hk=>H5.out.2.1.wt_blk (by rw [HN.out.1];exact hk)
    have ne:∀{t:Nat} {C:Array Value} {x:Nat},Blk w5 x t C->t≠105->(Value.slice wo n wc).ownBlock≠some x:=fun hx ht e=>by
     obtain ⟨C,hC⟩:=hw _ e
     exact ht (blk_type hx hC)
    have b':=hb.grown hy (ne hb (by decide))
    exact ⟨b'.cell 9,b'.cell 10,(H5.out.2.2.1.grown hy (ne H5.out.2.2.1 (by decide))).cell 0,b'.free 9⟩
   refine wp_region_hold 15 (fun y=>w5.grownBy y (Value.slice wo n wc).ownBlock) (by kernel_rfl) ?_
   have HD5:Hid (w5.grownBy w5.drew none):=grown_drew _ _
   generalize w5.drew=we at HD5 ⊢
   have J:Idx [0,1,2,3,4,5,6,7,8,9,10]:=trivial
   iterate 11 (refine tK J ((grown_mono HD5.out)) rfl rfl (fun wk hk=>by obtain ⟨k1,k2,k3,_⟩:=HRD.out wk hk;go_simp;try rfl) ?_;replace J:=J.tl;try simp only [pN])
   clear J
   refine wpHold_one (i:=11) rfl (by kernel_rfl) (by rfl) (fun K hK=>?_)
   obtain ⟨w8,hw8,H8'⟩:=al1 we #[.int .i64 s.last,.slice ro rn rc,.bool false,.int .i64 0] 105
   obtain ⟨p8,hp8⟩:∃x,we.heap.size=x:=⟨_,rfl⟩
   rw [hp8] at H8'
   have HW8:Hid (we.alloc (.cells #[.int .i64 s.last,.slice ro rn rc,.bool false,.int .i64 0] 105)=w8/\we.heap.size=p8):=⟨hw8,hp8⟩
   clear hw8 hp8
   go_wp2_with fail
   rw [HW8.out.1,HW8.out.2]
   have H8:Hid (Blk w8 p8 105 #[.int .i64 s.last,.slice ro rn rc,.bool false,.int .i64 0]/\w5.grownBy w8 none):=⟨H8'.out.1,grown_trans HD5.out H8'.out.2.1⟩
   clear HW8 H8'
   refine hK.out _ _ (fun _=>grown_mono H8.out.2) ?_
   clear hK K
   try simp only [pN]
   refine wpHold_one (i:=12) rfl (by kernel_rfl) (by rfl) (fun K hK=>?_)
   have hrow:=H5.out.2.1.wt.grown crR_stab H8.out.2
   rw [HN.out.1] at hrow
   have HROW:Hid (LRow 105 4 crR w8 0 (.slice wo n wc) s.wt):=hrow
   clear hrow
   refine appL_wp (t:=105) (c:=4) (by':=48) crR_stab (fun h=>h) 83 utC infoC rfl (by decide) (by decide) w8 _ _ rfl 0 (.slice wo n wc) s.wt ⟨s.last,ro,rn,rc,ops,false,0⟩ p8 [.int .i64 s.last,.slice ro rn rc,.bool false,.int .i64 0] _ rfl rfl HROW.out H8.out.1 rfl rfl rfl (by simp [Value.oneCell']) (by have:=HN.out;omega) (Nat.zero_le _) ?_
   intro g' cap' w10 hr hg hgg
   rw [HN.out.1] at hr ⊢
   have H10:Hid (Cm Q (fun i=>(F i/\(Value.slice wo s.wt.length wc).ownBlock≠some i)\/i=g') (w10.setCell ⟨b,9,none⟩ (.slice (some ⟨g',0,none⟩) (n+1) cap')) b oa (some ⟨g',0,none⟩) cap' (s.put ⟨s.last,ro,rn,rc,ops,false,0⟩)/\Fr w (w10.setCell ⟨b,9,none⟩ (.slice (some ⟨g',0,none⟩) (n+1) cap')) F/\w5.grownBy w10 (Value.slice wo n wc).ownBlock/\(F g'\/w.heap.size<=g')):=by
    have hg':=hg
    rw [<-HN.out.1] at hg hgg hr
    have hlast:=HC.out.1.ok.last
    have hm:=H5.out.2.1.more (w1:=w8) (w2:=w10) (c:=⟨s.last,ro,rn,rc,ops,false,0⟩) H8.out.2 (lrow_c.1 hr) hg (by
     rcases hgg with e | e
     ·exact .inl e
     ·have:=H8.out.2.size
      exact .inr (by omega)) (OpsOwn.mono (opsOwn_fr (H5.out.2.2.2.grown H8.out.2) (Fr.of (F:=fun i=>(Value.slice wo s.wt.length wc).ownBlock=some i) hg fun k hk=>hk) fun i hi=>by
       obtain ⟨C,hC⟩:=(H5.out.2.1.grown H8.out.2).wt_blk hi
       exact ⟨105,C,hC,by decide,by decide⟩) (Nat.zero_le _)) (HC.out.1.ok.put HC.out.2.2 HP.out.2.1 ⟨HP.out.2.2.1,HP.out.2.2.2.1⟩ ⟨rfl,rfl⟩ (by dsimp only;omega))
    rw [HN.out.1] at hm
    refine ⟨by rw [HN.out.1];exact hm.1,(Fr.of (F:=F) H5.out.1 (by simp)).trans hm.2 fun i hi=>.inl hi,grown_trans (grown_mono H8.out.2) hg',?_⟩
    rcases hgg with e | e
    ·exact .inl (HC.out.1.wf _ e)
    ·have:=H8.out.2.size
     have:=H5.out.1.size
     exact .inr (by omega)
   clear hr hg hgg
   refine hK.out _ _ (fun _=>H10.out.2.2.1) ?_
   clear hK K
   try simp only [pN]
   have J:Idx [13,14]:=trivial
   iterate 2 (refine tK J (H10.out.2.2.1) rfl rfl (fun wk hk=>by obtain ⟨k1,k2,k3,_⟩:=HRD.out wk hk;go_simp;try rfl) ?_;replace J:=J.tl;try simp only [pN])
   clear J
   refine wpHold_one (i:=15) rfl (by kernel_rfl) (by rfl) (fun K hK=>?_)
   obtain ⟨x9,_,_,f9⟩:=HRD.out w10 H10.out.2.2.1
   go_wp2_with fail
   refine hK.out _ _ (fun h=>absurd rfl h) ?_
   clear hK K x9 f9
   try simp only [pN]
   refine wpHold_done (by kernel_rfl) ?_
   refine (‹∀(a:Act) (w:World),Code.wp Tryz.prog _ _ a w->_› _ _ ?_)
   have HF:Hid (Stp Q F w b (s.put ⟨s.last,ro,rn,rc,ops,false,0⟩) (w10.setCell ⟨b,9,none⟩ (.slice (some ⟨g',0,none⟩) (n+1) cap'))):=by
    refine ⟨Q,_,⟨_,_,_,H10.out.1⟩,H10.out.2.1,fun i hi=>?_,fun i hi=>.inl hi⟩
    rcases hi with hi | hi
    ·exact .inl hi.1
    ·have hi':i=g':=hi
     subst hi'
     exact H10.out.2.2.2
   generalize w10.setCell ⟨b,9,none⟩ (.slice (some ⟨g',0,none⟩) (n+1) cap')=w11 at HF ⊢
   go_wp2_with fail
   go_ret
   unfold OpenP
   rw [HP.out.1]
   exact ⟨rfl,_,.inl ⟨rfl,ro,rn,rc,rfl⟩,HF.out⟩
end Go.Proofs.YtanoabliahcbeaaGreat.Wn
