import Derived.Test.YtakmlhhapegpoaaGreatSsAll
set_option maxHeartbeats 8000000
set_option maxRecDepth 100000
namespace Go.Proofs.YtakmlhhapegpoaaGreat
open Go.RowKit Disk Table
theorem not_handA (i p j:Nat)(k:Int):¬HandA #[.int .i64 k,.pointer (some ⟨p,j,none⟩)] i:=by
 rintro (⟨u,hu,hb⟩ | ⟨c,u,hc,_,_⟩)
 ·simp at hu
  rcases hu with rfl | rfl <;> simp [Value.ownBlock] at hb
 ·simp at hc
def XS (N:Nat)(X:Nat->World->World->Array Value->Prop)(k k':Nat)(W0 W1:World)(xs:Array Value):Prop:=k'=k+1/\k<N/\X k W0 W1 xs
def GivesN (P:Program)(gf:Nat)(lb:Array Value)(N:Nat)(X:Nat->World->World->Array Value->Prop)(Fw:Nat->Prop)(w:World):Prop:=GivesS P gf lb 0 (fun k=>k=N) (XS N X) Fw w
theorem all68S (Fw:Nat->Prop)(Bx:Nat)(v:Value)(ps:List Nat)(w:World)(hb:Blk w Bx 123 #[v])(hv:PIn w (fun k=>¬Fw k) v ps)(hz:ps.length<=1000000) :
  GivesN Tryz.prog 108 #[.pointer (some ⟨Bx,0,none⟩)] ps.length (Xu ps) Fw w:=by
 intro l J Jx W hgW hJg hXg hY h0
 obtain ⟨ao,n,cap,rfl,hn,hc1,hc2,HV⟩:=pin_open hv
 have HN:Hid (ps.length=n):=hn
 have hn6:n<=1000000:=by omega
 have HW:Hid (w.heap.size<=W.heap.size):=hgW.size
 have HV0:Hid (PIn w (fun k=>¬Fw k) (.slice ao n cap) ps):=HV.out
 have HV1:Hid (PIn W (fun k=>k<w.heap.size/\¬Fw k) (.slice ao n cap) ps):=(HV.out.weak (G:=fun k=>k<w.heap.size/\¬Fw k) fun k h1 h2=>⟨h2,h1⟩).grown hgW
 have c0:=(hb.grown hgW (by simp)).cell 0
 simp at c0
 have HY:Hid _:=hY
 have HJ:Hid (J 0 (fun _=>False) W):=h0
 clear hb hv hn hz hgW hY h0 hJg hXg HV
 show Calls Tryz.prog 108 #[.func (.yield l) #[] #[],.pointer (some ⟨Bx,0,none⟩)] W _
 go_enter Tryz.func108,Tryz.ntmps108
 go_wp2_with fail
 go_loopw [7] (fun p wr=>∃(k:Nat) (G:Nat->Prop),k<=n/\p=.int .i64 (k:Int)/\Hid (J k G wr/\(∀i,G i->W.heap.size<=i))/\W.heap.size<=wr.heap.size/\PIn wr (fun k=>k<w.heap.size/\¬Fw k) (.slice ao n cap) ps) (fun p _=>n-(intOf p).toNat)
 case atStart=>exact ⟨0,_,Nat.zero_le _,rfl,⟨HJ.out,fun _ h=>h.elim⟩,Nat.le_refl _,HV1.out⟩
 case round =>
  obtain ⟨k,G,hk,rfl,hJ,hsz,hp⟩:=hrel
  have HF:Hid (J k G wr/\W.heap.size<=wr.heap.size/\PIn wr (fun k=>k<w.heap.size/\¬Fw k) (.slice ao n cap) ps/\∀i,G i->W.heap.size<=i):=⟨hJ.out.1,hsz,hp,hJ.out.2⟩
  clear hJ hsz hp
  rcases Nat.lt_or_ge k n with hlt | hge
  ·have hkl:k<ps.length:=by rw [HN.out];exact hlt
   obtain ⟨b,off,rfl,hc⟩:=pin_at HF.out.2.2.1 k hkl
   have i0:(0:Int)<=(k:Int):=by omega
   have i1:(k:Int)<(n:Int):=by omega
   obtain ⟨p,hp⟩:∃p,ps[k]=p:=⟨_,rfl⟩
   rw [hp] at hc
   have HX:Hid (Xu ps k wr wr #[.int .i64 (k:Int),.pointer (some ⟨p,0,none⟩)]):=⟨rfl,hkl,by rw [hp]⟩
   have HKN:Hid (k<ps.length):=hkl
   clear hp hkl
   go_upto_region 3 with fail
   refine (wpIn_wide (n:=0)).1 (wpIn_region_lit ?_)
   refine wpListIn_plain rfl fun K1 hK1=>oper_wide 0 ?_
   have HK1:Hid _:=hK1
   clear hK1
   go_wp2_with fail
   refine HK1.out _ _ ?_
   clear HK1 K1
   refine wpListIn_plain rfl fun K1 hK1=>oper_wide 0 ?_
   have HK1:Hid _:=hK1
   clear hK1
   go_wp2_with fail
   refine HK1.out _ _ ?_
   clear HK1 K1
   refine wpListIn_plain rfl fun K1 hK1=>oper_wide 0 ?_
   have HK1:Hid _:=hK1
   clear hK1
   go_wp2_with fail
   refine HK1.out _ _ ?_
   clear HK1 K1
   refine wpListIn_plain rfl fun K1 hK1=>yield_wide (HY.out k (k+1) G wr wr _ HF.out.1 HF.out.2.1 (Tn.refl _ _) ⟨rfl,HKN.out,HX.out⟩) rfl rfl rfl rfl ?_
   rintro e W' (⟨rfl,G',hnew,hJ',hkept⟩ | ⟨rfl,hx,_⟩)
   ·refine ⟨_,rfl,hK1 _ _ ?_⟩
    clear hK1 K1
    simp only [Act.put,List.setIfInBounds_toArray,List.set_cons_zero,List.set_cons_succ]
    refine wpListIn_plain rfl fun K1 hK1=>oper_wide 0 ?_
    have HK1:Hid _:=hK1
    clear hK1
    go_wp2_with fail
    refine HK1.out _ _ ?_
    clear HK1 K1
    refine wpListIn_nil ?_
    refine (‹∀(a:Act) (w:World),Code.wp Tryz.prog _ _ a w->_› _ _ ?_)
    have HK:Hid (J (k+1) G' W'/\W.heap.size<=W'.heap.size/\PIn W' (fun k=>k<w.heap.size/\¬Fw k) (.slice (some ⟨b,off,none⟩) n cap) ps/\∀i,G' i->W.heap.size<=i) :=
     ⟨hJ',Nat.le_trans HF.out.2.1 hkept.1,HF.out.2.2.1.same fun i hi hlt=>hkept.2 i hlt (.inl hi.1) hi.2 (not_handA _ _ _ _) (fun hg=>by have:=HF.out.2.2.2 i hg;have:=HW.out;have:=hi.1;omega),fun i hi=>by rcases (hnew i hi).1 with h | h;exact HF.out.2.2.2 i h;exact Nat.le_trans HF.out.2.1 h⟩
    clear hJ' hkept hnew
    go_wp2_with fail
    go_roundw
    case rel=>exact ⟨k+1,G',by omega,by go_num,⟨HK.out.1,HK.out.2.2.2⟩,HK.out.2.1,HK.out.2.2.1⟩
    case measure=>simp [intOf];omega
   ·refine ⟨_,rfl,hK1 _ _ ?_⟩
    clear hK1 K1
    simp only [Act.put,List.setIfInBounds_toArray,List.set_cons_zero,List.set_cons_succ]
    refine wpListIn_plain rfl fun K1 hK1=>oper_wide 0 ?_
    have HK1:Hid _:=hK1
    clear hK1
    go_wp2_with fail
    refine HK1.out _ _ ?_
    clear HK1 K1
    refine wpListIn_nil ?_
    refine (‹∀(a:Act) (w:World),Code.wp Tryz.prog _ _ a w->_› _ _ ?_)
    have HXX:Hid (Jx W'):=hx
    clear hx
    go_wp2_with fail
    exact ⟨rfl,_,results_none rfl _ _ _,⟨_,rfl⟩,.inr HXX.out⟩
  ·have e:k=n:=by omega
   subst e
   go_wp2_with fail
   refine ⟨rfl,_,results_none rfl _ _ _,⟨_,rfl⟩,.inl ?_⟩
   exact ⟨k,G,HN.out.symm,HF.out.1⟩
theorem tell46S (l gf Bx n1:Nat)(eg:∀args w,(callFunc gf args).run Tryz.prog w=.ok (.enter gf args) w)(qs:List Nat)(rs:List PRow)(X:Nat->World->World->Array Value->Prop)(Fw:Nat->Prop)(J:Nat->(Nat->Prop)->World->Prop)(Jx:World->Prop)(W Wt:World)
  (hX:∀k W0 W1 xs,X k W0 W1 xs->W1=W0/\∃(h:k<qs.length) (i:Int),xs=#[.int .i64 i,.pointer (some ⟨qs[k],0,none⟩)])
  (hn1:n1<=W.heap.size) (hgt:W.grownBy Wt none) (hats:AtsIn W (fun k=>k<n1/\¬Fw k) qs rs) (hlen:∀r ∈ rs,r.1.length<=100000/\r.2.length<=100000)
  (hseq:∀Wb,Wt.grownBy Wb none->GivesN Tryz.prog gf #[.pointer (some ⟨Bx,0,none⟩)] qs.length X (fun i=>Fw i\/(n1<=i/\i<W.heap.size)) Wb)
  (hJ:∀k G A B,J k G A->Tn W.heap.size A B->J k G B) (hJx:∀A B,Jx A->Tn W.heap.size A B->Jx B)
  (hY:∀k k' G W0 W1 xs,J k G W0->W.heap.size<=W0.heap.size->Tn W.heap.size W0 W1->XS rs.length (Xt rs) k k' W0 W1 xs->YieldAt Fence.wide 0 Tryz.prog l xs W1 fun e W'=>(e=.returned (.bool true)/\∃G',NewG G G' W1 W'/\J k' G' W'/\KeptG n1 W.heap.size Fw G xs W1 W')\/(e=.returned (.bool false)/\Jx W'/\KeptG n1 W.heap.size Fw G xs W1 W'))
  (hFw:∀i,Fw i->i<n1) (h0:J 0 (fun _=>False) W) :
  Calls Tryz.prog 82 #[.func (.func gf) #[] #[.pointer (some ⟨Bx,0,none⟩)],.func (.yield l) #[] #[]] Wt fun e W'=>(∃v,e=.returned v)/\((∃s G,s=qs.length/\J s G W')\/Jx W'):=by
 have HS:Hid (n1<=W.heap.size/\W.grownBy Wt none/\AtsIn W (fun k=>k<n1/\¬Fw k) qs rs/\(∀r ∈ rs,r.1.length<=100000/\r.2.length<=100000)):=⟨hn1,hgt,hats,hlen⟩
 have HQ:Hid _:=hseq
 have HJ:Hid (∀k G A B,J k G A->Tn W.heap.size A B->J k G B):=hJ
 have HJX:Hid (∀A B,Jx A->Tn W.heap.size A B->Jx B):=hJx
 have HY:Hid _:=hY
 have HX:Hid _:=hX
 have HFW:Hid (∀i,Fw i->i<n1):=hFw
 have H0:Hid (J 0 (fun _=>False) W):=h0
 have HEG:Hid _:=eg
 clear hn1 hgt hats hlen hseq hJ hJx hY hX hFw h0 eg
 refine calls_marks Tryz.func82 rfl ?_
 simp only [Tryz.ntmps82,List.size_toArray,List.length_cons,List.length_nil,Nat.reduceAdd,Nat.reduceSub,Array.replicate_succ,Array.replicate_zero,List.push_toArray,List.append_toArray,List.nil_append,List.cons_append]
 go_wp2_with fail
 obtain ⟨Wb,hWb,HB⟩:=al Wt #[.func (.yield l) #[] #[]] 130
 rw [hWb]
 clear hWb
 obtain ⟨b3,hb3⟩:∃b,Wt.heap.size=b:=⟨_,rfl⟩
 rw [hb3] at HB ⊢
 have HB3:Hid (W.heap.size<=b3/\W.grownBy Wb none/\Wb.heap.size=b3+1):=⟨by rw [<-hb3];exact HS.out.2.1.size,grown_trans HS.out.2.1 HB.out.2.1,HB.out.2.2⟩
 clear hb3
 refine wp_rangeS (gf:=gf) (lb:=#[.pointer (some ⟨Bx,0,none⟩)]) rfl HEG.out (HQ.out Wb HB.out.2.1) ?hps (fun k G A=>J k G A/\Blk A b3 130 #[.func (.yield l) #[] #[]]/\AtsIn A (fun k=>k<n1/\¬Fw k) qs rs/\Wb.heap.size<=A.heap.size/\∀i,G i->Wb.heap.size+2<=i) Jx ?hIg ?hXg ?h0 ?hround ?hdone ?hstop
 case hps =>
  rintro k k' W0 W1 xs ⟨_,_,hx⟩
  obtain ⟨_,_,i,rfl⟩:=HX.out k W0 W1 xs hx
  rfl
 case hIg =>
  rintro k G A B ⟨h1,h2,h3,h4,h5⟩ ht
  exact ⟨HJ.out k G A B h1 (ht.mono (by have:=HB3.out.2.1.size;omega)),ht.blk h2,h3.tn ht,Nat.le_trans h4 ht.size,h5⟩
 case hXg=>exact fun A B h ht=>HJX.out A B h (ht.mono (by have:=HB3.out.2.1.size;omega))
 case h0=>exact ⟨HJ.out 0 _ W Wb H0.out (Tn.of_grown HB3.out.2.1),HB.out.1,HS.out.2.2.1.grown HB3.out.2.1,Nat.le_refl _,fun _ h=>h.elim⟩
 case hstop =>
  intro A hA hd
  have HA:Hid (Jx A):=hA
  have HD:Hid _:=hd
  clear hA hd
  go_wp2_with fail
  refine ⟨by simp,.inl ⟨_,_,rfl,run_takeDeferred HD.out,?_⟩⟩
  exact ⟨_,results_none rfl _ _ _,⟨_,rfl⟩,.inr (HJX.out _ _ HA.out (Tn.putD _ HD.out (by have:=HB3.out.2.1.size;omega)))⟩
 case hdone =>
  rintro A s G hs ⟨hA,_⟩ hd
  have HA:Hid (s=qs.length/\J s G A):=⟨hs,hA⟩
  have HD:Hid _:=hd
  clear hA hd
  go_wp2_with fail
  refine ⟨by simp,.inl ⟨_,_,rfl,run_takeDeferred HD.out,?_⟩⟩
  exact ⟨_,results_none rfl _ _ _,⟨_,rfl⟩,.inl ⟨s,G,HA.out.1,HJ.out _ _ _ _ HA.out.2 (Tn.putD _ HD.out (by have:=HB3.out.2.1.size;omega))⟩⟩
 case hround =>
  rintro l' k k' G W0 W1 xs ⟨i1,i2,i3,i4,i5⟩ hlt htn ⟨rfl,hk,hx⟩ hrec
  obtain ⟨hw1,hkq,ix,rfl⟩:=HX.out k W0 W1 xs hx
  subst hw1
  clear hx
  have hkr:k<rs.length:=by rw [<-i3.1];exact hkq
  obtain ⟨hF,kx,vx,hbk,hok,hov,fk,fv⟩:=i3.2 k hkq hkr
  obtain ⟨q,hq⟩:∃q,qs[k]=q:=⟨_,rfl⟩
  rw [hq] at hF hbk ⊢
  simp only [List.zip_toArray,List.zip_cons_cons,List.zip_nil_right,List.foldl_toArray',List.size_toArray,List.foldl_cons,List.foldl_nil,List.setIfInBounds_toArray,List.set_cons_zero,List.set_cons_succ]
  have HI:Hid (J k G W1/\Blk W1 b3 130 #[.func (.yield l) #[] #[]]/\AtsIn W1 (fun k=>k<n1/\¬Fw k) qs rs/\Wb.heap.size<=W1.heap.size/\Wb.heap.size+1<W1.heap.size):=⟨i1,i2,i3,i4,hlt⟩
  have HGG:Hid (∀i,G i->Wb.heap.size+2<=i):=i5
  have HRW:Hid (Blk W1 q 86 #[kx,vx]/\Disk.Own W1 0 kx rs[k].1/\Disk.Own W1 0 vx rs[k].2/\rs[k].1.length<=100000/\rs[k].2.length<=100000):=⟨hbk,hok,hov,HS.out.2.2.2 _ (List.getElem_mem _)⟩
  obtain ⟨rc,hrc⟩:=hrec
  have HRC:Hid (W1.heap[Wb.heap.size+1]? = some (.loop rc)):=hrc
  clear hrc i1 i2 i3 i4 i5 hbk hok hov fk fv hF hq hlt htn
  refine region_round (by rintro ⟨_,_,h⟩;exact h) rfl ?_
  go_wp2_with fail
  refine ⟨grown_refl _ _,fun r=>?_⟩
  obtain ⟨W2,hW2⟩:∃W2,W1.putObj (Wb.heap.size+1) (.loop r)=W2:=⟨_,rfl⟩
  have HT2:Hid (Tn W.heap.size W1 W2/\W2.heap.size=W1.heap.size/\∀i,i≠Wb.heap.size+1->W2.heap[i]? = W1.heap[i]?):=by
   rw [<-hW2]
   exact ⟨Tn.put _ HRC.out (by have:=HB3.out.2.1.size;omega),by simp [World.putObj],fun i hi=>World.putObj_heap_other hi⟩
  rw [hW2]
  clear hW2
  have HM:Hid (∀y:World,W2.grownBy y none->y.cell? ⟨b3,0,none⟩=some (.func (.yield l) #[] #[])/\y.cell? ⟨q,0,none⟩=some kx/\y.cell? ⟨q,1,none⟩=some vx):=fun y hy=>⟨((HT2.out.1.blk HI.out.2.1).grown hy (by simp)).cell 0,((HT2.out.1.blk HRW.out.1).grown hy (by simp)).cell 0,((HT2.out.1.blk HRW.out.1).grown hy (by simp)).cell 1⟩
  refine wpIn_block (wpIn_seq ?_)
  refine region_round_holdY 11 (fun y=>W2.grownBy y none) (fun K a w=>wpOpIn (Fence.wide.inRound l') 0 Tryz.prog _ _ 11 K a w) (by rintro ⟨_,_,h⟩;exact h) rfl (by kernel_rfl) (fun K K' a w h hh=>wpOpIn_mono h hh) ?_
  have G0:Hid (W2.grownBy W2.drew none):=grown_drew _ _
  generalize W2.drew=wd at G0 ⊢
  have HGT:Hid (∀y:World,W2.grownBy y none->W2.grownBy y none):=fun _ h=>h
  refine wpHoldY_take (i:=0) (v:=_) (HGT.out _ G0.out) rfl rfl (by decide) (by kernel_rfl) (by kernel_rfl) (by kernel_rfl) (by kernel_rfl) (by kernel_rfl) (by kernel_rfl) (fun _ _ _ h=>h) (by rfl) (fun wk hk=>by obtain ⟨z0,z1,z2⟩:=HM.out wk hk;go_simp;try rfl) ?_
  try simp only [pN]
  refine wpHoldY_take (i:=1) (v:=_) (HGT.out _ G0.out) rfl rfl (by decide) (by kernel_rfl) (by kernel_rfl) (by kernel_rfl) (by kernel_rfl) (by kernel_rfl) (by kernel_rfl) (fun _ _ _ h=>h) (by rfl) (fun wk hk=>by obtain ⟨z0,z1,z2⟩:=HM.out wk hk;go_simp;try rfl) ?_
  try simp only [pN]
  refine wpHoldY_take (i:=2) (v:=_) (HGT.out _ G0.out) rfl rfl (by decide) (by kernel_rfl) (by kernel_rfl) (by kernel_rfl) (by kernel_rfl) (by kernel_rfl) (by kernel_rfl) (fun _ _ _ h=>h) (by rfl) (fun wk hk=>by obtain ⟨z0,z1,z2⟩:=HM.out wk hk;go_simp;try rfl) ?_
  try simp only [pN]
  refine wpHoldY_take (i:=3) (v:=_) (HGT.out _ G0.out) rfl rfl (by decide) (by kernel_rfl) (by kernel_rfl) (by kernel_rfl) (by kernel_rfl) (by kernel_rfl) (by kernel_rfl) (fun _ _ _ h=>h) (by rfl) (fun wk hk=>by obtain ⟨z0,z1,z2⟩:=HM.out wk hk;go_simp;try rfl) ?_
  try simp only [pN]
  refine wpHoldY_take (i:=4) (v:=_) (HGT.out _ G0.out) rfl rfl (by decide) (by kernel_rfl) (by kernel_rfl) (by kernel_rfl) (by kernel_rfl) (by kernel_rfl) (by kernel_rfl) (fun _ _ _ h=>h) (by rfl) (fun wk hk=>by obtain ⟨z0,z1,z2⟩:=HM.out wk hk;go_simp;try rfl) ?_
  try simp only [pN]
  refine wpHoldY_take (i:=6) (v:=_) (HGT.out _ G0.out) rfl rfl (by decide) (by kernel_rfl) (by kernel_rfl) (by kernel_rfl) (by kernel_rfl) (by kernel_rfl) (by kernel_rfl) (fun _ _ _ h=>h) (by rfl) (fun wk hk=>by obtain ⟨z0,z1,z2⟩:=HM.out wk hk;go_simp;try rfl) ?_
  try simp only [pN]
  refine wpHoldY_take (i:=7) (v:=_) (HGT.out _ G0.out) rfl rfl (by decide) (by kernel_rfl) (by kernel_rfl) (by kernel_rfl) (by kernel_rfl) (by kernel_rfl) (by kernel_rfl) (fun _ _ _ h=>h) (by rfl) (fun wk hk=>by obtain ⟨z0,z1,z2⟩:=HM.out wk hk;go_simp;try rfl) ?_
  try simp only [pN]
  refine wpHoldY_take (i:=8) (v:=_) (HGT.out _ G0.out) rfl rfl (by decide) (by kernel_rfl) (by kernel_rfl) (by kernel_rfl) (by kernel_rfl) (by kernel_rfl) (by kernel_rfl) (fun _ _ _ h=>h) (by rfl) (fun wk hk=>by obtain ⟨z0,z1,z2⟩:=HM.out wk hk;go_simp;try rfl) ?_
  try simp only [pN]
  refine wpHoldY_take (i:=9) (v:=_) (HGT.out _ G0.out) rfl rfl (by decide) (by kernel_rfl) (by kernel_rfl) (by kernel_rfl) (by kernel_rfl) (by kernel_rfl) (by kernel_rfl) (fun _ _ _ h=>h) (by rfl) (fun wk hk=>by obtain ⟨z0,z1,z2⟩:=HM.out wk hk;go_simp;try rfl) ?_
  try simp only [pN]
  refine wpHoldY_one (i:=5) rfl (by decide) (by kernel_rfl) (by rfl) (fun K hK=>?_)
  go_wp2_with (go_at_call 102;refine (Disk.clone25 kx rs[k].1 wd ((HT2.out.1.own HRW.out.2.1).seg.grown G0.out) (by have:=HRW.out.2.2.2.1;omega)).mono ?_)
  rintro e w3 ⟨x3,rfl,ox,g3⟩
  have H3:Hid (W2.grownBy w3 none/\Disk.Own w3 W1.heap.size x3 rs[k].1):=⟨grown_trans G0.out g3,ox.mono (by have:=G0.out.size;have:=HT2.out.2.1;omega)⟩
  clear ox g3
  go_wp2_with fail
  refine hK.out _ _ (fun _=>H3.out.1) ?_
  clear hK K
  try simp only [pN]
  refine wpHoldY_one (i:=10) rfl (by decide) (by kernel_rfl) (by rfl) (fun K hK=>?_)
  go_wp2_with (go_at_call 102;refine (Disk.clone25 vx rs[k].2 w3 ((HT2.out.1.own HRW.out.2.2.1).seg.grown H3.out.1) (by have:=HRW.out.2.2.2.2;omega)).mono ?_)
  rintro e w4 ⟨y4,rfl,oy,g4⟩
  have H4:Hid (W2.grownBy w4 none/\Disk.Own w4 W1.heap.size x3 rs[k].1/\Disk.Own w4 W1.heap.size y4 rs[k].2):=⟨grown_trans H3.out.1 g4,H3.out.2.grown g4,oy.mono (by have:=H3.out.1.size;have:=HT2.out.2.1;omega)⟩
  clear oy g4 H3
  go_wp2_with fail
  refine hK.out _ _ (fun _=>H4.out.1) ?_
  clear hK K
  try simp only [pN]
  refine wpHoldY_z (by kernel_rfl) ?_
  show wpOpIn _ _ _ _ _ 11 _ _ _
  have HXT:Hid (Xt rs k W1 w4 #[x3,y4]):=⟨hkr,x3,y4,rfl,H4.out.2.1,H4.out.2.2⟩
  have HTN:Hid (Tn W.heap.size W1 w4):=HT2.out.1.trans (Tn.of_grown H4.out.1)
  have HYY:=HY.out k (k+1) G W1 w4 #[x3,y4] HI.out.1 (by have:=HI.out.2.2.2.1;have:=HB3.out.2.1.size;omega) HTN.out ⟨rfl,hkr,HXT.out⟩
  have keep:∀W',KeptG n1 W.heap.size Fw G #[x3,y4] w4 W'->(W'.heap[Wb.heap.size]? = W2.heap[Wb.heap.size]?/\W'.heap[Wb.heap.size+1]? = W2.heap[Wb.heap.size+1]?)/\KeptG Wb.heap.size (Wb.heap.size+2) (fun i=>Fw i\/n1<=i/\i<W.heap.size) G #[.int .i64 ix,.pointer (some ⟨q,0,none⟩)] W1 W'/\Blk W' b3 130 #[.func (.yield l) #[] #[]]/\AtsIn W' (fun k=>k<n1/\¬Fw k) qs rs/\Wb.heap.size<=W'.heap.size:=by
   intro W' hkp
   have z1:=HB3.out
   have z2:=HT2.out
   have z3:=H4.out.1.size
   have z4:=HI.out.2.2.2
   have z5:=HS.out.1
   have z6:=z1.2.1.size
   have hnh:∀i,i<W1.heap.size->¬HandA #[x3,y4] i:=by
    rintro i hi (⟨u,hu,hb⟩ | ⟨c,u,hc,_,_⟩)
    ·simp at hu
     rcases hu with rfl | rfl
     ·have:=(H4.out.2.1.lt i hb).1;omega
     ·have:=(H4.out.2.2.lt i hb).1;omega
    ·obtain ⟨_,_,e3⟩:=H4.out.2.1.seg.shape
     obtain ⟨_,_,e4⟩:=H4.out.2.2.seg.shape
     rw [e3,e4] at hc
     simp at hc
   have hsame:∀i,i<W1.heap.size->(i<n1\/W.heap.size<=i)->¬Fw i->¬G i->W'.heap[i]? = W2.heap[i]?:=fun i hi hc hf hg=>(hkp.2 i (by omega) hc hf (hnh i hi) hg).trans (H4.out.1.block i (by omega) (by simp))
   have hnF:∀i,n1<=i->¬Fw i:=fun i hi hf=>by have:=HFW.out i hf;omega
   have hnG:∀i,i<Wb.heap.size+2->¬G i:=fun i hi hg=>by have:=HGG.out i hg;omega
   refine ⟨⟨hsame _ (by omega) (.inr (by omega)) (hnF _ (by omega)) (hnG _ (by omega)),hsame _ (by omega) (.inr (by omega)) (hnF _ (by omega)) (hnG _ (by omega))⟩,⟨by have:=hkp.1;omega,fun i hi hc hf _ hg=>?_⟩,?_,?_,by have:=hkp.1;omega⟩
   ·have hff:¬Fw i:=fun h=>hf (.inl h)
    have hcc:i<n1\/W.heap.size<=i:=by
     rcases Nat.lt_or_ge i n1 with h | h
     ·exact .inl h
     ·rcases Nat.lt_or_ge i W.heap.size with h2 | h2
      ·exact absurd (.inr ⟨h,h2⟩) hf
      ·exact .inr h2
    rw [hsame i hi hcc hff hg]
    exact z2.2.2 i (by omega)
   ·have hb2:=z2.1.blk HI.out.2.1
    exact hb2.same (hsame b3 (by omega) (.inr z1.1) (hnF _ (by omega)) (hnG _ (by omega)))
   ·exact (HI.out.2.2.1.tn z2.1).same fun i hi hlt=>hsame i (by omega) (.inl hi.1) hi.2 (hnG _ (by have:=hi.1;omega))
  refine yield_round (l':=l') HYY rfl rfl rfl rfl ?_
  rintro e W' (⟨rfl,G',hnew,hJ',hkept⟩ | ⟨rfl,hx,hkept⟩)
  ·refine ⟨_,rfl,?_⟩
   simp only [Act.put,List.setIfInBounds_toArray]
   have HK:Hid (J (k+1) G' W'/\KeptG n1 W.heap.size Fw G #[x3,y4] w4 W'/\NewG G G' W1 W'):=⟨hJ',hkept,fun i hi=>⟨by rcases (hnew i hi).1 with h | h;exact .inl h;exact .inr (by have:=H4.out.1.size;have:=HT2.out.2.1;omega),(hnew i hi).2⟩⟩
   clear hJ' hkept hnew HYY
   refine wpHoldY_one (i:=12) rfl (by decide) (by kernel_rfl) (by rfl) (fun K hK=>?_)
   go_wp2_with fail
   refine hK.out _ _ (fun h=>by simp at h) ?_
   clear hK K
   try simp only [pN]
   refine wpHoldY_done (by kernel_rfl) ?_
   refine wpIn_cond_false rfl (wpIn_skip ?_)
   have hh:=keep W' HK.out.2.1
   refine ⟨hh.1,G',HK.out.2.2,hh.2.1,HK.out.1,hh.2.2.1,hh.2.2.2.1,hh.2.2.2.2,fun i hi=>?_⟩
   rcases (HK.out.2.2 i hi).1 with h | h
   ·exact HGG.out i h
   ·have:=HI.out.2.2.2.2;omega
  ·refine ⟨_,rfl,?_⟩
   simp only [Act.put,List.setIfInBounds_toArray]
   have HXX:Hid (Jx W'/\KeptG n1 W.heap.size Fw G #[x3,y4] w4 W'):=⟨hx,hkept⟩
   clear hx HYY hkept
   refine wpHoldY_one (i:=12) rfl (by decide) (by kernel_rfl) (by rfl) (fun K hK=>?_)
   go_wp2_with fail
   refine hK.out _ _ (fun h=>by simp at h) ?_
   clear hK K
   try simp only [pN]
   refine wpHoldY_done (by kernel_rfl) ?_
   refine wpIn_cond_true rfl (wpIn_ret ?_)
   have hh:=keep W' HXX.out.2
   exact ⟨hh.1,hh.2.1,HXX.out.1⟩
theorem all45S (Fw:Nat->Prop)(Bt:Nat)(tv:Value)(is:Bool)(l:List PRow)(hg:Table.Good l)(w:World)(hb:Blk w Bt 92 #[tv])(f:Option Addr)(hf:Tf w tv is f l)(hrw:Table.RowsIn w (fun k=>k<w.heap.size/\¬Fw k) (.slice f l.length l.length) l)(hFw:∀i,Fw i->i<w.heap.size) :
  GivesN Tryz.prog 81 #[.pointer (some ⟨Bt,0,none⟩)] l.length (Xt l) Fw w:=by
 intro lp J Jx W hgW hJ hJx hY h0
 obtain ⟨n,hn⟩:∃n,l.length=n:=⟨_,rfl⟩
 rw [hn] at hrw
 have HT:Hid (Tf W tv is f l):=hf.grown hgW
 have HR:Hid (Table.RowsIn W (fun k=>k<w.heap.size/\¬Fw k) (.slice f n n) l):=hrw.grown hgW
 have HN:Hid (l.length=n):=hn
 have c0:=(hb.grown hgW (by simp)).cell 0
 simp at c0
 have HC:Hid (w.heap.size<=W.heap.size/\(∀i,Fw i->i<w.heap.size)):=⟨hgW.size,hFw⟩
 have HG:Hid (Table.Good l):=hg
 have HJ:Hid _:=hJ
 have HJX:Hid _:=hJx
 have HY:Hid _:=hY
 have H0:Hid (J 0 (fun _=>False) W):=h0
 clear hJ hJx hY h0 hb hFw hgW hg hn hf hrw
 show Calls Tryz.prog 81 #[.func (.yield lp) #[] #[],.pointer (some ⟨Bt,0,none⟩)] W _
 go_enter Tryz.func81,Tryz.ntmps81
 go_wp2_with fail
 refine (list35f tv is f l n HN.out W HT.out).mono ?_
 rintro e w1 ⟨rfl,hw⟩
 rw [hw]
 clear hw
 go_wp2_with fail
 refine (sall47 _ ⟨f,n,n,rfl⟩ W).mono ?_
 rintro e w2 ⟨rfl,hb2,g2⟩
 have H2:Hid (Blk w2 W.heap.size 123 #[.slice f n n]/\W.grownBy w2 none):=⟨hb2,g2⟩
 clear hb2 g2
 go_wp2_with fail
 obtain ⟨ps,hpin,hats⟩:=HR.out
 have hpl:ps.length=l.length:=hats.1
 refine (tell46S lp 108 W.heap.size w.heap.size (enters_of Tryz.func108 (by kernel_rfl) rfl) ps l (Xu ps) Fw J Jx W w2 ?_ HC.out.1 H2.out.2 hats ?_ ?_ HJ.out HJX.out HY.out HC.out.2 H0.out).mono ?_
 ·rintro k W0 W1 xs ⟨e1,h,e2⟩
  exact ⟨e1,h,_,e2⟩
 ·intro r hr
  have:=okP_len (HG.out.2.1 r hr)
  omega
 ·intro Wb hWb
  refine all68S _ W.heap.size (.slice f n n) ps Wb (H2.out.1.grown hWb (by simp)) ?_ (by rw [hpl];exact HG.out.2.2)
  refine ((hpin.grown H2.out.2).grown hWb).weak fun k h1 h2=>?_
  rintro (h3 | h3)
  ·exact h1.2 h3
  ·have:=h1.1;omega
 ·rintro e w3 ⟨⟨v,rfl⟩,hJJ⟩
  rw [hpl] at hJJ
  have H3:Hid ((∃s G,s=l.length/\J s G w3)\/Jx w3):=hJJ
  clear hJJ
  go_wp2_with fail
  exact ⟨rfl,_,results_none rfl _ _ _,⟨_,rfl⟩,H3.out⟩
end Go.Proofs.YtakmlhhapegpoaaGreat
