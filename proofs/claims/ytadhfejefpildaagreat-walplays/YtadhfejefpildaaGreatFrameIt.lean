import Derived.Test.YtadhfejefpildaaGreatFrmAll
import Derived.Test.YtadhfejefpildaaGreatFrameRF
import Derived.Scope
set_option maxHeartbeats 4000000
set_option maxRecDepth 100000
namespace Go.Proofs.YtadhfejefpildaaGreat.Frame
open Go.RowKit Disk
section
variable {P:Program} {o:Oper} {a:Act} {w:World} {next:Act->World->Prop} {Q:Exit->Act->World->Prop}
theorem bM (n:Nat)(h:o.wp P a w next Q):o.wpIn Fence.wide n P a w next Q:=by
 refine ⟨fun _ _=>trivial,?_⟩
 rw [Fence.wide_round,Oper.semAt_none]
 unfold Oper.wp at h
 generalize (execOp a.eval o).run P w=r at *
 cases r with
 | ok x w' =>
  cases x with
  | enter f args=>exact ⟨fun e=>by simp [Fence.wide] at e,callsIn_wide.2 h⟩
  | row row args=>exact ⟨fun e=>by simp [Fence.wide] at e,eT h⟩
  | value v=>exact h
  | skip=>exact h
  | defer d=>exact h
  | _=>exact h.elim
 | halt x w' =>
  cases x with
  | panic v=>exact h
  | _=>exact h.elim
theorem gF {l:Nat}{f:Operand}{xs ys:Operand}{x y:Value}{ts:Array TypeId}{R:Ending->World->Prop}(hy:YieldAt Fence.wide 0 P l #[x,y] w R)(ho:o.op=.call { callee:=.value f,args:=#[xs,ys],argTypes:=ts })(hf:a.eval f=.func (.yield l) #[] #[])(hx:a.eval xs=x)(hys:a.eval ys=y)
  (h:∀e w',R e w'->∃v,e=.returned v/\next (a.put o.dst v) w'):o.wpIn Fence.wide 0 P a w next Q:=by
 obtain ⟨fn,tmps,assign,body,hr,hR⟩:=hy
 refine ⟨fun _ _=>trivial,?_⟩
 rw [Fence.wide_round,Oper.semAt_none]
 have e:(execOp a.eval o).run P w=.ok (.round l fn tmps assign body) w:=by
  simp only [execOp,ho,resolve,invoke,Sem.run_bind,List.map_toArray,List.map_cons,List.map_nil,hf,hx,hys]
  exact hr
 rw [e,Oper.uponIn_round]
 refine ⟨fun e=>by simp [Fence.wide] at e,hR.mono ?_⟩
 intro e w' he
 obtain ⟨v,rfl,hn⟩:=h e w' he
 exact hn
end
theorem kX (ao:Option Addr)(n cap:Nat)(w:World)(hl:n<=140737488355328):Calls Tryz.prog 82 #[.slice ao n cap] w fun e w'=>e=.returned (.int .i64 (9+n:Nat))/\w'=w:=by
 go_enter Tryz.func82,Tryz.ntmps82
 go_wp2_with fail
 go_ret
 exact ⟨rfl,rfl⟩
def Xf (fs:Frs)(k:Nat)(W0 W1:World)(xs:Array Value):Prop :=
 ∃(h:k<fs.length) (u:Value),xs=#[.int .i64 ((flat (fs.take k)).length:Nat),.agg #[.int .i64 fs[k].1,u]]/\Disk.Own W1 W0.heap.size u fs[k].2/\(∀b,u.ownBlock=some b->b+1<W1.heap.size)/\W0.heap.size<W1.heap.size
theorem rY (Pb:Nat->Prop)(Bx:Nat)(v:Value)(L:List UInt8)(fs:Frs)(R:List UInt8)(w:World)(hb:Blk w Bx 23 #[v])(hs:Seg w v L)(hsc:Sc L fs R)(hL:L.length<=140737488355328)(hP:Pb Bx)(hPs:L≠[]->∀b off n c,v=.slice (some ⟨b,off,none⟩) n c->Pb b) :
  oP Tryz.prog 108 #[.pointer (some ⟨Bx,0,none⟩)] fs.length (Xf fs) Pb w:=by
 intro l J Jx W hgW hY h0
 obtain ⟨ao,cap,hv⟩:=hs.shape
 subst hv
 obtain ⟨n,hn⟩:∃n,L.length=n:=⟨_,rfl⟩
 have HS:Hid (Seg W (.slice ao n cap) L/\Blk W Bx 23 #[.slice ao n cap]):=by
  refine ⟨by rw [<-hn];exact hs.grown hgW,?_⟩
  have:=hb.grown hgW (by simp)
  rw [hn] at this
  exact this
 have HN:Hid _:=hn
 have HSC:Hid _:=hsc
 have HY:Hid _:=hY
 have HPS:Hid _:=hPs
 have hcap:n<=cap/\cap<=9223372036854775807:=by
  obtain ⟨ao',cap',hv,h1,h2,h3,h4⟩:=hs
  simp at hv
  obtain ⟨rfl,rfl⟩:=hv
  unfold maxLen at h2
  exact ⟨by omega,by omega⟩
 have HJ:Hid (J 0 W):=h0
 rw [hn] at hL
 clear hn hs hb hsc hgW hY hPs h0
 show Calls Tryz.prog 108 #[.func (.yield l) #[] #[],.pointer (some ⟨Bx,0,none⟩)] W _
 go_enter Tryz.func108,Tryz.ntmps108
 refine wp_scope_straight ?_
 go_wp2_with fail
 refine wp_label ?_
 refine (‹∀(a:Act) (w:World),Code.wp Tryz.prog _ _ a w->_› _ _ ?_)
 go_wp2_with fail
 go_loopw [3] (fun p wr=>∃(k:Nat) (W0:World),k<=fs.length/\p=.int .i64 ((flat (fs.take k)).length:Nat)/\J k W0/\W0.grownBy wr none/\Blk wr Bx 23 #[.slice ao n cap]/\Seg wr (.slice ao n cap) L) (fun p _=>n-(intOf p).toNat)
 case atStart=>exact ⟨0,W,Nat.zero_le _,rfl,HJ.out,aj _ _,HS.out.2,HS.out.1⟩
 case round =>
  obtain ⟨k,W0,hk,rfl,hJ,hg,hbx,hsg⟩:=hrel
  have c0:=hbx.cell 0
  simp at c0
  by_cases hlt:k<fs.length
  ·obtain ⟨hc1,hc2,hc3,hc4⟩:=HSC.out.at k hlt
   obtain ⟨pl,hpl⟩:∃pl,(flat (fs.take k)).length=pl:=⟨_,rfl⟩
   have HPL:Hid _:=hpl
   rw [HN.out] at hc4
   have HC:Hid (code (L.drop pl)=0/\((aW (L.drop pl):Nat):Int)=fs[k].1/\aG (L.drop pl)=fs[k].2):=by rw [<-hpl];exact ⟨hc1,hc2,hc3⟩
   rw [hpl] at hc4 ⊢
   have HF:Hid (W0.grownBy wr none/\Blk wr Bx 23 #[.slice ao n cap]/\Seg wr (.slice ao n cap) L/\J k W0):=⟨hg,hbx,hsg,hJ⟩
   clear hpl hc1 hc2 hc3 hg hbx hsg hJ
   have i1:(pl:Int)<(n:Int):=by omega
   have i2:(0:Int)<=(pl:Int):=by omega
   have i3:¬cap=pl:=by omega
   have i4:(pl:Int)<=(n:Int):=by omega
   have HD:Hid (Seg wr (.slice (Option.map (fun x=>x.add pl) ao) (n-pl) (cap-pl)) (L.drop pl)):=by
    have:=bC pl (by rw [HN.out];omega) (by rw [HN.out];exact HF.out.2.2.1:Seg wr (.slice ao L.length cap) L)
    rw [HN.out] at this
    exact this
   go_wp2_with fail
   refine (i8 _ (L.drop pl) _ HD.out).mono ?_
   rintro e w2 ⟨g2,_,hok⟩
   obtain ⟨u,rfl,ou⟩:=hok HC.out.1
   rw [HC.out.2.1]
   rw [HC.out.2.2] at ou
   obtain ⟨au,cu,hu⟩:=ou.seg.shape
   subst hu
   obtain ⟨kd,hkd⟩:∃kd,fs[k].1=kd:=⟨_,rfl⟩
   have HKD:Hid _:=hkd
   obtain ⟨m,hm⟩:∃m,fs[k].2.length=m:=⟨_,rfl⟩
   have HM:Hid _:=hm
   rw [hkd,hm]
   rw [hm] at hc4
   have G2:Hid (wr.grownBy w2 none/\Disk.Own w2 wr.heap.size (.slice au m cu) fs[k].2):=⟨g2,by rw [<-hm];exact ou⟩
   clear hkd hm g2 ou hok
   go_upto_region 4 with fail
   obtain ⟨W1,hW1⟩:∃W1,w2.alloc (.cells #[.int .i64 kd,.slice au m cu] 109)=W1:=⟨_,rfl⟩
   have HW:Hid (Blk W1 w2.heap.size 109 #[.int .i64 kd,.slice au m cu]/\w2.grownBy W1 none/\W1.heap.size=w2.heap.size+1):=by
    rw [<-hW1]
    exact ⟨heap_alloc_new _ _,World.grownBy_alloc _ _ _,by simp⟩
   rw [hW1]
   clear hW1
   have HX:Hid (W0.grownBy W1 none/\Xf fs k W0 W1 #[.int .i64 pl,.agg #[.int .i64 kd,.slice au m cu]]):=by
    have h1:=HF.out.1
    have h2:=G2.out.1
    have h3:=HW.out
    refine ⟨aa h1 (aa h2 h3.2.1),hlt,.slice au m cu,by rw [HPL.out,HKD.out],(G2.out.2.grown h3.2.1).mono h1.size,fun b hb=>?_,?_⟩
    ·have:=(G2.out.2.lt b hb).2
     omega
    ·have:=h1.size
     have:=h2.size
     omega
   have c0:=HW.out.1.cell 0
   have c1:=HW.out.1.cell 1
   simp at c0 c1
   refine (wpIn_wide (n:=0)).1 (wpIn_region_lit ?_)
   refine wpListIn_plain rfl fun K1 hK1=>bM 0 ?_
   have HK1:Hid _:=hK1
   clear hK1
   go_wp2_with fail
   refine HK1.out _ _ ?_
   clear HK1 K1
   refine wpListIn_plain rfl fun K1 hK1=>bM 0 ?_
   have HK1:Hid _:=hK1
   clear hK1
   go_wp2_with fail
   refine HK1.out _ _ ?_
   clear HK1 K1
   refine wpListIn_plain rfl fun K1 hK1=>bM 0 ?_
   have HK1:Hid _:=hK1
   clear hK1
   go_wp2_with fail
   refine HK1.out _ _ ?_
   clear HK1 K1
   refine wpListIn_plain rfl fun K1 hK1=>gF (HY.out k W0 W1 _ hlt HF.out.2.2.2 HX.out.1 HX.out.2) rfl rfl rfl rfl ?_
   rintro e W' (⟨rfl,hJ',hkept⟩ | ⟨rfl,hx⟩)
   ·refine ⟨_,rfl,hK1 _ _ ?_⟩
    clear hK1 K1
    simp only [Act.put,List.setIfInBounds_toArray,List.set_cons_zero,List.set_cons_succ]
    refine wpListIn_plain rfl fun K1 hK1=>bM 0 ?_
    have HK1:Hid _:=hK1
    clear hK1
    go_wp2_with fail
    refine HK1.out _ _ ?_
    clear HK1 K1
    refine wpListIn_plain rfl fun K1 hK1=>bM 0 ?_
    have HK1:Hid _:=hK1
    clear hK1
    go_wp2_with fail
    refine HK1.out _ _ ?_
    clear HK1 K1
    refine wpListIn_nil ?_
    refine (‹∀(a:Act) (w:World),Code.wp Tryz.prog _ _ a w->_› _ _ ?_)
    have HK:Hid (J (k+1) W'/\Blk W' w2.heap.size 109 #[.int .i64 kd,.slice au m cu]/\Blk W' Bx 23 #[.slice ao n cap]/\Seg W' (.slice ao n cap) L):=by
     have gg:=aa G2.out.1 HW.out.2.1
     have hb1:=HF.out.2.1.grown gg (by simp)
     have hs1:=HF.out.2.2.1.grown gg
     refine ⟨hJ',HW.out.1.same (hkept _ (.inr HW.out.2.2.symm) HW.out.1.lt),hb1.same (hkept _ (.inl hP) hb1.lt),mg hs1 fun hne b off n' c' e hb=>hkept b (.inl (HPS.out hne b off n' c' ?_)) hb⟩
     rw [HN.out]
     exact e
    clear hJ' hkept
    have d1:=HK.out.2.1.cell 1
    simp at d1
    go_wp2_with fail
    refine (kX _ m _ _ (by omega)).mono ?_
    rintro e wx ⟨rfl,hx⟩
    subst hx
    have HP:Hid ((flat (fs.take (k+1))).length=pl+(9+m)):=by unfold Hid;rw [cx fs k hlt,HPL.out,HM.out]
    go_wp2_with fail
    go_roundw
    case rel=>exact ⟨k+1,wx,by omega,by rw [HP.out];go_num,HK.out.1,aj _ _,HK.out.2.2.1,HK.out.2.2.2⟩
    case measure=>simp [intOf];omega
   ·refine ⟨_,rfl,hK1 _ _ ?_⟩
    clear hK1 K1
    simp only [Act.put,List.setIfInBounds_toArray,List.set_cons_zero,List.set_cons_succ]
    refine wpListIn_plain rfl fun K1 hK1=>bM 0 ?_
    have HK1:Hid _:=hK1
    clear hK1
    go_wp2_with fail
    refine HK1.out _ _ ?_
    clear HK1 K1
    refine wpListIn_plain rfl fun K1 hK1=>bM 0 ?_
    have HK1:Hid _:=hK1
    clear hK1
    go_wp2_with fail
    refine HK1.out _ _ ?_
    clear HK1 K1
    refine wpListIn_nil ?_
    refine (‹∀(a:Act) (w:World),Code.wp Tryz.prog _ _ a w->_› _ _ ?_)
    have HXX:Hid (Jx W'):=hx
    clear hx
    go_wp2_with fail
    exact ⟨rfl,_,results_none rfl _ _ _,⟨_,rfl⟩,.inr ⟨_,HXX.out,aj _ _⟩⟩
  ·have e:k=fs.length:=by omega
   subst e
   rw [List.take_length] at *
   have hend:=HSC.out.end
   have hlen:=HSC.out.len
   rw [HN.out] at hlen
   have hlast:=HSC.out.last
   obtain ⟨pl,hpl⟩:∃pl,(flat fs).length=pl:=⟨_,rfl⟩
   rw [hpl] at hend hlen ⊢
   have HF:Hid (W0.grownBy wr none/\Seg wr (.slice ao n cap) L/\J fs.length W0):=⟨hg,hsg,hJ⟩
   clear hg hbx hsg hJ hpl
   by_cases hR:R=[]
   ·have i1:¬(pl:Int)<(n:Int):=by rw [hR] at hlen;simp at hlen;omega
    go_wp2_with fail
    exact ⟨rfl,_,results_none rfl _ _ _,⟨_,rfl⟩,.inl ⟨_,HF.out.2.2,HF.out.1⟩⟩
   ·have hR0:0<R.length:=List.length_pos_iff.2 hR
    have i1:(pl:Int)<(n:Int):=by omega
    have i2:(0:Int)<=(pl:Int):=by omega
    have i3:¬cap=pl:=by omega
    have i4:(pl:Int)<=(n:Int):=by omega
    have HC:Hid (code (L.drop pl)≠0):=by unfold Hid;rw [hend];exact hlast hR
    have HD:Hid (Seg wr (.slice (Option.map (fun x=>x.add pl) ao) (n-pl) (cap-pl)) (L.drop pl)):=by
     have:=bC pl (by rw [HN.out];omega) (by rw [HN.out];exact HF.out.2.1:Seg wr (.slice ao L.length cap) L)
     rw [HN.out] at this
     exact this
    clear hend hlast hlen
    go_wp2_with fail
    refine (i8 _ (L.drop pl) _ HD.out).mono ?_
    rintro e w2 ⟨g2,hbad,_⟩
    have he:=hbad HC.out
    subst he
    obtain ⟨c,hc⟩:∃c,code (L.drop pl)=c:=⟨_,rfl⟩
    have hci:¬(c:Int)=0:=by have:=HC.out;omega
    rw [hc]
    have G2:Hid (wr.grownBy w2 none):=g2
    clear hc hbad g2
    go_wp2_with fail
    exact ⟨rfl,_,results_none rfl _ _ _,⟨_,rfl⟩,.inl ⟨_,HF.out.2.2,aa HF.out.1 (aa G2.out (World.grownBy_alloc _ _ _))⟩⟩
end Go.Proofs.YtadhfejefpildaaGreat.Frame
