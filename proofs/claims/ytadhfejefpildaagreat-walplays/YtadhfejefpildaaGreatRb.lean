import Derived.Test.YtadhfejefpildaaGreatRa
import Derived.Test.YtadhfejefpildaaGreatFrameIt
set_option maxHeartbeats 4000000
set_option maxRecDepth 100000
namespace Go.Proofs.YtadhfejefpildaaGreat
open Go.RowKit Disk Table
theorem uo (Fw:Nat->Prop)(Bx:Nat)(v:Value)(L:List UInt8)(fs:Frame.Frs)(R:List UInt8)(w:World)(hb:Blk w Bx 23 #[v])(hs:Seg w v L)(hsc:Frame.Sc L fs R)(hL:L.length<=140737488355328)(hP:¬Fw Bx)(hPs:L≠[]->∀b off n c,v=.slice (some ⟨b,off,none⟩) n c->¬Fw b)(hFw:∀i,Fw i->i<w.heap.size) :
  jO Tryz.prog 108 #[.pointer (some ⟨Bx,0,none⟩)] fs.length (Frame.Xf fs) Fw w:=by
 intro l J Jx W hgW hJ hJx hY h0
 obtain ⟨ao,cap,hv⟩:=hs.shape
 subst hv
 obtain ⟨n,hn⟩:∃n,L.length=n:=⟨_,rfl⟩
 have HS:Hid (Seg W (.slice ao n cap) L/\Blk W Bx 23 #[.slice ao n cap]):=by
  refine ⟨by rw [<-hn];exact hs.grown hgW,?_⟩
  have:=hb.grown hgW (by simp)
  rw [hn] at this
  exact this
 have HN:Hid _:=hn
 have HSC:Hid _:=hsc
 have HY:Hid _:=hY
 have HJT:Hid _:=hJ
 have HSZ:Hid (w.heap.size<=W.heap.size/\Bx<w.heap.size/\(∀i,Fw i->i<w.heap.size)/\¬Fw Bx):=⟨hgW.size,hb.lt,hFw,hP⟩
 have HLT:Hid (L≠[]->∀b off n c,(.slice ao L.length cap:Value)=.slice (some ⟨b,off,none⟩) n c->b<w.heap.size):=fun hne b off n c e=>Frame.dK hs hne e
 have HPS:Hid _:=hPs
 have hcap:n<=cap/\cap<=9223372036854775807:=by
  obtain ⟨ao',cap',hv,h1,h2,h3,h4⟩:=hs
  simp at hv
  obtain ⟨rfl,rfl⟩:=hv
  unfold maxLen at h2
  exact ⟨by omega,by omega⟩
 have HJ:Hid (J 0 (fun _=>False) W):=h0
 rw [hn] at hL
 clear hn hs hb hsc hgW hY hPs h0 hJ hJx hFw hP
 show Calls Tryz.prog 108 #[.func (.yield l) #[] #[],.pointer (some ⟨Bx,0,none⟩)] W _
 go_enter Tryz.func108,Tryz.ntmps108
 refine wp_scope_straight ?_
 go_wp2_with fail
 refine wp_label ?_
 refine (‹∀(a:Act) (w:World),Code.wp Tryz.prog _ _ a w->_› _ _ ?_)
 go_wp2_with fail
 go_loopw [3] (fun p wr=>∃(k:Nat) (G:Nat->Prop),k<=fs.length/\p=.int .i64 ((Frame.flat (fs.take k)).length:Nat)/\J k G wr/\((∀i,G i->W.heap.size<=i/\i<wr.heap.size)/\W.heap.size<=wr.heap.size)/\Blk wr Bx 23 #[.slice ao n cap]/\Seg wr (.slice ao n cap) L) (fun p _=>n-(intOf p).toNat)
 case atStart=>exact ⟨0,fun _=>False,Nat.zero_le _,rfl,HJ.out,⟨fun _ h=>h.elim,Nat.le_refl _⟩,HS.out.2,HS.out.1⟩
 case round =>
  obtain ⟨k,G,hk,rfl,hJ,hg,hbx,hsg⟩:=hrel
  have c0:=hbx.cell 0
  simp at c0
  by_cases hlt:k<fs.length
  ·obtain ⟨hc1,hc2,hc3,hc4⟩:=HSC.out.at k hlt
   obtain ⟨pl,hpl⟩:∃pl,(Frame.flat (fs.take k)).length=pl:=⟨_,rfl⟩
   have HPL:Hid _:=hpl
   rw [HN.out] at hc4
   have HC:Hid (Frame.code (L.drop pl)=0/\((Frame.aW (L.drop pl):Nat):Int)=fs[k].1/\Frame.aG (L.drop pl)=fs[k].2):=by rw [<-hpl];exact ⟨hc1,hc2,hc3⟩
   rw [hpl] at hc4 ⊢
   have HF:Hid (((∀i,G i->W.heap.size<=i/\i<wr.heap.size)/\W.heap.size<=wr.heap.size)/\Blk wr Bx 23 #[.slice ao n cap]/\Seg wr (.slice ao n cap) L/\J k G wr):=⟨hg,hbx,hsg,hJ⟩
   clear hpl hc1 hc2 hc3 hg hbx hsg hJ
   have i1:(pl:Int)<(n:Int):=by omega
   have i2:(0:Int)<=(pl:Int):=by omega
   have i3:¬cap=pl:=by omega
   have i4:(pl:Int)<=(n:Int):=by omega
   have HD:Hid (Seg wr (.slice (Option.map (fun x=>x.add pl) ao) (n-pl) (cap-pl)) (L.drop pl)):=by
    have:=bC pl (by rw [HN.out];omega) (by rw [HN.out];exact HF.out.2.2.1:Seg wr (.slice ao L.length cap) L)
    rw [HN.out] at this
    exact this
   go_wp2_with fail
   refine (Frame.i8 _ (L.drop pl) _ HD.out).mono ?_
   rintro e w2 ⟨g2,_,hok⟩
   obtain ⟨u,rfl,ou⟩:=hok HC.out.1
   rw [HC.out.2.1]
   rw [HC.out.2.2] at ou
   obtain ⟨au,cu,hu⟩:=ou.seg.shape
   subst hu
   obtain ⟨kd,hkd⟩:∃kd,fs[k].1=kd:=⟨_,rfl⟩
   have HKD:Hid _:=hkd
   obtain ⟨m,hm⟩:∃m,fs[k].2.length=m:=⟨_,rfl⟩
   have HM:Hid _:=hm
   rw [hkd,hm]
   rw [hm] at hc4
   have G2:Hid (wr.grownBy w2 none/\Disk.Own w2 wr.heap.size (.slice au m cu) fs[k].2):=⟨g2,by rw [<-hm];exact ou⟩
   clear hkd hm g2 ou hok
   go_upto_region 4 with fail
   obtain ⟨W1,hW1⟩:∃W1,w2.alloc (.cells #[.int .i64 kd,.slice au m cu] 109)=W1:=⟨_,rfl⟩
   have HW:Hid (Blk W1 w2.heap.size 109 #[.int .i64 kd,.slice au m cu]/\w2.grownBy W1 none/\W1.heap.size=w2.heap.size+1):=by
    rw [<-hW1]
    exact ⟨heap_alloc_new _ _,World.grownBy_alloc _ _ _,by simp⟩
   rw [hW1]
   clear hW1
   have HX:Hid (wr.grownBy W1 none/\Frame.Xf fs k wr W1 #[.int .i64 pl,.agg #[.int .i64 kd,.slice au m cu]]):=by
    have h1:=HF.out.1
    have h2:=G2.out.1
    have h3:=HW.out
    refine ⟨aa h2 h3.2.1,hlt,.slice au m cu,by rw [HPL.out,HKD.out],G2.out.2.grown h3.2.1,fun b hb=>?_,?_⟩
    ·have:=(G2.out.2.lt b hb).2
     omega
    ·have:=h2.size
     omega
   have c0:=HW.out.1.cell 0
   have c1:=HW.out.1.cell 1
   simp at c0 c1
   refine (wpIn_wide (n:=0)).1 (wpIn_region_lit ?_)
   refine wpListIn_plain rfl fun K1 hK1=>Table.bM 0 ?_
   have HK1:Hid _:=hK1
   clear hK1
   go_wp2_with fail
   refine HK1.out _ _ ?_
   clear HK1 K1
   refine wpListIn_plain rfl fun K1 hK1=>Table.bM 0 ?_
   have HK1:Hid _:=hK1
   clear hK1
   go_wp2_with fail
   refine HK1.out _ _ ?_
   clear HK1 K1
   refine wpListIn_plain rfl fun K1 hK1=>Table.bM 0 ?_
   have HK1:Hid _:=hK1
   clear hK1
   go_wp2_with fail
   refine HK1.out _ _ ?_
   clear HK1 K1
   refine wpListIn_plain rfl fun K1 hK1=>Table.gF (HY.out k (k+1) G wr W1 _ HF.out.2.2.2 HF.out.1.2 (Tx.of_grown HX.out.1) ⟨rfl,hlt,HX.out.2⟩) rfl rfl rfl rfl ?_
   rintro e W' (⟨rfl,G',hnew,hJ',hkept⟩ | ⟨rfl,hx,_⟩)
   ·refine ⟨_,rfl,hK1 _ _ ?_⟩
    clear hK1 K1
    simp only [Act.put,List.setIfInBounds_toArray,List.set_cons_zero,List.set_cons_succ]
    refine wpListIn_plain rfl fun K1 hK1=>Table.bM 0 ?_
    have HK1:Hid _:=hK1
    clear hK1
    go_wp2_with fail
    refine HK1.out _ _ ?_
    clear HK1 K1
    refine wpListIn_plain rfl fun K1 hK1=>Table.bM 0 ?_
    have HK1:Hid _:=hK1
    clear hK1
    go_wp2_with fail
    refine HK1.out _ _ ?_
    clear HK1 K1
    refine wpListIn_nil ?_
    refine (‹∀(a:Act) (w:World),Code.wp Tryz.prog _ _ a w->_› _ _ ?_)
    have HK:Hid (J (k+1) G' W'/\Blk W' w2.heap.size 109 #[.int .i64 kd,.slice au m cu]/\Blk W' Bx 23 #[.slice ao n cap]/\Seg W' (.slice ao n cap) L/\(∀i,G' i->W.heap.size<=i/\i<W'.heap.size)/\W.heap.size<=W'.heap.size):=by
     have gg:=aa G2.out.1 HW.out.2.1
     have hb1:=HF.out.2.1.grown gg (by simp)
     have hs1:=HF.out.2.2.1.grown gg
     have s1:=HF.out.1
     have s2:=HSZ.out
     have s3:=G2.out.1.size
     have s4:=HW.out.2.2
     have hhand:∀i,kC #[.int .i64 pl,.agg #[.int .i64 kd,.slice au m cu]] i->wr.heap.size<=i/\i<w2.heap.size:=by
      rintro i (⟨u,hu,hb⟩ | ⟨c,u,hc,hu,hb⟩)
      ·simp at hu
       rcases hu with rfl | rfl <;> simp [Value.ownBlock] at hb
      ·simp at hc
       subst hc
       simp at hu
       rcases hu with rfl | rfl
       ·simp [Value.ownBlock] at hb
       ·exact G2.out.2.lt i hb
     have hlow:∀i,i<w.heap.size->¬Fw i->W'.heap[i]? = W1.heap[i]?:=fun i h1 h2=>hkept.2 i (by omega) (.inl h1) h2 (fun h=>by have:=hhand i h;omega) (fun h=>by have:=s1.1 i h;omega)
     refine ⟨hJ',HW.out.1.same (hkept.2 _ (by omega) (.inr (by omega)) (fun h=>by have:=s2.2.2.1 _ h;omega) (fun h=>by have:=hhand _ h;omega) (fun h=>by have:=s1.1 _ h;omega)),hb1.same (hlow _ s2.2.1 s2.2.2.2),Frame.mg hs1 fun hne b off n' c' e hb=>hlow b (HLT.out hne b off n' c' (by rw [HN.out];exact e)) (HPS.out hne b off n' c' (by rw [HN.out];exact e)),fun i hi=>⟨?_,(hnew i hi).2⟩,by have:=hkept.1;omega⟩
     rcases (hnew i hi).1 with h | h
     ·exact (s1.1 i h).1
     ·omega
    clear hJ' hkept hnew
    have d1:=HK.out.2.1.cell 1
    simp at d1
    go_wp2_with fail
    refine (Frame.kX _ m _ _ (by omega)).mono ?_
    rintro e wx ⟨rfl,hx⟩
    subst hx
    have HP:Hid ((Frame.flat (fs.take (k+1))).length=pl+(9+m)):=by unfold Hid;rw [Frame.cx fs k hlt,HPL.out,HM.out]
    go_wp2_with fail
    go_roundw
    case rel=>exact ⟨k+1,G',by omega,by rw [HP.out];go_num,HK.out.1,HK.out.2.2.2.2,HK.out.2.2.1,HK.out.2.2.2.1⟩
    case measure=>simp [intOf];omega
   ·refine ⟨_,rfl,hK1 _ _ ?_⟩
    clear hK1 K1
    simp only [Act.put,List.setIfInBounds_toArray,List.set_cons_zero,List.set_cons_succ]
    refine wpListIn_plain rfl fun K1 hK1=>Table.bM 0 ?_
    have HK1:Hid _:=hK1
    clear hK1
    go_wp2_with fail
    refine HK1.out _ _ ?_
    clear HK1 K1
    refine wpListIn_plain rfl fun K1 hK1=>Table.bM 0 ?_
    have HK1:Hid _:=hK1
    clear hK1
    go_wp2_with fail
    refine HK1.out _ _ ?_
    clear HK1 K1
    refine wpListIn_nil ?_
    refine (‹∀(a:Act) (w:World),Code.wp Tryz.prog _ _ a w->_› _ _ ?_)
    have HXX:Hid (Jx W'):=hx
    clear hx
    go_wp2_with fail
    exact ⟨rfl,_,results_none rfl _ _ _,⟨_,rfl⟩,.inr HXX.out⟩
  ·have e:k=fs.length:=by omega
   subst e
   rw [List.take_length] at *
   have hend:=HSC.out.end
   have hlen:=HSC.out.len
   rw [HN.out] at hlen
   have hlast:=HSC.out.last
   obtain ⟨pl,hpl⟩:∃pl,(Frame.flat fs).length=pl:=⟨_,rfl⟩
   rw [hpl] at hend hlen ⊢
   have HF:Hid (Seg wr (.slice ao n cap) L/\J fs.length G wr):=⟨hsg,hJ⟩
   clear hg hbx hsg hJ hpl
   by_cases hR:R=[]
   ·have i1:¬(pl:Int)<(n:Int):=by rw [hR] at hlen;simp at hlen;omega
    go_wp2_with fail
    exact ⟨rfl,_,results_none rfl _ _ _,⟨_,rfl⟩,.inl ⟨G,HF.out.2⟩⟩
   ·have hR0:0<R.length:=List.length_pos_iff.2 hR
    have i1:(pl:Int)<(n:Int):=by omega
    have i2:(0:Int)<=(pl:Int):=by omega
    have i3:¬cap=pl:=by omega
    have i4:(pl:Int)<=(n:Int):=by omega
    have HC:Hid (Frame.code (L.drop pl)≠0):=by unfold Hid;rw [hend];exact hlast hR
    have HD:Hid (Seg wr (.slice (Option.map (fun x=>x.add pl) ao) (n-pl) (cap-pl)) (L.drop pl)):=by
     have:=bC pl (by rw [HN.out];omega) (by rw [HN.out];exact HF.out.1:Seg wr (.slice ao L.length cap) L)
     rw [HN.out] at this
     exact this
    clear hend hlast hlen
    go_wp2_with fail
    refine (Frame.i8 _ (L.drop pl) _ HD.out).mono ?_
    rintro e w2 ⟨g2,hbad,_⟩
    have he:=hbad HC.out
    subst he
    obtain ⟨c,hc⟩:∃c,Frame.code (L.drop pl)=c:=⟨_,rfl⟩
    have hci:¬(c:Int)=0:=by have:=HC.out;omega
    rw [hc]
    have G2:Hid (wr.grownBy w2 none):=g2
    clear hc hbad g2
    go_wp2_with fail
    exact ⟨rfl,_,results_none rfl _ _ _,⟨_,rfl⟩,.inl ⟨_,G,rfl,HJT.out _ _ _ _ HF.out.2 (Tx.of_grown (aa G2.out (World.grownBy_alloc _ _ _)))⟩⟩
end Go.Proofs.YtadhfejefpildaaGreat
