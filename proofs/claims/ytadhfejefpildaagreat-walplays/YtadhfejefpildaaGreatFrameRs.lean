import Derived.Test.YtadhfejefpildaaGreatFsmAll
import Derived.Test.YtadhfejefpildaaGreatFrameSn
set_option maxHeartbeats 4000000
set_option maxRecDepth 100000
namespace Go.Proofs.YtadhfejefpildaaGreat.Frame
open Go.RowKit Disk
theorem pZ (v:Value)(L:List UInt8)(w:World)(hs:Seg w v L)(hL:L.length<=39582418599936):Calls Tryz.prog 48 #[v] w (mc L w):=by
 obtain ⟨ao,cap,hv⟩:=hs.shape
 subst hv
 obtain ⟨n,hn⟩:∃n,L.length=n:=⟨_,rfl⟩
 have HS:Hid (Seg w (.slice ao n cap) L):=by rw [<-hn];exact hs
 have HN:Hid _:=hn
 obtain ⟨fs,R,hsc⟩:=eU L.length L (Nat.le_refl _)
 have HSC:Hid _:=hsc
 have hcount:=hsc.count
 have hcap:n<=cap/\cap<=9223372036854775807:=by
  obtain ⟨ao',cap',hv,h1,h2,h3,h4⟩:=hs
  simp at hv
  obtain ⟨rfl,rfl⟩:=hv
  unfold maxLen at h2
  exact ⟨by omega,by omega⟩
 rw [hn] at hL hcount ⊢
 clear hn hs hsc
 go_enter Tryz.func48,Tryz.ntmps48
 go_wp2_with fail
 go_loopw [5,6] (fun l p wr=>∃(k:Nat) (vs:List Value),k<=fs.length/\p=.int .i64 ((flat (fs.take k)).length:Nat)/\FRow wr w.heap.size l vs (fs.take k)/\w.grownBy wr none) (fun _ p _=>n-(intOf p).toNat)
 case atStart=>exact ⟨0,[],Nat.zero_le _,rfl,mh _ _,aj _ _⟩
 case round =>
  obtain ⟨k,vs,hk,rfl,hR,hg⟩:=hrel
  by_cases hlt:k<fs.length
  ·obtain ⟨hc1,hc2,hc3,hc4⟩:=HSC.out.at k hlt
   have hkl:(fs.take k).length=k:=by rw [List.length_take];omega
   obtain ⟨al,cl,hvl⟩:=hR.shape
   rw [hkl] at hvl
   subst hvl
   obtain ⟨pl,hpl⟩:∃pl,(flat (fs.take k)).length=pl:=⟨_,rfl⟩
   have HPL:Hid _:=hpl
   rw [HN.out] at hc4
   obtain ⟨m,hm⟩:∃m,fs[k].2.length=m:=⟨_,rfl⟩
   have HM:Hid _:=hm
   obtain ⟨kd,hkd⟩:∃kd,fs[k].1=kd:=⟨_,rfl⟩
   have HKD:Hid _:=hkd
   have HC:Hid (code (L.drop pl)=0/\((aW (L.drop pl):Nat):Int)=kd/\aG (L.drop pl)=fs[k].2/\ba (L.drop pl)=m):=by
    rw [<-hpl,<-hkd]
    refine ⟨hc1,hc2,hc3,?_⟩
    rw [<-(cj (hZ hc1).1).1,hc3,hm]
   rw [hpl,hm] at hc4
   rw [hpl]
   have HF:Hid (w.grownBy wr none/\FRow wr w.heap.size (.slice al k cl) vs (fs.take k)):=⟨hg,hR⟩
   clear hpl hc1 hc2 hc3 hg hR hm hkd
   have i1:(pl:Int)<(n:Int):=by omega
   have i2:(0:Int)<=(pl:Int):=by omega
   have i3:¬cap=pl:=by omega
   have i4:(pl:Int)<=(n:Int):=by omega
   have HD:Hid (Seg wr (.slice (Option.map (fun x=>x.add pl) ao) (n-pl) (cap-pl)) (L.drop pl)):=by
    have:=bC pl (by rw [HN.out];omega) (by rw [HN.out];exact HS.out.grown HF.out.1:Seg wr (.slice ao L.length cap) L)
    rw [HN.out] at this
    exact this
   go_wp2_with fail
   refine (oX _ (L.drop pl) _ HD.out (by rw [List.length_drop,HN.out];omega)).mono ?_
   rintro e w2 ⟨g2,_,hok⟩
   obtain ⟨u,rfl,ou⟩:=hok HC.out.1
   rw [HC.out.2.1,HC.out.2.2.2]
   rw [HC.out.2.2.1] at ou
   obtain ⟨au,cu,hu⟩:=ou.seg.shape
   rw [HM.out] at hu
   subst hu
   have H2:Hid (wr.grownBy w2 none/\Disk.Own w2 wr.heap.size (.slice au m cu) fs[k].2):=⟨g2,ou⟩
   clear g2 ou hok
   go_upto_region 7 with fail
   have H3:Hid (Blk (w2.alloc (.cells #[.int .i64 kd,.slice au m cu] 109)) w2.heap.size 109 #[.int .i64 kd,.slice au m cu]/\wr.grownBy (w2.alloc (.cells #[.int .i64 kd,.slice au m cu] 109)) none/\Disk.Own (w2.alloc (.cells #[.int .i64 kd,.slice au m cu] 109)) wr.heap.size (.slice au m cu) fs[k].2):=⟨heap_alloc_new _ _,aa H2.out.1 (World.grownBy_alloc _ _ _),H2.out.2.grown (World.grownBy_alloc _ _ _)⟩
   generalize w2.alloc (.cells #[.int .i64 kd,.slice au m cu] 109)=w3 at H3 ⊢
   have c0:=H3.out.1.cell 0
   have c1:=H3.out.1.cell 1
   simp at c0 c1
   go_wp2_with (at_builtin;refine appF _ rfl (.tmp 27) (.tmp 29) rfl w.heap.size _ vs (fs.take k) k hkl kd (.slice au m cu) w3.heap.size rfl rfl ((HF.out.2.grown H3.out.2.1).grown (World.grownBy_alloc _ _ _)).row ?d0 ?d1 rfl ?d2 ?d3 ?_)
   case d0=>rw [cell_of_row _ _ _ _ _ _ (heap_alloc_new _ _)];rfl
   case d1=>rw [cell_of_row _ _ _ _ _ _ (heap_alloc_new _ _)];rfl
   case d2=>omega
   case d3=>have:=HF.out.1.size;have:=H3.out.2.1.size;simp;omega
   intro g' cap' w4 hrow hg4 hl4
   clear c0 c1
   have H4:Hid (FRow w4 w.heap.size (.slice (some ⟨g',0,none⟩) (k+1) cap') (vs ++ [.slice au m cu]) (fs.take (k+1))/\w.grownBy w4 none):=by
    have h3:=(HF.out.2.grown H3.out.2.1).grown (World.grownBy_alloc w3 (.cells #[.int .i64 kd,.slice au m cu] 109) none)
    refine ⟨?_,ah (aa (aa HF.out.1 H3.out.2.1) (World.grownBy_alloc w3 _ none)) hg4 (fun x hx=>(HF.out.2.lt (.inl hx)).1)⟩
    rw [List.take_succ_eq_append_getElem hlt]
    refine h3.snoc (f:=fs[k]) ((H3.out.2.2.grown (World.grownBy_alloc w3 _ none)).mono HF.out.1.size) ?_ hg4 ?_
    ·intro j hj a ha e
     have h1:=HF.out.2.lt (.inr ⟨j,hj,ha⟩)
     have h2:=(H3.out.2.2.lt a e).1
     omega
    ·rw [HKD.out,hkl]
     exact hrow
   clear hrow hg4 hl4
   have HP:Hid ((flat (fs.take (k+1))).length=pl+(9+m)):=by unfold Hid;rw [cx fs k hlt,HPL.out,HM.out]
   go_wp2_with fail
   go_roundw
   case rel=>exact ⟨k+1,_,by omega,by rw [HP.out];go_num,H4.out.1,H4.out.2⟩
   case measure=>simp [intOf];omega
  ·have e:k=fs.length:=by omega
   subst e
   rw [List.take_length] at *
   have hend:=HSC.out.end
   have hlen:=HSC.out.len
   rw [HN.out] at hlen
   have hlast:=HSC.out.last
   obtain ⟨al,cl,hvl⟩:=hR.shape
   subst hvl
   obtain ⟨pl,hpl⟩:∃pl,(flat fs).length=pl:=⟨_,rfl⟩
   have HPL:Hid _:=hpl
   rw [hpl] at hend hlen ⊢
   have HF:Hid (w.grownBy wr none/\FRow wr w.heap.size (.slice al fs.length cl) vs fs):=⟨hg,hR⟩
   clear hg hR hpl
   by_cases hR:R=[]
   ·have i1:¬(pl:Int)<(n:Int):=by rw [hR] at hlen;simp at hlen;omega
    have HE:Hid (ends R=0):=by unfold Hid ends;rw [if_pos hR]
    clear hR hend hlast hlen
    go_wp2_with fail
    refine bodyPost_ret (v:=.tuple #[.slice al fs.length cl,.int .i64 (pl:Int),.int .i64 0]) (by simp [results,Tryz.results48]) rfl ?_
    exact ⟨fs,R,_,vs,HSC.out,by rw [HPL.out,HE.out];rfl,HF.out.2,HF.out.1⟩
   ·have hR0:0<R.length:=List.length_pos_iff.2 hR
    have i1:(pl:Int)<(n:Int):=by omega
    have i2:(0:Int)<=(pl:Int):=by omega
    have i3:¬cap=pl:=by omega
    have i4:(pl:Int)<=(n:Int):=by omega
    have HC:Hid (code (L.drop pl)≠0/\code (L.drop pl)=ends R):=by
     unfold Hid ends
     rw [hend,if_neg hR]
     exact ⟨hlast hR,rfl⟩
    have HD:Hid (Seg wr (.slice (Option.map (fun x=>x.add pl) ao) (n-pl) (cap-pl)) (L.drop pl)):=by
     have:=bC pl (by rw [HN.out];omega) (by rw [HN.out];exact HS.out.grown HF.out.1:Seg wr (.slice ao L.length cap) L)
     rw [HN.out] at this
     exact this
    clear hend hlast hlen hR hR0
    go_wp2_with fail
    refine (oX _ (L.drop pl) _ HD.out (by rw [List.length_drop,HN.out];omega)).mono ?_
    rintro e w2 ⟨g2,hbad,_⟩
    have he:=hbad HC.out.1
    subst he
    obtain ⟨c,hc⟩:∃c,code (L.drop pl)=c:=⟨_,rfl⟩
    have hci:¬(c:Int)=0:=by have:=HC.out.1;omega
    have HE:Hid (ends R=c):=by rw [<-HC.out.2];exact hc
    rw [hc]
    have G2:Hid (wr.grownBy w2 none):=g2
    clear hc hbad g2
    go_wp2_with fail
    refine bodyPost_ret (v:=.tuple #[.slice al fs.length cl,.int .i64 (pl:Int),.int .i64 (c:Int)]) (by simp [results,Tryz.results48]) rfl ?_
    exact ⟨fs,R,_,vs,HSC.out,by rw [HPL.out,HE.out],HF.out.2.grown (aa G2.out (World.grownBy_alloc _ _ _)),aa HF.out.1 (aa G2.out (World.grownBy_alloc _ _ _))⟩
end Go.Proofs.YtadhfejefpildaaGreat.Frame
