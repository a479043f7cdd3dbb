import Derived.Test.YtncbdhdfemidlaaGreatOa
import Derived.Test.YtncbdhdfemidlaaGreatNh
set_option maxHeartbeats 4000000
set_option maxRecDepth 100000
namespace Go.Proofs.YtncbdhdfemidlaaGreat
open Go.RowKit Disk
open _root_.Go.Proofs.YtncbdhdfemidlaaGreat.Calls _root_.Go.Proofs.YtncbdhdfemidlaaGreat.Command
theorem own_far {w w':World}{B g:Nat}{v:Value}{L:Bs}(h:Own w B v L)(hg:w.grownBy w' (some g))(hB:g<B):Own w' B v L :=
 h.same fun k hk=>hg.block k (h.lt k hk).2 (fun e=>by have:=(h.lt k hk).1;simp at e;omega)
theorem cut_far {w w':World}{B g:Nat}{v:Value}{L:Bs}(h:Names.Cut w B v L)(hg:w.grownBy w' (some g))(hB:g<B):Names.Cut w' B v L:=by
 rcases h with h | ⟨q,cap,rfl,h⟩
 ·exact .inl (own_far h hg hB)
 ·exact .inr ⟨q,cap,rfl,own_far h hg hB⟩
theorem opsOwn_far {w w':World}{B g:Nat}{v:Value}{l:List POp}(h:OpsOwn w B v l)(hg:w.grownBy w' (some g))(hB:g<B):OpsOwn w' B v l:=by
 obtain ⟨⟨vs,h1,h2,h3,h4⟩,hl⟩:=h
 refine ⟨⟨vs,h1.kept hg ?_,h2,h3,fun j hj hj'=>?_⟩,hl⟩
 ·cases hv:v.ownBlock with
  | none=>simp
  | some k =>
   refine .inr fun e=>?_
   have:=(World.ownsRow.lt h1 k hv).1
   simp at e
   omega
 ·obtain ⟨a,b,c,d,e,h⟩:=h4 j hj hj'
  exact ⟨a,b,c,d,e,cut_far h.key hg hB,cut_far h.value hg hB,cut_far h.old hg hB,cut_far h.tos hg hB,h.fits⟩
theorem mb_far {w w':World}{g X:Nat}{ov av:Value}{m:PMsg}(h:MB w X ov av m)(hg:w.grownBy w' (some g))(hB:g<X):MB w' X ov av m:=h.but hg (by omega)
theorem reads4 (HG:ReadGood)(v:Value)(L:Bs)(w:World)(hs:Seg w v L)(hz:L.length<=140737488354304):Calls Tryz.prog 4 #[v] w fun e w'=>e=.returned (.bool true)/\w.grownBy w' none:=by
 obtain ⟨lo,ln,lc,rfl⟩:=isSl_seg hs
 have HS:Hid (Seg w (.slice lo ln lc) L/\L.length<=140737488354304/\ReadGood):=⟨hs,hz,HG⟩
 clear hs hz HG
 go_enter Tryz.func4,Tryz.ntmps4
 go_wp2_with fail
 refine (lent6 (.slice lo ln lc) L w HS.out.1 (by have:=HS.out.2.1;omega)).mono ?_
 rintro e w1 ⟨u,rfl,hu,hg⟩
 obtain ⟨g,gc,hue,_⟩:=id hu
 obtain ⟨gn,hgn⟩:∃y,L.length=y:=⟨_,rfl⟩
 rw [hgn] at hue
 subst hue
 have H1:Hid (Lent w1 w.heap.size (.slice (some ⟨g,0,none⟩) gn gc) L/\w.grownBy w1 none/\w.heap.size<=g/\g<w1.heap.size):=⟨hu,hg,hu.lt g rfl⟩
 clear hu hg hgn
 go_wp2_with fail
 refine (read18 HS.out.2.2 (.slice (some ⟨g,0,none⟩) gn gc) L w1 H1.out.1.seg HS.out.2.1).mono ?_
 rintro e w2 ⟨ov,av,rfl,ho,ha,hg⟩
 obtain ⟨ao,n,ca,rfl⟩:=isSl_ow ho
 obtain ⟨bo,p,cb,rfl⟩:=isSl_on ha
 obtain ⟨r,hr⟩:∃y,(readM L).1=y:=⟨_,rfl⟩
 obtain ⟨er,her⟩:∃y,(readM L).2=y:=⟨_,rfl⟩
 have HRM:Hid (readM L=(r,er)):=Prod.ext hr her
 rw [hr] at ho ha ⊢
 rw [her]
 clear hr her
 unfold msgV
 go_upto_region 3 with fail
 obtain ⟨W2,hW2,HW2⟩:=boxM w2 ao n ca bo p cb r
 rw [hW2]
 obtain ⟨q1,hq1⟩:∃y,w2.heap.size=y:=⟨_,rfl⟩
 rw [hq1] at HW2 ⊢
 have gg:=grown_trans hg HW2.out.2.1
 have H2:Hid (Lent W2 w.heap.size (.slice (some ⟨g,0,none⟩) gn gc) L/\w.grownBy W2 none/\MB W2 q1 (.slice ao n ca) (.slice bo p cb) r/\OpsOwn W2 w1.heap.size (.slice ao n ca) r.ask.ops/\Own W2 w1.heap.size (.slice bo p cb) r.tell.answer/\w1.heap.size<=q1/\q1<W2.heap.size):=⟨H1.out.1.same (fun k hk=>gg.block k (H1.out.1.lt k hk).2 (by simp)),grown_trans H1.out.2.1 gg,HW2.out.1,ho.grown HW2.out.2.1,ha.grown HW2.out.2.1,by rw [<-hq1];exact hg.size,HW2.out.1.lt⟩
 clear gg hW2 hq1 HW2 ho ha hg
 go_wp2_with fail
 refine (read20 (.slice lo ln lc) L W2 (HS.out.1.grown H2.out.2.1) HS.out.2.1).mono ?_
 rintro e w3 ⟨ov,av,rfl,ho,ha,hg⟩
 rw [HRM.out] at ho ha ⊢
 dsimp only at ho ha ⊢
 obtain ⟨ao2,n2,ca2,rfl⟩:=isSl_ow ho
 obtain ⟨bo2,p2,cb2,rfl⟩:=isSl_on ha
 unfold msgV
 go_upto_region 4 with fail
 obtain ⟨W3,hW3,HW3⟩:=boxM w3 ao2 n2 ca2 bo2 p2 cb2 r
 rw [hW3]
 obtain ⟨q2,hq2⟩:∃y,w3.heap.size=y:=⟨_,rfl⟩
 rw [hq2] at HW3 ⊢
 have gg:=grown_trans hg HW3.out.2.1
 have H3:Hid (Lent W3 w.heap.size (.slice (some ⟨g,0,none⟩) gn gc) L/\w.grownBy W3 none/\MB W3 q1 (.slice ao n ca) (.slice bo p cb) r/\OpsOwn W3 w1.heap.size (.slice ao n ca) r.ask.ops/\Own W3 w1.heap.size (.slice bo p cb) r.tell.answer/\w1.heap.size<=q1/\MB W3 q2 (.slice ao2 n2 ca2) (.slice bo2 p2 cb2) r/\OpsOwn W3 W2.heap.size (.slice ao2 n2 ca2) r.ask.ops/\Own W3 W2.heap.size (.slice bo2 p2 cb2) r.tell.answer/\q1<q2/\q1<W2.heap.size):=⟨H2.out.1.same (fun k hk=>gg.block k (H2.out.1.lt k hk).2 (by simp)),grown_trans H2.out.2.1 gg,H2.out.2.2.1.grown gg,H2.out.2.2.2.1.grown gg,H2.out.2.2.2.2.1.grown gg,H2.out.2.2.2.2.2.1,HW3.out.1,ho.grown HW3.out.2.1,ha.grown HW3.out.2.1,by have h1:=hg.size;have h2:=H2.out.2.2.2.2.2.2;omega,H2.out.2.2.2.2.2.2⟩
 clear gg hW3 hq2 HW3 ho ha hg H2
 go_wp2_with fail
 refine (left12 (.slice (some ⟨g,0,none⟩) gn gc) (.slice lo ln lc) w.heap.size L W3 H3.out.1 (HS.out.1.grown H3.out.2.1) (by have:=HS.out.2.1;omega)).mono ?_
 rintro e w4 ⟨rfl,hg⟩
 have HLT:Hid (Own w4 w.heap.size (.slice (some ⟨g,0,none⟩) gn gc) L):=(Lent.own H3.out.1).grown hg
 have H4:Hid (w.grownBy w4 none/\MB w4 q1 (.slice ao n ca) (.slice bo p cb) r/\OpsOwn w4 w1.heap.size (.slice ao n ca) r.ask.ops/\Own w4 w1.heap.size (.slice bo p cb) r.tell.answer/\w1.heap.size<=q1/\MB w4 q2 (.slice ao2 n2 ca2) (.slice bo2 p2 cb2) r/\OpsOwn w4 W2.heap.size (.slice ao2 n2 ca2) r.ask.ops/\Own w4 W2.heap.size (.slice bo2 p2 cb2) r.tell.answer/\q1<q2/\q1<W2.heap.size):=⟨grown_trans H3.out.2.1 hg,H3.out.2.2.1.grown hg,H3.out.2.2.2.1.grown hg,H3.out.2.2.2.2.1.grown hg,H3.out.2.2.2.2.2.1,H3.out.2.2.2.2.2.2.1.grown hg,H3.out.2.2.2.2.2.2.2.1.grown hg,H3.out.2.2.2.2.2.2.2.2.1.grown hg,H3.out.2.2.2.2.2.2.2.2.2⟩
 clear hg H3
 go_wp2_with fail
 refine (over14 w.heap.size (.slice (some ⟨g,0,none⟩) gn gc) L w4 HLT.out (by have:=HS.out.2.1;omega)).mono ?_
 rintro e w5 ⟨rfl,hg',_⟩
 have hg:w4.grownBy w5 (some g):=hg'
 have H5:Hid (w.grownBy w5 none/\MB w5 q1 (.slice ao n ca) (.slice bo p cb) r/\OpsOwn w5 w1.heap.size (.slice ao n ca) r.ask.ops/\Own w5 w1.heap.size (.slice bo p cb) r.tell.answer/\MB w5 q2 (.slice ao2 n2 ca2) (.slice bo2 p2 cb2) r/\OpsOwn w5 W2.heap.size (.slice ao2 n2 ca2) r.ask.ops/\Own w5 W2.heap.size (.slice bo2 p2 cb2) r.tell.answer):=by
  have a1:=H1.out.2.2.1
  have a2:=H1.out.2.2.2
  have a3:=H4.out.2.2.2.2.1
  have a4:=H4.out.2.2.2.2.2.2.2.2
  exact ⟨grown_new H4.out.1 hg (by intro x hx;simp at hx;omega),mb_far H4.out.2.1 hg (by omega),opsOwn_far H4.out.2.2.1 hg (by omega),own_far H4.out.2.2.2.1 hg (by omega),mb_far H4.out.2.2.2.2.2.1 hg (by omega),opsOwn_far H4.out.2.2.2.2.2.2.1 hg (by omega),own_far H4.out.2.2.2.2.2.2.2.1 hg (by omega)⟩
 clear hg hg' H4 HLT H1
 obtain ⟨c0,c1,c2,c3,c4,c5,c6,c7,c8,c9,c10,c11,c12⟩:=H5.out.2.1.cells
 obtain ⟨d0,d1,d2,d3,d4,d5,d6,d7,d8,d9,d10,d11,d12⟩:=H5.out.2.2.2.2.1.cells
 have qe:(er != er)=false:=by simp
 go_wp2_with fail
 refine (same16m (.slice ao n ca) (.slice bo p cb) (.slice ao2 n2 ca2) (.slice bo2 p2 cb2) r r w5 (OpsOwn.ops H5.out.2.2.1) H5.out.2.2.2.1.seg (OpsOwn.ops H5.out.2.2.2.2.2.1) H5.out.2.2.2.2.2.2.seg).mono ?_
 rintro e w6 ⟨rfl,hg⟩
 rw [decide_eq_true rfl]
 have H6:Hid (w.grownBy w6 none/\MB w6 q1 (.slice ao n ca) (.slice bo p cb) r/\OpsOwn w6 w1.heap.size (.slice ao n ca) r.ask.ops/\Own w6 w1.heap.size (.slice bo p cb) r.tell.answer):=⟨grown_trans H5.out.1 hg,H5.out.2.1.grown hg,H5.out.2.2.1.grown hg,H5.out.2.2.2.1.grown hg⟩
 clear hg H5 qe c0 c1 c2 c3 c4 c5 c6 c7 c8 c9 c10 c11 c12 d0 d1 d2 d3 d4 d5 d6 d7 d8 d9 d10 d11 d12
 rcases readM_cases L with ⟨h1,h2,h3,h4⟩ | h
 rotate_left
 ·rw [HRM.out,Prod.mk.injEq] at h
  obtain ⟨_,rfl⟩:=h
  go_wp2_with fail
  refine (known17 HS.out.2.2 w6).mono ?_
  rintro e w7 ⟨rfl,hg⟩
  go_wp2_with fail
  go_ret
  exact ⟨rfl,grown_trans H6.out.1 hg⟩
 rw [HRM.out] at h1 h2 h3 h4
 dsimp only at h1 h2 h3 h4
 subst h1
 have HOK:Hid (okM r=true/\L=formM r/\InM r):=⟨h2,h3,h4⟩
 clear h2 h3 h4
 obtain ⟨c0,c1,c2,c3,c4,c5,c6,c7,c8,c9,c10,c11,c12⟩:=H6.out.2.1.cells
 go_wp2_with fail
 refine (bytes9 (.slice ao n ca) (.slice bo p cb) r w6 (OpsOwn.ops H6.out.2.2.1) H6.out.2.2.2.seg (by
  have h1:=HS.out.2.1
  have h2:r.tell.answer.length<=L.length:=(pMsg_in (L:=L) (r:=r) (by
   have h:=HRM.out
   unfold readM at h
   cases hp:pMsg L with
   | none=>rw [hp] at h;simp at h
   | some y =>
    rw [hp] at h
    dsimp only at h
    split at h
    ·simp at h;rw [h]
    ·simp at h)).2
  omega) HOK.out.2.2).mono ?_
 rintro e w7 ⟨c,rfl,hc,hg⟩
 rw [show errM r=0 by unfold errM;rw [HOK.out.1];rfl]
 rw [if_pos HOK.out.1,<-HOK.out.2.1] at hc
 obtain ⟨xo,xn,xc,hxs⟩:=isSl_on hc
 subst hxs
 have cv1:=seg_str hc.seg
 have cv2:=seg_str (HS.out.1.grown (grown_trans H6.out.1 hg))
 have H7:Hid (w.grownBy w7 none):=grown_trans H6.out.1 hg
 clear hg hc c0 c1 c2 c3 c4 c5 c6 c7 c8 c9 c10 c11 c12
 go_wp2_with fail
 refine (known17 HS.out.2.2 w7).mono ?_
 rintro e w8 ⟨rfl,hg⟩
 go_wp2_with fail
 go_ret
 exact ⟨rfl,grown_trans H7.out hg⟩
end Go.Proofs.YtncbdhdfemidlaaGreat
