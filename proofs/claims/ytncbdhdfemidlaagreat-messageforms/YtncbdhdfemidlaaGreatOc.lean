import Derived.Test.YtncbdhdfemidlaaGreatOb
set_option maxHeartbeats 8000000
set_option maxRecDepth 100000
namespace Go.Proofs.YtncbdhdfemidlaaGreat
open Go.RowKit Disk
open _root_.Go.Proofs.YtncbdhdfemidlaaGreat.Calls _root_.Go.Proofs.YtncbdhdfemidlaaGreat.Command
structure FS (w X:World)(m am tm:PMsg)(B1 q7 q9 q11 q12 bs:Nat)(ov av o7 a7 o9 a9 bb:Value):Prop where
 gr:w.grownBy X none
 m1:MB X B1 ov av m
 m7:MB X q7 o7 a7 (anewM am)
 p7:OpsOwn X bs o7 (anewM am).ask.ops
 s7:Own X bs a7 (anewM am).tell.answer
 m9:MB X q9 o9 a9 (anewM tm)
 p9:OpsOwn X bs o9 (anewM tm).ask.ops
 s9:Own X bs a9 (anewM tm).tell.answer
 m11:MB X q11 ov (.slice none 0 0) am
 m12:MB X q12 (.slice none 0 0) av tm
 b:Own X bs bb (if okM m=true then formM m else [])
 l7:bs<=q7
 l9:bs<=q9
 l11:bs<=q11
 l12:bs<=q12
variable {w X:World} {m am tm:PMsg} {B1 q7 q9 q11 q12 bs:Nat} {ov av o7 a7 o9 a9 bb:Value}
theorem FS.grown {X':World}(h:FS w X m am tm B1 q7 q9 q11 q12 bs ov av o7 a7 o9 a9 bb)(hg:X.grownBy X' none):FS w X' m am tm B1 q7 q9 q11 q12 bs ov av o7 a7 o9 a9 bb :=
 ⟨grown_trans h.gr hg,h.m1.grown hg,h.m7.grown hg,h.p7.grown hg,h.s7.grown hg,h.m9.grown hg,h.p9.grown hg,h.s9.grown hg,h.m11.grown hg,h.m12.grown hg,h.b.grown hg,h.l7,h.l9,h.l11,h.l12⟩
theorem FS.far {X':World}{g:Nat}(h:FS w X m am tm B1 q7 q9 q11 q12 bs ov av o7 a7 o9 a9 bb)(hg:X.grownBy X' (some g))(h1:B1<g)(h2:g<bs)(h3:w.heap.size<=g):FS w X' m am tm B1 q7 q9 q11 q12 bs ov av o7 a7 o9 a9 bb:=by
 have:=h.l7
 have:=h.l9
 have:=h.l11
 have:=h.l12
 exact ⟨grown_new h.gr hg (by intro x hx;simp at hx;omega),h.m1.but hg (by omega),h.m7.but hg (by omega),opsOwn_far h.p7 hg h2,own_far h.s7 hg h2,h.m9.but hg (by omega),opsOwn_far h.p9 hg h2,own_far h.s9 hg h2,h.m11.but hg (by omega),h.m12.but hg (by omega),own_far h.b hg h2,h.l7,h.l9,h.l11,h.l12⟩
theorem anew_ok {m:PMsg}(h:okM m=true):anewM m=m:=by unfold anewM;rw [if_pos h]
theorem anew_no {m:PMsg}(h:okM m=false):anewM m=zeroM:=by unfold anewM;rw [if_neg (by rw [h];decide)]
theorem err_eq (m:PMsg):(errM m==0)=okM m/\(errM m != 0) = !okM m:=by
 unfold errM
 cases okM m <;> decide
theorem forms3 (HG:ReadGood)(ov av:Value)(m:PMsg)(w:World)(ho:Ops w ov m.ask.ops)(ha:Seg w av m.tell.answer)(hf:Fit m.ask.ops)(hz:m.tell.answer.length<=140737488351232)(hi:InM m):Calls Tryz.prog 3 #[msgV ov av m] w fun e w'=>e=.returned (.bool true)/\w.grownBy w' none:=by
 obtain ⟨ao,n,ca,rfl⟩:=isSl_ops ho
 obtain ⟨bo,p,cb,rfl⟩:=isSl_seg ha
 have HS:Hid (Ops w (.slice ao n ca) m.ask.ops/\Seg w (.slice bo p cb) m.tell.answer/\m.tell.answer.length<=140737488351232/\InM m/\Fit m.ask.ops/\ReadGood):=⟨ho,ha,hz,hi,hf,HG⟩
 clear ho ha hz hi hf HG
 unfold msgV
 go_enter Tryz.func3,Tryz.ntmps3
 go_upto_region 1 with fail
 obtain ⟨W0,hW0,H0⟩:=boxM w ao n ca bo p cb m
 rw [hW0]
 clear hW0
 obtain ⟨c0,c1,c2,c3,c4,c5,c6,c7,c8,c9,c10,c11,c12⟩:=H0.out.1.cells
 go_wp2_with fail
 refine (copy6 (.slice ao n ca) (.slice bo p cb) m W0 (HS.out.1.grown H0.out.2.1) (HS.out.2.1.grown H0.out.2.1) HS.out.2.2.2.2.1 (by have:=HS.out.2.2.1;omega)).mono ?_
 rintro e w1 ⟨u,v,rfl,hu,hv,hg⟩
 obtain ⟨uo,un,uc,rfl⟩:=isSl_ow hu
 obtain ⟨vo,vn,vc,rfl⟩:=isSl_on hv
 have H1:Hid (MB w1 w.heap.size (.slice ao n ca) (.slice bo p cb) m/\w.grownBy w1 none/\OpsOwn w1 w.heap.size (.slice uo un uc) m.ask.ops):=⟨H0.out.1.grown hg,grown_trans H0.out.2.1 hg,hu.mono H0.out.2.1.size⟩
 clear hu hv hg H0 c0 c1 c2 c3 c4 c5 c6 c7 c8 c9 c10 c11 c12
 unfold msgV
 go_upto_region 2 with fail
 obtain ⟨W1,hW1,HW1⟩:=boxM w1 uo un uc vo vn vc m
 rw [hW1]
 obtain ⟨B3,hB3⟩:∃y,w1.heap.size=y:=⟨_,rfl⟩
 rw [hB3] at HW1 ⊢
 have H2:Hid (MB W1 w.heap.size (.slice ao n ca) (.slice bo p cb) m/\w.grownBy W1 none/\OpsOwn W1 w.heap.size (.slice uo un uc) m.ask.ops/\MB W1 B3 (.slice uo un uc) (.slice vo vn vc) m/\w.heap.size<B3):=⟨H1.out.1.grown HW1.out.2.1,grown_trans H1.out.2.1 HW1.out.2.1,H1.out.2.2.grown HW1.out.2.1,HW1.out.1,by have:=H1.out.1.lt;omega⟩
 clear hW1 hB3 HW1 H1
 obtain ⟨c0,c1,c2,c3,c4,c5,c6,c7,c8,c9,c10,c11,c12⟩:=H2.out.1.cells
 go_wp2_with fail
 refine (lent6 (.slice bo p cb) m.tell.answer W1 (HS.out.2.1.grown H2.out.2.1) (by have:=HS.out.2.2.1;omega)).mono ?_
 rintro e w2 ⟨l,rfl,hl,hg⟩
 obtain ⟨g,gc,hue,_⟩:=id hl
 obtain ⟨gn,hgn⟩:∃y,m.tell.answer.length=y:=⟨_,rfl⟩
 rw [hgn] at hue
 subst hue
 have H3:Hid (MB w2 w.heap.size (.slice ao n ca) (.slice bo p cb) m/\w.grownBy w2 none/\OpsOwn w2 w.heap.size (.slice uo un uc) m.ask.ops/\MB w2 B3 (.slice uo un uc) (.slice vo vn vc) m/\w.heap.size<B3/\Lent w2 W1.heap.size (.slice (some ⟨g,0,none⟩) gn gc) m.tell.answer/\W1.heap.size<=g/\g<w2.heap.size/\B3<W1.heap.size):=⟨H2.out.1.grown hg,grown_trans H2.out.2.1 hg,H2.out.2.2.1.grown hg,H2.out.2.2.2.1.grown hg,H2.out.2.2.2.2,hl,(hl.lt g rfl).1,(hl.lt g rfl).2,H2.out.2.2.2.1.lt⟩
 clear hl hg hgn H2 c0 c1 c2 c3 c4 c5 c6 c7 c8 c9 c10 c11 c12
 have s12:=H3.out.2.2.2.1.cells.2.2.2.2.2.2.2.2.2.2.2.2
 have z12:=H3.out.2.2.2.1.free 12
 go_upto_region 3 with fail
 have H4:Hid (MB (w2.setCell ⟨B3,12,none⟩ (.slice (some ⟨g,0,none⟩) gn gc)) w.heap.size (.slice ao n ca) (.slice bo p cb) m/\w.grownBy (w2.setCell ⟨B3,12,none⟩ (.slice (some ⟨g,0,none⟩) gn gc)) none/\OpsOwn (w2.setCell ⟨B3,12,none⟩ (.slice (some ⟨g,0,none⟩) gn gc)) w.heap.size (.slice uo un uc) m.ask.ops/\MB (w2.setCell ⟨B3,12,none⟩ (.slice (some ⟨g,0,none⟩) gn gc)) B3 (.slice uo un uc) (.slice (some ⟨g,0,none⟩) gn gc) m/\Lent (w2.setCell ⟨B3,12,none⟩ (.slice (some ⟨g,0,none⟩) gn gc)) W1.heap.size (.slice (some ⟨g,0,none⟩) gn gc) m.tell.answer/\w.heap.size<g/\g<(w2.setCell ⟨B3,12,none⟩ (.slice (some ⟨g,0,none⟩) gn gc)).heap.size):=by
  have s:=grown_setCell w2 B3 12 (.slice (some ⟨g,0,none⟩) gn gc)
  have a1:=H3.out.2.2.2.2.1
  have a2:=H3.out.2.2.2.2.2.2
  refine ⟨H3.out.1.but s (by omega),grown_new H3.out.2.1 s (by intro x hx;simp at hx;omega),H3.out.2.2.1.set H3.out.2.2.2.1 (by decide) (by decide) s,Blk.store H3.out.2.2.2.1 12 _,H3.out.2.2.2.2.2.1.same (fun k hk=>s.block k (H3.out.2.2.2.2.2.1.lt k hk).2 (fun e=>by have:=(H3.out.2.2.2.2.2.1.lt k hk).1;simp at e;omega)),by omega,by have:=s.size;omega⟩
 generalize w2.setCell ⟨B3,12,none⟩ (.slice (some ⟨g,0,none⟩) gn gc)=W2 at H4 ⊢
 clear H3 s12 z12
 obtain ⟨bs,hbs⟩:∃y,W2.heap.size=y:=⟨_,rfl⟩
 have HBS:Hid (W2.heap.size=bs):=hbs
 clear hbs
 obtain ⟨c0,c1,c2,c3,c4,c5,c6,c7,c8,c9,c10,c11,c12⟩:=H4.out.2.2.2.1.cells
 go_wp2_with fail
 refine (check8 (.slice uo un uc) (.slice (some ⟨g,0,none⟩) gn gc) m W2 (OpsOwn.ops H4.out.2.2.1) H4.out.2.2.2.2.1.seg (by have:=HS.out.2.2.1;omega) HS.out.2.2.2.1).mono ?_
 rintro e w3 ⟨rfl,hg⟩
 have H5:Hid (MB w3 w.heap.size (.slice ao n ca) (.slice bo p cb) m/\w.grownBy w3 none/\OpsOwn w3 w.heap.size (.slice uo un uc) m.ask.ops/\MB w3 B3 (.slice uo un uc) (.slice (some ⟨g,0,none⟩) gn gc) m/\Lent w3 W1.heap.size (.slice (some ⟨g,0,none⟩) gn gc) m.tell.answer/\w.heap.size<g/\g<bs/\bs<=w3.heap.size):=⟨H4.out.1.grown hg,grown_trans H4.out.2.1 hg,H4.out.2.2.1.grown hg,H4.out.2.2.2.1.grown hg,H4.out.2.2.2.2.1.same (fun k hk=>hg.block k (H4.out.2.2.2.2.1.lt k hk).2 (by simp)),H4.out.2.2.2.2.2.1,by rw [<-HBS.out];exact H4.out.2.2.2.2.2.2,by rw [<-HBS.out];exact hg.size⟩
 clear hg H4 HBS c0 c1 c2 c3 c4 c5 c6 c7 c8 c9 c10 c11 c12
 obtain ⟨c0,c1,c2,c3,c4,c5,c6,c7,c8,c9,c10,c11,c12⟩:=H5.out.2.2.2.1.cells
 go_wp2_with fail
 refine (bytes9 (.slice uo un uc) (.slice (some ⟨g,0,none⟩) gn gc) m w3 (OpsOwn.ops H5.out.2.2.1) H5.out.2.2.2.2.1.seg (by have:=HS.out.2.2.1;omega) HS.out.2.2.2.1).mono ?_
 rintro e w4 ⟨x,rfl,hx,hg⟩
 obtain ⟨xo,xn,xc,hxs⟩:=isSl_on hx
 subst hxs
 have H6:Hid (MB w4 w.heap.size (.slice ao n ca) (.slice bo p cb) m/\w.grownBy w4 none/\OpsOwn w4 w.heap.size (.slice uo un uc) m.ask.ops/\MB w4 B3 (.slice uo un uc) (.slice (some ⟨g,0,none⟩) gn gc) m/\Lent w4 W1.heap.size (.slice (some ⟨g,0,none⟩) gn gc) m.tell.answer/\w.heap.size<g/\g<bs/\bs<=w4.heap.size/\Own w4 bs (.slice xo xn xc) (if okM m=true then formM m else [])):=⟨H5.out.1.grown hg,grown_trans H5.out.2.1 hg,H5.out.2.2.1.grown hg,H5.out.2.2.2.1.grown hg,H5.out.2.2.2.2.1.same (fun k hk=>hg.block k (H5.out.2.2.2.2.1.lt k hk).2 (by simp)),H5.out.2.2.2.2.2.1,H5.out.2.2.2.2.2.2.1,Nat.le_trans H5.out.2.2.2.2.2.2.2 hg.size,hx.mono H5.out.2.2.2.2.2.2.2⟩
 clear hg hx H5 c0 c1 c2 c3 c4 c5 c6 c7 c8 c9 c10 c11 c12
 obtain ⟨c0,c1,c2,c3,c4,c5,c6,c7,c8,c9,c10,c11,c12⟩:=H6.out.2.2.2.1.cells
 obtain ⟨d0,d1,d2,d3,d4,d5,d6,d7,d8,d9,d10,d11,d12⟩:=H6.out.1.cells
 go_wp2_with fail
 refine (ask10 HS.out.2.2.2.2.2 m.client (.slice uo un uc) m.ask w4 (OpsOwn.ops H6.out.2.2.1) HS.out.2.2.2.1.ask HS.out.2.2.2.1.c0 HS.out.2.2.2.1.c1).mono ?_
 rintro e w5 ⟨ov5,av5,rfl,h5o,h5a,hg⟩
 obtain ⟨am,ham⟩:∃y:PMsg,⟨1,m.client,m.ask,zeroR⟩=y:=⟨_,rfl⟩
 have HAM:Hid (am=⟨1,m.client,m.ask,zeroR⟩):=ham.symm
 rw [ham] at h5o h5a ⊢
 clear ham
 obtain ⟨o7,n7,e7,rfl⟩:=isSl_ow h5o
 obtain ⟨i7,j7,k7,rfl⟩:=isSl_on h5a
 obtain ⟨an,han⟩:∃y,anewM am=y:=⟨_,rfl⟩
 have HAN:Hid (anewM am=an):=han
 rw [han] at h5o h5a ⊢
 clear han c0 c1 c2 c3 c4 c5 c6 c7 c8 c9 c10 c11 c12 d0 d1 d2 d3 d4 d5 d6 d7 d8 d9 d10 d11 d12
 unfold msgV
 go_upto_region 6 with fail
 obtain ⟨W5,hW5,HW5⟩:=boxM w5 o7 n7 e7 i7 j7 k7 an
 rw [hW5]
 obtain ⟨q7,hq7⟩:∃y,w5.heap.size=y:=⟨_,rfl⟩
 rw [hq7] at HW5 ⊢
 have gg:=grown_trans hg HW5.out.2.1
 have H7:Hid (MB W5 w.heap.size (.slice ao n ca) (.slice bo p cb) m/\w.grownBy W5 none/\MB W5 B3 (.slice uo un uc) (.slice (some ⟨g,0,none⟩) gn gc) m/\Lent W5 W1.heap.size (.slice (some ⟨g,0,none⟩) gn gc) m.tell.answer/\w.heap.size<g/\g<bs/\bs<=W5.heap.size/\Own W5 bs (.slice xo xn xc) (if okM m=true then formM m else [])/\MB W5 q7 (.slice o7 n7 e7) (.slice i7 j7 k7) an/\OpsOwn W5 bs (.slice o7 n7 e7) an.ask.ops/\Own W5 bs (.slice i7 j7 k7) an.tell.answer/\bs<=q7):=⟨H6.out.1.grown gg,grown_trans H6.out.2.1 gg,H6.out.2.2.2.1.grown gg,H6.out.2.2.2.2.1.same (fun k hk=>gg.block k (H6.out.2.2.2.2.1.lt k hk).2 (by simp)),H6.out.2.2.2.2.2.1,H6.out.2.2.2.2.2.2.1,Nat.le_trans H6.out.2.2.2.2.2.2.2.1 gg.size,H6.out.2.2.2.2.2.2.2.2.grown gg,HW5.out.1,(h5o.mono H6.out.2.2.2.2.2.2.2.1).grown HW5.out.2.1,(h5a.mono H6.out.2.2.2.2.2.2.2.1).grown HW5.out.2.1,by have h1:=H6.out.2.2.2.2.2.2.2.1;have h2:=hg.size;omega⟩
 clear gg hW5 hq7 HW5 h5o h5a hg H6
 obtain ⟨c0,c1,c2,c3,c4,c5,c6,c7,c8,c9,c10,c11,c12⟩:=H7.out.2.2.1.cells
 obtain ⟨d0,d1,d2,d3,d4,d5,d6,d7,d8,d9,d10,d11,d12⟩:=H7.out.1.cells
 go_wp2_with fail
 refine (tell11 HS.out.2.2.2.2.2 m.client (.slice (some ⟨g,0,none⟩) gn gc) m.tell W5 H7.out.2.2.2.1.seg (by have:=HS.out.2.2.1;omega) HS.out.2.2.2.1.tell HS.out.2.2.2.1.c0 HS.out.2.2.2.1.c1).mono ?_
 rintro e w6 ⟨ov6,av6,rfl,h6o,h6a,hg⟩
 obtain ⟨tm,htm⟩:∃y:PMsg,⟨2,m.client,zeroC,m.tell⟩=y:=⟨_,rfl⟩
 have HTM:Hid (tm=⟨2,m.client,zeroC,m.tell⟩):=htm.symm
 rw [htm] at h6o h6a ⊢
 clear htm
 obtain ⟨o9,n9,e9,rfl⟩:=isSl_ow h6o
 obtain ⟨i9,j9,k9,rfl⟩:=isSl_on h6a
 obtain ⟨tn,htn⟩:∃y,anewM tm=y:=⟨_,rfl⟩
 have HTN:Hid (anewM tm=tn):=htn
 rw [htn] at h6o h6a ⊢
 clear htn c0 c1 c2 c3 c4 c5 c6 c7 c8 c9 c10 c11 c12 d0 d1 d2 d3 d4 d5 d6 d7 d8 d9 d10 d11 d12
 unfold msgV
 go_upto_region 7 with fail
 obtain ⟨W6,hW6,HW6⟩:=boxM w6 o9 n9 e9 i9 j9 k9 tn
 rw [hW6]
 obtain ⟨q9,hq9⟩:∃y,w6.heap.size=y:=⟨_,rfl⟩
 rw [hq9] at HW6 ⊢
 have gg:=grown_trans hg HW6.out.2.1
 have H8:Hid (MB W6 w.heap.size (.slice ao n ca) (.slice bo p cb) m/\w.grownBy W6 none/\MB W6 B3 (.slice uo un uc) (.slice (some ⟨g,0,none⟩) gn gc) m/\Lent W6 W1.heap.size (.slice (some ⟨g,0,none⟩) gn gc) m.tell.answer/\w.heap.size<g/\g<bs/\bs<=W6.heap.size/\Own W6 bs (.slice xo xn xc) (if okM m=true then formM m else [])/\MB W6 q7 (.slice o7 n7 e7) (.slice i7 j7 k7) an/\OpsOwn W6 bs (.slice o7 n7 e7) an.ask.ops/\Own W6 bs (.slice i7 j7 k7) an.tell.answer/\bs<=q7/\MB W6 q9 (.slice o9 n9 e9) (.slice i9 j9 k9) tn/\OpsOwn W6 bs (.slice o9 n9 e9) tn.ask.ops/\Own W6 bs (.slice i9 j9 k9) tn.tell.answer/\bs<=q9):=⟨H7.out.1.grown gg,grown_trans H7.out.2.1 gg,H7.out.2.2.1.grown gg,H7.out.2.2.2.1.same (fun k hk=>gg.block k (H7.out.2.2.2.1.lt k hk).2 (by simp)),H7.out.2.2.2.2.1,H7.out.2.2.2.2.2.1,Nat.le_trans H7.out.2.2.2.2.2.2.1 gg.size,H7.out.2.2.2.2.2.2.2.1.grown gg,H7.out.2.2.2.2.2.2.2.2.1.grown gg,H7.out.2.2.2.2.2.2.2.2.2.1.grown gg,H7.out.2.2.2.2.2.2.2.2.2.2.1.grown gg,H7.out.2.2.2.2.2.2.2.2.2.2.2,HW6.out.1,(h6o.mono H7.out.2.2.2.2.2.2.1).grown HW6.out.2.1,(h6a.mono H7.out.2.2.2.2.2.2.1).grown HW6.out.2.1,by have h1:=H7.out.2.2.2.2.2.2.1;have h2:=hg.size;omega⟩
 clear gg hW6 hq9 HW6 h6o h6a hg H7
 obtain ⟨d0,d1,d2,d3,d4,d5,d6,d7,d8,d9,d10,d11,d12⟩:=H8.out.1.cells
 go_upto_region 8 with fail
 obtain ⟨W7,hW7,HW7⟩:=al1' W6 #[.int .i64 1,.int .i64 m.client,.int .i64 m.ask.kind,.int .i64 m.ask.token,.int .i64 m.ask.session,.int .i64 m.ask.number,.int .i64 m.ask.mark,.slice ao n ca,.int .i64 0,.int .i64 0,.int .i64 0,.int .i64 0,.slice none 0 0] 34
 rw [hW7]
 obtain ⟨q11,hq11⟩:∃y,W6.heap.size=y:=⟨_,rfl⟩
 rw [hq11] at HW7 ⊢
 clear hW7 d0 d1 d2 d3 d4 d5 d6 d7 d8 d9 d10 d11 d12
 obtain ⟨d0,d1,d2,d3,d4,d5,d6,d7,d8,d9,d10,d11,d12⟩:=(H8.out.1.grown HW7.out.2.1).cells
 go_upto_region 9 with fail
 obtain ⟨W8,hW8,HW8⟩:=al1' W7 #[.int .i64 2,.int .i64 m.client,.int .i64 0,.int .i64 0,.int .i64 0,.int .i64 0,.int .i64 0,.slice none 0 0,.int .i64 m.tell.kind,.int .i64 m.tell.token,.int .i64 m.tell.session,.int .i64 m.tell.number,.slice bo p cb] 34
 rw [hW8]
 obtain ⟨q12,hq12⟩:∃y,W7.heap.size=y:=⟨_,rfl⟩
 rw [hq12] at HW8 ⊢
 have gg:=grown_trans HW7.out.2.1 HW8.out.2.1
 have HF:Hid (FS w W8 m am tm w.heap.size q7 q9 q11 q12 bs (.slice ao n ca) (.slice bo p cb) (.slice o7 n7 e7) (.slice i7 j7 k7) (.slice o9 n9 e9) (.slice i9 j9 k9) (.slice xo xn xc)):=by
  have h1:=H8.out.2.2.2.2.2.2.1
  have h2:=HW7.out.2.1.size
  refine ⟨grown_trans H8.out.2.1 gg,H8.out.1.grown gg,?_,?_,?_,?_,?_,?_,?_,?_,H8.out.2.2.2.2.2.2.2.1.grown gg,H8.out.2.2.2.2.2.2.2.2.2.2.2.1,H8.out.2.2.2.2.2.2.2.2.2.2.2.2.2.2.2,by omega,by omega⟩
  ·rw [HAN.out];exact H8.out.2.2.2.2.2.2.2.2.1.grown gg
  ·rw [HAN.out];exact H8.out.2.2.2.2.2.2.2.2.2.1.grown gg
  ·rw [HAN.out];exact H8.out.2.2.2.2.2.2.2.2.2.2.1.grown gg
  ·rw [HTN.out];exact H8.out.2.2.2.2.2.2.2.2.2.2.2.2.1.grown gg
  ·rw [HTN.out];exact H8.out.2.2.2.2.2.2.2.2.2.2.2.2.2.1.grown gg
  ·rw [HTN.out];exact H8.out.2.2.2.2.2.2.2.2.2.2.2.2.2.2.1.grown gg
  ·rw [HAM.out];exact MB.grown (show MB W7 q11 (.slice ao n ca) (.slice none 0 0) ⟨1,m.client,m.ask,zeroR⟩ from HW7.out.1) HW8.out.2.1
  ·rw [HTM.out];exact (show MB W8 q12 (.slice none 0 0) (.slice bo p cb) ⟨2,m.client,zeroC,m.tell⟩ from HW8.out.1)
 have HL:Hid (MB W8 B3 (.slice uo un uc) (.slice (some ⟨g,0,none⟩) gn gc) m/\Lent W8 W1.heap.size (.slice (some ⟨g,0,none⟩) gn gc) m.tell.answer/\w.heap.size<g/\g<bs):=⟨H8.out.2.2.1.grown gg,H8.out.2.2.2.1.same (fun k hk=>gg.block k (H8.out.2.2.2.1.lt k hk).2 (by simp)),H8.out.2.2.2.2.1,H8.out.2.2.2.2.2.1⟩
 clear gg hW8 hq11 hq12 HW7 HW8 H8 d0 d1 d2 d3 d4 d5 d6 d7 d8 d9 d10 d11 d12
 clear HAN HTN
 obtain ⟨c0,c1,c2,c3,c4,c5,c6,c7,c8,c9,c10,c11,c12⟩:=HL.out.1.cells
 obtain ⟨d0,d1,d2,d3,d4,d5,d6,d7,d8,d9,d10,d11,d12⟩:=HF.out.m1.cells
 go_wp2_with fail
 refine (left12 (.slice (some ⟨g,0,none⟩) gn gc) (.slice bo p cb) W1.heap.size m.tell.answer W8 HL.out.2.1 (HS.out.2.1.grown HF.out.gr) (by have:=HS.out.2.2.1;omega)).mono ?_
 rintro e x1 ⟨rfl,hg⟩
 have HF1:Hid (FS w x1 m am tm w.heap.size q7 q9 q11 q12 bs (.slice ao n ca) (.slice bo p cb) (.slice o7 n7 e7) (.slice i7 j7 k7) (.slice o9 n9 e9) (.slice i9 j9 k9) (.slice xo xn xc)):=HF.out.grown hg
 have HL1:Hid (MB x1 B3 (.slice uo un uc) (.slice (some ⟨g,0,none⟩) gn gc) m/\Own x1 W1.heap.size (.slice (some ⟨g,0,none⟩) gn gc) m.tell.answer/\w.heap.size<g/\g<bs):=⟨HL.out.1.grown hg,(Lent.own HL.out.2.1).grown hg,HL.out.2.2⟩
 clear hg HF HL c0 c1 c2 c3 c4 c5 c6 c7 c8 c9 c10 c11 c12 d0 d1 d2 d3 d4 d5 d6 d7 d8 d9 d10 d11 d12
 have p0:=(err_eq m).1
 have p1:=(err_eq am).1
 have p2:=(err_eq tm).1
 have p3:(errM m != errM m)=false:=by simp
 obtain ⟨bm,hbm⟩:∃y,okM m=y:=⟨_,rfl⟩
 obtain ⟨ba,hba⟩:∃y,okM am=y:=⟨_,rfl⟩
 obtain ⟨bt,hbt⟩:∃y,okM tm=y:=⟨_,rfl⟩
 have HBM:Hid (okM m=bm/\okM am=ba/\okM tm=bt):=⟨hbm,hba,hbt⟩
 have r0:(bm != bm)=false:=by simp
 have r1:(ba != ba)=false:=by simp
 have r2:(bt != bt)=false:=by simp
 rw [hbm] at p0
 rw [hba] at p1
 rw [hbt] at p2
 clear hbm hba hbt
 obtain ⟨d0,d1,d2,d3,d4,d5,d6,d7,d8,d9,d10,d11,d12⟩:=HF1.out.m1.cells
 go_wp2_with fail
 refine (may13 (.slice ao n ca) (.slice bo p cb) m x1 (HS.out.1.grown HF1.out.gr) (HS.out.2.1.grown HF1.out.gr) (by have:=HS.out.2.2.1;omega)).mono ?_
 rintro e x2 ⟨rfl,hg⟩
 rw [HBM.out.1]
 have HF2:Hid (FS w x2 m am tm w.heap.size q7 q9 q11 q12 bs (.slice ao n ca) (.slice bo p cb) (.slice o7 n7 e7) (.slice i7 j7 k7) (.slice o9 n9 e9) (.slice i9 j9 k9) (.slice xo xn xc)):=HF1.out.grown hg
 have HL2:Hid (MB x2 B3 (.slice uo un uc) (.slice (some ⟨g,0,none⟩) gn gc) m/\Own x2 W1.heap.size (.slice (some ⟨g,0,none⟩) gn gc) m.tell.answer/\w.heap.size<g/\g<bs):=⟨HL1.out.1.grown hg,HL1.out.2.1.grown hg,HL1.out.2.2⟩
 clear hg HF1 HL1 d0 d1 d2 d3 d4 d5 d6 d7 d8 d9 d10 d11 d12
 obtain ⟨d0,d1,d2,d3,d4,d5,d6,d7,d8,d9,d10,d11,d12⟩:=HF2.out.m11.cells
 go_wp2_with fail
 refine (may13 (.slice ao n ca) (.slice none 0 0) am x2 (by rw [HAM.out];exact HS.out.1.grown HF2.out.gr) (by rw [HAM.out];exact seg_nil _) (by rw [HAM.out];simp [zeroR])).mono ?_
 rintro e x3 ⟨rfl,hg⟩
 rw [HBM.out.2.1]
 have HF3:Hid (FS w x3 m am tm w.heap.size q7 q9 q11 q12 bs (.slice ao n ca) (.slice bo p cb) (.slice o7 n7 e7) (.slice i7 j7 k7) (.slice o9 n9 e9) (.slice i9 j9 k9) (.slice xo xn xc)):=HF2.out.grown hg
 have HL3:Hid (MB x3 B3 (.slice uo un uc) (.slice (some ⟨g,0,none⟩) gn gc) m/\Own x3 W1.heap.size (.slice (some ⟨g,0,none⟩) gn gc) m.tell.answer/\w.heap.size<g/\g<bs):=⟨HL2.out.1.grown hg,HL2.out.2.1.grown hg,HL2.out.2.2⟩
 clear hg HF2 HL2 d0 d1 d2 d3 d4 d5 d6 d7 d8 d9 d10 d11 d12
 obtain ⟨d0,d1,d2,d3,d4,d5,d6,d7,d8,d9,d10,d11,d12⟩:=HF3.out.m12.cells
 go_wp2_with fail
 refine (may13 (.slice none 0 0) (.slice bo p cb) tm x3 (by rw [HTM.out];exact ops_nil _) (by rw [HTM.out];exact HS.out.2.1.grown HF3.out.gr) (by rw [HTM.out];have:=HS.out.2.2.1;dsimp only;omega)).mono ?_
 rintro e x4 ⟨rfl,hg⟩
 rw [HBM.out.2.2]
 have HF4:Hid (FS w x4 m am tm w.heap.size q7 q9 q11 q12 bs (.slice ao n ca) (.slice bo p cb) (.slice o7 n7 e7) (.slice i7 j7 k7) (.slice o9 n9 e9) (.slice i9 j9 k9) (.slice xo xn xc)):=HF3.out.grown hg
 have HL4:Hid (MB x4 B3 (.slice uo un uc) (.slice (some ⟨g,0,none⟩) gn gc) m/\Own x4 W1.heap.size (.slice (some ⟨g,0,none⟩) gn gc) m.tell.answer/\w.heap.size<g/\g<bs):=⟨HL3.out.1.grown hg,HL3.out.2.1.grown hg,HL3.out.2.2⟩
 clear hg HF3 HL3 d0 d1 d2 d3 d4 d5 d6 d7 d8 d9 d10 d11 d12
 obtain ⟨c0,c1,c2,c3,c4,c5,c6,c7,c8,c9,c10,c11,c12⟩:=HL4.out.1.cells
 go_upto_region 11 with fail
 go_wp2_with fail
 refine (over14 W1.heap.size (.slice (some ⟨g,0,none⟩) gn gc) m.tell.answer x4 HL4.out.2.1 (by have:=HS.out.2.2.1;omega)).mono ?_
 rintro e x5 ⟨rfl,hg',_⟩
 have hg:x4.grownBy x5 (some g):=hg'
 have HF5:Hid (FS w x5 m am tm w.heap.size q7 q9 q11 q12 bs (.slice ao n ca) (.slice bo p cb) (.slice o7 n7 e7) (.slice i7 j7 k7) (.slice o9 n9 e9) (.slice i9 j9 k9) (.slice xo xn xc)):=by
  have a1:=HL4.out.2.2
  exact HF4.out.far hg (by omega) (by omega) (by omega)
 clear hg hg' HF4 HL4 c0 c1 c2 c3 c4 c5 c6 c7 c8 c9 c10 c11 c12
 clear r0 r1 r2
 go_upto_region 12 with fail
 go_cut [142] (fun x wc=>x=.bool false/\FS w wc m am tm w.heap.size q7 q9 q11 q12 bs (.slice ao n ca) (.slice bo p cb) (.slice o7 n7 e7) (.slice i7 j7 k7) (.slice o9 n9 e9) (.slice i9 j9 k9) (.slice xo xn xc))
 case first =>
  rcases ba with _ | _ <;> rcases bt with _ | _
  ·-- 0 0
   have e1:errM am=2:=by unfold errM;rw [HBM.out.2.1];rfl
   have e2:errM tm=2:=by unfold errM;rw [HBM.out.2.2];rfl
   have n1:(errM am != 0)=true:=by rw [e1];rfl
   have n2:(errM tm != 0)=true:=by rw [e2];rfl
   have m1:(errM am != 2)=false:=by rw [e1];rfl
   have m2:(errM tm != 2)=false:=by rw [e2];rfl
   clear e1 e2
   have HAN:Hid (anewM am=zeroM):=anew_no HBM.out.2.1
   have HTN:Hid (anewM tm=zeroM):=anew_no HBM.out.2.2
   have g7:=HF5.out.m7
   rw [HAN.out] at g7
   obtain ⟨c0,c1,c2,c3,c4,c5,c6,c7,c8,c9,c10,c11,c12⟩:=g7.cells
   clear g7
   try dsimp only [zeroM,zeroC,zeroR] at c0;try dsimp only [zeroM,zeroC,zeroR] at c1;try dsimp only [zeroM,zeroC,zeroR] at c2;try dsimp only [zeroM,zeroC,zeroR] at c3;try dsimp only [zeroM,zeroC,zeroR] at c4;try dsimp only [zeroM,zeroC,zeroR] at c5;try dsimp only [zeroM,zeroC,zeroR] at c6;try dsimp only [zeroM,zeroC,zeroR] at c7;try dsimp only [zeroM,zeroC,zeroR] at c8;try dsimp only [zeroM,zeroC,zeroR] at c9;try dsimp only [zeroM,zeroC,zeroR] at c10;try dsimp only [zeroM,zeroC,zeroR] at c11;try dsimp only [zeroM,zeroC,zeroR] at c12
   have g9:=HF5.out.m9
   rw [HTN.out] at g9
   obtain ⟨d0,d1,d2,d3,d4,d5,d6,d7,d8,d9,d10,d11,d12⟩:=g9.cells
   clear g9
   try dsimp only [zeroM,zeroC,zeroR] at d0;try dsimp only [zeroM,zeroC,zeroR] at d1;try dsimp only [zeroM,zeroC,zeroR] at d2;try dsimp only [zeroM,zeroC,zeroR] at d3;try dsimp only [zeroM,zeroC,zeroR] at d4;try dsimp only [zeroM,zeroC,zeroR] at d5;try dsimp only [zeroM,zeroC,zeroR] at d6;try dsimp only [zeroM,zeroC,zeroR] at d7;try dsimp only [zeroM,zeroC,zeroR] at d8;try dsimp only [zeroM,zeroC,zeroR] at d9;try dsimp only [zeroM,zeroC,zeroR] at d10;try dsimp only [zeroM,zeroC,zeroR] at d11;try dsimp only [zeroM,zeroC,zeroR] at d12
   go_wp2_with fail
   go_meet
   case rel=>exact ⟨by first | rfl | skip,HF5.out⟩
  ·-- 0 1
   have e1:errM am=2:=by unfold errM;rw [HBM.out.2.1];rfl
   have e2:errM tm=0:=by unfold errM;rw [HBM.out.2.2];rfl
   have n1:(errM am != 0)=true:=by rw [e1];rfl
   have n2:(errM tm != 0)=false:=by rw [e2];rfl
   have m1:(errM am != 2)=false:=by rw [e1];rfl
   clear e1 e2
   have HAN:Hid (anewM am=zeroM):=anew_no HBM.out.2.1
   have HTN:Hid (anewM tm=tm):=anew_ok HBM.out.2.2
   have g7:=HF5.out.m7
   rw [HAN.out] at g7
   obtain ⟨c0,c1,c2,c3,c4,c5,c6,c7,c8,c9,c10,c11,c12⟩:=g7.cells
   clear g7
   try dsimp only [zeroM,zeroC,zeroR] at c0;try dsimp only [zeroM,zeroC,zeroR] at c1;try dsimp only [zeroM,zeroC,zeroR] at c2;try dsimp only [zeroM,zeroC,zeroR] at c3;try dsimp only [zeroM,zeroC,zeroR] at c4;try dsimp only [zeroM,zeroC,zeroR] at c5;try dsimp only [zeroM,zeroC,zeroR] at c6;try dsimp only [zeroM,zeroC,zeroR] at c7;try dsimp only [zeroM,zeroC,zeroR] at c8;try dsimp only [zeroM,zeroC,zeroR] at c9;try dsimp only [zeroM,zeroC,zeroR] at c10;try dsimp only [zeroM,zeroC,zeroR] at c11;try dsimp only [zeroM,zeroC,zeroR] at c12
   have g9:=HF5.out.m9
   rw [HTN.out] at g9
   obtain ⟨d0,d1,d2,d3,d4,d5,d6,d7,d8,d9,d10,d11,d12⟩:=g9.cells
   clear g9
   obtain ⟨f0,f1,f2,f3,f4,f5,f6,f7,f8,f9,f10,f11,f12⟩:=HF5.out.m12.cells
   go_wp2_with fail
   refine (same16m (.slice o9 n9 e9) (.slice i9 j9 k9) (.slice none 0 0) (.slice bo p cb) tm tm x5 (by have h:=OpsOwn.ops HF5.out.p9;rw [HTN.out] at h;exact h) (by have h:=HF5.out.s9.seg;rw [HTN.out] at h;exact h) (by rw [HTM.out];exact ops_nil _) (by rw [HTM.out];exact HS.out.2.1.grown HF5.out.gr)).mono ?_
   rintro e x7 ⟨rfl,hg⟩
   rw [decide_eq_true rfl]
   have HX7:Hid (FS w x7 m am tm w.heap.size q7 q9 q11 q12 bs (.slice ao n ca) (.slice bo p cb) (.slice o7 n7 e7) (.slice i7 j7 k7) (.slice o9 n9 e9) (.slice i9 j9 k9) (.slice xo xn xc)):=HF5.out.grown hg
   clear hg
   go_wp2_with fail
   go_meet
   case rel=>exact ⟨by first | rfl | skip,HX7.out⟩
  ·-- 1 0
   have e1:errM am=0:=by unfold errM;rw [HBM.out.2.1];rfl
   have e2:errM tm=2:=by unfold errM;rw [HBM.out.2.2];rfl
   have n1:(errM am != 0)=false:=by rw [e1];rfl
   have n2:(errM tm != 0)=true:=by rw [e2];rfl
   have m2:(errM tm != 2)=false:=by rw [e2];rfl
   clear e1 e2
   have HAN:Hid (anewM am=am):=anew_ok HBM.out.2.1
   have HTN:Hid (anewM tm=zeroM):=anew_no HBM.out.2.2
   have g7:=HF5.out.m7
   rw [HAN.out] at g7
   obtain ⟨c0,c1,c2,c3,c4,c5,c6,c7,c8,c9,c10,c11,c12⟩:=g7.cells
   clear g7
   obtain ⟨f0,f1,f2,f3,f4,f5,f6,f7,f8,f9,f10,f11,f12⟩:=HF5.out.m11.cells
   go_wp2_with fail
   refine (same15 (.slice o7 n7 e7) (.slice i7 j7 k7) (.slice ao n ca) (.slice none 0 0) am am x5 (by have h:=OpsOwn.ops HF5.out.p7;rw [HAN.out] at h;exact h) (by have h:=HF5.out.s7.seg;rw [HAN.out] at h;exact h) (by rw [HAM.out];exact HS.out.1.grown HF5.out.gr) (by rw [HAM.out];exact seg_nil _)).mono ?_
   rintro e x6 ⟨rfl,hg⟩
   rw [decide_eq_true rfl]
   have HX6:Hid (FS w x6 m am tm w.heap.size q7 q9 q11 q12 bs (.slice ao n ca) (.slice bo p cb) (.slice o7 n7 e7) (.slice i7 j7 k7) (.slice o9 n9 e9) (.slice i9 j9 k9) (.slice xo xn xc)):=HF5.out.grown hg
   clear hg HF5 c0 c1 c2 c3 c4 c5 c6 c7 c8 c9 c10 c11 c12 f0 f1 f2 f3 f4 f5 f6 f7 f8 f9 f10 f11 f12
   have g9:=HX6.out.m9
   rw [HTN.out] at g9
   obtain ⟨d0,d1,d2,d3,d4,d5,d6,d7,d8,d9,d10,d11,d12⟩:=g9.cells
   clear g9
   try dsimp only [zeroM,zeroC,zeroR] at d0;try dsimp only [zeroM,zeroC,zeroR] at d1;try dsimp only [zeroM,zeroC,zeroR] at d2;try dsimp only [zeroM,zeroC,zeroR] at d3;try dsimp only [zeroM,zeroC,zeroR] at d4;try dsimp only [zeroM,zeroC,zeroR] at d5;try dsimp only [zeroM,zeroC,zeroR] at d6;try dsimp only [zeroM,zeroC,zeroR] at d7;try dsimp only [zeroM,zeroC,zeroR] at d8;try dsimp only [zeroM,zeroC,zeroR] at d9;try dsimp only [zeroM,zeroC,zeroR] at d10;try dsimp only [zeroM,zeroC,zeroR] at d11;try dsimp only [zeroM,zeroC,zeroR] at d12
   go_wp2_with fail
   go_meet
   case rel=>exact ⟨by first | rfl | skip,HX6.out⟩
  ·-- 1 1
   have e1:errM am=0:=by unfold errM;rw [HBM.out.2.1];rfl
   have e2:errM tm=0:=by unfold errM;rw [HBM.out.2.2];rfl
   have n1:(errM am != 0)=false:=by rw [e1];rfl
   have n2:(errM tm != 0)=false:=by rw [e2];rfl
   clear e1 e2
   have HAN:Hid (anewM am=am):=anew_ok HBM.out.2.1
   have HTN:Hid (anewM tm=tm):=anew_ok HBM.out.2.2
   have g7:=HF5.out.m7
   rw [HAN.out] at g7
   obtain ⟨c0,c1,c2,c3,c4,c5,c6,c7,c8,c9,c10,c11,c12⟩:=g7.cells
   clear g7
   obtain ⟨f0,f1,f2,f3,f4,f5,f6,f7,f8,f9,f10,f11,f12⟩:=HF5.out.m11.cells
   go_wp2_with fail
   refine (same15 (.slice o7 n7 e7) (.slice i7 j7 k7) (.slice ao n ca) (.slice none 0 0) am am x5 (by have h:=OpsOwn.ops HF5.out.p7;rw [HAN.out] at h;exact h) (by have h:=HF5.out.s7.seg;rw [HAN.out] at h;exact h) (by rw [HAM.out];exact HS.out.1.grown HF5.out.gr) (by rw [HAM.out];exact seg_nil _)).mono ?_
   rintro e x6 ⟨rfl,hg⟩
   rw [decide_eq_true rfl]
   have HX6:Hid (FS w x6 m am tm w.heap.size q7 q9 q11 q12 bs (.slice ao n ca) (.slice bo p cb) (.slice o7 n7 e7) (.slice i7 j7 k7) (.slice o9 n9 e9) (.slice i9 j9 k9) (.slice xo xn xc)):=HF5.out.grown hg
   clear hg HF5 c0 c1 c2 c3 c4 c5 c6 c7 c8 c9 c10 c11 c12 f0 f1 f2 f3 f4 f5 f6 f7 f8 f9 f10 f11 f12
   have g9:=HX6.out.m9
   rw [HTN.out] at g9
   obtain ⟨d0,d1,d2,d3,d4,d5,d6,d7,d8,d9,d10,d11,d12⟩:=g9.cells
   clear g9
   obtain ⟨f0,f1,f2,f3,f4,f5,f6,f7,f8,f9,f10,f11,f12⟩:=HX6.out.m12.cells
   go_wp2_with fail
   refine (same16m (.slice o9 n9 e9) (.slice i9 j9 k9) (.slice none 0 0) (.slice bo p cb) tm tm x6 (by have h:=OpsOwn.ops HX6.out.p9;rw [HTN.out] at h;exact h) (by have h:=HX6.out.s9.seg;rw [HTN.out] at h;exact h) (by rw [HTM.out];exact ops_nil _) (by rw [HTM.out];exact HS.out.2.1.grown HX6.out.gr)).mono ?_
   rintro e x7 ⟨rfl,hg⟩
   rw [decide_eq_true rfl]
   have HX7:Hid (FS w x7 m am tm w.heap.size q7 q9 q11 q12 bs (.slice ao n ca) (.slice bo p cb) (.slice o7 n7 e7) (.slice i7 j7 k7) (.slice o9 n9 e9) (.slice i9 j9 k9) (.slice xo xn xc)):=HX6.out.grown hg
   clear hg
   go_wp2_with fail
   go_meet
   case rel=>exact ⟨by first | rfl | skip,HX7.out⟩
 case rest =>
  obtain ⟨rfl,hfs⟩:=hcut
  obtain ⟨x6,hx6⟩:∃y:World,y=wc:=⟨_,rfl⟩
  subst hx6
  have HF6:Hid (w.grownBy x6 none/\MB x6 w.heap.size (.slice ao n ca) (.slice bo p cb) m/\Own x6 bs (.slice xo xn xc) (if bm=true then formM m else [])):=⟨hfs.gr,hfs.m1,by rw [<-HBM.out.1];exact hfs.b⟩
  clear hfs HF5 p1 p2 p3 HAM HTM
  have n0:=(err_eq m).2
  rw [HBM.out.1] at n0
  have e0:errM m=if bm=true then 0 else 2:=by unfold errM;rw [HBM.out.1]
  cases bm
  ·rw [if_neg (by decide)] at e0
   rw [e0] at p0 n0 ⊢
   obtain ⟨xo',xc',hxs⟩:=HF6.out.2.2.seg.shape
   simp at hxs
   obtain ⟨rfl,rfl,rfl⟩:=hxs
   go_wp2_with fail
   refine (known17 HS.out.2.2.2.2.2 x6).mono ?_
   rintro e x7 ⟨rfl,hg⟩
   go_wp2_with fail
   go_ret
   exact ⟨rfl,grown_trans HF6.out.1 hg⟩
  rw [if_pos rfl] at e0
  rw [e0] at p0 n0 ⊢
  have HOK:Hid (okM m=true/\Seg x6 (.slice xo xn xc) (formM m)/\(formM m).length<=140737488354304):=⟨HBM.out.1,by have h:=HF6.out.2.2.seg;rw [if_pos rfl] at h;exact h,by have h1:=form_len HBM.out.1 HS.out.2.2.2.1;have h2:=HS.out.2.2.1;omega⟩
  clear e0 p0 n0
  go_wp2_with fail
  refine (read18 HS.out.2.2.2.2.2 (.slice xo xn xc) (formM m) x6 HOK.out.2.1 HOK.out.2.2).mono ?_
  rintro e x7 ⟨ov7,av7,rfl,h7o,h7a,hg⟩
  rw [readM_form HOK.out.1 HS.out.2.2.2.1] at h7o h7a ⊢
  dsimp only at h7o h7a ⊢
  obtain ⟨o3,n3,e3,rfl⟩:=isSl_ow h7o
  obtain ⟨i3,j3,k3,rfl⟩:=isSl_on h7a
  unfold msgV
  go_upto_region 17 with fail
  obtain ⟨W7,hW7,HW7⟩:=boxM x7 o3 n3 e3 i3 j3 k3 m
  rw [hW7]
  obtain ⟨q13,hq13⟩:∃y,x7.heap.size=y:=⟨_,rfl⟩
  rw [hq13] at HW7 ⊢
  have gg:=grown_trans hg HW7.out.2.1
  have HF7:Hid (w.grownBy W7 none/\MB W7 w.heap.size (.slice ao n ca) (.slice bo p cb) m/\Seg W7 (.slice xo xn xc) (formM m)/\MB W7 q13 (.slice o3 n3 e3) (.slice i3 j3 k3) m/\OpsOwn W7 x6.heap.size (.slice o3 n3 e3) m.ask.ops/\Own W7 x6.heap.size (.slice i3 j3 k3) m.tell.answer):=⟨grown_trans HF6.out.1 gg,HF6.out.2.1.grown gg,HOK.out.2.1.grown gg,HW7.out.1,h7o.grown HW7.out.2.1,h7a.grown HW7.out.2.1⟩
  clear gg hW7 hq13 HW7 h7o h7a hg HF6
  have HCC:Hid (∀y,W7.grownBy y none->(convert 30 9 (.slice xo xn xc)).run Tryz.prog y=.ok (.string ⟨(formM m).toArray⟩) y):=fun y hy=>seg_str (HF7.out.2.2.1.grown hy)
  refine wp_region_noPanic ?_
  refine wp_region_hold 1000 (fun y=>W7.grownBy y none) (by kernel_rfl) ?_
  have G0:Hid (W7.grownBy W7.drew none):=grown_drew _ _
  generalize W7.drew=wd at G0 ⊢
  have J:Idx [0,1,2,3,4]:=trivial
  iterate 5 (refine tK J (G0.out) rfl rfl (fun wk hk=>by obtain ⟨c0,c1,c2,c3,c4,c5,c6,c7,c8,c9,c10,c11,c12⟩:=(HF7.out.2.1.grown hk).cells;obtain ⟨d0,d1,d2,d3,d4,d5,d6,d7,d8,d9,d10,d11,d12⟩:=(HF7.out.2.2.2.1.grown hk).cells;have cv:=HCC.out wk hk;go_simp;try rfl) ?_;replace J:=J.tl;try simp only [pN])
  clear J
  refine wpHold_one (i:=5) rfl (by kernel_rfl) (by rfl) (fun K hK=>?_)
  go_wp2_with fail
  refine (same16m (.slice o3 n3 e3) (.slice i3 j3 k3) (.slice ao n ca) (.slice bo p cb) m m wd (OpsOwn.ops (HF7.out.2.2.2.2.1.grown G0.out)) ((HF7.out.2.2.2.2.2.grown G0.out).seg) (HS.out.1.grown (grown_trans HF7.out.1 G0.out)) (HS.out.2.1.grown (grown_trans HF7.out.1 G0.out))).mono ?_
  rintro e wd ⟨rfl,gg⟩
  rw [decide_eq_true rfl]
  replace G0:Hid (W7.grownBy wd none):=grown_trans G0.out gg
  clear gg
  go_wp2_with fail
  refine hK.out _ _ (fun _=>G0.out) ?_
  clear hK K
  try simp only [pN]
  have J:Idx [6,7,8,9,10]:=trivial
  iterate 5 (refine tK J (G0.out) rfl rfl (fun wk hk=>by obtain ⟨c0,c1,c2,c3,c4,c5,c6,c7,c8,c9,c10,c11,c12⟩:=(HF7.out.2.1.grown hk).cells;obtain ⟨d0,d1,d2,d3,d4,d5,d6,d7,d8,d9,d10,d11,d12⟩:=(HF7.out.2.2.2.1.grown hk).cells;have cv:=HCC.out wk hk;go_simp;try rfl) ?_;replace J:=J.tl;try simp only [pN])
  clear J
  refine wpHold_one (i:=11) rfl (by kernel_rfl) (by rfl) (fun K hK=>?_)
  go_wp2_with fail
  refine (form19 (.slice ao n ca) (.slice bo p cb) m wd (HS.out.1.grown (grown_trans HF7.out.1 G0.out)) (HS.out.2.1.grown (grown_trans HF7.out.1 G0.out)) (by have:=HS.out.2.2.1;omega) HS.out.2.2.2.1 HOK.out.1).mono ?_
  rintro e wd ⟨fv,rfl,fo,gg⟩
  replace G0:Hid (W7.grownBy wd none):=grown_trans G0.out gg
  obtain ⟨fo1,fo2,fo3,hfv⟩:=isSl_on fo
  subst hfv
  have HFO:Hid (Seg wd (.slice fo1 fo2 fo3) (formM m)):=fo.seg
  clear gg fo
  go_wp2_with fail
  refine hK.out _ _ (fun _=>G0.out) ?_
  clear hK K
  try simp only [pN]
  refine wpHold_one (i:=12) rfl (by kernel_rfl) (by rfl) (fun K hK=>?_)
  have cv2:=seg_str HFO.out
  go_wp2_with fail
  refine hK.out _ _ (fun _=>G0.out) ?_
  clear hK K cv2
  try simp only [pN]
  have J:Idx [13,14,15]:=trivial
  iterate 3 (refine tK J (G0.out) rfl rfl (fun wk hk=>by obtain ⟨c0,c1,c2,c3,c4,c5,c6,c7,c8,c9,c10,c11,c12⟩:=(HF7.out.2.1.grown hk).cells;obtain ⟨d0,d1,d2,d3,d4,d5,d6,d7,d8,d9,d10,d11,d12⟩:=(HF7.out.2.2.2.1.grown hk).cells;have cv:=HCC.out wk hk;go_simp;try rfl) ?_;replace J:=J.tl;try simp only [pN])
  clear J
  refine wpHold_one (i:=16) rfl (by kernel_rfl) (by rfl) (fun K hK=>?_)
  go_wp2_with fail
  refine (known17 HS.out.2.2.2.2.2 wd).mono ?_
  rintro e wd ⟨rfl,gg⟩
  replace G0:Hid (W7.grownBy wd none):=grown_trans G0.out gg
  clear gg
  go_wp2_with fail
  refine hK.out _ _ (fun _=>G0.out) ?_
  clear hK K
  try simp only [pN]
  have J:Idx [17,18]:=trivial
  iterate 2 (refine tK J (G0.out) rfl rfl (fun wk hk=>by obtain ⟨c0,c1,c2,c3,c4,c5,c6,c7,c8,c9,c10,c11,c12⟩:=(HF7.out.2.1.grown hk).cells;obtain ⟨d0,d1,d2,d3,d4,d5,d6,d7,d8,d9,d10,d11,d12⟩:=(HF7.out.2.2.2.1.grown hk).cells;have cv:=HCC.out wk hk;go_simp;try rfl) ?_;replace J:=J.tl;try simp only [pN])
  clear J
  refine wpHold_done (by kernel_rfl) ?_
  refine (‹∀(a:Act) (w:World),Code.wp Tryz.prog _ _ a w->_› _ _ ?_)
  go_wp2_with fail
  go_ret
  exact ⟨rfl,grown_trans HF7.out.1 G0.out⟩
end Go.Proofs.YtncbdhdfemidlaaGreat
