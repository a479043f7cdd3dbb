import Derived.Test.YtgjcpjckaopeeaaGreatDoorKt
set_option maxHeartbeats 16000000
set_option maxRecDepth 100000
namespace Go.Proofs.YtgjcpjckaopeeaaGreatDoor
open Go.RowKit Disk
open _root_.Go.Proofs.YtgjcpjckaopeeaaGreatDoor.Calls
open Names (Str)
theorem bytes_any (ov:Value)(c:PCmd)(w:World)(h:Ops w ov c.ops)(hI:InC c):Calls Tryz.prog 10 #[.agg #[.int .i64 c.kind,.int .i64 c.token,.int .i64 c.session,.int .i64 c.number,.int .i64 c.mark,ov]] w fun e w'=>∃ao n cap,e=.returned (.tuple #[.slice ao n cap,.int .i64 (chkC c)])/\n=(if okC c=true then formC c else []).length/\Own w' w.heap.size (.slice ao n cap) (if okC c=true then formC c else [])/\w.grownBy w' none:=by
 refine (bytes10 ov c w h hI).mono ?_
 rintro e w' ⟨u,rfl,ho,hg⟩
 obtain ⟨x,y,rfl⟩:=ho.seg.shape
 exact ⟨x,_,y,rfl,rfl,ho,hg⟩
theorem form_pos' {c:PCmd}(_h:okC c=true):0<(formC c).length:=by
 unfold formC frontC headC
 have:=Wire.numForm_pos c.kind.toNat
 rw [List.length_append,List.length_append]
 omega
theorem one3_a (u:Value)(c:PCmd)(w:World)(hu:Ops w u c.ops)(hE:EnvC w)(hb:smallB c=false):Calls Tryz.prog 3 #[cmdV u c] w fun e w'=>e=.returned (.bool true)/\w.grownBy w' none:=by
 obtain ⟨ao,n,ca,rfl,_,_,HU⟩:=ops_open hu
 have HE:Hid (EnvC w):=hE
 clear hu hE
 unfold cmdV
 go_enter Tryz.func3,Tryz.ntmps3
 go_wp2_with fail
 obtain ⟨W,hW,HW⟩:=al1 w #[.int .i64 c.kind,.int .i64 c.token,.int .i64 c.session,.int .i64 c.number,.int .i64 c.mark,.slice ao n ca] 27
 rw [hW]
 clear hW
 refine (small6e (.slice ao n ca) c W (HU.out.grown HW.out.2.1)).mono ?_
 rintro e w1 ⟨rfl,g1⟩
 rw [hb]
 have G:Hid (w.grownBy w1 none):=grown_trans HW.out.2.1 g1
 clear g1 HW
 go_wp2_with fail
 refine (known7 w1 (HE.out.grown G.out)).mono ?_
 rintro e w2 ⟨rfl,g2'⟩
 have G2:Hid (w.grownBy w2 none):=grown_trans G.out g2'
 clear g2'
 go_wp2_with fail
 go_ret
 exact ⟨rfl,G2.out⟩
theorem one3_b (u:Value)(c:PCmd)(w:World)(hu:Ops w u c.ops)(ic:InC c)(hfit:Fit c.ops)(hE:EnvC w)(hb:smallB c=true):Calls Tryz.prog 3 #[cmdV u c] w fun e w'=>e=.returned (.bool true)/\w.grownBy w' none:=by
 obtain ⟨ao,n,ca,rfl,_,_,HU⟩:=ops_open hu
 have HI:Hid (InC c/\Fit c.ops/\EnvC w):=⟨ic,hfit,hE⟩
 clear hu ic hfit hE
 unfold cmdV
 go_enter Tryz.func3,Tryz.ntmps3
 go_wp2_with fail
 obtain ⟨W,hW,HW⟩:=al1 w #[.int .i64 c.kind,.int .i64 c.token,.int .i64 c.session,.int .i64 c.number,.int .i64 c.mark,.slice ao n ca] 27
 rw [hW]
 clear hW
 refine (small6e (.slice ao n ca) c W (HU.out.grown HW.out.2.1)).mono ?_
 rintro e w1 ⟨rfl,g1⟩
 rw [hb]
 have H1:Hid (Blk w1 w.heap.size 27 #[.int .i64 c.kind,.int .i64 c.token,.int .i64 c.session,.int .i64 c.number,.int .i64 c.mark,.slice ao n ca]/\w.grownBy w1 none):=⟨HW.out.1.grown g1 (by simp),grown_trans HW.out.2.1 g1⟩
 clear g1 HW hb
 have c0:=H1.out.1.cell 0
 have c1:=H1.out.1.cell 1
 have c2:=H1.out.1.cell 2
 have c3:=H1.out.1.cell 3
 have c4:=H1.out.1.cell 4
 have c5:=H1.out.1.cell 5
 simp at c0 c1 c2 c3 c4 c5
 go_wp2_with fail
 clear c0 c1 c2 c3 c4 c5
 refine (copy8 (.slice ao n ca) c w1 (HU.out.grown H1.out.2) HI.out.2.1).mono ?_
 rintro e w2 ⟨v,rfl,hv,g2'⟩
 obtain ⟨bo,m,cb,rfl⟩:∃a n b,v=.slice a n b:=by obtain ⟨a,n,b,e,_⟩:=ops_open hv.ops;exact ⟨a,n,b,e⟩
 unfold cmdV
 go_upto_region 4 with fail
 obtain ⟨w3,hw3,HA⟩:=al1 w2 #[.int .i64 c.kind,.int .i64 c.token,.int .i64 c.session,.int .i64 c.number,.int .i64 c.mark,.slice bo m cb] 27
 rw [hw3]
 clear hw3
 have H3:Hid (Blk w3 w.heap.size 27 #[.int .i64 c.kind,.int .i64 c.token,.int .i64 c.session,.int .i64 c.number,.int .i64 c.mark,.slice ao n ca]/\Blk w3 w2.heap.size 27 #[.int .i64 c.kind,.int .i64 c.token,.int .i64 c.session,.int .i64 c.number,.int .i64 c.mark,.slice bo m cb]/\w.grownBy w3 none/\Ops w3 (.slice bo m cb) c.ops):=⟨(H1.out.1.grown g2' (by simp)).grown HA.out.2.1 (by simp),HA.out.1,grown_trans (grown_trans H1.out.2 g2') HA.out.2.1,hv.ops.grown HA.out.2.1⟩
 clear g2' HA hv H1
 have HC:Hid (∀y:World,w3.grownBy y none->y.cell? ⟨w.heap.size,0,none⟩=some (.int .i64 c.kind)/\y.cell? ⟨w.heap.size,1,none⟩=some (.int .i64 c.token)/\y.cell? ⟨w.heap.size,2,none⟩=some (.int .i64 c.session)/\y.cell? ⟨w.heap.size,3,none⟩=some (.int .i64 c.number)/\y.cell? ⟨w.heap.size,4,none⟩=some (.int .i64 c.mark)/\y.cell? ⟨w.heap.size,5,none⟩=some (.slice ao n ca)/\y.cell? ⟨w2.heap.size,0,none⟩=some (.int .i64 c.kind)/\y.cell? ⟨w2.heap.size,1,none⟩=some (.int .i64 c.token)/\y.cell? ⟨w2.heap.size,2,none⟩=some (.int .i64 c.session)/\y.cell? ⟨w2.heap.size,3,none⟩=some (.int .i64 c.number)/\y.cell? ⟨w2.heap.size,4,none⟩=some (.int .i64 c.mark)/\y.cell? ⟨w2.heap.size,5,none⟩=some (.slice bo m cb)):=fun y hy=>by
  have hb:=H3.out.1.grown hy (by simp)
  have hd:=H3.out.2.1.grown hy (by simp)
  exact ⟨hb.cell 0,hb.cell 1,hb.cell 2,hb.cell 3,hb.cell 4,hb.cell 5,hd.cell 0,hd.cell 1,hd.cell 2,hd.cell 3,hd.cell 4,hd.cell 5⟩
 have HOC:Hid (∀y:World,w3.grownBy y none->Ops y (.slice ao n ca) c.ops/\Ops y (.slice bo m cb) c.ops/\EnvC y):=fun y hy=>⟨HU.out.grown (grown_trans H3.out.2.2.1 hy),H3.out.2.2.2.grown hy,HI.out.2.2.grown (grown_trans H3.out.2.2.1 hy)⟩
 obtain ⟨m0,m1,m2,m3,m4,m5,p0,p1,p2,p3,p4,p5⟩:=HC.out w3 (grown_refl _ _)
 go_wp2_with fail
 clear m0 m1 m2 m3 m4 m5 p0 p1 p2 p3 p4 p5
 refine (check9 (.slice ao n ca) c w3 (HOC.out w3 (grown_refl _ _)).1).mono ?_
 rintro e w4 ⟨rfl,gv⟩
 have G4:Hid (w3.grownBy w4 none):=gv
 clear gv
 obtain ⟨m0,m1,m2,m3,m4,m5,p0,p1,p2,p3,p4,p5⟩:=HC.out w4 G4.out
 go_wp2_with fail
 clear m0 m1 m2 m3 m4 m5 p0 p1 p2 p3 p4 p5
 refine (bytes_any (.slice bo m cb) c w4 (HOC.out w4 G4.out).2.1 HI.out.1).mono ?_
 rintro e w5 ⟨fx,fn,fy,rfl,hfn,of,gv⟩
 have G5:Hid (w3.grownBy w5 none):=grown_trans G4.out gv
 have S5:Hid (Own w5 w3.heap.size (.slice fx fn fy) (if okC c=true then formC c else [])/\fn=(if okC c=true then formC c else []).length):=⟨Own.mono of G4.out.size,hfn⟩
 clear gv of hfn
 obtain ⟨m0,m1,m2,m3,m4,m5,p0,p1,p2,p3,p4,p5⟩:=HC.out w5 G5.out
 go_wp2_with fail
 clear m0 m1 m2 m3 m4 m5 p0 p1 p2 p3 p4 p5
 refine (bytes_any (.slice bo m cb) c w5 (HOC.out w5 G5.out).2.1 HI.out.1).mono ?_
 rintro e w6 ⟨gx,gn,gy,rfl,hgn,og,gv⟩
 have G6:Hid (w3.grownBy w6 none):=grown_trans G5.out gv
 have S6:Hid (Own w6 w3.heap.size (.slice fx fn fy) (if okC c=true then formC c else [])/\fn=(if okC c=true then formC c else []).length/\Own w6 w5.heap.size (.slice gx gn gy) (if okC c=true then formC c else [])/\(∀k,(Value.slice fx fn fy).ownBlock=some k->k<w5.heap.size)):=⟨S5.out.1.grown gv,S5.out.2,og,fun k hk=>(S5.out.1.lt k hk).2⟩
 clear gv og hgn S5
 obtain ⟨m0,m1,m2,m3,m4,m5,p0,p1,p2,p3,p4,p5⟩:=HC.out w6 G6.out
 go_wp2_with fail
 clear m0 m1 m2 m3 m4 m5 p0 p1 p2 p3 p4 p5
 refine (text11 (.slice bo m cb) c w6 (HOC.out w6 G6.out).2.1 HI.out.1 (HOC.out w6 G6.out).2.2).mono ?_
 rintro e w7 ⟨rfl,gv⟩
 have G7:Hid (w3.grownBy w7 none):=grown_trans G6.out gv
 have S7:Hid (Own w7 w3.heap.size (.slice fx fn fy) (if okC c=true then formC c else [])/\fn=(if okC c=true then formC c else []).length/\Own w7 w5.heap.size (.slice gx gn gy) (if okC c=true then formC c else [])/\(∀k,(Value.slice fx fn fy).ownBlock=some k->k<w5.heap.size)):=⟨S6.out.1.grown gv,S6.out.2.1,S6.out.2.2.1.grown gv,S6.out.2.2.2⟩
 clear gv S6
 obtain ⟨TX,hTX⟩:∃T,(if okC c=true then textC c else [])=T:=⟨_,rfl⟩
 rw [hTX]
 have HT:Hid ((if okC c=true then textC c else [])=TX):=hTX
 clear hTX
 obtain ⟨kk,hkk⟩:∃k,chkC c=k:=⟨_,rfl⟩
 rw [hkk]
 have HK:Hid (chkC c=kk):=hkk
 clear hkk
 unfold Str
 go_wp2_with fail
 refine wp_region_noPanic ?_
 refine wp_region_hold 1000 (fun y=>w3.grownBy y none) (by kernel_rfl) ?_
 have G8:Hid (w3.grownBy w7.drew none):=grown_trans G7.out (grown_drew _ _)
 have S8:Hid (w7.grownBy w7.drew none):=grown_drew _ _
 generalize w7.drew=wd at G8 S8 ⊢
 have J:Idx [0,3]:=trivial
 iterate 2 (refine tK J (G8.out) rfl rfl (fun wk hk=>by obtain ⟨m0,m1,m2,m3,m4,m5,p0,p1,p2,p3,p4,p5⟩:=HC.out wk hk;go_simp;try rfl) ?_;replace J:=J.tl;try simp only [pN])
 clear J
 refine wpHold_one (i:=1) rfl (by kernel_rfl) (by rfl) (fun K hK=>?_)
 go_wp2_with fail
 refine (check13 (.slice bo m cb) c wd (HOC.out wd G8.out).2.1 HI.out.1).mono ?_
 rintro e v1 ⟨rfl,gv⟩
 rw [HK.out]
 have S9:Hid (w7.grownBy v1 none):=grown_trans S8.out gv
 have G9:Hid (w3.grownBy v1 none):=grown_trans G8.out gv
 clear gv
 go_wp2_with fail
 refine hK.out _ _ (fun _=>G9.out) ?_
 clear hK K
 try simp only [pN]
 refine wpHold_one (i:=2) rfl (by kernel_rfl) (by rfl) (fun K hK=>?_)
 go_wp2_with (go_at_call 12;refine (num12 _ _).mono ?_;rintro e wx ⟨rfl,hx⟩;rw [hx];clear hx)
 refine hK.out _ _ (fun _=>G9.out) ?_
 clear hK K
 try simp only [pN]
 have J:Idx [4,5,6,8]:=trivial
 iterate 4 (refine tK J (G9.out) rfl rfl (fun wk hk=>by obtain ⟨m0,m1,m2,m3,m4,m5,p0,p1,p2,p3,p4,p5⟩:=HC.out wk hk;go_simp;try rfl) ?_;replace J:=J.tl;try simp only [pN])
 clear J
 refine wpHold_one (i:=7) rfl (by kernel_rfl) (by rfl) (fun K hK=>?_)
 go_wp2_with fail
 refine (changes14 (.slice bo m cb) c v1 (HOC.out v1 G9.out).2.1 HI.out.1).mono ?_
 rintro e v2 ⟨rfl,gv⟩
 have S10:Hid (w7.grownBy v2 none):=grown_trans S9.out gv
 have G10:Hid (w3.grownBy v2 none):=grown_trans G9.out gv
 clear gv
 go_wp2_with fail
 refine hK.out _ _ (fun _=>G10.out) ?_
 clear hK K
 try simp only [pN]
 refine wpHold_one (i:=9) rfl (by kernel_rfl) (by rfl) (fun K hK=>?_)
 go_wp2_with fail
 refine (changes15 (.slice ao n ca) c v2 (HOC.out v2 G10.out).1).mono ?_
 rintro e v3 ⟨rfl,gv⟩
 have S11:Hid (w7.grownBy v3 none):=grown_trans S10.out gv
 have G11:Hid (w3.grownBy v3 none):=grown_trans G10.out gv
 clear gv
 go_wp2_with fail
 refine hK.out _ _ (fun _=>G11.out) ?_
 clear hK K
 try simp only [pN]
 have J:Idx [10,11,12,13,15]:=trivial
 iterate 5 (refine tK J (G11.out) rfl rfl (fun wk hk=>by obtain ⟨m0,m1,m2,m3,m4,m5,p0,p1,p2,p3,p4,p5⟩:=HC.out wk hk;go_simp;try rfl) ?_;replace J:=J.tl;try simp only [pN])
 clear J
 refine wpHold_one (i:=14) rfl (by kernel_rfl) (by rfl) (fun K hK=>?_)
 go_wp2_with (go_at_call 12;refine (num12 _ _).mono ?_;rintro e wx ⟨rfl,hx⟩;rw [hx];clear hx)
 refine hK.out _ _ (fun _=>G11.out) ?_
 clear hK K
 try simp only [pN]
 have J:Idx [16,17,18,19,21]:=trivial
 iterate 5 (refine tK J (G11.out) rfl rfl (fun wk hk=>by obtain ⟨m0,m1,m2,m3,m4,m5,p0,p1,p2,p3,p4,p5⟩:=HC.out wk hk;go_simp;try rfl) ?_;replace J:=J.tl;try simp only [pN])
 clear J
 refine wpHold_one (i:=20) rfl (by kernel_rfl) (by rfl) (fun K hK=>?_)
 go_wp2_with (go_at_call 12;refine (num12 _ _).mono ?_;rintro e wx ⟨rfl,hx⟩;rw [hx];clear hx)
 refine hK.out _ _ (fun _=>G11.out) ?_
 clear hK K
 try simp only [pN]
 have J:Idx [22,23,24,25,26]:=trivial
 iterate 5 (refine tK J (G11.out) rfl rfl (fun wk hk=>by obtain ⟨m0,m1,m2,m3,m4,m5,p0,p1,p2,p3,p4,p5⟩:=HC.out wk hk;go_simp;try rfl) ?_;replace J:=J.tl;try simp only [pN])
 clear J
 refine wpHold_one (i:=27) rfl (by kernel_rfl) (by rfl) (fun K hK=>?_)
 go_wp2_with fail
 refine (same16 (.slice bo m cb) (.slice ao n ca) c c v3 (HOC.out v3 G11.out).2.1 (HOC.out v3 G11.out).1).mono ?_
 rintro e v4 ⟨rfl,gv⟩
 rw [show decide (c=c)=true by simp]
 have S12:Hid (w7.grownBy v4 none):=grown_trans S11.out gv
 have G12:Hid (w3.grownBy v4 none):=grown_trans G11.out gv
 clear gv
 go_wp2_with fail
 refine hK.out _ _ (fun _=>G12.out) ?_
 clear hK K
 try simp only [pN]
 have J:Idx [28,29]:=trivial
 iterate 2 (refine tK J (G12.out) rfl rfl (fun wk hk=>by obtain ⟨m0,m1,m2,m3,m4,m5,p0,p1,p2,p3,p4,p5⟩:=HC.out wk hk;go_simp;try rfl) ?_;replace J:=J.tl;try simp only [pN])
 clear J
 refine wpHold_done (by kernel_rfl) ?_
 refine (‹∀(a:Act) (w:World),Code.wp Tryz.prog _ _ a w->_› _ _ ?_)
 have S13:Hid (Own v4 w3.heap.size (.slice fx fn fy) (if okC c=true then formC c else [])/\fn=(if okC c=true then formC c else []).length/\Own v4 w5.heap.size (.slice gx gn gy) (if okC c=true then formC c else [])/\(∀k,(Value.slice fx fn fy).ownBlock=some k->k<w5.heap.size)):=⟨S7.out.1.grown S12.out,S7.out.2.1,S7.out.2.2.1.grown S12.out,S7.out.2.2.2⟩
 clear S7 S8 S9 S10 S11 S12 G4 G5 G6 G7 G8 G9 G10 G11
 by_cases ho:okC c=true
 rotate_left
 ·have h0:kk=2:=by rw [<-HK.out,chkC,if_neg ho]
  have h1:fn=0:=by rw [S13.out.2.1,if_neg ho];rfl
  have h2:TX=[]:=by rw [<-HT.out,if_neg ho]
  subst h0 h1 h2
  clear ho
  go_wp2_with fail
  refine (known7 v4 (HOC.out v4 G12.out).2.2).mono ?_
  rintro e v5 ⟨rfl,gv⟩
  have G13:Hid (w.grownBy v5 none):=grown_trans H3.out.2.2.1 (grown_trans G12.out gv)
  clear gv
  go_wp2_with fail
  go_ret
  exact ⟨rfl,G13.out⟩
 have h0:kk=0:=by rw [<-HK.out,chkC,if_pos ho]
 rw [if_pos ho] at S13
 have hTX:textC c=TX:=by rw [<-HT.out,if_pos ho]
 obtain ⟨F,hF⟩:∃F,formC c=F:=⟨_,rfl⟩
 rw [hF] at S13
 have HF:Hid (formC c=F/\textC c=TX/\okC c=true/\0<F.length):=⟨hF,hTX,ho,by rw [<-hF];exact form_pos' ho⟩
 subst h0
 clear ho hF hTX HT HK
 go_wp2_with fail
 refine wp_region_noPanic ?_
 refine wp_region_hold 1000 (fun y=>v4.grownBy y none) (by kernel_rfl) ?_
 have G20:Hid (v4.grownBy v4.drew none):=grown_drew _ _
 generalize v4.drew=we at G20 ⊢
 have HD:Hid (∀y:World,v4.grownBy y none->(convert 32 9 (.slice fx fn fy)).run Tryz.prog y=.ok (.string ⟨F.toArray⟩) y):=fun y hy=>seg_str (S13.out.1.grown hy).seg
 have J:Idx [0,1,2]:=trivial
 iterate 3 (refine tK J (G20.out) rfl rfl (fun wk hk=>by obtain ⟨m0,m1,m2,m3,m4,m5,p0,p1,p2,p3,p4,p5⟩:=HC.out wk (grown_trans G12.out hk);have sF:=HD.out wk hk;go_simp;try rfl) ?_;replace J:=J.tl;try simp only [pN])
 clear J
 refine wpHold_one (i:=3) rfl (by kernel_rfl) (by rfl) (fun K hK=>?_)
 go_wp2_with fail
 refine (form17 (.slice ao n ca) c we (HOC.out we (grown_trans G12.out G20.out)).1 HI.out.1 HF.out.2.2.1).mono ?_
 rintro e x1 ⟨r,rfl,hr,gv⟩
 rw [HF.out.1] at hr
 obtain ⟨rx,rn,ry,rfl⟩:=slice_of hr
 have G21:Hid (v4.grownBy x1 none):=grown_trans G20.out gv
 have R1:Hid (Seg x1 (.slice rx rn ry) F):=hr.seg
 clear gv hr
 go_wp2_with fail
 refine hK.out _ _ (fun _=>G21.out) ?_
 clear hK K
 try simp only [pN]
 refine wpHold_one (i:=4) rfl (by kernel_rfl) (by rfl) (fun K hK=>?_)
 have sR:=seg_str R1.out
 go_wp2_with fail
 refine hK.out _ _ (fun _=>G21.out) ?_
 clear hK K
 try simp only [pN]
 have J:Idx [5,6,7,8]:=trivial
 iterate 4 (refine tK J (G21.out) rfl rfl (fun wk hk=>by obtain ⟨m0,m1,m2,m3,m4,m5,p0,p1,p2,p3,p4,p5⟩:=HC.out wk (grown_trans G12.out hk);have sF:=HD.out wk hk;go_simp;try rfl) ?_;replace J:=J.tl;try simp only [pN])
 clear J
 refine wpHold_one (i:=9) rfl (by kernel_rfl) (by rfl) (fun K hK=>?_)
 go_wp2_with fail
 refine (text18 (.slice ao n ca) c x1 (HOC.out x1 (grown_trans G12.out G21.out)).1 HI.out.1 (HOC.out x1 (grown_trans G12.out G21.out)).2.2 HF.out.2.2.1).mono ?_
 rintro e x2 ⟨rfl,gv⟩
 rw [HF.out.2.1]
 unfold Str
 have G22:Hid (v4.grownBy x2 none):=grown_trans G21.out gv
 clear gv
 go_wp2_with fail
 refine hK.out _ _ (fun _=>G22.out) ?_
 clear hK K
 try simp only [pN]
 have J:Idx [10,11]:=trivial
 iterate 2 (refine tK J (G22.out) rfl rfl (fun wk hk=>by obtain ⟨m0,m1,m2,m3,m4,m5,p0,p1,p2,p3,p4,p5⟩:=HC.out wk (grown_trans G12.out hk);have sF:=HD.out wk hk;go_simp;try rfl) ?_;replace J:=J.tl;try simp only [pN])
 clear J
 refine wpHold_done (by kernel_rfl) ?_
 refine (‹∀(a:Act) (w:World),Code.wp Tryz.prog _ _ a w->_› _ _ ?_)
 go_wp2_with fail
 have hOA:=S13.out.1.grown G22.out
 obtain ⟨g,hg0,hgB⟩:∃g,(∃cap cur,(Value.slice fx fn fy)=.slice (some ⟨g,0,none⟩) fn cap/\Blk x2 g 5 cur/\fn<=cur.size)/\w3.heap.size<=g:=by
  rcases hOA.2 with ⟨_,hn⟩ | ⟨g,cap,cur,e,hb,hg,h1,h2,h3,h4⟩
  ·exact absurd hn (by have:=HF.out.2.2.2;omega)
  ·refine ⟨g,⟨cap,cur,?_,hg,?_⟩,hb⟩
   ·rw [e,S13.out.2.1]
   ·rw [S13.out.2.1]
    omega
 obtain ⟨cap,cur,e,hbk,hcs⟩:=hg0
 simp at e
 obtain ⟨rfl,_⟩:=e
 have hgl:g<w5.heap.size:=S13.out.2.2.2 g rfl
 have HL:Hid (Blk x2 g 5 cur/\fn<=cur.size/\w3.heap.size<=g/\g<w5.heap.size):=⟨hbk,hcs,hgB,hgl⟩
 clear hOA hbk hcs hgB hgl
 have hfn:fn<=140737488355328:=by
  have h1:=formC_len HF.out.2.2.1 HI.out.1
  rw [HF.out.1] at h1
  have h2:=S13.out.2.1
  omega
 go_loopw [11] (fun i wr=>∃(k:Nat) (cr:Array Value),k<=fn/\i=.int .i64 k/\Hid (Blk wr g 5 cr/\fn<=cr.size/\x2.grownBy wr (some g))) (fun i _=>fn-(intOf i).toNat)
 case atStart=>exact ⟨0,cur,by omega,rfl,HL.out.1,HL.out.2.1,grown_refl _ _⟩
 case round =>
  obtain ⟨k,cr,hk,rfl,HR⟩:=hrel
  by_cases hlt:k<fn
  ·have i1:(k:Int)<(fn:Int):=by omega
   have i0:(0:Int)<=(k:Int):=by omega
   obtain ⟨vk,hvk⟩:∃v,cr[k]? = some v:=⟨_,Array.getElem?_eq_getElem (by have:=HR.out.2.1;omega)⟩
   have ck:=HR.out.1.cell k
   rw [hvk] at ck
   have zk:=HR.out.1.free k
   have ck0:wr.cell? ⟨g,0+k,none⟩=some vk:=by rw [Nat.zero_add];exact ck
   have zk0:wr.frozen? ⟨g,0+k,none⟩=false:=by rw [Nat.zero_add];exact zk
   go_wp2_with fail
   go_roundw
   case rel=>exact ⟨k+1,cr.setIfInBounds k (.int .u8 90),by omega,by go_num,HR.out.1.store k _,by simpa using HR.out.2.1,grown_trans HR.out.2.2 (grown_setCell _ _ _ _)⟩
   case measure=>simp [intOf];omega
  ·have i1:((k:Int)<(fn:Int))=False:=eq_false (by omega)
   have GX:Hid (w3.grownBy wr none):=grown_new (grown_trans G12.out G22.out) HR.out.2.2 (fun x hx=>by simp at hx;have:=HL.out.2.2.1;omega)
   have SB:Hid (Own wr w5.heap.size (.slice gx gn gy) F):=by
    have h1:=S13.out.2.2.1.grown G22.out
    exact h1.same fun q hq=>HR.out.2.2.block q (h1.lt q hq).2 (fun e=>by simp at e;have:=(h1.lt q hq).1;have:=HL.out.2.2.2;omega)
   clear HR hk hlt
   go_wp2_with fail
   obtain ⟨wy,hwy⟩:∃y:World,y=wr:=⟨_,rfl⟩
   subst hwy
   refine wp_region_noPanic ?_
   refine wp_region_hold 1000 (fun y=>wy.grownBy y none) (by kernel_rfl) ?_
   have G30:Hid (wy.grownBy wy.drew none):=grown_drew _ _
   generalize wy.drew=wz at G30 ⊢
   have HE2:Hid (∀y:World,wy.grownBy y none->(convert 32 9 (.slice gx gn gy)).run Tryz.prog y=.ok (.string ⟨F.toArray⟩) y):=fun y hy=>seg_str (SB.out.grown hy).seg
   have J:Idx [0,1,2]:=trivial
   iterate 3 (refine tK J (G30.out) rfl rfl (fun wk hk=>by obtain ⟨m0,m1,m2,m3,m4,m5,p0,p1,p2,p3,p4,p5⟩:=HC.out wk (grown_trans GX.out hk);have sF:=HE2.out wk hk;go_simp;try rfl) ?_;replace J:=J.tl;try simp only [pN])
   clear J
   refine wpHold_one (i:=3) rfl (by kernel_rfl) (by rfl) (fun K hK=>?_)
   go_wp2_with fail
   refine (form17 (.slice ao n ca) c wz (HOC.out wz (grown_trans GX.out G30.out)).1 HI.out.1 HF.out.2.2.1).mono ?_
   rintro e y1 ⟨r,rfl,hr,gv⟩
   rw [HF.out.1] at hr
   obtain ⟨qx,qn,qy,rfl⟩:=slice_of hr
   have G31:Hid (wy.grownBy y1 none):=grown_trans G30.out gv
   have R2:Hid (Seg y1 (.slice qx qn qy) F):=hr.seg
   clear gv hr
   go_wp2_with fail
   refine hK.out _ _ (fun _=>G31.out) ?_
   clear hK K
   try simp only [pN]
   refine wpHold_one (i:=4) rfl (by kernel_rfl) (by rfl) (fun K hK=>?_)
   have sR:=seg_str R2.out
   go_wp2_with fail
   refine hK.out _ _ (fun _=>G31.out) ?_
   clear hK K
   try simp only [pN]
   have J:Idx [5,6]:=trivial
   iterate 2 (refine tK J (G31.out) rfl rfl (fun wk hk=>by obtain ⟨m0,m1,m2,m3,m4,m5,p0,p1,p2,p3,p4,p5⟩:=HC.out wk (grown_trans GX.out hk);have sF:=HE2.out wk hk;go_simp;try rfl) ?_;replace J:=J.tl;try simp only [pN])
   clear J
   refine wpHold_one (i:=7) rfl (by kernel_rfl) (by rfl) (fun K hK=>?_)
   go_wp2_with fail
   refine (known7 y1 (HOC.out y1 (grown_trans GX.out G31.out)).2.2).mono ?_
   rintro e y2 ⟨rfl,gv⟩
   have G32:Hid (wy.grownBy y2 none):=grown_trans G31.out gv
   clear gv
   go_wp2_with fail
   refine hK.out _ _ (fun _=>G32.out) ?_
   clear hK K
   try simp only [pN]
   have J:Idx [8,9]:=trivial
   iterate 2 (refine tK J (G32.out) rfl rfl (fun wk hk=>by obtain ⟨m0,m1,m2,m3,m4,m5,p0,p1,p2,p3,p4,p5⟩:=HC.out wk (grown_trans GX.out hk);have sF:=HE2.out wk hk;go_simp;try rfl) ?_;replace J:=J.tl;try simp only [pN])
   clear J
   refine wpHold_done (by kernel_rfl) ?_
   refine (‹∀(a:Act) (w:World),Code.wp Tryz.prog _ _ a w->_› _ _ ?_)
   go_wp2_with fail
   go_ret
   exact ⟨rfl,grown_trans H3.out.2.2.1 (grown_trans GX.out G32.out)⟩
theorem one3 (u:Value)(c:PCmd)(w:World)(hu:Ops w u c.ops)(ic:InC c)(hfit:Fit c.ops)(hE:EnvC w):Calls Tryz.prog 3 #[cmdV u c] w fun e w'=>e=.returned (.bool true)/\w.grownBy w' none:=by
 cases hb:smallB c
 ·exact one3_a u c w hu hE hb
 ·exact one3_b u c w hu ic hfit hE hb
end Go.Proofs.YtgjcpjckaopeeaaGreatDoor
