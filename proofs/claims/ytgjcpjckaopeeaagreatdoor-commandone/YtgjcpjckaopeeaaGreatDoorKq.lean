import Derived.Test.YtgjcpjckaopeeaaGreatDoorKp
set_option maxHeartbeats 16000000
set_option maxRecDepth 100000
namespace Go.Proofs.YtgjcpjckaopeeaaGreatDoor
open Go.RowKit Disk
open _root_.Go.Proofs.YtgjcpjckaopeeaaGreatDoor.Calls
open Names (Str)
theorem num12 (x:Int)(w:World):Calls Tryz.prog 12 #[.int .i64 x] w fun e w'=>e=.returned (.int .i64 x)/\w'=w:=by
 go_enter Tryz.func12,Tryz.ntmps12
 go_wp2
 go_ret
 exact ⟨rfl,rfl⟩
theorem bytes_ok (ov:Value)(c:PCmd)(w:World)(h:Ops w ov c.ops)(hI:InC c)(F:Bs)(hF:okC c=true/\formC c=F):Calls Tryz.prog 10 #[cmdV ov c] w fun e w'=>∃ao n cap,e=.returned (.tuple #[.slice ao n cap,.int .i64 0])/\n=F.length/\Own w' w.heap.size (.slice ao n cap) F/\w.grownBy w' none:=by
 refine (bytes10 ov c w h hI).mono ?_
 rintro e w' ⟨u,rfl,ho,hg⟩
 rw [if_pos hF.1,hF.2] at ho
 obtain ⟨x,y,rfl⟩:=ho.seg.shape
 exact ⟨x,F.length,y,by rw [chkC,if_pos hF.1],rfl,ho,hg⟩
theorem seg_two (w:World)(C:Array Value)(a b:UInt8)(h:C=#[.int .u8 a.toNat,.int .u8 b.toNat]):Seg (w.alloc (.cells C 5)) (.slice (some ⟨w.heap.size,0,none⟩) 2 2) [a,b]:=by
 subst h
 exact seg_lit w #[.int .u8 a.toNat,.int .u8 b.toNat] (0,0) [a,b] rfl (by simp)
theorem known7 (w:World)(hE:EnvC w):Calls Tryz.prog 7 #[] w fun e w'=>e=.returned (.bool true)/\w.grownBy w' none:=by
 have HE:Hid (EnvC w):=hE
 clear hE
 go_enter Tryz.func7,Tryz.ntmps7
 go_wp2_with fail
 refine (bytes_ok (.slice none 0 0) oneC w (ops_nil _) in_one [1,10] ⟨f_one.1,f_one.2.1⟩).mono ?_
 rintro e w1 ⟨x1,n1,y1,rfl,hn,o1,g1⟩
 have H1:Hid (Seg w1 (.slice x1 n1 y1) [1,10]/\w.grownBy w1 none):=⟨o1.seg,g1⟩
 clear o1 g1 hn
 go_wp2_with fail
 refine (get25 w1).mono ?_
 rintro e w2 ⟨u,rfl,hu,g2'⟩
 go_wp2_with fail
 refine (bytes_ok u getC w2 hu in_get [2,2,4,0,6,1,1,1,116,1,107] ⟨f_get.1,f_get.2.1⟩).mono ?_
 rintro e w3 ⟨x2,n2,y2,rfl,hn,o2,g3⟩
 have H2:Hid (Seg w3 (.slice x1 n1 y1) [1,10]/\Seg w3 (.slice x2 n2 y2) [2,2,4,0,6,1,1,1,116,1,107]/\w.grownBy w3 none):=⟨(H1.out.1.grown g2').grown g3,o2.seg,grown_trans (grown_trans H1.out.2 g2') g3⟩
 clear o2 g2' g3 hn hu H1
 go_wp2_with fail
 refine (get25 w3).mono ?_
 rintro e w4 ⟨u,rfl,hu,g4⟩
 go_wp2_with fail
 refine (text11 u getC w4 hu in_get (HE.out.grown (grown_trans H2.out.2.2 g4))).mono ?_
 rintro e w5 ⟨rfl,g5⟩
 rw [if_pos f_get.1,f_get.2.2.1,f_text]
 unfold Str
 have H3:Hid (Seg w5 (.slice x1 n1 y1) [1,10]/\Seg w5 (.slice x2 n2 y2) [2,2,4,0,6,1,1,1,116,1,107]/\w.grownBy w5 none):=⟨(H2.out.1.grown g4).grown g5,(H2.out.2.1.grown g4).grown g5,grown_trans (grown_trans H2.out.2.2 g4) g5⟩
 clear g4 g5 hu H2
 go_wp2_with fail
 refine (parse22 [111,112,101,110,32,48,53] w5 (by simp) (HE.out.grown H3.out.2.2)).mono ?_
 rintro e w6 ⟨ov,rfl,ho,g6⟩
 obtain ⟨ox,on',oy,rfl⟩:∃a n b,ov=.slice a n b:=by obtain ⟨a,n,b,e,_⟩:=ops_open ho.ops;exact ⟨a,n,b,e⟩
 rw [f_parse]
 have H4:Hid (Seg w6 (.slice x1 n1 y1) [1,10]/\Seg w6 (.slice x2 n2 y2) [2,2,4,0,6,1,1,1,116,1,107]/\w.grownBy w6 none):=⟨H3.out.1.grown g6,H3.out.2.1.grown g6,grown_trans H3.out.2.2 g6⟩
 clear g6 ho H3
 unfold cmdV zeroC
 simp only
 go_upto_region 5 with fail
 obtain ⟨w7,hw7,H5⟩:=al1 w6 #[.int .i64 0,.int .i64 0,.int .i64 0,.int .i64 0,.int .i64 0,.slice ox on' oy] 27
 rw [hw7]
 clear hw7
 have H6:Hid (Seg w7 (.slice x1 n1 y1) [1,10]/\Seg w7 (.slice x2 n2 y2) [2,2,4,0,6,1,1,1,116,1,107]/\w.grownBy w7 none):=⟨H4.out.1.grown H5.out.2.1,H4.out.2.1.grown H5.out.2.1,grown_trans H4.out.2.2 H5.out.2.1⟩
 clear H4 H5
 go_wp2_with fail
 refine (read19 _ [3,6] _ (seg_two w7 _ 3 6 rfl) (by simp)).mono ?_
 rintro e w8 ⟨ov,rfl,ho,g8⟩
 obtain ⟨px,pn,py,rfl⟩:∃a n b,ov=.slice a n b:=by obtain ⟨a,n,b,e,_⟩:=ops_open ho.ops;exact ⟨a,n,b,e⟩
 rw [f_read]
 have H7:Hid (Seg w8 (.slice x1 n1 y1) [1,10]/\Seg w8 (.slice x2 n2 y2) [2,2,4,0,6,1,1,1,116,1,107]/\w.grownBy w8 none):=by
  have g:=grown_trans (World.grownBy_alloc w7 (.cells #[.int .u8 3,.int .u8 6] 5) none) g8
  exact ⟨H6.out.1.grown g,H6.out.2.1.grown g,grown_trans H6.out.2.2 g⟩
 clear g8 ho H6
 unfold cmdV
 simp only
 go_upto_region 6 with fail
 obtain ⟨w9,hw9,H5⟩:=al1 w8 #[.int .i64 3,.int .i64 0,.int .i64 3,.int .i64 0,.int .i64 0,.slice px pn py] 27
 rw [hw9]
 clear hw9
 have H8:Hid (Seg w9 (.slice x1 n1 y1) [1,10]/\Seg w9 (.slice x2 n2 y2) [2,2,4,0,6,1,1,1,116,1,107]/\w.grownBy w9 none/\Blk w9 w8.heap.size 27 #[.int .i64 3,.int .i64 0,.int .i64 3,.int .i64 0,.int .i64 0,.slice px pn py]):=⟨H7.out.1.grown H5.out.2.1,H7.out.2.1.grown H5.out.2.1,grown_trans H7.out.2.2 H5.out.2.1,H5.out.1⟩
 clear H7 H5
 go_wp2_with fail
 refine (get25 w9).mono ?_
 rintro e w10 ⟨u,rfl,hu,g10⟩
 obtain ⟨ux,un,uy,rfl⟩:∃a n b,u=.slice a n b:=by obtain ⟨a,n,b,e,_⟩:=ops_open hu;exact ⟨a,n,b,e⟩
 have H9:Hid (Seg w10 (.slice x1 n1 y1) [1,10]/\Seg w10 (.slice x2 n2 y2) [2,2,4,0,6,1,1,1,116,1,107]/\w.grownBy w10 none/\Blk w10 w8.heap.size 27 #[.int .i64 3,.int .i64 0,.int .i64 3,.int .i64 0,.int .i64 0,.slice px pn py]/\Ops w10 (.slice ux un uy) [getOp]):=⟨H8.out.1.grown g10,H8.out.2.1.grown g10,grown_trans H8.out.2.2.1 g10,H8.out.2.2.2.grown g10 (by simp),hu⟩
 clear g10 hu H8
 unfold cmdV getC
 simp only
 go_upto_region 7 with fail
 obtain ⟨w11,hw11,H5⟩:=al1 w10 #[.int .i64 2,.int .i64 0,.int .i64 1,.int .i64 2,.int .i64 0,.slice ux un uy] 27
 rw [hw11]
 clear hw11
 have b4:=H5.out.1.cell 4
 have z4:=H5.out.1.free 4
 simp at b4
 go_upto_region 8 with fail
 have H10:Hid (Seg (w11.setCell ⟨w10.heap.size,4,none⟩ (.int .i64 1)) (.slice x1 n1 y1) [1,10]/\Seg (w11.setCell ⟨w10.heap.size,4,none⟩ (.int .i64 1)) (.slice x2 n2 y2) [2,2,4,0,6,1,1,1,116,1,107]/\w.grownBy (w11.setCell ⟨w10.heap.size,4,none⟩ (.int .i64 1)) none/\Blk (w11.setCell ⟨w10.heap.size,4,none⟩ (.int .i64 1)) w8.heap.size 27 #[.int .i64 3,.int .i64 0,.int .i64 3,.int .i64 0,.int .i64 0,.slice px pn py]/\Ops (w11.setCell ⟨w10.heap.size,4,none⟩ (.int .i64 1)) (.slice ux un uy) [getOp]/\Blk (w11.setCell ⟨w10.heap.size,4,none⟩ (.int .i64 1)) w10.heap.size 27 #[.int .i64 2,.int .i64 0,.int .i64 1,.int .i64 2,.int .i64 1,.slice ux un uy]):=by
  have hg:w10.grownBy (w11.setCell ⟨w10.heap.size,4,none⟩ (.int .i64 1)) none:=grown_new H5.out.2.1 (grown_setCell _ _ _ _) (fun x hx=>by simp at hx;omega)
  exact ⟨H9.out.1.grown hg,H9.out.2.1.grown hg,grown_trans H9.out.2.2.1 hg,H9.out.2.2.2.1.grown hg (by simp),H9.out.2.2.2.2.grown hg,H5.out.1.store 4 _⟩
 generalize w11.setCell ⟨w10.heap.size,4,none⟩ (.int .i64 1)=w12 at H10 ⊢
 clear b4 z4 H5 H9
 refine wp_region_noPanic ?_
 refine wp_region_hold 1000 (fun y=>w12.grownBy y none) (by kernel_rfl) ?_
 have G0:Hid (w12.grownBy w12.drew none):=grown_drew _ _
 generalize w12.drew=wd at G0 ⊢
 have HC:Hid (∀y:World,w12.grownBy y none->y.cell? ⟨w10.heap.size,0,none⟩=some (.int .i64 2)/\y.cell? ⟨w10.heap.size,1,none⟩=some (.int .i64 0)/\y.cell? ⟨w10.heap.size,2,none⟩=some (.int .i64 1)/\y.cell? ⟨w10.heap.size,3,none⟩=some (.int .i64 2)/\y.cell? ⟨w10.heap.size,4,none⟩=some (.int .i64 1)/\y.cell? ⟨w10.heap.size,5,none⟩=some (.slice ux un uy)):=fun y hy=>by
  have hb:=H10.out.2.2.2.2.2.grown hy (by simp)
  exact ⟨hb.cell 0,hb.cell 1,hb.cell 2,hb.cell 3,hb.cell 4,hb.cell 5⟩
 refine tK (i:=1) (l':=[]) trivial (G0.out) rfl rfl (fun wk hk=>by obtain ⟨m0,m1,m2,m3,m4,m5⟩:=HC.out wk hk;go_simp;try rfl) ?_
 try simp only [pN]
 refine wpHold_one (i:=0) rfl (by kernel_rfl) (by rfl) (fun K hK=>?_)
 go_wp2_with fail
 refine (get25 wd).mono ?_
 rintro e v1 ⟨q1,rfl,hq1,gv⟩
 have G1:Hid (w12.grownBy v1 none):=grown_trans G0.out gv
 have Q1:Hid (Ops v1 q1 [getOp]):=hq1
 clear gv hq1
 go_wp2_with fail
 refine hK.out _ _ (fun _=>G1.out) ?_
 clear hK K
 try simp only [pN]
 refine wpHold_one (i:=2) rfl (by kernel_rfl) (by rfl) (fun K hK=>?_)
 go_wp2_with fail
 refine (same24 q1 (.slice ux un uy) getC ⟨2,0,1,2,1,[getOp]⟩ v1 Q1.out (H10.out.2.2.2.2.1.grown G1.out)).mono ?_
 rintro e v2 ⟨rfl,gv⟩
 have G2:Hid (w12.grownBy v2 none):=grown_trans G1.out gv
 rw [show decide (getC=(⟨2,0,1,2,1,[getOp]⟩:PCmd))=false by kernel_rfl]
 clear gv
 go_wp2_with fail
 refine hK.out _ _ (fun _=>G2.out) ?_
 clear hK K
 try simp only [pN]
 refine tK (i:=3) (l':=[]) trivial (G2.out) rfl rfl (fun wk hk=>by obtain ⟨m0,m1,m2,m3,m4,m5⟩:=HC.out wk hk;go_simp;try rfl) ?_
 try simp only [pN]
 refine wpHold_one (i:=4) rfl (by kernel_rfl) (by rfl) (fun K hK=>?_)
 go_wp2_with fail
 refine (get25 v2).mono ?_
 rintro e v3 ⟨q2,rfl,hq,gv⟩
 have G3:Hid (w12.grownBy v3 none):=grown_trans G2.out gv
 have Q2:Hid (Ops v3 q2 [getOp]):=hq
 clear gv hq
 go_wp2_with fail
 refine hK.out _ _ (fun _=>G3.out) ?_
 clear hK K
 try simp only [pN]
 refine wpHold_one (i:=5) rfl (by kernel_rfl) (by rfl) (fun K hK=>?_)
 go_wp2_with fail
 refine (get25 v3).mono ?_
 rintro e v4 ⟨q3,rfl,hq,gv⟩
 have G4:Hid (w12.grownBy v4 none):=grown_trans G3.out gv
 have Q3:Hid (Ops v4 q3 [getOp]/\Ops v4 q2 [getOp]):=⟨hq,Q2.out.grown gv⟩
 clear gv hq
 go_wp2_with fail
 refine hK.out _ _ (fun _=>G4.out) ?_
 clear hK K
 try simp only [pN]
 refine wpHold_one (i:=6) rfl (by kernel_rfl) (by rfl) (fun K hK=>?_)
 go_wp2_with fail
 refine (same24 q2 q3 getC getC v4 Q3.out.2 Q3.out.1).mono ?_
 rintro e v5 ⟨rfl,gv⟩
 have G5:Hid (w12.grownBy v5 none):=grown_trans G4.out gv
 rw [show decide (getC=getC)=true by simp]
 clear gv
 go_wp2_with fail
 refine hK.out _ _ (fun _=>G5.out) ?_
 clear hK K
 try simp only [pN]
 have J:Idx [7,8]:=trivial
 iterate 2 (refine tK J (G5.out) rfl rfl (fun wk hk=>by obtain ⟨m0,m1,m2,m3,m4,m5⟩:=HC.out wk hk;go_simp;try rfl) ?_;replace J:=J.tl;try simp only [pN])
 clear J
 refine wpHold_done (by kernel_rfl) ?_
 refine (‹∀(a:Act) (w:World),Code.wp Tryz.prog _ _ a w->_› _ _ ?_)
 have H11:Hid (Seg v5 (.slice x1 n1 y1) [1,10]/\Seg v5 (.slice x2 n2 y2) [2,2,4,0,6,1,1,1,116,1,107]/\w.grownBy v5 none/\Blk v5 w8.heap.size 27 #[.int .i64 3,.int .i64 0,.int .i64 3,.int .i64 0,.int .i64 0,.slice px pn py]):=⟨H10.out.1.grown G5.out,H10.out.2.1.grown G5.out,grown_trans H10.out.2.2.1 G5.out,H10.out.2.2.2.1.grown G5.out (by simp)⟩
 have s1:=seg_str H11.out.1
 have s2:=seg_str H11.out.2.1
 have e0:=H11.out.2.2.2.cell 0
 have e2:=H11.out.2.2.2.cell 2
 simp at e0 e2
 clear HC H10 G0
 go_wp2_with (go_at_call 12;refine (num12 _ _).mono ?_;rintro e wx ⟨rfl,hx⟩;rw [hx];clear hx)
 refine (get25 v5).mono ?_
 rintro e v6 ⟨q4,rfl,hq,gv⟩
 go_wp2_with fail
 refine (changes14 q4 getC v6 hq in_get).mono ?_
 rintro e v7 ⟨rfl,gv2⟩
 rw [f_get.2.2.2]
 have G7:Hid (w.grownBy v7 none):=grown_trans (grown_trans H11.out.2.2.1 gv) gv2
 clear gv gv2 hq
 go_wp2_with fail
 go_ret
 exact ⟨rfl,G7.out⟩
end Go.Proofs.YtgjcpjckaopeeaaGreatDoor
