import Derived.Test.YtgjcpjckaopeeaaGreatDoorKr
import Derived.Test.YtgjcpjckaopeeaaGreatDoorKfgAll
import Derived.Test.YtgjcpjckaopeeaaGreatDoorCallsCq
set_option maxHeartbeats 8000000
set_option maxRecDepth 100000
namespace Go.Proofs.YtgjcpjckaopeeaaGreatDoor
open Go.RowKit Disk
open _root_.Go.Proofs.YtgjcpjckaopeeaaGreatDoor.Calls
open Names (Str)
theorem al2' (w:World)(A B:Array Value)(s t:Nat):∃W,(w.alloc (.cells A s)).alloc (.cells B t)=W/\Hid (Blk W w.heap.size s A/\Blk W (w.heap.size+1) t B/\w.grownBy W none/\W.heap.size=w.heap.size+2):=by
 refine ⟨_,rfl,?_,?_,g2 _ _ _,by simp⟩
 ·exact Blk.grown (heap_alloc_new _ _) (World.grownBy_alloc _ _ none) (by simp)
 ·have:=heap_alloc_new (w.alloc (.cells A s)) (.cells B t)
  rw [show (w.alloc (.cells A s)).heap.size=w.heap.size+1 by simp] at this
  exact this
theorem copy8 (u:Value)(c:PCmd)(w:World)(hu:Ops w u c.ops)(hf:Fit c.ops):Calls Tryz.prog 8 #[cmdV u c] w fun e w'=>∃v,e=.returned (cmdV v c)/\OpsOwn w' w.heap.size v c.ops/\w.grownBy w' none:=by
 obtain ⟨ao,n,ca,rfl,_,_,HU⟩:=ops_open hu
 have HF:Hid (Fit c.ops):=hf
 clear hu hf
 unfold cmdV
 go_enter Tryz.func8,Tryz.ntmps8
 go_wp2_with fail
 obtain ⟨W,hW,HW⟩:=al2' w #[.int .i64 c.kind,.int .i64 c.token,.int .i64 c.session,.int .i64 c.number,.int .i64 c.mark,.slice ao n ca] #[.int .i64 0,.int .i64 0,.int .i64 0,.int .i64 0,.int .i64 0,.slice none 0 0] 27 27
 rw [hW]
 clear hW
 refine (copy11 (.slice ao n ca) c.ops W (HU.out.grown HW.out.2.2.1) HF.out).mono ?_
 rintro e w1 ⟨v,rfl,hv,g1⟩
 obtain ⟨ux,un,uy,rfl⟩:∃a n b,v=.slice a n b:=by obtain ⟨a,n,b,e,_⟩:=ops_open hv.ops;exact ⟨a,n,b,e⟩
 have H1:Hid (Blk w1 w.heap.size 27 #[.int .i64 c.kind,.int .i64 c.token,.int .i64 c.session,.int .i64 c.number,.int .i64 c.mark,.slice ao n ca]/\Blk w1 (w.heap.size+1) 27 #[.int .i64 0,.int .i64 0,.int .i64 0,.int .i64 0,.int .i64 0,.slice none 0 0]/\w.grownBy w1 none/\OpsOwn w1 w.heap.size (.slice ux un uy) c.ops):=⟨HW.out.1.grown g1 (by simp),HW.out.2.1.grown g1 (by simp),grown_trans HW.out.2.2.1 g1,hv.mono (by have:=HW.out.2.2.2;omega)⟩
 clear g1 HW hv
 have c5:=H1.out.1.cell 5
 have z5:=H1.out.1.free 5
 simp at c5
 go_upto_region 2 with fail
 clear c5 z5
 have H2:Hid (Blk (w1.setCell ⟨w.heap.size,5,none⟩ (.slice ux un uy)) w.heap.size 27 #[.int .i64 c.kind,.int .i64 c.token,.int .i64 c.session,.int .i64 c.number,.int .i64 c.mark,.slice ux un uy]/\Blk (w1.setCell ⟨w.heap.size,5,none⟩ (.slice ux un uy)) (w.heap.size+1) 27 #[.int .i64 0,.int .i64 0,.int .i64 0,.int .i64 0,.int .i64 0,.slice none 0 0]/\w.grownBy (w1.setCell ⟨w.heap.size,5,none⟩ (.slice ux un uy)) none/\OpsOwn (w1.setCell ⟨w.heap.size,5,none⟩ (.slice ux un uy)) w.heap.size (.slice ux un uy) c.ops):=by
  have hg:=grown_setCell w1 w.heap.size 5 (.slice ux un uy)
  exact ⟨H1.out.1.store 5 _,H1.out.2.1.grown hg (by simp),grown_new H1.out.2.2.1 hg (fun x hx=>by simp at hx;omega),H1.out.2.2.2.set H1.out.1 (by decide) (by decide) hg⟩
 generalize w1.setCell ⟨w.heap.size,5,none⟩ (.slice ux un uy)=w2 at H2 ⊢
 clear H1
 have H3:=H2
 clear H2
 have c0:=H3.out.1.cell 0
 have c1:=H3.out.1.cell 1
 have c2:=H3.out.1.cell 2
 have c3:=H3.out.1.cell 3
 have c4:=H3.out.1.cell 4
 have c5:=H3.out.1.cell 5
 simp at c0 c1 c2 c3 c4 c5
 have r0:=H3.out.2.1.cell 0
 have r1:=H3.out.2.1.cell 1
 have r2:=H3.out.2.1.cell 2
 have r3:=H3.out.2.1.cell 3
 have r4:=H3.out.2.1.cell 4
 have r5:=H3.out.2.1.cell 5
 have z0:=H3.out.2.1.free 0
 have z1:=H3.out.2.1.free 1
 have z2:=H3.out.2.1.free 2
 have z3:=H3.out.2.1.free 3
 have z4:=H3.out.2.1.free 4
 have z5:=H3.out.2.1.free 5
 simp at r0 r1 r2 r3 r4 r5
 go_wp2_with fail
 obtain ⟨W6,hW6,H6⟩:=set6 H3.out.2.1 (.int .i64 c.kind) (.int .i64 c.token) (.int .i64 c.session) (.int .i64 c.number) (.int .i64 c.mark) (.slice ux un uy)
 rw [hW6]
 clear hW6
 have y0:=H6.out.1.cell 0
 have y1:=H6.out.1.cell 1
 have y2:=H6.out.1.cell 2
 have y3:=H6.out.1.cell 3
 have y4:=H6.out.1.cell 4
 have y5:=H6.out.1.cell 5
 simp at y0 y1 y2 y3 y4 y5
 have hgr:w.grownBy W6 none:=grown_new H3.out.2.2.1 H6.out.2 (fun x hx=>by simp at hx;omega)
 exact bodyPost_ret (v:=.agg #[.int .i64 c.kind,.int .i64 c.token,.int .i64 c.session,.int .i64 c.number,.int .i64 c.mark,.slice ux un uy]) (by simp [results,Tryz.results8,go_sem,y0,y1,y2,y3,y4,y5]) rfl ⟨.slice ux un uy,rfl,H3.out.2.2.2.set H3.out.2.1 (by decide) (by decide) H6.out.2,hgr⟩
theorem sadd (L M N:Bs)(h:L ++ M=N)(hl:N.length<=1000000):∀wk,(Op.stringOp .add ⟨L.toArray⟩ ⟨M.toArray⟩).run Tryz.prog wk=.ok (.string ⟨N.toArray⟩) wk:=fun wk=>by
 subst h
 rw [List.length_append] at hl
 exact Names.str_add L M wk (by omega)
theorem text18_1 (ao:Option Addr)(n cp:Nat)(tk ss nb mk:Int)(l:List POp)(w:World)(hI:InC (⟨1,tk,ss,nb,mk,l⟩:PCmd))(hE:EnvC w):Calls Tryz.prog 18 #[cmdV (.slice ao n cp) (⟨1,tk,ss,nb,mk,l⟩:PCmd)] w fun e w'=>e=.returned (Str (textC (⟨1,tk,ss,nb,mk,l⟩:PCmd)))/\w.grownBy w' none:=by
 have HI:Hid (InC (⟨1,tk,ss,nb,mk,l⟩:PCmd)/\EnvC w):=⟨hI,hE⟩
 clear hI hE
 simp only [cmdV]
 go_enter Tryz.func18,Tryz.ntmps18
 go_wp2_with fail
 obtain ⟨W,hW,HW⟩:=al1 w #[.int .i64 1,.int .i64 tk,.int .i64 ss,.int .i64 nb,.int .i64 mk,.slice ao n cp] 27
 rw [hW]
 clear hW
 refine (fmt45 tk W (HI.out.2.grown HW.out.2.1).env HI.out.1.t0 HI.out.1.t1).mono ?_
 rintro e w1 ⟨rfl,g1⟩
 have G:Hid (w.grownBy w1 none):=grown_trans HW.out.2.1 g1
 clear g1 HW
 obtain ⟨T,hT⟩:∃T,([111,112,101,110,32]:Bs) ++ Lib.itoa tk=T:=⟨_,rfl⟩
 have sT:=sadd [111,112,101,110,32] (Lib.itoa tk) T hT (by rw [<-hT];have:(Lib.itoa tk).length<=21:=itoa_len HI.out.1.t0 HI.out.1.t1;simp;omega)
 have HT:Hid (T=textC (⟨1,tk,ss,nb,mk,l⟩:PCmd)):=by rw [Hid,<-hT];simp [textC,wordsC,tailW,numsC,wordK,join_two,join_one]
 clear hT
 go_wp2_with fail
 go_ret
 rw [<-HT.out]
 exact ⟨rfl,G.out⟩
theorem text18_3 (ao:Option Addr)(n cp:Nat)(tk ss nb mk:Int)(l:List POp)(w:World)(hI:InC (⟨3,tk,ss,nb,mk,l⟩:PCmd))(hE:EnvC w):Calls Tryz.prog 18 #[cmdV (.slice ao n cp) (⟨3,tk,ss,nb,mk,l⟩:PCmd)] w fun e w'=>e=.returned (Str (textC (⟨3,tk,ss,nb,mk,l⟩:PCmd)))/\w.grownBy w' none:=by
 have HI:Hid (InC (⟨3,tk,ss,nb,mk,l⟩:PCmd)/\EnvC w):=⟨hI,hE⟩
 clear hI hE
 simp only [cmdV]
 go_enter Tryz.func18,Tryz.ntmps18
 go_wp2_with fail
 obtain ⟨W,hW,HW⟩:=al1 w #[.int .i64 3,.int .i64 tk,.int .i64 ss,.int .i64 nb,.int .i64 mk,.slice ao n cp] 27
 rw [hW]
 clear hW
 refine (fmt45 ss W (HI.out.2.grown HW.out.2.1).env HI.out.1.s0 HI.out.1.s1).mono ?_
 rintro e w1 ⟨rfl,g1⟩
 have G:Hid (w.grownBy w1 none):=grown_trans HW.out.2.1 g1
 clear g1 HW
 obtain ⟨T,hT⟩:∃T,([99,108,111,115,101,32]:Bs) ++ Lib.itoa ss=T:=⟨_,rfl⟩
 have sT:=sadd [99,108,111,115,101,32] (Lib.itoa ss) T hT (by rw [<-hT];have:(Lib.itoa ss).length<=21:=itoa_len HI.out.1.s0 HI.out.1.s1;simp;omega)
 have HT:Hid (T=textC (⟨3,tk,ss,nb,mk,l⟩:PCmd)):=by rw [Hid,<-hT];simp [textC,wordsC,tailW,numsC,wordK,join_two,join_one]
 clear hT
 go_wp2_with fail
 go_ret
 rw [<-HT.out]
 exact ⟨rfl,G.out⟩
theorem text18_4 (ao:Option Addr)(n cp:Nat)(tk ss nb mk:Int)(l:List POp)(w:World)(hI:InC (⟨4,tk,ss,nb,mk,l⟩:PCmd))(hE:EnvC w):Calls Tryz.prog 18 #[cmdV (.slice ao n cp) (⟨4,tk,ss,nb,mk,l⟩:PCmd)] w fun e w'=>e=.returned (Str (textC (⟨4,tk,ss,nb,mk,l⟩:PCmd)))/\w.grownBy w' none:=by
 have HI:Hid (InC (⟨4,tk,ss,nb,mk,l⟩:PCmd)/\EnvC w):=⟨hI,hE⟩
 clear hI hE
 simp only [cmdV]
 go_enter Tryz.func18,Tryz.ntmps18
 go_wp2_with fail
 obtain ⟨W,hW,HW⟩:=al1 w #[.int .i64 4,.int .i64 tk,.int .i64 ss,.int .i64 nb,.int .i64 mk,.slice ao n cp] 27
 rw [hW]
 clear hW
 refine (fmt45 ss W (HI.out.2.grown HW.out.2.1).env HI.out.1.s0 HI.out.1.s1).mono ?_
 rintro e w1 ⟨rfl,g1⟩
 have G:Hid (w.grownBy w1 none):=grown_trans HW.out.2.1 g1
 clear g1 HW
 obtain ⟨T,hT⟩:∃T,([101,120,112,105,114,101,32]:Bs) ++ Lib.itoa ss=T:=⟨_,rfl⟩
 have sT:=sadd [101,120,112,105,114,101,32] (Lib.itoa ss) T hT (by rw [<-hT];have:(Lib.itoa ss).length<=21:=itoa_len HI.out.1.s0 HI.out.1.s1;simp;omega)
 have HT:Hid (T=textC (⟨4,tk,ss,nb,mk,l⟩:PCmd)):=by rw [Hid,<-hT];simp [textC,wordsC,tailW,numsC,wordK,join_two,join_one]
 clear hT
 go_wp2_with fail
 go_ret
 rw [<-HT.out]
 exact ⟨rfl,G.out⟩
theorem text18_2 (ao:Option Addr)(n cp:Nat)(tk ss nb mk:Int)(l:List POp)(w:World)(hl:Ops w (.slice ao n cp) l)(hc:chk l=0)(hI:InC (⟨2,tk,ss,nb,mk,l⟩:PCmd))(hE:EnvC w):Calls Tryz.prog 18 #[cmdV (.slice ao n cp) (⟨2,tk,ss,nb,mk,l⟩:PCmd)] w fun e w'=>e=.returned (Str (textC (⟨2,tk,ss,nb,mk,l⟩:PCmd)))/\w.grownBy w' none:=by
 have HI:Hid (InC (⟨2,tk,ss,nb,mk,l⟩:PCmd)/\EnvC w/\Ops w (.slice ao n cp) l/\chk l=0):=⟨hI,hE,hl,hc⟩
 clear hI hE hl hc
 have ls:=itoa_len HI.out.1.s0 HI.out.1.s1
 have ln:=itoa_len HI.out.1.n0 HI.out.1.n1
 have lm:=itoa_len HI.out.1.m0 HI.out.1.m1
 have lc:=callTxt_len HI.out.2.2.2
 simp only at ls ln lm
 obtain ⟨T1,h1⟩:∃T,([99,97,108,108,32]:Bs) ++ Lib.itoa ss=T:=⟨_,rfl⟩
 have e1:=congrArg List.length h1
 obtain ⟨T2,h2⟩:∃T,T1 ++ [32]=T:=⟨_,rfl⟩
 have e2:=congrArg List.length h2
 obtain ⟨T3,h3⟩:∃T,T2 ++ Lib.itoa nb=T:=⟨_,rfl⟩
 have e3:=congrArg List.length h3
 obtain ⟨T4,h4⟩:∃T,T3 ++ [32]=T:=⟨_,rfl⟩
 have e4:=congrArg List.length h4
 obtain ⟨T5,h5⟩:∃T,T4 ++ Lib.itoa mk=T:=⟨_,rfl⟩
 have e5:=congrArg List.length h5
 obtain ⟨T6,h6⟩:∃T,T5 ++ [32]=T:=⟨_,rfl⟩
 have e6:=congrArg List.length h6
 obtain ⟨T7,h7⟩:∃T,T6 ++ callTxt l=T:=⟨_,rfl⟩
 have e7:=congrArg List.length h7
 simp only [List.length_append,List.length_cons,List.length_nil] at e1 e2 e3 e4 e5 e6 e7
 have s1:=sadd _ _ T1 h1 (by omega)
 have s2:=sadd _ _ T2 h2 (by omega)
 have s3:=sadd _ _ T3 h3 (by omega)
 have s4:=sadd _ _ T4 h4 (by omega)
 have s5:=sadd _ _ T5 h5 (by omega)
 have s6:=sadd _ _ T6 h6 (by omega)
 have s7:=sadd _ _ T7 h7 (by omega)
 have HT:Hid (T7=textC (⟨2,tk,ss,nb,mk,l⟩:PCmd)):=by rw [Hid,<-h7,<-h6,<-h5,<-h4,<-h3,<-h2,<-h1];simp [textC,wordsC,tailW,numsC,wordK,join_two,join_one]
 clear h1 h2 h3 h4 h5 h6 h7 e1 e2 e3 e4 e5 e6 e7 ls ln lm lc
 simp only [cmdV]
 go_enter Tryz.func18,Tryz.ntmps18
 go_wp2_with fail
 obtain ⟨W,hW,HW⟩:=al1 w #[.int .i64 2,.int .i64 tk,.int .i64 ss,.int .i64 nb,.int .i64 mk,.slice ao n cp] 27
 rw [hW]
 clear hW
 have H1:Hid (Blk W w.heap.size 27 #[.int .i64 2,.int .i64 tk,.int .i64 ss,.int .i64 nb,.int .i64 mk,.slice ao n cp]/\w.grownBy W none):=⟨HW.out.1,HW.out.2.1⟩
 clear HW
 have HC:Hid (∀y:World,W.grownBy y none->y.cell? ⟨w.heap.size,2,none⟩=some (.int .i64 ss)/\y.cell? ⟨w.heap.size,3,none⟩=some (.int .i64 nb)/\y.cell? ⟨w.heap.size,4,none⟩=some (.int .i64 mk)/\y.cell? ⟨w.heap.size,5,none⟩=some (.slice ao n cp)):=fun y hy=>by
  have hb:=H1.out.1.grown hy (by simp)
  exact ⟨hb.cell 2,hb.cell 3,hb.cell 4,hb.cell 5⟩
 refine wp_region_noPanic ?_
 refine wp_region_hold 1000 (fun y=>W.grownBy y none) (by kernel_rfl) ?_
 have G0:Hid (W.grownBy W.drew none):=grown_drew _ _
 generalize W.drew=wd at G0 ⊢
 have J:Idx [0,1,5,6,10,11,15,16]:=trivial
 iterate 8 (refine tK J (G0.out) rfl rfl (fun wk hk=>by obtain ⟨m2,m3,m4,m5⟩:=HC.out wk hk;go_simp;try rfl) ?_;replace J:=J.tl;try simp only [pN])
 clear J
 refine wpHold_one (i:=2) rfl (by kernel_rfl) (by rfl) (fun K hK=>?_)
 go_wp2_with fail
 refine (fmt45 ss wd ((HI.out.2.1.grown H1.out.2).grown G0.out).env HI.out.1.s0 HI.out.1.s1).mono ?_
 rintro e v1 ⟨rfl,gv⟩
 have G1:Hid (W.grownBy v1 none):=grown_trans G0.out gv
 clear gv
 go_wp2_with fail
 refine hK.out _ _ (fun _=>G1.out) ?_
 clear hK K
 try simp only [pN]
 have J:Idx [3,4]:=trivial
 iterate 2 (refine tK J (G1.out) rfl rfl (fun wk hk=>by obtain ⟨m2,m3,m4,m5⟩:=HC.out wk hk;go_simp;try rfl) ?_;replace J:=J.tl;try simp only [pN])
 clear J
 refine wpHold_one (i:=7) rfl (by kernel_rfl) (by rfl) (fun K hK=>?_)
 go_wp2_with fail
 refine (fmt45 nb v1 ((HI.out.2.1.grown H1.out.2).grown G1.out).env HI.out.1.n0 HI.out.1.n1).mono ?_
 rintro e v2 ⟨rfl,gv⟩
 have G2:Hid (W.grownBy v2 none):=grown_trans G1.out gv
 clear gv
 go_wp2_with fail
 refine hK.out _ _ (fun _=>G2.out) ?_
 clear hK K
 try simp only [pN]
 have J:Idx [8,9]:=trivial
 iterate 2 (refine tK J (G2.out) rfl rfl (fun wk hk=>by obtain ⟨m2,m3,m4,m5⟩:=HC.out wk hk;go_simp;try rfl) ?_;replace J:=J.tl;try simp only [pN])
 clear J
 refine wpHold_one (i:=12) rfl (by kernel_rfl) (by rfl) (fun K hK=>?_)
 go_wp2_with fail
 refine (fmt45 mk v2 ((HI.out.2.1.grown H1.out.2).grown G2.out).env HI.out.1.m0 HI.out.1.m1).mono ?_
 rintro e v3 ⟨rfl,gv⟩
 have G3:Hid (W.grownBy v3 none):=grown_trans G2.out gv
 clear gv
 go_wp2_with fail
 refine hK.out _ _ (fun _=>G3.out) ?_
 clear hK K
 try simp only [pN]
 have J:Idx [13,14]:=trivial
 iterate 2 (refine tK J (G3.out) rfl rfl (fun wk hk=>by obtain ⟨m2,m3,m4,m5⟩:=HC.out wk hk;go_simp;try rfl) ?_;replace J:=J.tl;try simp only [pN])
 clear J
 refine wpHold_one (i:=17) rfl (by kernel_rfl) (by rfl) (fun K hK=>?_)
 go_wp2_with fail
 refine (text21 (.slice ao n cp) l v3 ((HI.out.2.2.1.grown H1.out.2).grown G3.out) (chk0 HI.out.2.2.2).1).mono ?_
 rintro e v4 ⟨rfl,gv⟩
 have G4:Hid (W.grownBy v4 none):=grown_trans G3.out gv
 clear gv
 unfold Str
 go_wp2_with fail
 refine hK.out _ _ (fun _=>G4.out) ?_
 clear hK K
 try simp only [pN]
 have J:Idx [18,19]:=trivial
 iterate 2 (refine tK J (G4.out) rfl rfl (fun wk hk=>by obtain ⟨m2,m3,m4,m5⟩:=HC.out wk hk;go_simp;try rfl) ?_;replace J:=J.tl;try simp only [pN])
 clear J
 refine wpHold_done (by kernel_rfl) ?_
 refine (‹∀(a:Act) (w:World),Code.wp Tryz.prog _ _ a w->_› _ _ ?_)
 go_wp2_with fail
 go_ret
 rw [<-HT.out]
 exact ⟨rfl,grown_trans H1.out.2 G4.out⟩
theorem text18 (ov:Value)(c:PCmd)(w:World)(h:Ops w ov c.ops)(hI:InC c)(hE:EnvC w)(hk:okC c=true):Calls Tryz.prog 18 #[cmdV ov c] w fun e w'=>e=.returned (Str (textC c))/\w.grownBy w' none:=by
 have hk4:=fitC_kind (okC_fit hk)
 obtain ⟨ao,n,cp,rfl,_⟩:=ops_open h
 have hc:=okC_chk hk
 obtain ⟨k,tk,ss,nb,mk,l⟩:=c
 simp only at hk4 hc
 rcases (show k=1\/k=2\/k=3\/k=4 by omega) with rfl | rfl | rfl | rfl
 ·exact text18_1 ao n cp tk ss nb mk l w hI hE
 ·exact text18_2 ao n cp tk ss nb mk l w h (hc rfl) hI hE
 ·exact text18_3 ao n cp tk ss nb mk l w hI hE
 ·exact text18_4 ao n cp tk ss nb mk l w hI hE
end Go.Proofs.YtgjcpjckaopeeaaGreatDoor
