import Derived.Test.YtakmlhhapegpoaaGreatMqsAll
import Derived.Test.YtakmlhhapegpoaaGreatCeAll
set_option maxHeartbeats 8000000
set_option maxRecDepth 100000
namespace Go.Proofs.YtakmlhhapegpoaaGreat
open Go.RowKit Disk Table
open Names (Str cmpL keyB valueB tabB)
open _root_.Go.Proofs.YtakmlhhapegpoaaGreat.Calls (POp POut PRes opV OpSeg mayOp Ops OpAt ops_at ops_open chk rds mayCall)
theorem refuses57 (b m:Nat)(q:Int × Int)(v:Value)(l:List POp)(w:World)(hb:EngB w b q m)(hv:Ops w v l):Calls Tryz.prog 57 #[.pointer (some ⟨b,0,none⟩),.agg #[v]] w fun e w'=>e=.returned (.int .i64 (chk l))/\w.grownBy w' none:=by
 obtain ⟨ao,n,cap,rfl,hn,hn2,HV⟩:=ops_open hv
 have HB:Hid (EngB w b q m):=hb
 clear hv hb hn hn2
 go_enter Tryz.func57,Tryz.ntmps57
 go_wp2_with fail
 obtain ⟨w1,hw1,H1⟩:=al w #[.slice ao n cap] 37
 rw [hw1]
 clear hw1
 have c0:=H1.out.1.cell 0
 simp at c0
 go_wp2_with (go_at_call 31;refine (there31 b m q w1 (Blk.grown HB.out H1.out.2.1 (by simp))).mono ?_;rintro e w2 ⟨rfl,hw⟩;rw [hw];clear hw)
 refine (Calls.check16 (.slice ao n cap) l w1 (HV.out.grown H1.out.2.1)).mono ?_
 rintro e w2 ⟨rfl,g2⟩
 have G2:Hid (w.grownBy w2 none):=grown_trans H1.out.2.1 g2
 clear g2
 go_wp2_with fail
 go_ret
 exact ⟨rfl,G2.out⟩
def resV3 (x y:Int)(v:Value):Value:=.agg #[.int .i64 x,.int .i64 y,v]
theorem load49 {w:World}{rb:Nat}{x y z:Value}(hr:Blk w rb 49 #[x,y,z]):(loadVar 49 ⟨rb,0,none⟩).run Tryz.prog w=.ok (.agg #[x,y,z]) w:=run_loadVar_row w rb 49 49 #[x,y,z] (0,0) _ hr Tryz.underlying49 rfl (by kernel_rfl)
theorem res34 {w:World}{tmps:Array Value}{rb:Nat}{p e x y z:Value}(h4:tmps[4]? = some p)(h5:tmps[5]? = some (.pointer (some ⟨rb,0,none⟩)))(h6:tmps[6]? = some e)(hr:Blk w rb 49 #[x,y,z]):(results Tryz.f34 tmps).run Tryz.prog w=.ok (.tuple #[p,.agg #[x,y,z],e]) w:=by
 simp [results,Tryz.results34,h4,h5,h6,asAddr,load49 hr,Result.andThen]
theorem res17 {w:World}{tmps:Array Value}{rb:Nat}{e x y z:Value}(h4:tmps[4]? = some (.pointer (some ⟨rb,0,none⟩)))(h5:tmps[5]? = some e)(hr:Blk w rb 49 #[x,y,z]):(results Tryz.f17 tmps).run Tryz.prog w=.ok (.tuple #[.agg #[x,y,z],e]) w:=by
 simp [results,Tryz.results17,h4,h5,asAddr,load49 hr,Result.andThen]
theorem res26 {w:World}{tmps:Array Value}{rb:Nat}{e x y z:Value}(h4:tmps[4]? = some (.pointer (some ⟨rb,0,none⟩)))(h5:tmps[5]? = some e)(hr:Blk w rb 49 #[x,y,z]):(results Tryz.f26 tmps).run Tryz.prog w=.ok (.tuple #[.agg #[x,y,z],e]) w:=by
 simp [results,Tryz.results26,h4,h5,asAddr,load49 hr,Result.andThen]
theorem chk_may {l:List POp}(h:chk l=0):(∀o ∈ l,mayOp o=true)/\1<=l.length/\l.length<=16:=by
 unfold chk at h
 split at h
 ·rename_i hm
  unfold mayCall at hm
  simp at hm
  exact ⟨fun o ho=>hm.2 o ho,hm.1.1,hm.1.2⟩
 ·omega
def TryE (X:Nat->Prop)(q:Int × Int)(D:DB)(l:List POp)(m:Nat)(w:World)(e:Ending)(w':World):Prop :=
 w.grownBy w' none/\((chk l≠0/\e=.returned (.tuple #[.pointer none,resV3 0 0 (.slice none 0 0),.int .i64 (chk l)])) ∨
  (chk l=0/\∃outs D',callD q D [] l=.ok (outs,D')/\DbQ q D'/\∃db v,e=.returned (.tuple #[ptr db,resV3 0 0 v,.int .i64 0])/\w.heap.size<=db/\Eng X w' db q D'/\OutsN w' w.heap.size v outs) ∨
  (chk l=0/\∃c n,callD q D [] l=.error (c,n)/\∃cb,e=.returned (.tuple #[ptr cb,resV3 c n (.slice none 0 0),.int .i64 0])/\w.heap.size<=cb/\EngB w' cb q m))
def TryEY (X:Nat->Prop)(q:Int × Int)(D:DB)(l:List POp)(m:Nat)(w:World)(e:Ending)(w':World):Prop :=
 w.grownBy w' none/\((chk l≠0/\e=.returned (.tuple #[.pointer none,resV3 0 0 (.slice none 0 0),.int .i64 (chk l)])) ∨
  (chk l=0/\∃outs D',callD q D [] l=.ok (outs,D')/\DbQ q D'/\∃db v Y,e=.returned (.tuple #[ptr db,resV3 0 0 v,.int .i64 0])/\w.heap.size<=db/\(∀g,Y g->w.heap.size<=g/\g<w'.heap.size)/\Eng (XY X Y) w' db q D'/\OutsY Y w' w.heap.size v outs) ∨
  (chk l=0/\∃c n,callD q D [] l=.error (c,n)/\∃cb,e=.returned (.tuple #[ptr cb,resV3 c n (.slice none 0 0),.int .i64 0])/\w.heap.size<=cb/\EngB w' cb q m))
theorem TryEY.t {X:Nat->Prop}{q:Int × Int}{D:DB}{l:List POp}{m:Nat}{w w':World}{e:Ending}(h:TryEY X q D l m w e w'):TryE X q D l m w e w':=by
 obtain ⟨h0,h | ⟨h1,outs,D',h2,h3,db,v,Y,h4,h5,_,h6,h7⟩ | h⟩:=h
 ·exact ⟨h0,.inl h⟩
 ·exact ⟨h0,.inr (.inl ⟨h1,outs,D',h2,h3,db,v,h4,h5,eng_anti h6 (fun g hx=>.inl hx),h7.n⟩)⟩
 ·exact ⟨h0,.inr (.inr h)⟩
theorem grown_s3 {w w1:World}{B:Nat}{u v x:Value}(h:w.grownBy w1 none)(hB:w.heap.size<=B):w.grownBy (((w1.setCell ⟨B,0,none⟩ u).setCell ⟨B,1,none⟩ v).setCell ⟨B,2,none⟩ x) none:=grown_set3 h hB
theorem em_res {X:Nat->Prop}{w:World}{m rb:Nat}{D:DB}{i j x y:Int}{a a':Option Addr}{n n' c c':Nat}(h:EM X w m D)(hr:Blk w rb 49 #[.int .i64 i,.int .i64 j,.slice a n c]):EM X (((w.setCell ⟨rb,0,none⟩ (.int .i64 x)).setCell ⟨rb,1,none⟩ (.int .i64 y)).setCell ⟨rb,2,none⟩ (.slice a' n' c')) m D :=
 em_offT (em_offT (em_offT h (grown_setCell _ _ _ _) hr (by decide) (by decide) (by decide) (noP3 _ _ _ _ _)) (grown_setCell _ _ _ _) (hr.store 0 (.int .i64 x)) (by decide) (by decide) (by decide) (noP3 _ _ _ _ _)) (grown_setCell _ _ _ _) ((hr.store 0 (.int .i64 x)).store 1 (.int .i64 y)) (by decide) (by decide) (by decide) (noP3 _ _ _ _ _)
theorem outs_res {Y:Nat->Prop}{w:World}{B rb:Nat}{v:Value}{l:List POut}{i j x y:Int}{a a':Option Addr}{n n' c c':Nat}(h:OutsY Y w B v l)(hr:Blk w rb 49 #[.int .i64 i,.int .i64 j,.slice a n c]):OutsY Y (((w.setCell ⟨rb,0,none⟩ (.int .i64 x)).setCell ⟨rb,1,none⟩ (.int .i64 y)).setCell ⟨rb,2,none⟩ (.slice a' n' c')) B v l :=
 ((h.off (grown_setCell _ _ _ _) hr (by decide) (by decide) (by decide)).off (grown_setCell _ _ _ _) (hr.store 0 (.int .i64 x)) (by decide) (by decide) (by decide)).off (grown_setCell _ _ _ _) ((hr.store 0 (.int .i64 x)).store 1 (.int .i64 y)) (by decide) (by decide) (by decide)
theorem eng_res {w:World}{b m rb:Nat}{q:Int × Int}{i j:Int}{u v x:Value}{a:Option Addr}{n c:Nat}(h:EngB w b q m)(hr:Blk w rb 49 #[.int .i64 i,.int .i64 j,.slice a n c]):EngB (((w.setCell ⟨rb,0,none⟩ u).setCell ⟨rb,1,none⟩ v).setCell ⟨rb,2,none⟩ x) b q m:=by
 have hne:some rb≠some b:=by
  intro e
  simp at e
  subst e
  unfold EngB Blk at h
  unfold Blk at hr
  rw [h] at hr
  simp at hr
 exact ((Blk.grown h (grown_setCell _ _ _ _) hne).grown (grown_setCell _ _ _ _) hne).grown (grown_setCell _ _ _ _) hne
theorem try34y {X:Nat->Prop}(b m:Nat)(q:Int × Int)(D:DB)(hD:DbQ q D)(v:Value)(l:List POp)(w:World)(hX:∀g,X g->g<w.heap.size)(hb:EngB w b q m)(hm:EM X w m D)(hv:Ops w v l):Calls Tryz.prog 34 #[.pointer (some ⟨b,0,none⟩),.agg #[v]] w (TryEY X q D l m w):=by
 obtain ⟨ao,n,cap,rfl,hn,hn2,HV⟩:=ops_open hv
 have HH:Hid (DbQ q D/\(∀g,X g->g<w.heap.size)/\EngB w b q m/\EM X w m D):=⟨hD,hX,hb,hm⟩
 obtain ⟨C,hC⟩:∃C,chk l=C:=⟨_,rfl⟩
 have HC0:Hid (chk l=C):=hC
 clear hv hD hX hb hm hn hn2 hC
 go_enter Tryz.func34,Tryz.ntmps34
 go_wp2_with fail
 obtain ⟨w1,hw1,H1⟩:=al w #[.slice ao n cap] 37
 rw [hw1]
 clear hw1
 obtain ⟨w2,hw2,H2⟩:=al w1 #[.int .i64 0,.int .i64 0,.slice none 0 0] 49
 rw [hw2]
 clear hw2
 have s1:=H1.out.2.2
 obtain ⟨rb,hrb⟩:∃rb,w.heap.size+1=rb:=⟨_,rfl⟩
 have HB:Hid (w.grownBy w2 none/\Blk w2 rb 49 #[.int .i64 0,.int .i64 0,.slice none 0 0]/\Blk w2 w.heap.size 37 #[.slice ao n cap]/\w.heap.size<rb):=⟨grown_trans H1.out.2.1 H2.out.2.1,by rw [<-hrb,<-s1];exact H2.out.1,H1.out.1.grown H2.out.2.1 (by simp),by omega⟩
 rw [hrb]
 clear H1 H2 s1 hrb
 have c0:=HB.out.2.2.1.cell 0
 simp at c0
 go_wp2_with fail
 refine (refuses57 b m q (.slice ao n cap) l w2 (Blk.grown HH.out.2.2.1 HB.out.1 (by simp)) (HV.out.grown HB.out.1)).mono ?_
 rw [HC0.out]
 rintro e w3 ⟨rfl,g3⟩
 have G3:Hid (w.grownBy w3 none/\Blk w3 rb 49 #[.int .i64 0,.int .i64 0,.slice none 0 0]):=⟨grown_trans HB.out.1 g3,HB.out.2.1.grown g3 (by simp)⟩
 replace c0:=g3.cell c0 (by simp)
 clear g3
 by_cases hz:C=0
 ·subst hz
  go_wp2_with fail
  refine (behind59y (X:=X) b m q D HH.out.1 (.slice ao n cap) l (chk_may HC0.out).1 (by have:=(chk_may HC0.out).2.2;omega) w3 (fun g hg=>by have:=HH.out.2.1 g hg;have:=G3.out.1.size;omega) (Blk.grown HH.out.2.2.1 G3.out.1 (by simp)) (HH.out.2.2.2.grown G3.out.1) (HV.out.grown G3.out.1)).mono ?_
  rintro e w4 ⟨g4,⟨outs,D1,hcall,hdb,db,u,Y,rfl,hdbl,hYb,hE,hO⟩ | ⟨c,k,hcall,db,rfl,hdbl,hE⟩⟩
  ·obtain ⟨au,nu,cu,rfl,_,_,_⟩:=hO.n.shape
   have HYB:Hid (∀g,Y g->w.heap.size<=g/\g<w4.heap.size):=fun g hg=>⟨Nat.le_trans G3.out.1.size (hYb g hg).1,(hYb g hg).2⟩
   clear hYb
   have H4:Hid (callD q D [] l=.ok (outs,D1)/\DbQ q D1/\w.heap.size<=db/\Eng (XY X Y) w4 db q D1/\OutsY Y w4 w.heap.size (.slice au nu cu) outs/\w.grownBy w4 none/\Blk w4 rb 49 #[.int .i64 0,.int .i64 0,.slice none 0 0]):=⟨hcall,hdb,Nat.le_trans G3.out.1.size hdbl,hE,hO.mono G3.out.1.size,grown_trans G3.out.1 g4,G3.out.2.grown g4 (by simp)⟩
   clear hcall hdb hdbl hE hO g4
   unfold ptr
   go_wp2_with fail
   obtain ⟨w5,hw5,H5⟩:=al w4 #[.int .i64 0,.int .i64 0,.slice au nu cu] 49
   rw [hw5]
   clear hw5
   refine wp_region_noPanic ?_
   refine wp_region_hold 1000 (fun y=>Blk y w4.heap.size 49 #[.int .i64 0,.int .i64 0,.slice au nu cu]) (by kernel_rfl) ?_
   have HD:Hid (Blk w5.drew w4.heap.size 49 #[.int .i64 0,.int .i64 0,.slice au nu cu]/\w4.grownBy w5.drew none):=⟨H5.out.1.grown (grown_drew _ none) (by simp),grown_trans H5.out.2.1 (grown_drew _ _)⟩
   generalize w5.drew=wd at HD ⊢
   have J:Idx [0,1,2]:=trivial
   iterate 3 (refine tK J (HD.out.1) rfl rfl (fun wk hk=>by have y0:=hk.cell 0;have y1:=hk.cell 1;have y2:=hk.cell 2;simp at y0 y1 y2;go_simp;try rfl) ?_;replace J:=J.tl;try simp only [pN])
   clear J
   refine wpHold_one (i:=3) rfl (by kernel_rfl) (by rfl) (fun K hK=>?_)
   have hr:=H4.out.2.2.2.2.2.2.grown HD.out.2 (by simp)
   have f0:=hr.free 0
   have f1:=hr.free 1
   have f2:=hr.free 2
   have v0:=hr.cell 0
   have v1:=hr.cell 1
   have v2:=hr.cell 2
   simp at v0 v1 v2
   have HRB:Hid (Blk wd rb 49 #[.int .i64 0,.int .i64 0,.slice none 0 0]):=hr
   clear hr
   go_wp2_with fail
   have hlt:rb<w4.heap.size:=H4.out.2.2.2.2.2.2.lt
   have hne:some rb≠some w4.heap.size:=by simp;omega
   have HD2:Hid (Blk (((wd.setCell ⟨rb,0,none⟩ (.int .i64 0)).setCell ⟨rb,1,none⟩ (.int .i64 0)).setCell ⟨rb,2,none⟩ (.slice au nu cu)) w4.heap.size 49 #[.int .i64 0,.int .i64 0,.slice au nu cu]):=((HD.out.1.grown (grown_setCell _ _ _ _) hne).grown (grown_setCell _ _ _ _) hne).grown (grown_setCell _ _ _ _) hne
   refine hK.out _ _ (fun _=>HD2.out) ?_
   clear hK K f0 f1 f2 v0 v1 v2 hlt hne
   try simp only [pN]
   refine tK (i:=4) (l':=[]) trivial (HD2.out) rfl rfl (fun wk hk=>by have y0:=hk.cell 0;have y1:=hk.cell 1;have y2:=hk.cell 2;simp at y0 y1 y2;go_simp;try rfl) ?_
   try simp only [pN]
   refine wpHold_done (by kernel_rfl) ?_
   refine (‹∀(a:Act) (w:World),Code.wp Tryz.prog _ _ a w->_› _ _ ?_)
   go_wp2_with fail
   refine bodyPost_ret (v:=_) (res34 rfl rfl rfl (((HRB.out.store 0 (.int .i64 0)).store 1 (.int .i64 0)).store 2 (.slice au nu cu))) rfl ?_
   obtain ⟨m1,e1,e2⟩:=H4.out.2.2.2.1
   refine ⟨grown_s3 (grown_trans H4.out.2.2.2.2.2.1 HD.out.2) (by have:=HB.out.2.2.2;omega),.inr (.inl ⟨HC0.out,outs,D1,H4.out.1,H4.out.2.1,db,_,Y,rfl,H4.out.2.2.1,fun g hg=>⟨(HYB.out g hg).1,Nat.lt_of_lt_of_le (HYB.out g hg).2 (by simpa using HD.out.2.size)⟩,⟨m1,eng_res (Blk.grown e1 HD.out.2 (by simp)) HRB.out,em_res (e2.grown HD.out.2) HRB.out⟩,outs_res (H4.out.2.2.2.2.1.grown HD.out.2) HRB.out⟩)⟩
  ·have H4:Hid (callD q D [] l=.error (c,k)/\w.heap.size<=db/\EngB w4 db q m/\w.grownBy w4 none/\Blk w4 rb 49 #[.int .i64 0,.int .i64 0,.slice none 0 0]):=⟨hcall,Nat.le_trans G3.out.1.size hdbl,hE,grown_trans G3.out.1 g4,G3.out.2.grown g4 (by simp)⟩
   clear hcall hdbl hE g4
   unfold ptr
   go_wp2_with fail
   obtain ⟨w5,hw5,H5⟩:=al w4 #[.int .i64 c,.int .i64 (k:Int),.slice none 0 0] 49
   rw [hw5]
   clear hw5
   refine wp_region_noPanic ?_
   refine wp_region_hold 1000 (fun y=>Blk y w4.heap.size 49 #[.int .i64 c,.int .i64 (k:Int),.slice none 0 0]) (by kernel_rfl) ?_
   have HD:Hid (Blk w5.drew w4.heap.size 49 #[.int .i64 c,.int .i64 (k:Int),.slice none 0 0]/\w4.grownBy w5.drew none):=⟨H5.out.1.grown (grown_drew _ none) (by simp),grown_trans H5.out.2.1 (grown_drew _ _)⟩
   generalize w5.drew=wd at HD ⊢
   have J:Idx [0,1,2]:=trivial
   iterate 3 (refine tK J (HD.out.1) rfl rfl (fun wk hk=>by have y0:=hk.cell 0;have y1:=hk.cell 1;have y2:=hk.cell 2;simp at y0 y1 y2;go_simp;try rfl) ?_;replace J:=J.tl;try simp only [pN])
   clear J
   refine wpHold_one (i:=3) rfl (by kernel_rfl) (by rfl) (fun K hK=>?_)
   have hr:=H4.out.2.2.2.2.grown HD.out.2 (by simp)
   have f0:=hr.free 0
   have f1:=hr.free 1
   have f2:=hr.free 2
   have v0:=hr.cell 0
   have v1:=hr.cell 1
   have v2:=hr.cell 2
   simp at v0 v1 v2
   have HRB:Hid (Blk wd rb 49 #[.int .i64 0,.int .i64 0,.slice none 0 0]):=hr
   clear hr
   go_wp2_with fail
   have hlt:rb<w4.heap.size:=H4.out.2.2.2.2.lt
   have hne:some rb≠some w4.heap.size:=by simp;omega
   have HD2:Hid (Blk (((wd.setCell ⟨rb,0,none⟩ (.int .i64 c)).setCell ⟨rb,1,none⟩ (.int .i64 (k:Int))).setCell ⟨rb,2,none⟩ (.slice none 0 0)) w4.heap.size 49 #[.int .i64 c,.int .i64 (k:Int),.slice none 0 0]):=((HD.out.1.grown (grown_setCell _ _ _ _) hne).grown (grown_setCell _ _ _ _) hne).grown (grown_setCell _ _ _ _) hne
   refine hK.out _ _ (fun _=>HD2.out) ?_
   clear hK K f0 f1 f2 v0 v1 v2 hlt hne
   try simp only [pN]
   refine tK (i:=4) (l':=[]) trivial (HD2.out) rfl rfl (fun wk hk=>by have y0:=hk.cell 0;have y1:=hk.cell 1;have y2:=hk.cell 2;simp at y0 y1 y2;go_simp;try rfl) ?_
   try simp only [pN]
   refine wpHold_done (by kernel_rfl) ?_
   refine (‹∀(a:Act) (w:World),Code.wp Tryz.prog _ _ a w->_› _ _ ?_)
   go_wp2_with fail
   refine bodyPost_ret (v:=_) (res34 rfl rfl rfl (((HRB.out.store 0 (.int .i64 c)).store 1 (.int .i64 (k:Int))).store 2 (.slice none 0 0))) rfl ?_
   exact ⟨grown_s3 (grown_trans H4.out.2.2.2.1 HD.out.2) (by have:=HB.out.2.2.2;omega),.inr (.inr ⟨HC0.out,c,k,H4.out.1,db,rfl,H4.out.2.1,eng_res (Blk.grown H4.out.2.2.1 HD.out.2 (by simp)) HRB.out⟩)⟩
 ·have HZ:Hid (C≠0):=hz
  have a0:(C==0)=false:=by simpa using hz
  have a1:(C=0)=False:=by simpa using hz
  clear hz
  have hr:=G3.out.2
  have f0:=hr.free 0
  have f1:=hr.free 1
  have f2:=hr.free 2
  have v0:=hr.cell 0
  have v1:=hr.cell 1
  have v2:=hr.cell 2
  simp at v0 v1 v2
  clear hr
  go_wp2_with fail
  refine bodyPost_ret (v:=_) (res34 rfl rfl rfl (((G3.out.2.store 0 (.int .i64 0)).store 1 (.int .i64 0)).store 2 (.slice none 0 0))) rfl ?_
  exact ⟨grown_s3 G3.out.1 (by have:=HB.out.2.2.2;omega),.inl ⟨by rw [HC0.out];exact HZ.out,by rw [HC0.out];rfl⟩⟩
theorem try34 {X:Nat->Prop}(b m:Nat)(q:Int × Int)(D:DB)(hD:DbQ q D)(v:Value)(l:List POp)(w:World)(hX:∀g,X g->g<w.heap.size)(hb:EngB w b q m)(hm:EM X w m D)(hv:Ops w v l):Calls Tryz.prog 34 #[.pointer (some ⟨b,0,none⟩),.agg #[v]] w (TryE X q D l m w) :=
 (try34y b m q D hD v l w hX hb hm hv).mono fun _ _ h=>h.t
def DoE (X:Nat->Prop)(q:Int × Int)(D:DB)(l:List POp)(m b:Nat)(w:World)(e:Ending)(w':World):Prop :=
 (chk l≠0/\w.grownBy w' none/\e=.returned (.tuple #[resV3 0 0 (.slice none 0 0),.int .i64 (chk l)])) ∨
  (chk l=0/\w.grownBy w' (some b)/\((∃outs D',callD q D [] l=.ok (outs,D')/\DbQ q D'/\Eng X w' b q D'/\∃v,e=.returned (.tuple #[resV3 0 0 v,.int .i64 0])/\OutsN w' w.heap.size v outs) ∨
   (∃c n,callD q D [] l=.error (c,n)/\EngB w' b q m/\EM X w' m D/\e=.returned (.tuple #[resV3 c n (.slice none 0 0),.int .i64 0]))))
def DoEY (X:Nat->Prop)(q:Int × Int)(D:DB)(l:List POp)(m b:Nat)(w:World)(e:Ending)(w':World):Prop :=
 (chk l≠0/\w.grownBy w' none/\e=.returned (.tuple #[resV3 0 0 (.slice none 0 0),.int .i64 (chk l)])) ∨
  (chk l=0/\w.grownBy w' (some b)/\((∃outs D',callD q D [] l=.ok (outs,D')/\DbQ q D'/\∃Y,Eng (XY X Y) w' b q D'/\(∀g,Y g->w.heap.size<=g/\g<w'.heap.size)/\∃v,e=.returned (.tuple #[resV3 0 0 v,.int .i64 0])/\OutsY Y w' w.heap.size v outs) ∨
   (∃c n,callD q D [] l=.error (c,n)/\EngB w' b q m/\EM X w' m D/\e=.returned (.tuple #[resV3 c n (.slice none 0 0),.int .i64 0]))))
theorem DoEY.d {X:Nat->Prop}{q:Int × Int}{D:DB}{l:List POp}{m b:Nat}{w w':World}{e:Ending}(h:DoEY X q D l m b w e w'):DoE X q D l m b w e w':=by
 obtain h | ⟨h0,h1,⟨outs,D',h2,h3,Y,h4,_,v,h5,h6⟩ | h⟩:=h
 ·exact .inl h
 ·exact .inr ⟨h0,h1,.inl ⟨outs,D',h2,h3,eng_anti h4 (fun g hx=>.inl hx),v,h5,h6.n⟩⟩
 ·exact .inr ⟨h0,h1,.inr h⟩
theorem noP_eng (q:Int × Int)(m:Nat):∀u ∈ (#[Value.int .i64 q.1,.int .i64 q.2,.map (some m)]:Array Value).toList,noP u:=by
 intro u hu p
 simp at hu
 rcases hu with rfl | rfl | rfl <;> simp [ptr]
theorem OutsN.mono {w:World}{B B':Nat}{v:Value}{l:List POut}(h:OutsN w B v l)(hB:B'<=B):OutsN w B' v l:=by
 obtain ⟨ks,k1,k2,k3⟩:=h
 exact ⟨ks,owns_mono k1 hB,⟨k2.1,fun j a b=>⟨(k2.2 j a b).has,(k2.2 j a b).value.mono hB,(k2.2 j a b).rows.mono hB⟩⟩,k3⟩
theorem do17y {X:Nat->Prop}(b m:Nat)(q:Int × Int)(D:DB)(hD:DbQ q D)(v:Value)(l:List POp)(w:World)(hX:∀g,X g->g<w.heap.size)(hb:EngB w b q m)(hm:EM X w m D)(hv:Ops w v l):Calls Tryz.prog 17 #[.pointer (some ⟨b,0,none⟩),.agg #[v]] w (DoEY X q D l m b w):=by
 obtain ⟨ao,n,cap,rfl,hn,hn2,HV⟩:=ops_open hv
 have HH:Hid (DbQ q D/\(∀g,X g->g<w.heap.size)/\EngB w b q m/\EM X w m D):=⟨hD,hX,hb,hm⟩
 clear hv hD hX hb hm hn hn2
 go_enter Tryz.func17,Tryz.ntmps17
 go_wp2_with fail
 obtain ⟨w1,hw1,H1⟩:=al w #[.slice ao n cap] 37
 rw [hw1]
 clear hw1
 obtain ⟨w2,hw2,H2⟩:=al w1 #[.int .i64 0,.int .i64 0,.slice none 0 0] 49
 rw [hw2]
 clear hw2
 have s1:=H1.out.2.2
 obtain ⟨rb,hrb⟩:∃rb,w.heap.size+1=rb:=⟨_,rfl⟩
 have HB:Hid (w.grownBy w2 none/\Blk w2 rb 49 #[.int .i64 0,.int .i64 0,.slice none 0 0]/\w.heap.size<rb):=⟨grown_trans H1.out.2.1 H2.out.2.1,by rw [<-hrb,<-s1];exact H2.out.1,by omega⟩
 rw [hrb]
 clear H1 H2 s1 hrb
 refine (try34y (X:=X) b m q D HH.out.1 (.slice ao n cap) l w2 (fun g hg=>by have:=HH.out.2.1 g hg;have:=HB.out.1.size;omega) (Blk.grown HH.out.2.2.1 HB.out.1 (by simp)) (HH.out.2.2.2.grown HB.out.1) (HV.out.grown HB.out.1)).mono ?_
 rintro e w3 ⟨g3,⟨hC,rfl⟩ | ⟨hC,outs,D1,hcall,hdb,db,u,Y,rfl,hdbl,hYb,hE,hO⟩ | ⟨hC,c,k,hcall,db,rfl,hdbl,hE⟩⟩
 ·obtain ⟨C,hC0⟩:∃C,chk l=C:=⟨_,rfl⟩
  rw [hC0] at hC ⊢
  have H3:Hid (C≠0/\chk l=C/\w.grownBy w3 none/\Blk w3 rb 49 #[.int .i64 0,.int .i64 0,.slice none 0 0]):=⟨hC,hC0,grown_trans HB.out.1 g3,HB.out.2.1.grown g3 (by simp)⟩
  have a0:(C==0)=false:=by simpa using hC
  have a1:(C=0)=False:=by simpa using hC
  clear hC hC0 g3
  unfold resV3
  have hb5:Blk (w3.alloc (.cells #[.int .i64 0,.int .i64 0,.slice none 0 0] 49)) rb 49 #[.int .i64 0,.int .i64 0,.slice none 0 0]:=H3.out.2.2.2.grown (World.grownBy_alloc _ _ none) (by simp)
  have HB5:Hid (Blk (w3.alloc (.cells #[.int .i64 0,.int .i64 0,.slice none 0 0] 49)) rb 49 #[.int .i64 0,.int .i64 0,.slice none 0 0]):=hb5
  have f0:=hb5.free 0
  have f1:=hb5.free 1
  have f2:=hb5.free 2
  have v0:=hb5.cell 0
  have v1:=hb5.cell 1
  have v2:=hb5.cell 2
  simp only [List.getElem?_toArray,List.getElem?_cons_zero,List.getElem?_cons_succ] at v0 v1 v2
  clear hb5
  go_wp2_with fail
  refine bodyPost_ret (v:=_) (res17 rfl rfl (((HB5.out.store 0 (.int .i64 0)).store 1 (.int .i64 0)).store 2 (.slice none 0 0))) rfl ?_
  exact .inl ⟨by rw [H3.out.2.1];exact H3.out.1,grown_s3 (grown_trans H3.out.2.2.1 (World.grownBy_alloc _ _ none)) (by have:=HB.out.2.2;omega),by rw [H3.out.2.1];rfl⟩
 ·obtain ⟨au,nu,cu,rfl,_,_,_⟩:=hO.n.shape
  have HYB:Hid (∀g,Y g->w.heap.size<=g/\g<w3.heap.size):=fun g hg=>⟨Nat.le_trans HB.out.1.size (hYb g hg).1,(hYb g hg).2⟩
  clear hYb
  obtain ⟨m1,he1,hm1⟩:=hE
  have H4:Hid (EngB w3 db q m1/\EngB w3 b q m/\Blk w3 rb 49 #[.int .i64 0,.int .i64 0,.slice none 0 0]/\w.grownBy w3 none/\chk l=0/\callD q D [] l=.ok (outs,D1)/\DbQ q D1/\EM (XY X Y) w3 m1 D1/\OutsY Y w3 w.heap.size (.slice au nu cu) outs):=⟨he1,Blk.grown HH.out.2.2.1 (grown_trans HB.out.1 g3) (by simp),HB.out.2.1.grown g3 (by simp),grown_trans HB.out.1 g3,hC,hcall,hdb,hm1,hO.mono HB.out.1.size⟩
  clear hC hcall hdb hdbl he1 hm1 hO g3
  unfold ptr resV3
  obtain ⟨W5,hW5,H5⟩:=al w3 #[.int .i64 0,.int .i64 0,.slice au nu cu] 49
  have hE5:EngB W5 db q m1:=Blk.grown H4.out.1 H5.out.2.1 (by simp)
  have hB5:EngB W5 b q m:=Blk.grown H4.out.2.1 H5.out.2.1 (by simp)
  have hd2:=Blk.cell hE5 2
  have hb2:=Blk.cell hB5 2
  have hf2:=Blk.free hB5 2
  simp at hd2 hb2
  obtain ⟨W6,hW6⟩:∃W,W5.setCell ⟨b,2,none⟩ (.map (some m1))=W:=⟨_,rfl⟩
  have g6:W5.grownBy W6 (some b):=by rw [<-hW6];exact grown_setCell _ _ _ _
  have e6:EngB W6 b q m1:=by rw [<-hW6];exact Blk.store hB5 2 _
  have nr:∀(x:Nat) (c:Array Value),Blk W5 x 49 c->some b≠some x:=fun x c hx e=>by
   simp at e
   subst e
   unfold EngB Blk at hB5
   unfold Blk at hx
   rw [hB5] at hx
   simp at hx
  have t6:Blk W6 w3.heap.size 49 #[.int .i64 0,.int .i64 0,.slice au nu cu]:=H5.out.1.grown g6 (nr _ _ H5.out.1)
  have r5:Blk W5 rb 49 #[.int .i64 0,.int .i64 0,.slice none 0 0]:=H4.out.2.2.1.grown H5.out.2.1 (by simp)
  have r6:Blk W6 rb 49 #[.int .i64 0,.int .i64 0,.slice none 0 0]:=r5.grown g6 (nr _ _ r5)
  have H6:Hid (EngB W6 b q m1/\W5.grownBy W6 (some b)/\Blk W6 rb 49 #[.int .i64 0,.int .i64 0,.slice none 0 0]/\EngB W5 b q m/\w3.grownBy W5 none):=⟨e6,g6,r6,hB5,H5.out.2.1⟩
  have k0:=t6.cell 0
  have k1:=t6.cell 1
  have k2:=t6.cell 2
  have f0:=r6.free 0
  have f1:=r6.free 1
  have f2:=r6.free 2
  have v0:=r6.cell 0
  have v1:=r6.cell 1
  have v2:=r6.cell 2
  simp at k0 k1 k2 v0 v1 v2
  clear e6 g6 r6 r5 t6 nr hE5 hB5
  go_wp2_with fail
  refine bodyPost_ret (v:=_) (res17 rfl rfl (((H6.out.2.2.1.store 0 (.int .i64 0)).store 1 (.int .i64 0)).store 2 (.slice au nu cu))) rfl ?_
  have hgw:w.grownBy (((W6.setCell ⟨rb,0,none⟩ (.int .i64 0)).setCell ⟨rb,1,none⟩ (.int .i64 0)).setCell ⟨rb,2,none⟩ (.slice au nu cu)) (some b):=grown_new3 (grown_trans (grown_weak (grown_trans H4.out.2.2.2.1 H6.out.2.2.2.2) _) H6.out.2.1) (by have:=HB.out.2.2;omega)
  have hmW:EM (XY X Y) W6 m1 D1:=em_offT (H4.out.2.2.2.2.2.2.2.1.grown H6.out.2.2.2.2) H6.out.2.1 H6.out.2.2.2.1 (by decide) (by decide) (by decide) (noP_eng q m)
  have hoW:=(H4.out.2.2.2.2.2.2.2.2.grown H6.out.2.2.2.2).off H6.out.2.1 H6.out.2.2.2.1 (by decide) (by decide) (by decide)
  exact .inr ⟨H4.out.2.2.2.2.1,hgw,.inl ⟨outs,D1,H4.out.2.2.2.2.2.1,H4.out.2.2.2.2.2.2.1,Y,⟨m1,eng_res H6.out.1 H6.out.2.2.1,em_res hmW H6.out.2.2.1⟩,fun g hg=>⟨(HYB.out g hg).1,Nat.lt_of_lt_of_le (HYB.out g hg).2 (by have:=H6.out.2.2.2.2.size;have:=H6.out.2.1.size;simp;omega)⟩,_,rfl,outs_res hoW H6.out.2.2.1⟩⟩
 ·have H4:Hid (EngB w3 db q m/\EngB w3 b q m/\Blk w3 rb 49 #[.int .i64 0,.int .i64 0,.slice none 0 0]/\w.grownBy w3 none/\chk l=0/\callD q D [] l=.error (c,k)):=⟨hE,Blk.grown HH.out.2.2.1 (grown_trans HB.out.1 g3) (by simp),HB.out.2.1.grown g3 (by simp),grown_trans HB.out.1 g3,hC,hcall⟩
  clear hC hcall hdbl hE g3
  unfold ptr resV3
  have H5:Hid (Blk (w3.alloc (.cells #[.int .i64 c,.int .i64 (k:Int),.slice none 0 0] 49)) w3.heap.size 49 #[.int .i64 c,.int .i64 (k:Int),.slice none 0 0]/\w3.grownBy (w3.alloc (.cells #[.int .i64 c,.int .i64 (k:Int),.slice none 0 0] 49)) none):=⟨heap_alloc_new _ _,World.grownBy_alloc _ _ _⟩
  have hE5:EngB (w3.alloc (.cells #[.int .i64 c,.int .i64 (k:Int),.slice none 0 0] 49)) db q m:=Blk.grown H4.out.1 H5.out.2 (by simp)
  have hB5:EngB (w3.alloc (.cells #[.int .i64 c,.int .i64 (k:Int),.slice none 0 0] 49)) b q m:=Blk.grown H4.out.2.1 H5.out.2 (by simp)
  have hd2:=Blk.cell hE5 2
  have hb2:=Blk.cell hB5 2
  have hf2:=Blk.free hB5 2
  simp only [List.getElem?_toArray,List.getElem?_cons_zero,List.getElem?_cons_succ] at hd2 hb2
  obtain ⟨W6,hW6⟩:∃W,(w3.alloc (.cells #[.int .i64 c,.int .i64 (k:Int),.slice none 0 0] 49)).setCell ⟨b,2,none⟩ (.map (some m))=W:=⟨_,rfl⟩
  have g6:(w3.alloc (.cells #[.int .i64 c,.int .i64 (k:Int),.slice none 0 0] 49)).grownBy W6 (some b):=by rw [<-hW6];exact grown_setCell _ _ _ _
  have e6:EngB W6 b q m:=by rw [<-hW6];exact Blk.store hB5 2 _
  have nr:∀(x:Nat) (cc:Array Value),Blk (w3.alloc (.cells #[.int .i64 c,.int .i64 (k:Int),.slice none 0 0] 49)) x 49 cc->some b≠some x:=fun x cc hx e=>by
   simp at e
   subst e
   unfold EngB Blk at hB5
   unfold Blk at hx
   rw [hB5] at hx
   simp at hx
  have t6:Blk W6 w3.heap.size 49 #[.int .i64 c,.int .i64 (k:Int),.slice none 0 0]:=H5.out.1.grown g6 (nr _ _ H5.out.1)
  have r5:Blk (w3.alloc (.cells #[.int .i64 c,.int .i64 (k:Int),.slice none 0 0] 49)) rb 49 #[.int .i64 0,.int .i64 0,.slice none 0 0]:=H4.out.2.2.1.grown H5.out.2 (by simp)
  have r6:Blk W6 rb 49 #[.int .i64 0,.int .i64 0,.slice none 0 0]:=r5.grown g6 (nr _ _ r5)
  have H6:Hid (EngB W6 b q m/\(w3.alloc (.cells #[.int .i64 c,.int .i64 (k:Int),.slice none 0 0] 49)).grownBy W6 (some b)/\Blk W6 rb 49 #[.int .i64 0,.int .i64 0,.slice none 0 0]/\EngB (w3.alloc (.cells #[.int .i64 c,.int .i64 (k:Int),.slice none 0 0] 49)) b q m/\w3.grownBy (w3.alloc (.cells #[.int .i64 c,.int .i64 (k:Int),.slice none 0 0] 49)) none):=⟨e6,g6,r6,hB5,H5.out.2⟩
  have k0:=t6.cell 0
  have k1:=t6.cell 1
  have k2:=t6.cell 2
  have f0:=r6.free 0
  have f1:=r6.free 1
  have f2:=r6.free 2
  have v0:=r6.cell 0
  have v1:=r6.cell 1
  have v2:=r6.cell 2
  simp at k0 k1 k2 v0 v1 v2
  clear e6 g6 r6 r5 t6 nr hE5 hB5
  go_wp2_with fail
  refine bodyPost_ret (v:=_) (res17 rfl rfl (((H6.out.2.2.1.store 0 (.int .i64 c)).store 1 (.int .i64 (k:Int))).store 2 (.slice none 0 0))) rfl ?_
  have hgw:w.grownBy (((W6.setCell ⟨rb,0,none⟩ (.int .i64 c)).setCell ⟨rb,1,none⟩ (.int .i64 (k:Int))).setCell ⟨rb,2,none⟩ (.slice none 0 0)) (some b):=grown_new3 (grown_trans (grown_weak (grown_trans H4.out.2.2.2.1 H6.out.2.2.2.2) _) H6.out.2.1) (by have:=HB.out.2.2;omega)
  have hmW:EM X W6 m D:=em_offT ((HH.out.2.2.2.grown H4.out.2.2.2.1).grown H6.out.2.2.2.2) H6.out.2.1 H6.out.2.2.2.1 (by decide) (by decide) (by decide) (noP_eng q m)
  exact .inr ⟨H4.out.2.2.2.2.1,hgw,.inr ⟨c,k,H4.out.2.2.2.2.2,eng_res H6.out.1 H6.out.2.2.1,em_res hmW H6.out.2.2.1,rfl⟩⟩
theorem do17 {X:Nat->Prop}(b m:Nat)(q:Int × Int)(D:DB)(hD:DbQ q D)(v:Value)(l:List POp)(w:World)(hX:∀g,X g->g<w.heap.size)(hb:EngB w b q m)(hm:EM X w m D)(hv:Ops w v l):Calls Tryz.prog 17 #[.pointer (some ⟨b,0,none⟩),.agg #[v]] w (DoE X q D l m b w) :=
 (do17y b m q D hD v l w hX hb hm hv).mono fun _ _ h=>h.d
end Go.Proofs.YtakmlhhapegpoaaGreat
