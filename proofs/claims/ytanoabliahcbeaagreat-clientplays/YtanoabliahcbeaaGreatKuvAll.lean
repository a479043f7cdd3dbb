import Derived.Test.YtanoabliahcbeaaGreatKstAll
set_option maxHeartbeats 8000000
set_option maxRecDepth 100000
namespace Go.Proofs.YtanoabliahcbeaaGreat.Wn
open Go.RowKit Disk Table
open _root_.Go.Proofs.YtanoabliahcbeaaGreat.Calls _root_.Go.Proofs.YtanoabliahcbeaaGreat.Command
variable {Q F:Nat->Prop} {w w':World} {b:Nat} {oa wo:Option Addr} {wc:Nat} {s:CS}
theorem Okc.id (h:Okc s)(hl:s.last<1000000000000):Okc s.id:=by
 refine ⟨h.num,h.size,h.most,h.tmo,h.tok,h.askAt,h.ses,h.none,?_,h.now,h.few,h.call,h.wait⟩
 have:=h.last
 simp only [CS.id]
 omega
def InvP (Q F:Nat->Prop)(b:Nat)(s:CS)(ops:List POp)(w:World)(e:Ending)(w':World):Prop:=e=.returned (.tuple #[.int .i64 (s.last+1),.int .i64 (openW s ops)])/\∃s',((openW s ops=0/\∃o n c,s'=s.id.put ⟨s.last+1,o,n,c,ops,false,0⟩)\/(openW s ops≠0/\s'=s.id))/\Stp Q F w b s' w'
theorem invoke_nocl (x ov:Value)(w:World)(h:NoCl w x)(ho:IsSl ov):Calls Tryz.prog 9 #[x,.agg #[ov]] w fun e w'=>e=.returned (.tuple #[.int .i64 0,.int .i64 3])/\w.grownBy w' none:=by
 obtain ⟨ao,an,ac,rfl⟩:=ho
 have HN:Hid (NoCl w x):=h
 clear h
 go_enter Tryz.func9,Tryz.ntmps9
 go_upto_region 1 with fail
 obtain ⟨w1,hw1,H1⟩:=al1 w #[.slice ao an ac] 35
 rw [hw1]
 clear hw1
 go_wp2_with fail
 refine (there_nocl x w1 (HN.out.grown H1.out.2.1)).mono ?_
 rintro e w2 ⟨rfl,rfl⟩
 go_wp2_with fail
 go_ret2
 exact ⟨rfl,H1.out.2.1⟩
theorem invoke9 (w:World)(ov:Value)(ops:List POp)(h:Cm Q F w b oa wo wc s)(ho:∀y,Fr w y F->Ops y ov ops)(hlast:s.last<1000000000000):Calls Tryz.prog 9 #[.pointer (some ⟨b,0,none⟩),.agg #[ov]] w (InvP Q F b s ops w):=by
 obtain ⟨ao,an,ac,rfl⟩:=isSl_ops (ho w (Fr.of (grown_refl w none) (by simp)))
 have HC:Hid (Cm Q F w b oa wo wc s/\(∀y,Fr w y F->Ops y (.slice ao an ac) ops)/\s.last<1000000000000):=⟨h,ho,hlast⟩
 have d1:IntKind.i64.wrap (s.last+1)=s.last+1:=by have:=h.ok.last;rw [IntKind.wrap_i64];omega
 clear h ho hlast
 go_enter Tryz.func9,Tryz.ntmps9
 go_upto_region 1 with fail
 obtain ⟨w1,hw1,H1⟩:=al1 w #[.slice ao an ac] 35
 rw [hw1]
 clear hw1
 obtain ⟨x3,hx3⟩:∃x,w.heap.size=x:=⟨_,rfl⟩
 rw [hx3] at H1 ⊢
 have HX:Hid (w.heap.size=x3):=hx3
 clear hx3
 have C1:=HC.out.1.grown H1.out.2.1
 have c10:w1.cell? ⟨b,10,none⟩=some (.int .i64 s.last):=C1.blk.cell 10
 have f10:=C1.blk.free 10
 have HB:Hid (Cm Q F (w1.setCell ⟨b,10,none⟩ (.int .i64 (s.last+1))) b oa wo wc s.id/\w.grownBy (w1.setCell ⟨b,10,none⟩ (.int .i64 (s.last+1))) (some b)/\Blk (w1.setCell ⟨b,10,none⟩ (.int .i64 (s.last+1))) x3 35 #[.slice ao an ac]/\Ops (w1.setCell ⟨b,10,none⟩ (.int .i64 (s.last+1))) (.slice ao an ac) ops):=by
  have gs:=grown_setCell w1 b 10 (.int .i64 (s.last+1))
  refine ⟨C1.put gs (C1.blk.store 10 _) rfl rfl rfl rfl (HC.out.1.ok.id HC.out.2.2),grown_trans (grown_mono H1.out.2.1) gs,H1.out.1.grown gs ?_,?_⟩
  ·have:=HC.out.1.blk.lt
   have:=HX.out
   simp
   omega
  ·refine HC.out.2.1 _ (Fr.of (grown_trans (grown_mono H1.out.2.1) gs) fun k hk=>?_)
   simp at hk
   exact hk ▸ HC.out.1.fb
 clear C1
 go_wp2_with fail
 refine (there_cl w1 (HC.out.1.grown H1.out.2.1)).mono ?_
 rintro e w2 ⟨rfl,rfl⟩
 go_upto_region 4 with fail
 generalize w2.setCell ⟨b,10,none⟩ (.int .i64 (s.last+1))=w3 at HB ⊢
 clear c10 f10 d1
 have q0:=HB.out.2.2.1.cell 0
 simp at q0
 go_wp2_with fail
 refine (open31 w3 (.slice ao an ac) ops HB.out.1 HB.out.2.2.2 (by have:=HC.out.1.ok.last;simp only [CS.id];omega)).mono ?_
 rintro e w4 ⟨rfl,s',hs',Q1,F1,⟨oa1,wo1,wc1,hc⟩,hf,hF,hQ⟩
 have e1:openW s.id ops=openW s ops:=rfl
 rw [e1] at hs' ⊢
 have hl:s'.last=s.last+1:=by
  rcases hs' with ⟨_,o,n,c,rfl⟩ | ⟨_,rfl⟩ <;> rfl
 have k10:w4.cell? ⟨b,10,none⟩=some (.int .i64 (s.last+1)):=by rw [<-hl];exact hc.blk.cell 10
 have HF:Hid (((openW s ops=0/\∃o n c,s'=s.id.put ⟨s.last+1,o,n,c,ops,false,0⟩)\/(openW s ops≠0/\s'=s.id))/\Stp Q F w b s' w4):=by
  refine ⟨hs',Stp.to (Fr.of HB.out.2.1 fun k hk=>?_) (fun i hi=>.inl hi) (fun i hi=>.inl hi) ⟨Q1,F1,⟨_,_,_,hc⟩,hf,hF,hQ⟩⟩
  simp at hk
  exact hk ▸ HC.out.1.fb
 obtain ⟨oc,hoc⟩:∃x,openW s ops=x:=⟨_,rfl⟩
 have HOC:Hid (openW s ops=oc):=hoc
 rw [hoc]
 clear hs' hc hf hF hQ hl e1 q0 hoc
 go_wp2_with fail
 go_ret2
 unfold InvP
 rw [HOC.out] at HF ⊢
 exact ⟨rfl,s',HF.out⟩
def CpO (Q:Nat->Prop)(s:CS)(w:World)(e:Ending)(w':World):Prop:=∃oa',e=.returned (.pointer oa')/\Out Q (fun i=>w.heap.size<=i/\∃t c,Blk w' i t c/\KT t) w' oa' s.ses s.size s.L/\w.grownBy w' none
theorem wcopy (w:World)(h:Cm Q F w b oa wo wc s):Calls Tryz.prog 47 #[.pointer oa] w (CpO Q s w):=by
 by_cases h0:s.ses=0
 ·obtain ⟨rfl,hl⟩:=h.nowin h0
  refine (copy_no _ w (.inl rfl)).mono ?_
  rintro e w' ⟨rfl,rfl⟩
  exact ⟨none,rfl,.inl ⟨h0,rfl⟩,grown_refl _ _⟩
 ·obtain ⟨h1,ob,v,rfl,hw,_⟩:=h.yeswin h0
  refine (copy_yes ob v _ _ _ w hw).mono ?_
  rintro e w' ⟨b',v',rfl,hw',hg,hn⟩
  refine ⟨_,rfl,.inr ⟨h1,b',v',rfl,hw',fun i hi=>⟨hn i hi,?_⟩⟩,hg⟩
  rcases hi with e | e
  ·subst e
   exact ⟨144,_,hw'.blk,.inr (.inl rfl)⟩
  ·obtain ⟨xs,hr,_⟩:=hw'.ring
   obtain ⟨C,hC⟩:=hr.blk i e
   exact ⟨142,_,hC,.inr (.inr (.inl rfl))⟩
def CopyK (Q:Nat->Prop)(s:CS)(w:World)(e:Ending)(w':World):Prop:=∃nb F',e=.returned (.pointer (some ⟨nb,0,none⟩))/\Cl Q F' w' nb s/\w.grownBy w' none/\∀i,F' i->w.heap.size<=i
theorem copy_nocl (x:Value)(w:World)(h:NoCl w x):Calls Tryz.prog 19 #[x] w fun e w'=>e=.returned (.pointer none)/\w'=w:=by
 have HN:Hid (NoCl w x):=h
 clear h
 go_enter Tryz.func19,Tryz.ntmps19
 go_wp2_with fail
 refine (there_nocl x w HN.out).mono ?_
 rintro e w1 ⟨rfl,rfl⟩
 go_wp2_with fail
 go_ret
 exact ⟨rfl,rfl⟩
theorem frees12 {w:World}{b t:Nat}{C:Array Value}(h:Blk w b t C):w.frozen? ⟨b,0,none⟩=false/\w.frozen? ⟨b,1,none⟩=false/\w.frozen? ⟨b,2,none⟩=false/\w.frozen? ⟨b,3,none⟩=false/\w.frozen? ⟨b,4,none⟩=false/\w.frozen? ⟨b,5,none⟩=false/\w.frozen? ⟨b,6,none⟩=false/\w.frozen? ⟨b,7,none⟩=false/\w.frozen? ⟨b,8,none⟩=false/\w.frozen? ⟨b,9,none⟩=false/\w.frozen? ⟨b,10,none⟩=false/\w.frozen? ⟨b,11,none⟩=false :=
 ⟨h.free 0,h.free 1,h.free 2,h.free 3,h.free 4,h.free 5,h.free 6,h.free 7,h.free 8,h.free 9,h.free 10,h.free 11⟩
theorem copy19 (w:World)(h:Cm Q F w b oa wo wc s):Calls Tryz.prog 19 #[.pointer (some ⟨b,0,none⟩)] w (CopyK Q s w):=by
 have HC:Hid (Cm Q F w b oa wo wc s):=h
 obtain ⟨n,hn⟩:∃n,s.wt.length=n:=⟨_,rfl⟩
 have HN:Hid (s.wt.length=n):=hn
 have hb:=h.blk
 rw [hn] at hb
 obtain ⟨c0,c1,c2,c3,c4,c5,c6,c7,c8,c9,c10,c11⟩:=cells12 hb
 clear h hb hn
 have HZ:Hid (Blk (w.alloc (.cells #[.int .i64 0,.int .i64 0,.int .i64 0,.int .i64 0,.int .i64 0,.bool false,.int .i64 0,.int .i64 0,.pointer none,.slice none 0 0,.int .i64 0,.int .i64 0] 85)) w.heap.size 85 #[.int .i64 0,.int .i64 0,.int .i64 0,.int .i64 0,.int .i64 0,.bool false,.int .i64 0,.int .i64 0,.pointer none,.slice none 0 0,.int .i64 0,.int .i64 0]):=heap_alloc_new w _
 obtain ⟨w1,hw1,H1⟩:=al1 w #[.int .i64 s.num,.int .i64 s.size,.int .i64 s.most,.int .i64 s.tmo,.int .i64 s.tok,.bool s.asked,.int .i64 s.askAt,.int .i64 s.ses,.pointer oa,.slice wo n wc,.int .i64 s.last,.int .i64 s.now] 85
 have HW1:Hid (w.alloc (.cells #[.int .i64 s.num,.int .i64 s.size,.int .i64 s.most,.int .i64 s.tmo,.int .i64 s.tok,.bool s.asked,.int .i64 s.askAt,.int .i64 s.ses,.pointer oa,.slice wo n wc,.int .i64 s.last,.int .i64 s.now] 85)=w1):=hw1
 clear hw1
 go_enter Tryz.func19,Tryz.ntmps19
 go_wp2_with fail
 refine (there_cl w HC.out).mono ?_
 rintro e w0 ⟨rfl,rfl⟩
 obtain ⟨y0,y1,y2,y3,y4,y5,y6,y7,y8,y9,y10,y11⟩:=cells12 HZ.out
 obtain ⟨z0,z1,z2,z3,z4,z5,z6,z7,z8,z9,z10,z11⟩:=frees12 HZ.out
 go_upto_region 4 with fail
 rw [HW1.out]
 clear y0 y1 y2 y3 y4 y5 y6 y7 y8 y9 y10 y11 z0 z1 z2 z3 z4 z5 z6 z7 z8 z9 z10 z11 HZ HW1
 obtain ⟨nb,hnb⟩:∃x,w0.heap.size=x:=⟨_,rfl⟩
 have HNB:Hid (w0.heap.size=nb):=hnb
 rw [hnb] at H1 ⊢
 clear c0 c1 c2 c3 c4 c5 c6 c7 c10 c11 hnb
 have k8:=H1.out.2.1.cell c8 (by simp)
 have k9:=H1.out.2.1.cell c9 (by simp)
 clear c8 c9
 refine wp_region_hold 1000 (fun y=>w1.grownBy y (some nb)) (by kernel_rfl) ?_
 have HD:Hid (w1.grownBy w1.drew none):=grown_drew _ _
 generalize w1.drew=wd at HD ⊢
 have HBN:Hid (b<nb):=by have:=HC.out.blk.lt;have:=HNB.out;unfold Hid;omega
 have J:Idx [0,1,2,3,5,6,7,8]:=trivial
 iterate 8 (refine tK J ((grown_mono HD.out)) rfl rfl (fun wk hk=>by have k8:=hk.cell k8 (by have:=HBN.out;simp;omega);have k9:=hk.cell k9 (by have:=HBN.out;simp;omega);go_simp;try rfl) ?_;replace J:=J.tl;try simp only [pN])
 clear J
 refine wpHold_one (i:=4) rfl (by kernel_rfl) (by rfl) (fun K hK=>?_)
 go_wp2_with fail
 refine (wcopy wd (HC.out.grown (grown_trans H1.out.2.1 HD.out))).mono ?_
 rintro e w2 ⟨oa',rfl,ho,hg⟩
 have H2:Hid (Out Q (fun i=>wd.heap.size<=i/\∃t c,Blk w2 i t c/\KT t) w2 oa' s.ses s.size s.L/\w1.grownBy w2 none/\wd.grownBy w2 none):=⟨ho,grown_trans HD.out hg,hg⟩
 clear ho hg
 go_wp2_with fail
 refine hK.out _ _ (fun _=>grown_mono H2.out.2.1) ?_
 clear hK K
 try simp only [pN]
 refine wpHold_one (i:=9) rfl (by kernel_rfl) (by rfl) (fun K hK=>?_)
 have hrow:CRow w2 0 (.slice wo n wc) s.wt:=by
  have h:=lrow_c.1 (HC.out.grown (grown_trans H1.out.2.1 H2.out.2.1)).wt
  rw [HN.out] at h
  exact h
 have HROW:Hid (CRow w2 0 (.slice wo n wc) s.wt):=hrow
 clear hrow
 go_wp2_with fail
 refine (clone48 0 (.slice wo n wc) s.wt w2 HROW.out HC.out.len.2).mono ?_
 rintro e w3 ⟨u,rfl,hu,hg⟩
 obtain ⟨uo,uc,rfl⟩:=(lrow_c.2 hu).shape
 rw [HN.out] at hu ⊢
 have H3:Hid (CRow w3 w2.heap.size (.slice uo n uc) s.wt/\w1.grownBy w3 none/\w2.grownBy w3 none/\Blk w3 nb 85 #[.int .i64 s.num,.int .i64 s.size,.int .i64 s.most,.int .i64 s.tmo,.int .i64 s.tok,.bool s.asked,.int .i64 s.askAt,.int .i64 s.ses,.pointer oa,.slice wo n wc,.int .i64 s.last,.int .i64 s.now]):=⟨hu,grown_trans H2.out.2.1 hg,hg,H1.out.1.grown (grown_trans H2.out.2.1 hg) (by simp)⟩
 clear hu hg
 go_wp2_with fail
 refine hK.out _ _ (fun _=>grown_mono H3.out.2.1) ?_
 clear hK K
 try simp only [pN]
 have J:Idx [10]:=trivial
 iterate 1 (refine tK J ((grown_mono H3.out.2.1)) rfl rfl (fun wk hk=>by have k8:=hk.cell k8 (by have:=HBN.out;simp;omega);have k9:=hk.cell k9 (by have:=HBN.out;simp;omega);go_simp;try rfl) ?_;replace J:=J.tl;try simp only [pN])
 clear J
 refine wpHold_one (i:=11) rfl (by kernel_rfl) (by rfl) (fun K hK=>?_)
 have m8:=H3.out.2.2.2.cell 8
 have f8:=H3.out.2.2.2.free 8
 simp at m8
 go_wp2_with fail
 have H4:Hid (Blk (w3.setCell ⟨nb,8,none⟩ (.pointer oa')) nb 85 #[.int .i64 s.num,.int .i64 s.size,.int .i64 s.most,.int .i64 s.tmo,.int .i64 s.tok,.bool s.asked,.int .i64 s.askAt,.int .i64 s.ses,.pointer oa',.slice wo n wc,.int .i64 s.last,.int .i64 s.now]/\w3.grownBy (w3.setCell ⟨nb,8,none⟩ (.pointer oa')) (some nb)):=⟨H3.out.2.2.2.store 8 _,grown_setCell _ _ _ _⟩
 generalize w3.setCell ⟨nb,8,none⟩ (.pointer oa')=w4 at H4 ⊢
 clear m8 f8
 have G4:Hid (w1.grownBy w4 (some nb)):=grown_trans (grown_mono H3.out.2.1) H4.out.2
 refine hK.out _ _ (fun _=>G4.out) ?_
 clear hK K
 try simp only [pN]
 have J:Idx [12]:=trivial
 iterate 1 (refine tK J (G4.out) rfl rfl (fun wk hk=>by have k8:=hk.cell k8 (by have:=HBN.out;simp;omega);have k9:=hk.cell k9 (by have:=HBN.out;simp;omega);go_simp;try rfl) ?_;replace J:=J.tl;try simp only [pN])
 clear J
 refine wpHold_one (i:=13) rfl (by kernel_rfl) (by rfl) (fun K hK=>?_)
 have m9:=H4.out.1.cell 9
 have f9:=H4.out.1.free 9
 simp at m9
 go_wp2_with fail
 have H5:Hid (Blk (w4.setCell ⟨nb,9,none⟩ (.slice uo n uc)) nb 85 #[.int .i64 s.num,.int .i64 s.size,.int .i64 s.most,.int .i64 s.tmo,.int .i64 s.tok,.bool s.asked,.int .i64 s.askAt,.int .i64 s.ses,.pointer oa',.slice uo n uc,.int .i64 s.last,.int .i64 s.now]/\w3.grownBy (w4.setCell ⟨nb,9,none⟩ (.slice uo n uc)) (some nb)):=⟨H4.out.1.store 9 _,grown_trans H4.out.2 (grown_setCell _ _ _ _)⟩
 generalize w4.setCell ⟨nb,9,none⟩ (.slice uo n uc)=w5 at H5 ⊢
 clear m9 f9 H4 G4
 have G5:Hid (w1.grownBy w5 (some nb)):=grown_trans (grown_mono H3.out.2.1) H5.out.2
 refine hK.out _ _ (fun _=>G5.out) ?_
 clear hK K
 try simp only [pN]
 refine wpHold_done (by kernel_rfl) ?_
 refine (‹∀(a:Act) (w:World),Code.wp Tryz.prog _ _ a w->_› _ _ ?_)
 have HF:Hid (CopyK Q s w0 (.returned (.pointer (some ⟨nb,0,none⟩))) w5):=by
  have n0:=HNB.out
  have z1:=H1.out.2.2
  have z2:=H2.out.2.1.size
  have z2':=H2.out.2.2.size
  have zd:=HD.out.size
  have z3:=H3.out.2.2.1.size
  have z5:=H5.out.2.size
  have g05:w0.grownBy w5 none:=grown_new (grown_trans H1.out.2.1 H3.out.2.1) H5.out.2 (by intro x hx;simp at hx;omega)
  refine ⟨nb,fun i=>w0.heap.size<=i/\∃t c,Blk w5 i t c/\KT t,rfl,⟨oa',uo,uc,?_⟩,g05,fun i hi=>hi.1⟩
  have old:∀i,i<w3.heap.size->i≠nb->w5.heap[i]? = w3.heap[i]?:=fun i hi hn=>H5.out.2.block i hi (by simp;omega)
  have hrow:CRow w5 w2.heap.size (.slice uo n uc) s.wt:=owns_fr H3.out.1 (Fr.of (F:=fun i=>i=nb) H5.out.2 fun k hk=>by simp at hk;exact hk.symm) fun k hk e=>by
   have hlt:=(World.ownsRow.lt H3.out.1 k hk).1
   have e':k=nb:=e
   omega
  refine ⟨by rw [HN.out];exact H5.out.1,?_,by rw [HN.out];exact lrow_c.2 (hrow.mono (Nat.zero_le _)),fun k hk=>?_,fun c hc=>(HC.out.ops c hc).grown g05,⟨by omega,85,_,H5.out.1,.inl rfl⟩,fun i hi=>hi.2,fun i hi hq=>?_,fun i hi=>?_,HC.out.ok⟩
  ·rcases H2.out.1 with h1 | ⟨h1,ob,v,h2,hw,hF⟩
   ·exact .inl h1
   ·have e2:∀i,FN ob v i->wd.heap.size<=i:=fun i hi=>(hF i hi).1
    have hk:∀i,FN ob v i\/Q i->i<w2.heap.size->w5.heap[i]? = w2.heap[i]?:=fun i hi hl=>by
     have hne:i≠nb:=by
      rcases hi with hi | hi
      ·have:=e2 i hi;omega
      ·have:=HC.out.qlt i hi;omega
     rw [old i (by omega) hne]
     exact H3.out.2.2.1.block i hl (by simp)
    refine .inr ⟨h1,ob,v,h2,hw.kept hk,fun i hi=>⟨by have:=e2 i hi;omega,?_⟩⟩
    obtain ⟨_,t,c,hb,hkt⟩:=hF i hi
    exact ⟨t,c,hb.same (hk i (.inl hi) hb.lt),hkt⟩
  ·rw [HN.out] at hk
   have hlt:=(World.ownsRow.lt hrow k hk).1
   obtain ⟨C,hC⟩:=owns_blk hrow hk
   exact ⟨by omega,105,C,hC,.inr (.inr (.inr rfl))⟩
  ·have:=HC.out.qlt i hq
   omega
  ·have:=HC.out.qlt i hi
   have:=g05.size
   omega
 clear k8 k9
 go_wp2_with fail
 go_ret
 exact HF.out
variable {Q F:Nat->Prop} {w w':World} {b:Nat} {oa wo:Option Addr} {wc:Nat} {s:CS}
def SeR:World->List Value->PSent->Prop:=fun _ x p=>x=[.int .i64 p.id,.int .i64 p.number,.int .i64 p.tm]
theorem seR_stab:Stab (fun _=>False) SeR:=⟨fun _ _ _ _ h _=>h,fun _ _ _ _ _ _ _ h _ _ _=>h⟩
def Sents (w:World)(B:Nat)(v:Value)(l:List PSent):Prop:=LRow 113 3 SeR w B v l
theorem sents_nil (w:World)(B:Nat):Sents w B (.slice none 0 0) []:=lrow_nil _ _
theorem Sents.grown {w w':World}{B:Nat}{v:Value}{l:List PSent}(h:Sents w B v l)(hg:w.grownBy w' none):Sents w' B v l:=LRow.grown h seR_stab hg
theorem Sents.set {w w':World}{B x t':Nat}{v:Value}{l:List PSent}{cc:Array Value}(h:Sents w B v l)(hx:Blk w x t' cc)(h1:t'≠113)(hg:w.grownBy w' (some x)):Sents w' B v l:=LRow.set h seR_stab hx h1 (fun h=>h) hg
theorem Sents.tx {n0:Nat}{w w':World}{B:Nat}{v:Value}{l:List PSent}(h:Sents w B v l)(ht:Tx n0 w w'):Sents w' B v l:=by
 obtain ⟨vs,h1,h2,h3,h4⟩:=h
 exact ⟨vs,ht.row h1 (by decide),h2,h3,h4⟩
theorem Sents.slice {w:World}{B:Nat}{v:Value}{l:List PSent}(h:Sents w B v l):∃x n y,v=.slice x n y:=by
 obtain ⟨x,y,e⟩:=LRow.shape h
 exact ⟨x,_,y,e⟩
theorem Sents.blk {w:World}{B:Nat}{v:Value}{l:List PSent}(h:Sents w B v l):∀i,v.ownBlock=some i->B<=i/\i<w.heap.size/\∃C,Blk w i 113 C:=by
 intro i hi
 obtain ⟨vs,h1,_⟩:=h
 exact ⟨(World.ownsRow.lt h1 i hi).1,(World.ownsRow.lt h1 i hi).2,owns_blk h1 hi⟩
theorem info113:(Tryz.prog.info? 113).map (fun i=>(i.zero,i.size,i.bytes))=some (some (.agg #[.int .i64 0,.int .i64 0,.int .i64 0]),3,24):=by kernel_rfl
theorem ut110:Tryz.prog.underlying 110=some (.slice 113):=by kernel_rfl
structure Og (w:World)(x3 sz:Nat)(l:List PSent)(vl:Value)(A:World):Prop where
 gr:w.grownBy A none
 b3:Blk A x3 110 #[vl]
 ms:Sents A w.heap.size vl l
 szs:sz<=A.heap.size
 x3:w.heap.size<=x3/\x3<sz
 row:∀i,vl.ownBlock=some i->sz+2<=i
theorem Og.tx {w A A':World}{x3 sz n0:Nat}{l:List PSent}{vl:Value}(h:Og w x3 sz l vl A)(ht:Tx n0 A A')(hn:w.heap.size<=n0):Og w x3 sz l vl A' :=
 ⟨tx_grown ht h.gr hn,ht.blk h.b3 (.inl (by decide)),h.ms.tx ht,Nat.le_trans h.szs ht.size,h.x3,h.row⟩
theorem Og.grown {w A A':World}{x3 sz:Nat}{l:List PSent}{vl:Value}(h:Og w x3 sz l vl A)(hg:A.grownBy A' none):Og w x3 sz l vl A' :=
 ⟨grown_trans h.gr hg,h.b3.grown hg (by simp),h.ms.grown hg,Nat.le_trans h.szs hg.size,h.x3,h.row⟩
theorem og_put {w A A2:World}{x3 sz g n cap:Nat}{l l':List PSent}{vl:Value}(h:Og w x3 sz l vl A)(hr2:Sents A2 w.heap.size (.slice (some ⟨g,0,none⟩) n cap) l')(hg:A.grownBy A2 vl.ownBlock)(hgg:vl.ownBlock=some g\/g=A.heap.size)(hsz:sz+2<=A.heap.size) :
  Og w x3 sz l' (.slice (some ⟨g,0,none⟩) n cap) (A2.setCell ⟨x3,0,none⟩ (.slice (some ⟨g,0,none⟩) n cap))/\Fr A (A2.setCell ⟨x3,0,none⟩ (.slice (some ⟨g,0,none⟩) n cap)) (fun i=>i=x3\/vl.ownBlock=some i)/\g<A2.heap.size:=by
 have gs:=grown_setCell A2 x3 0 (.slice (some ⟨g,0,none⟩) n cap)
 have ne:vl.ownBlock≠some x3:=fun e=>by
  obtain ⟨_,_,C,hC⟩:=h.ms.blk _ e
  exact absurd (blk_type h.b3 hC) (by decide)
 have b3:=h.b3.grown hg ne
 have hx:=h.x3
 refine ⟨⟨grown_new (grown_new h.gr hg fun x hx=>?_) gs fun x hx=>?_,b3.store 0 _,hr2.set b3 (by decide) gs,?_,h.x3,fun i hi=>?_⟩,?_,?_⟩
 ·exact (h.ms.blk x hx).1
 ·simp at hx
  omega
 ·have:=hg.size
  have:=gs.size
  have:=h.szs
  omega
 ·simp [Value.ownBlock] at hi
  subst hi
  rcases hgg with e | e
  ·exact h.row _ e
  ·omega
 ·exact (Fr.of (F:=fun i=>i=x3\/vl.ownBlock=some i) hg fun k hk=>.inr hk).trans (Fr.of (F:=fun i=>i=x3\/vl.ownBlock=some i) gs fun k hk=>by simp at hk;exact .inl hk.symm) fun i hi=>.inl hi
 ·exact (hr2.blk g rfl).2.1
def OpensP (s:CS)(w:World)(e:Ending)(w':World):Prop:=∃v,e=.returned v/\Sents w' w.heap.size v s.opens/\w.grownBy w' none
theorem open_nocl (x:Value)(w:World)(h:NoCl w x):Calls Tryz.prog 49 #[x] w fun e w'=>e=.returned (.slice none 0 0)/\w.grownBy w' none:=by
 have HN:Hid (NoCl w x):=h
 clear h
 go_enter Tryz.func49,Tryz.ntmps49
 go_wp2_with fail
 refine (there_nocl x w HN.out).mono ?_
 rintro e w1 ⟨rfl,rfl⟩
 go_wp2_with fail
 go_ret
 exact ⟨rfl,grown_refl _ _⟩
theorem open49 (w:World)(h:Cm Q F w b oa wo wc s):Calls Tryz.prog 49 #[.pointer (some ⟨b,0,none⟩)] w (OpensP s w):=by
 have HC:Hid (Cm Q F w b oa wo wc s/\Goes oa s.L w):=⟨h,wgoes w h⟩
 obtain ⟨n,hn⟩:∃n,s.wt.length=n:=⟨_,rfl⟩
 have HN:Hid (s.wt.length=n/\n<=1000000000000):=⟨hn,by have:=h.len.2;omega⟩
 have c8:=h.blk.cell 8
 simp at c8
 clear h hn
 refine calls_marks Tryz.func49 rfl ?_
 simp only [Tryz.ntmps49,List.size_toArray,List.length_cons,List.length_nil,Nat.reduceAdd,Nat.reduceSub,Array.replicate_succ,Array.replicate_zero,List.push_toArray,List.append_toArray,List.nil_append,List.cons_append]
 go_wp2_with fail
 refine (there_cl w HC.out.1).mono ?_
 rintro e w0 ⟨rfl,rfl⟩
 go_upto_region 4 with fail
 obtain ⟨w1,hw1,H1⟩:=al1 w0 #[.slice none 0 0] 110
 obtain ⟨x3,hx3⟩:∃x,w0.heap.size=x:=⟨_,rfl⟩
 rw [hw1]
 rw [hx3] at H1 ⊢
 clear hw1
 have k8:=H1.out.2.1.cell c8 (by simp)
 go_wp2_with fail
 refine (all_any oa w1).mono ?_
 rintro e w2 ⟨rfl,hbk,hg2,hsz2⟩
 obtain ⟨bx,hbx⟩:∃x,w1.heap.size=x:=⟨_,rfl⟩
 rw [hbx] at hbk hsz2 ⊢
 have H2:Hid (Blk w2 x3 110 #[.slice none 0 0]/\Blk w2 bx 82 #[.pointer oa]/\w0.grownBy w2 none/\w2.heap.size=bx+1/\w0.heap.size=x3/\x3<bx):=⟨H1.out.1.grown hg2 (by simp),hbk,grown_trans H1.out.2.1 hg2,hsz2,hx3,by have:=H1.out.2.2;omega⟩
 clear hbk hg2 hsz2 hbx hx3 H1 k8 c8
 go_wp2_with fail
 obtain ⟨sz,hsz⟩:∃x,w2.heap.size=x:=⟨_,rfl⟩
 have HSZ:Hid (w2.heap.size=sz/\x3<sz/\sz=bx+1):=⟨hsz,by have:=H2.out;omega,by have:=H2.out;omega⟩
 clear hsz
 have HGV:Hid (GivesS Tryz.prog 91 #[.pointer (some ⟨bx,0,none⟩)] 0 (Fino s.L) (Xo s.L) (fun i=>i=x3) w2):=HC.out.2 bx w2 H2.out.2.2.1 H2.out.2.1 _ fun i hi=>by
  have h2:=H2.out
  have hi':i=x3:=hi
  exact ⟨by omega,fun c hb=>by have:=hb.lt;omega⟩
 refine wp_rangeB (id:=0) (gf:=91) (lb:=#[.pointer (some ⟨bx,0,none⟩)]) rfl (enters_of Tryz.func91 (by kernel_rfl) rfl) HGV.out ?hps
  (fun k G A=>Hid (∃vl,Og w0 x3 sz (gather openG s.L k) vl A/\(∀i,vl.ownBlock=some i->G i)))
  (fun _=>False) ?hIg ?hXg ?h0 ?hround
  (fun A=>Hid (∃vl,Og w0 x3 sz (gather openG s.L s.L.length) vl A)) ?hdone ?hstop ?hnext
 case hps =>
  rintro k k' W0 W1 xs ⟨_,_,_,_,_,_,rfl⟩
  rfl
 case hIg =>
  rintro k G A B HI ht
  obtain ⟨vl,hs,hG⟩:=HI.out
  exact ⟨vl,hs.tx ht (by have:=H2.out;have:=HSZ.out;omega),hG⟩
 case hXg=>exact fun _ _ h _=>h
 case h0 =>
  have h2:=H2.out
  have hz:=HSZ.out
  exact ⟨.slice none 0 0,⟨h2.2.2.1,h2.1,sents_nil _ _,Nat.le_of_eq hz.1.symm,⟨by omega,by omega⟩,fun i hi=>by simp [Value.ownBlock] at hi⟩,fun i hi=>by simp [Value.ownBlock] at hi⟩
 case hdone =>
  rintro A k G hfin HI
  obtain ⟨vl,hs,hG⟩:=HI.out
  rw [gather_fin hfin] at hs
  exact ⟨vl,hs⟩
 case hstop=>exact fun _ h=>h.elim
 case hnext =>
  intro A HB hd
  obtain ⟨vl,hs⟩:=HB.out
  obtain ⟨vo,vn,vc,rfl⟩:=hs.ms.slice
  have HS:Hid (Og w0 x3 sz (gather openG s.L s.L.length) (.slice vo vn vc) A):=hs
  have HD:Hid (A.heap[w2.heap.size]? = some (.deferred (some []))):=hd
  clear HB hs hd
  refine (‹∀(a:Act) (w:World),Code.wp Tryz.prog _ _ a w->_› _ _ ?_)
  have k9:A.cell? ⟨b,9,none⟩=some (.slice wo n wc):=by rw [<-HN.out.1];exact (HC.out.1.grown HS.out.gr).blk.cell 9
  go_wp2_with fail
  have HZ2:Hid (w2.heap.size=bx+1/\w0.heap.size<=bx+1/\bx+2<=A.heap.size/\Og w0 x3 bx (gather openG s.L s.L.length) (.slice vo vn vc) A):=by
   have h2:=H2.out
   have hz:=HSZ.out
   have hlt:=(Array.getElem?_eq_some_iff.1 HD.out).1
   have h:=HS.out
   exact ⟨by omega,by omega,by omega,h.gr,h.b3,h.ms,by have:=h.szs;omega,⟨h.x3.1,by omega⟩,fun i hi=>by have:=h.row i hi;omega⟩
  go_loopw [33] (fun q wr=>∃(j:Nat) (vl:Value),j<=n/\q=.int .i64 j/\Hid (Og w0 x3 bx (gather openG s.L s.L.length ++ (s.wt.take j).map fun c=>⟨c.id,0,0⟩) vl wr/\wr.heap[w2.heap.size]? = some (.deferred (some []))/\bx+2<=wr.heap.size)) (fun q _=>n-(intOf q).toNat)
  case atStart=>exact ⟨0,.slice vo vn vc,Nat.zero_le _,rfl,by simpa using HZ2.out.2.2.2,HD.out,HZ2.out.2.2.1⟩
  case round =>
   obtain ⟨j,vl,hj,rfl,HI⟩:=hrel
   by_cases hlt:j<n
   ·have i1:(j:Int)<(n:Int):=by omega
    have i2:(0:Int)<=(j:Int):=by omega
    have HK:Hid (j<s.wt.length):=by rw [HN.out.1];exact hlt
    have hcr:=lrow_c.1 (HC.out.1.grown HI.out.1.gr).wt
    rw [HN.out.1] at hcr
    obtain ⟨g,rfl⟩:∃g,wo=some ⟨g,0,none⟩:=by
     rcases hcr.shape with ⟨e,hnil⟩ | ⟨g,cap,cur,e,_⟩
     ·have:=HK.out
      rw [hnil] at this
      simp at this
     ·simp at e
      exact ⟨g,e.1⟩
    obtain ⟨q0,q1,q2,q3⟩:=hcr.at j HK.out
    obtain ⟨c,hc⟩:∃c,s.wt[j]'HK.out=c:=⟨_,rfl⟩
    rw [hc] at q0 q1 q2 q3
    have HT:Hid ((s.wt.take (j+1)).map (fun c:Cr=>(⟨c.id,0,0⟩:PSent))=(s.wt.take j).map (fun c:Cr=>(⟨c.id,0,0⟩:PSent)) ++ [⟨c.id,0,0⟩]):=by
     unfold Hid
     rw [List.take_succ_eq_append_getElem HK.out,hc,List.map_append]
     rfl
    obtain ⟨so,sn,sc,rfl⟩:=HI.out.1.ms.slice
    clear hc hcr
    have HZ:Hid (Blk (wr.alloc (.cells #[.int .i64 0,.slice none 0 0,.bool false,.int .i64 0] 105)) wr.heap.size 105 #[.int .i64 0,.slice none 0 0,.bool false,.int .i64 0]):=heap_alloc_new wr _
    obtain ⟨y0,y1,y2,y3⟩:=cells4 HZ.out
    obtain ⟨z0,z1,z2,z3⟩:=frees4 HZ.out
    obtain ⟨W1,hW1,H1⟩:=al1 wr #[.int .i64 c.id,.slice c.o c.n c.c,.bool c.was,.int .i64 c.tm] 105
    have HW1:Hid (wr.alloc (.cells #[.int .i64 c.id,.slice c.o c.n c.c,.bool c.was,.int .i64 c.tm] 105)=W1):=hW1
    clear hW1
    go_upto_region 11 with fail
    rw [HW1.out]
    obtain ⟨p7,hp7⟩:∃x,wr.heap.size=x:=⟨_,rfl⟩
    rw [hp7] at H1 ⊢
    have HI1:Hid (Og w0 x3 bx (gather openG s.L s.L.length ++ (s.wt.take j).map fun c=>⟨c.id,0,0⟩) (.slice so sn sc) W1/\W1.heap[w2.heap.size]? = some (.deferred (some []))/\bx+2<=W1.heap.size/\Blk W1 p7 105 #[.int .i64 c.id,.slice c.o c.n c.c,.bool c.was,.int .i64 c.tm]):=by
     have hz:=HZ2.out
     have hi:=HI.out.2.2
     have hs:=H1.out.2.1.size
     exact ⟨HI.out.1.grown H1.out.2.1,by rw [H1.out.2.1.block _ (by omega) (by simp)];exact HI.out.2.1,by omega,H1.out.1⟩
    clear y0 y1 y2 y3 z0 z1 z2 z3 q0 q1 q2 q3 HZ HW1 H1 hp7 HI
    have m3:=HI1.out.1.b3.cell 0
    have f3:=HI1.out.1.b3.free 0
    obtain ⟨q0,_,_,_⟩:=cells4 HI1.out.2.2.2
    simp at m3
    obtain ⟨w9,hw9,H9'⟩:=al1 W1 #[.int .i64 c.id,.int .i64 0,.int .i64 0] 113
    obtain ⟨p9,hp9⟩:∃x,W1.heap.size=x:=⟨_,rfl⟩
    have HW9:Hid (W1.alloc (.cells #[.int .i64 c.id,.int .i64 0,.int .i64 0] 113)=w9/\W1.heap.size=p9):=⟨hw9,hp9⟩
    rw [hp9] at H9'
    clear hw9 hp9
    have H9:Hid (Og w0 x3 bx (gather openG s.L s.L.length ++ (s.wt.take j).map fun c=>⟨c.id,0,0⟩) (.slice so sn sc) w9/\Blk w9 p9 113 #[.int .i64 c.id,.int .i64 0,.int .i64 0]/\W1.grownBy w9 none):=⟨HI1.out.1.grown H9'.out.2.1,H9'.out.1,H9'.out.2.1⟩
    clear H9'
    obtain ⟨PL,hPL⟩:∃PL,(gather openG s.L s.L.length ++ (s.wt.take j).map fun c=>(⟨c.id,0,0⟩:PSent))=PL:=⟨_,rfl⟩
    have HPL:Hid ((gather openG s.L s.L.length ++ (s.wt.take (j+1)).map fun c=>(⟨c.id,0,0⟩:PSent))=PL ++ [⟨c.id,0,0⟩]/\PL.length<=2000000000000):=by
     constructor
     ·rw [HT.out,<-List.append_assoc,hPL]
     ·rw [<-hPL]
      have:=gather_len (g:=openG) (L:=s.L) (fun k c=>by simp [openG]) s.L.length
      have:=HC.out.1.len
      simp
      omega
    rw [hPL] at H9 HI1
    clear hPL HT
    go_wp2_with (at_builtin;rw [HW9.out.1,HW9.out.2];refine appL (t:=113) (c:=3) (by':=24) seR_stab (fun h=>h) 110 ut110 info113 rfl (by decide) (by decide) w9 rfl _ _ rfl w0.heap.size (.slice so sn sc) PL ⟨c.id,0,0⟩ p9 [.int .i64 c.id,.int .i64 0,.int .i64 0] _ rfl rfl H9.out.1.ms H9.out.2.1 rfl rfl rfl ?g2 HPL.out.2 ?g1 ?_)
    case g2=>simp [Value.oneCell']
    case g1=>exact H9.out.1.gr.size
    intro g' cap' w10 hr hg hgg
    have H10:Hid (Og w0 x3 bx (PL ++ [⟨c.id,0,0⟩]) (.slice (some ⟨g',0,none⟩) (PL.length+1) cap') (w10.setCell ⟨x3,0,none⟩ (.slice (some ⟨g',0,none⟩) (PL.length+1) cap'))/\(w10.setCell ⟨x3,0,none⟩ (.slice (some ⟨g',0,none⟩) (PL.length+1) cap')).heap[w2.heap.size]? = some (.deferred (some []))/\bx+2<=(w10.setCell ⟨x3,0,none⟩ (.slice (some ⟨g',0,none⟩) (PL.length+1) cap')).heap.size/\(∃x,w10.cell? ⟨x3,0,none⟩=some x)/\w10.frozen? ⟨x3,0,none⟩=false):=by
     have hs9:=H9.out.2.2.size
     have hz:=HZ2.out
     have hi:=HI1.out.2.2.1
     have hx:=HI1.out.1.x3
     have h:=og_put H9.out.1 hr hg hgg (by omega)
     have ne:(Value.slice so sn sc).ownBlock≠some x3:=fun e=>by
      obtain ⟨_,_,C,hC⟩:=H9.out.1.ms.blk _ e
      exact absurd (blk_type H9.out.1.b3 hC) (by decide)
     have b3:=H9.out.1.b3.grown hg ne
     refine ⟨h.1,?_,by have:=h.2.1.size;omega,⟨_,b3.cell 0⟩,b3.free 0⟩
     rw [h.2.1.block _ (by omega) ?_,H9.out.2.2.block _ (by omega) (by simp)]
     ·exact HI1.out.2.1
     ·rintro (e | e)
      ·omega
      ·have:=H9.out.1.row _ e
       omega
    obtain ⟨⟨x0,hx0⟩,hf0⟩:=H10.out.2.2.2
    have d1:IntKind.i64.wrap ((j:Int)+1)=(j:Int)+1:=by have:=HN.out;rw [IntKind.wrap_i64];omega
    have HM:Hid (j+1<=n):=hlt
    clear hr hg hgg m3 f3 q0
    go_wp2_with fail
    go_roundw
    case rel=>exact ⟨j+1,_,HM.out,by go_num,by rw [HPL.out.1];exact H10.out.1,H10.out.2.1,H10.out.2.2.1⟩
    case measure=>simp [intOf];omega
   ·have hjn:j=n:=by omega
    have i1:¬(j:Int)<(n:Int):=by omega
    have HE:Hid (s.opens=gather openG s.L s.L.length ++ (s.wt.take j).map fun c=>⟨c.id,0,0⟩):=by
     unfold Hid CS.opens
     rw [hjn,<-HN.out.1,List.take_length]
    have v0:=HI.out.1.b3.cell 0
    simp at v0
    clear hjn k9
    go_wp2_with fail
    refine ⟨by simp,.inl ⟨_,_,rfl,run_takeDeferred HI.out.2.1,?_⟩⟩
    have t1:=Tx.putD (n0:=w0.heap.size) (.deferred none) HI.out.2.1 (by have:=HZ2.out;omega)
    refine ⟨_,by simp [results,Tryz.results49,go_sem],vl,rfl,?_,tx_grown t1 HI.out.1.gr (Nat.le_refl _)⟩
    rw [HE.out]
    exact HI.out.1.ms.tx t1
 case hround =>
  rintro l' k k' G W0 W1 xs HI0 hlt0 htn ⟨j,c,hkj,hj,hno,rfl,rfl⟩ ⟨rc,hrc⟩
  obtain ⟨vl,hs,hG⟩:=HI0.out
  obtain ⟨vo,vn,vc,rfl⟩:=hs.ms.slice
  have HK:Hid (k<=j/\j<s.L.length/\gather openG s.L (j+1)=gather openG s.L k ++ [⟨c.id,((j+1:Nat):Int),c.tm⟩]):=⟨hkj,(List.getElem?_eq_some_iff.1 hj).1,gather_step hkj hj hno⟩
  have HO:Hid (Tx (w2.heap.size+2) W0 W1/\w2.heap.size+1<W0.heap.size/\W1.heap[w2.heap.size+1]? = some (.loop rc)):=⟨htn,hlt0,hrc⟩
  have HS0:Hid (Og w0 x3 sz (gather openG s.L k) (.slice vo vn vc) W0/\(∀i,(Value.slice vo vn vc).ownBlock=some i->G i)):=⟨hs,hG⟩
  clear htn hlt0 hrc hkj hj hno hs hG HI0
  simp only [List.zip_toArray,List.zip_cons_cons,List.zip_nil_right,List.foldl_toArray',List.size_toArray,List.foldl_cons,List.foldl_nil,List.setIfInBounds_toArray,List.set_cons_zero,List.set_cons_succ]
  refine wpIn_seq ?_
  refine region_round (by rintro ⟨_,_,h⟩;exact h) rfl ?_
  go_wp2_with fail
  have HZ:Hid (Blk (W1.alloc (.cells #[.int .i64 0,.slice none 0 0,.bool false,.int .i64 0] 105)) W1.heap.size 105 #[.int .i64 0,.slice none 0 0,.bool false,.int .i64 0]):=heap_alloc_new W1 _
  obtain ⟨y0,y1,y2,y3⟩:=cells4 HZ.out
  obtain ⟨z0,z1,z2,z3⟩:=frees4 HZ.out
  obtain ⟨Wa,hWa,HA⟩:=al1 W1 #[.int .i64 c.id,.slice c.o c.n c.c,.bool c.was,.int .i64 c.tm] 105
  have HWa:Hid (W1.alloc (.cells #[.int .i64 c.id,.slice c.o c.n c.c,.bool c.was,.int .i64 c.tm] 105)=Wa):=hWa
  clear hWa
  refine region_round (by rintro ⟨_,_,h⟩;exact h) rfl ?_
  go_wp2_with fail
  rw [HWa.out]
  obtain ⟨p5,hp5⟩:∃x,W1.heap.size=x:=⟨_,rfl⟩
  rw [hp5] at HA ⊢
  have HP5:Hid (W1.heap.size=p5/\sz+2<=p5):=⟨hp5,by have:=HO.out.1.size;have:=HO.out.2.1;have:=HSZ.out;omega⟩
  clear y0 y1 y2 y3 z0 z1 z2 z3 HZ HWa hp5
  refine ⟨HA.out.2.1,fun r=>?_⟩
  obtain ⟨W4,hW4⟩:∃W,Wa.putObj (w2.heap.size+1) (.loop r)=W:=⟨_,rfl⟩
  have HL:Hid (Wa.heap[w2.heap.size+1]? = some (.loop rc)):=by
   rw [Hid,HA.out.2.1.block _ (by have:=HO.out;have:=this.1.size;omega) (by simp)]
   exact HO.out.2.2
  have HT4:Hid (Tx (w2.heap.size+1) W0 W4/\W4.heap.size=p5+1/\(∀i,i≠w2.heap.size+1->W4.heap[i]? = Wa.heap[i]?)/\Blk W4 p5 105 #[.int .i64 c.id,.slice c.o c.n c.c,.bool c.was,.int .i64 c.tm]):=by
   have ht:Tx (w2.heap.size+1) Wa W4:=by rw [<-hW4];exact Tx.put _ HL.out (Nat.le_refl _)
   exact ⟨((HO.out.1.mono (Nat.le_succ _)).trans (Tx.of_grown HA.out.2.1)).trans ht,by rw [<-hW4];simp only [World.putObj,Array.size_setIfInBounds];have:=HA.out.2.2;have:=HP5.out;omega,fun i hi=>by rw [<-hW4,World.putObj_heap_other hi],ht.blk HA.out.1 (.inl (by decide))⟩
  rw [hW4]
  clear hW4
  have HS4:Hid (Og w0 x3 sz (gather openG s.L k) (.slice vo vn vc) W4):=HS0.out.1.tx HT4.out.1 (by have:=H2.out;have:=HSZ.out;omega)
  have m3:=HS4.out.b3.cell 0
  have f3:=HS4.out.b3.free 0
  obtain ⟨q0,_,_,q3⟩:=cells4 HT4.out.2.2.2
  simp at m3
  obtain ⟨w9,hw9,H9'⟩:=al1 W4 #[.int .i64 c.id,.int .i64 ((j:Int)+1),.int .i64 c.tm] 113
  have HW9:Hid (W4.alloc (.cells #[.int .i64 c.id,.int .i64 ((j:Int)+1),.int .i64 c.tm] 113)=w9):=hw9
  clear hw9
  refine wpIn_block ?_
  refine region_round (by rintro ⟨_,_,h⟩;exact h) rfl ?_
  obtain ⟨p9,hp9⟩:∃x,W4.heap.size=x:=⟨_,rfl⟩
  have HP9:Hid (W4.heap.size=p9):=hp9
  rw [hp9] at H9'
  clear hp9
  have H9:Hid (Og w0 x3 sz (gather openG s.L k) (.slice vo vn vc) w9/\Blk w9 p9 113 #[.int .i64 c.id,.int .i64 ((j:Int)+1),.int .i64 c.tm]/\W4.grownBy w9 none):=⟨HS4.out.grown H9'.out.2.1,H9'.out.1,H9'.out.2.1⟩
  clear H9'
  go_wp2_with (at_builtin;rw [HW9.out,HP9.out];refine appL (t:=113) (c:=3) (by':=24) seR_stab (fun h=>h) 110 ut110 info113 rfl (by decide) (by decide) w9 rfl _ _ rfl w0.heap.size (.slice vo vn vc) (gather openG s.L k) ⟨c.id,(j:Int)+1,c.tm⟩ p9 [.int .i64 c.id,.int .i64 ((j:Int)+1),.int .i64 c.tm] _ rfl rfl H9.out.1.ms H9.out.2.1 rfl rfl rfl ?g2 ?g0 ?g1 ?_)
  case g2=>simp [Value.oneCell']
  case g0 =>
   have:=gather_len (g:=openG) (L:=s.L) (fun k c=>by simp [openG]) k
   have:=HK.out
   have:=HC.out.1.len.1
   omega
  case g1=>exact H9.out.1.gr.size
  intro g' cap' w10 hr hg hgg
  have H10:Hid (Og w0 x3 sz (gather openG s.L (j+1)) (.slice (some ⟨g',0,none⟩) ((gather openG s.L k).length+1) cap') (w10.setCell ⟨x3,0,none⟩ (.slice (some ⟨g',0,none⟩) ((gather openG s.L k).length+1) cap'))/\Fr W4 (w10.setCell ⟨x3,0,none⟩ (.slice (some ⟨g',0,none⟩) ((gather openG s.L k).length+1) cap')) (fun i=>i=x3\/(Value.slice vo vn vc).ownBlock=some i)/\g'<w10.heap.size/\((Value.slice vo vn vc).ownBlock=some g'\/p5<=g')/\(∃x,w10.cell? ⟨x3,0,none⟩=some x)/\w10.frozen? ⟨x3,0,none⟩=false):=by
   have hz4:=HT4.out.2.1
   have hp5:=HP5.out
   have hs9:=H9.out.2.2.size
   rw [show ((j:Int)+1)=((j+1:Nat):Int) by omega] at hr
   have h:=og_put H9.out.1 hr hg hgg (by omega)
   rw [<-HK.out.2.2] at h
   have ne:(Value.slice vo vn vc).ownBlock≠some x3:=fun e=>by
    obtain ⟨_,_,C,hC⟩:=H9.out.1.ms.blk _ e
    exact absurd (blk_type H9.out.1.b3 hC) (by decide)
   have b3:=H9.out.1.b3.grown hg ne
   refine ⟨h.1,(Fr.of (F:=fun i=>i=x3\/(Value.slice vo vn vc).ownBlock=some i) H9.out.2.2 (by simp)).trans h.2.1 fun i hi=>.inl hi,h.2.2,?_,⟨_,b3.cell 0⟩,b3.free 0⟩
   rcases hgg with e | e
   ·exact .inl e
   ·exact .inr (by omega)
  obtain ⟨⟨x0,hx0⟩,hf0⟩:=H10.out.2.2.2.2
  clear hr hg hgg m3 f3 q0 q3
  go_wp2_with fail
  have h2:=H2.out
  have hz:=HSZ.out
  have h4:=HT4.out
  have hp:=HP5.out
  have hr:=HS0.out
  have hf:=H10.out.2.1
  have nf:∀i,sz<=i->i<sz+2->¬(i=x3\/(Value.slice vo vn vc).ownBlock=some i):=by
   rintro i hi hi2 (e | e)
   ·omega
   ·have:=hr.1.row i e
    omega
  refine ⟨⟨hf.block _ (by omega) (nf _ (by omega) (by omega)),hf.block _ (by omega) (nf _ (by omega) (by omega))⟩,fun i=>i=g',fun i hi=>?_,⟨?_,fun i h1 h2' h3 h5 h6=>?_⟩,_,H10.out.1,fun i hi=>?_⟩
  ·have hi':i=g':=hi
   subst hi'
   refine ⟨?_,by have:=H10.out.2.2.1;simpa using this⟩
   rcases H10.out.2.2.2.1 with e | e
   ·exact .inl (hr.2 _ e)
   ·exact .inr (by omega)
  ·have:=hf.size
   omega
  ·rw [hf.block i (by omega) ?_,h4.2.2.1 i (by omega),HA.out.2.1.block i (by omega) (by simp)]
   rintro (e | e)
   ·exact h3 e
   ·exact h6 (hr.2 i e)
  ·simp [Value.ownBlock] at hi
   exact hi.symm
end Go.Proofs.YtanoabliahcbeaaGreat.Wn
