import Derived.Test.YtanoabliahcbeaaGreatKkmAll
set_option maxHeartbeats 4000000
set_option maxRecDepth 100000
namespace Go.Proofs.YtanoabliahcbeaaGreat.Wn
open Go.RowKit Disk Table
open _root_.Go.Proofs.YtanoabliahcbeaaGreat.Calls _root_.Go.Proofs.YtanoabliahcbeaaGreat.Command
variable {Q F:Nat->Prop} {w w':World} {b:Nat} {oa wo:Option Addr} {wc:Nat} {s:CS}
def RS (Q F:Nat->Prop)(b:Nat)(w:World)(l:List PRet)(s':CS)(e:Ending)(w':World):Prop:=∃v,e=.returned v/\Rets w' w.heap.size v l/\Stp Q F w b s' w'
theorem Rets.mono {w:World}{B B':Nat}{v:Value}{l:List PRet}(h:Rets w B v l)(hB:B'<=B):Rets w B' v l:=by
 obtain ⟨vs,h1,h2,h3,h4⟩:=LRow.mono h hB
 refine ⟨vs,h1,h2,h3,fun j a b=>?_⟩
 obtain ⟨av,e,ha⟩:=h4 j a b
 exact ⟨av,e,ha.mono hB⟩
theorem Stp.from {w1:World}{s':CS}(hg:w.grownBy w1 none)(h:Stp Q F w1 b s' w'):Stp Q F w b s' w':=Stp.to (Fr.of hg (by simp)) (fun _ h=>.inl h) (fun _ h=>.inl h) h
theorem RS.from {w1:World}{l:List PRet}{s':CS}{e:Ending}(hg:w.grownBy w1 none)(h:RS Q F b w1 l s' e w'):RS Q F b w l s' e w':=by
 obtain ⟨v,h1,h2,h3⟩:=h
 exact ⟨v,h1,h2.mono hg.size,h3.from hg⟩
theorem Stp.mk1 {Q':Nat->Prop}{s':CS}(h:Cm Q' F w' b oa wo wc s')(hf:Fr w w' F)(hq:∀i,Q' i->Q i\/w.heap.size<=i):Stp Q F w b s' w':=⟨Q',F,⟨_,_,_,h⟩,hf,fun _ h=>.inl h,hq⟩
theorem true80 (x:Value)(w:World):Calls Tryz.prog 80 #[x] w fun e w'=>e=.returned (.bool true)/\w.grownBy w' none:=by
 go_enter Tryz.func80,Tryz.ntmps80
 go_wp2_with fail
 go_ret
 exact ⟨rfl,grown_refl _ _⟩
def isR (s:CS)(r:PRep)(j:Nat):Bool:=decide (r.session=s.ses) && decide (r.number=(j:Int)+1)
theorem is133 (rb kb:Nat)(av:Value)(r:PRep)(j:Nat)(w:World)(hs:w.cell? ⟨b,7,none⟩=some (.int .i64 s.ses))(hr:Blk w rb 43 (repA av r))(hk:Blk w kb 27 #[.pointer (some ⟨b,0,none⟩)]):Calls Tryz.prog 133 #[.int .i64 ((j:Int)+1),.pointer (some ⟨rb,0,none⟩),.pointer (some ⟨kb,0,none⟩)] w fun e w'=>e=.returned (.bool (isR s r j))/\w.grownBy w' none:=by
 have c2:w.cell? ⟨rb,2,none⟩=some (.int .i64 r.session):=hr.cell 2
 have c3:w.cell? ⟨rb,3,none⟩=some (.int .i64 r.number):=hr.cell 3
 have m0:=hk.cell 0
 simp at m0
 obtain ⟨x,hx⟩:∃x,s.ses=x:=⟨_,rfl⟩
 obtain ⟨y,hy⟩:∃y,r.session=y:=⟨_,rfl⟩
 obtain ⟨z,hz⟩:∃z,r.number=z:=⟨_,rfl⟩
 have HI:Hid (isR s r j=(decide (y=x) && decide (z=(j:Int)+1))):=by unfold Hid isR;rw [hx,hy,hz]
 rw [hx] at hs
 rw [hy] at c2
 rw [hz] at c3
 clear hr hk hx hy hz
 by_cases he:y=x
 ·subst he
  go_enter Tryz.func133,Tryz.ntmps133
  go_upto_region 1 with fail
  refine wp_region_hold 1000 (fun y=>w.grownBy y none) (by kernel_rfl) ?_
  have HD:Hid (w.grownBy w.drew none):=grown_drew _ _
  generalize w.drew=wd at HD ⊢
  have J:Idx [0,1,2,3,4,5,6,7,8,9,10,11,12,13]:=trivial
  iterate 14 (refine tK J (HD.out) rfl rfl (fun wk hk=>by have k7:=hk.cell hs (by simp);have k2:=hk.cell c2 (by simp);have k3:=hk.cell c3 (by simp);have k0:=hk.cell m0 (by simp);go_simp;try rfl) ?_;replace J:=J.tl;try simp only [pN])
  clear J
  refine wpHold_done (by kernel_rfl) ?_
  refine (‹∀(a:Act) (w:World),Code.wp Tryz.prog _ _ a w->_› _ _ ?_)
  clear hs c2 c3 m0
  go_wp2_with fail
  go_ret
  rw [HI.out]
  refine ⟨?_,HD.out⟩
  by_cases hz:z=(j:Int)+1 <;> simp [hz]
 ·have i1:(y==x)=false:=by simp [he]
  have HE:Hid (decide (y=x)=false):=by simp [Hid,he]
  go_enter Tryz.func133,Tryz.ntmps133
  go_upto_region 1 with fail
  refine wp_region_hold 1000 (fun y=>w.grownBy y none) (by kernel_rfl) ?_
  have HD:Hid (w.grownBy w.drew none):=grown_drew _ _
  generalize w.drew=wd at HD ⊢
  clear he
  have J:Idx [0,1,2,3,4,5,6,7]:=trivial
  iterate 8 (refine tK J (HD.out) rfl rfl (fun wk hk=>by have k7:=hk.cell hs (by simp);have k2:=hk.cell c2 (by simp);have k0:=hk.cell m0 (by simp);go_simp;try rfl) ?_;replace J:=J.tl;try simp only [pN])
  clear J
  have J:Idx [8,9,10,11]:=trivial
  iterate 4 (refine sk J (HD.out) rfl rfl ?_;replace J:=J.tl;try simp only [pN])
  clear J
  have J:Idx [12,13]:=trivial
  iterate 2 (refine tK J (HD.out) rfl rfl (fun wk hk=>by have k7:=hk.cell hs (by simp);have k2:=hk.cell c2 (by simp);have k0:=hk.cell m0 (by simp);go_simp;try rfl) ?_;replace J:=J.tl;try simp only [pN])
  clear J
  refine wpHold_done (by kernel_rfl) ?_
  refine (‹∀(a:Act) (w:World),Code.wp Tryz.prog _ _ a w->_› _ _ ?_)
  clear hs c2 c3 m0
  go_wp2_with fail
  go_ret
  rw [HI.out,HE.out]
  exact ⟨by simp,HD.out⟩
def IsP (b:Nat)(av:Value)(r:PRep)(w:World)(e:Ending)(w':World):Prop:=∃rb kb,e=.returned (.func (.func 133) #[] #[.pointer (some ⟨rb,0,none⟩),.pointer (some ⟨kb,0,none⟩)])/\Blk w' rb 43 (repA av r)/\Blk w' kb 27 #[.pointer (some ⟨b,0,none⟩)]/\w.grownBy w' none/\w.heap.size<=rb/\w.heap.size<=kb
theorem is102 (b:Nat)(ao:Option Addr)(an ac:Nat)(r:PRep)(w:World):Calls Tryz.prog 102 #[.pointer (some ⟨b,0,none⟩),repV (.slice ao an ac) r] w (IsP b (.slice ao an ac) r w):=by
 unfold repV
 go_enter Tryz.func102,Tryz.ntmps102
 go_upto_region 1 with fail
 obtain ⟨w1,hw1,H1⟩:=al2 w #[.pointer (some ⟨b,0,none⟩)] (repA (.slice ao an ac) r) 27 43
 unfold repA at hw1
 rw [hw1]
 clear hw1
 go_wp2_with fail
 go_ret
 exact ⟨_,_,rfl,H1.out.2.1,H1.out.1,H1.out.2.2.1,by omega,Nat.le_refl _⟩
theorem renew45 (b:Nat)(x0 x1 x2 x3 x5 x6 x7 x8 x9 x10 x11:Value)(t:Int)(w:World)(hb:Blk w b 85 #[x0,x1,x2,x3,.int .i64 t,x5,x6,x7,x8,x9,x10,x11])(h1:0<=t/\t<=4000000000000000) :
  Calls Tryz.prog 45 #[.pointer (some ⟨b,0,none⟩)] w fun e w'=>(∃y,e=.returned y)/\Blk w' b 85 #[x0,x1,x2,x3,.int .i64 (t+8),.bool false,.int .i64 0,x7,x8,x9,x10,x11]/\w.grownBy w' (some b):=by
 have d1:IntKind.i64.wrap (t+8)=t+8:=by rw [IntKind.wrap_i64];omega
 have c4:=hb.cell 4
 have c5:=hb.cell 5
 have c6:=hb.cell 6
 have f4:=hb.free 4
 have f5:=hb.free 5
 have f6:=hb.free 6
 simp at c4 c5 c6
 have HB:Hid (Blk (((w.setCell ⟨b,4,none⟩ (.int .i64 (t+8))).setCell ⟨b,5,none⟩ (.bool false)).setCell ⟨b,6,none⟩ (.int .i64 0)) b 85 #[x0,x1,x2,x3,.int .i64 (t+8),.bool false,.int .i64 0,x7,x8,x9,x10,x11]/\w.grownBy (((w.setCell ⟨b,4,none⟩ (.int .i64 (t+8))).setCell ⟨b,5,none⟩ (.bool false)).setCell ⟨b,6,none⟩ (.int .i64 0)) (some b)) :=
  ⟨((hb.store 4 _).store 5 _).store 6 _,grown_trans (grown_setCell _ _ _ _) (grown_trans (grown_setCell _ _ _ _) (grown_setCell _ _ _ _))⟩
 clear hb h1
 go_enter Tryz.func45,Tryz.ntmps45
 go_wp2_with fail
 exact ⟨rfl,_,results_none rfl _ _ _,⟨_,rfl⟩,HB.out⟩
theorem Okc.lost (h:Okc s)(ht:s.tok<=3999999999999992):Okc s.lost:=by
 refine ⟨h.num,h.size,h.most,h.tmo,?_,⟨Int.le_refl _,h.now.1⟩,⟨Int.le_refl _,by simp [CS.lost]⟩,fun _=>rfl,?_,h.now,?_,fun c hc=>?_,h.wait⟩
 ·have:=h.tok
  simp [CS.lost]
  omega
 ·have:=h.last
  simp [CS.lost]
  omega
 ·have:=h.few
  simp [CS.lost,outN_zero]
  omega
 ·rcases hc with hc | hc
  ·simp [CS.lost] at hc
  ·exact h.call c (.inr hc)
theorem Cm.lost (h:Cm Q F w b oa wo wc s)(ht:s.tok<=3999999999999992)(hg:w.grownBy w' (some b))(hb:Blk w' b 85 #[.int .i64 s.num,.int .i64 s.size,.int .i64 s.most,.int .i64 s.tmo,.int .i64 (s.tok+8),.bool false,.int .i64 0,.int .i64 0,.pointer none,.slice wo s.wt.length wc,.int .i64 s.last,.int .i64 s.now]):Cm Q F w' b none wo wc s.lost:=by
 have hf:Fr w w' (fun i=>i=b):=Fr.of hg fun k hk=>by simp at hk;exact hk.symm
 have hG:Gt w (fun i=>i=b):=fun i hi=>⟨85,_,(show i=b from hi) ▸ h.blk,by decide,by decide⟩
 refine ⟨hb,.inl ⟨rfl,rfl⟩,?_,h.wf,fun c hc=>?_,h.fb,fun i hi=>?_,h.apart,fun i hi=>Nat.lt_of_lt_of_le (h.qlt i hi) hf.size,h.ok.lost ht⟩
 ·refine lrow_fr (fun _ _ _ _ h=>h) h.wt hf fun k hk e=>?_
  obtain ⟨C,hC⟩:=h.wt_blk hk
  subst e
  exact absurd (blk_type hC h.blk) (by decide)
 ·rcases hc with hc | hc
  ·simp [CS.lost] at hc
  ·exact opsOwn_fr (h.ops c (.inr hc)) hf hG
 ·by_cases e:i=b
  ·subst e
   exact ⟨85,_,hb,.inl rfl⟩
  ·obtain ⟨t,c,hbb,hk⟩:=h.ft i hi
   exact ⟨t,c,hbb.same (hf.block i hbb.lt e),hk⟩
theorem lose44 (w:World)(h:Cm Q F w b oa wo wc s)(h0:s.ses≠0)(ht:s.tok<=3999999999999992):Calls Tryz.prog 44 #[.pointer (some ⟨b,0,none⟩)] w (RS Q F b w (s.rets (fun _=>true) 2 []) s.lost):=by
 have HC:Hid (Cm Q F w b oa wo wc s/\s.ses≠0/\s.tok<=3999999999999992):=⟨h,h0,ht⟩
 clear h h0 ht
 go_enter Tryz.func44,Tryz.ntmps44
 go_wp2_with fail
 refine (end_80 w (fun _=>true) 2 none 0 0 [] HC.out.1 HC.out.2.1 (Own.nil _ _) (by simp) fun y _ _ j _=>true80 _ y).mono ?_
 rintro e w1 ⟨v,rfl,hr,Q1,F1,⟨oa1,wo1,wc1,hc1⟩,hf1,hF1,hQ1⟩
 obtain ⟨vo,vn,vc,rfl⟩:=hr.slice
 have H1:Hid (Cm Q1 F1 w1 b oa1 wo1 wc1 (s.ended fun _=>true)/\Rets w1 w.heap.size (.slice vo vn vc) (s.rets (fun _=>true) 2 [])/\Fr w w1 F/\(∀i,F1 i->F i\/w.heap.size<=i)/\∀i,Q1 i->Q i\/w.heap.size<=i):=⟨hc1,hr,hf1,hF1,hQ1⟩
 clear hc1 hr hf1 hF1 hQ1
 have c7:=H1.out.1.blk.cell 7
 have c8:=H1.out.1.blk.cell 8
 have f7:=H1.out.1.blk.free 7
 have f8:=H1.out.1.blk.free 8
 simp at c7 c8
 have HB:Hid (Blk ((w1.setCell ⟨b,7,none⟩ (.int .i64 0)).setCell ⟨b,8,none⟩ (.pointer none)) b 85 #[.int .i64 s.num,.int .i64 s.size,.int .i64 s.most,.int .i64 s.tmo,.int .i64 s.tok,.bool s.asked,.int .i64 s.askAt,.int .i64 0,.pointer none,.slice wo1 s.wt.length wc1,.int .i64 s.last,.int .i64 s.now]/\w1.grownBy ((w1.setCell ⟨b,7,none⟩ (.int .i64 0)).setCell ⟨b,8,none⟩ (.pointer none)) (some b)):=⟨(H1.out.1.blk.store 7 _).store 8 _,grown_trans (grown_setCell _ _ _ _) (grown_setCell _ _ _ _)⟩
 go_upto_region 3 with fail
 generalize (w1.setCell ⟨b,7,none⟩ (.int .i64 0)).setCell ⟨b,8,none⟩ (.pointer none)=w2 at HB ⊢
 clear c7 c8 f7 f8
 go_wp2_with fail
 refine (renew45 b _ _ _ _ _ _ _ _ _ _ _ s.tok w2 HB.out.1 (by have:=HC.out.1.ok.tok;omega)).mono ?_
 rintro e w3 ⟨⟨y,rfl⟩,hb3,hg3⟩
 have H3:Hid (Cm Q1 F1 w3 b none wo1 wc1 s.lost/\w1.grownBy w3 (some b)):=⟨H1.out.1.lost (s:=s.ended fun _=>true) HC.out.2.2 (grown_trans HB.out.2 hg3) hb3,grown_trans HB.out.2 hg3⟩
 clear hb3 hg3
 go_wp2_with fail
 go_ret
 refine ⟨_,rfl,H1.out.2.1.set H1.out.1.blk (by decide) (by decide) H3.out.2,Q1,F1,⟨_,_,_,H3.out.1⟩,?_,H1.out.2.2.2.1,H1.out.2.2.2.2⟩
 refine H1.out.2.2.1.trans (Fr.of (F:=fun i=>i=b) H3.out.2 fun k hk=>by simp at hk;exact hk.symm) fun i hi=>?_
 have hi':i=b:=hi
 rw [hi']
 exact .inl HC.out.1.fb
variable {Q F:Nat->Prop} {w w':World} {b:Nat} {oa wo:Option Addr} {wc:Nat} {s:CS}
theorem end_none (rb kb:Nat)(w:World)(P:Nat->Bool)(what:Int)(ao:Option Addr)(an ac:Nat)(ans:Bs)(h:Cm Q F w b oa wo wc s)(h0:s.ses=0) :
  Calls Tryz.prog 79 #[.pointer (some ⟨b,0,none⟩),.func (.func 133) #[] #[.pointer (some ⟨rb,0,none⟩),.pointer (some ⟨kb,0,none⟩)],.int .i64 what,.slice ao an ac] w (EndP Q F b s P what ans w):=by
 obtain ⟨rfl,hL⟩:=h.nowin h0
 have HC:Hid (Cm Q F w b none wo wc s/\Goes none [] w/\s.rets P what ans=[]/\s.ended P=s):=by
  refine ⟨h,NoWin.goes (.inl rfl),by unfold CS.rets;rw [hL];rfl,?_⟩
  unfold CS.ended
  rw [hL]
  show CS.mk s.num s.size s.most s.tmo s.tok s.asked s.askAt s.ses [] s.wt s.last s.now=s
  rw [<-hL]
 have c8:=h.blk.cell 8
 simp at c8
 clear h h0 hL
 refine calls_marks Tryz.func79 rfl ?_
 simp only [Tryz.ntmps79,List.size_toArray,List.length_cons,List.length_nil,Nat.reduceAdd,Nat.reduceSub,Array.replicate_succ,Array.replicate_zero,List.push_toArray,List.append_toArray,List.nil_append,List.cons_append]
 go_upto_region 2 with fail
 obtain ⟨w1,hw1,H1⟩:=al5 w #[.pointer (some ⟨b,0,none⟩)] #[.func (.func 133) #[] #[.pointer (some ⟨rb,0,none⟩),.pointer (some ⟨kb,0,none⟩)]] #[.int .i64 what] #[.slice ao an ac] #[.slice none 0 0] 27 116 52 41 61
 obtain ⟨x4,hx4⟩:∃x,w.heap.size=x:=⟨_,rfl⟩
 obtain ⟨x5,hx5⟩:∃x,x4+1=x:=⟨_,rfl⟩
 obtain ⟨x6,hx6⟩:∃x,x5+1=x:=⟨_,rfl⟩
 obtain ⟨x7,hx7⟩:∃x,x6+1=x:=⟨_,rfl⟩
 obtain ⟨x9,hx9⟩:∃x,x7+1=x:=⟨_,rfl⟩
 rw [hw1]
 rw [hx4,hx5,hx6,hx7,hx9] at H1 ⊢
 clear hw1
 have k0:=H1.out.1.cell 0
 have k8:=H1.out.2.2.2.2.2.1.cell c8 (by simp)
 simp at k0
 go_wp2_with fail
 refine (all_any none w1).mono ?_
 rintro e w2 ⟨rfl,hbk,hg2,hsz2⟩
 obtain ⟨bx,hbx⟩:∃x,w1.heap.size=x:=⟨_,rfl⟩
 rw [hbx] at hbk hsz2 ⊢
 have H2:Hid (Blk w2 x9 61 #[.slice none 0 0]/\Blk w2 bx 82 #[.pointer none]/\w.grownBy w2 none/\w2.heap.size=bx+1/\w.heap.size<=x9/\x9<bx):=by
  have h:=H1.out
  exact ⟨h.2.2.2.2.1.grown hg2 (by simp),hbk,grown_trans h.2.2.2.2.2.1 hg2,hsz2,by omega,by have:=h.2.2.2.2.2.2;omega⟩
 clear hbk hg2 hsz2 hbx hx4 hx5 hx6 hx7 hx9 H1 k0 k8 c8
 go_wp2_with fail
 have HGV:Hid (GivesS Tryz.prog 91 #[.pointer (some ⟨bx,0,none⟩)] 0 (Fino []) (Xo []) (fun _=>False) w2):=HC.out.2.1 bx w2 H2.out.2.2.1 H2.out.2.1 _ fun i hi=>hi.elim
 refine wp_rangeB (id:=0) (gf:=91) (lb:=#[.pointer (some ⟨bx,0,none⟩)]) rfl (enters_of Tryz.func91 (by kernel_rfl) rfl) HGV.out ?hps
  (fun k G A=>Hid (w.grownBy A none/\Blk A x9 61 #[.slice none 0 0]))
  (fun _=>False) ?hIg ?hXg ?h0 ?hround
  (fun A=>Hid (w.grownBy A none/\Blk A x9 61 #[.slice none 0 0])) ?hdone ?hstop ?hnext
 case hps =>
  rintro k k' W0 W1 xs ⟨_,_,_,_,_,_,rfl⟩
  rfl
 case hIg =>
  rintro k G A B HI ht
  exact ⟨tx_grown ht HI.out.1 (by have:=H2.out.2.2.1.size;omega),ht.blk HI.out.2 (.inl (by decide))⟩
 case hXg=>exact fun _ _ h _=>h
 case h0=>exact ⟨H2.out.2.2.1,H2.out.1⟩
 case hdone=>exact fun A k G _ HI=>HI
 case hstop=>exact fun _ h=>h.elim
 case hnext =>
  intro A HB hd
  refine (‹∀(a:Act) (w:World),Code.wp Tryz.prog _ _ a w->_› _ _ ?_)
  have v0:=HB.out.2.cell 0
  simp at v0
  have HD:Hid (A.heap[w2.heap.size]? = some (.deferred (some []))):=hd
  clear hd
  go_wp2_with fail
  refine ⟨by simp,.inl ⟨_,_,rfl,run_takeDeferred HD.out,?_⟩⟩
  have t1:=Tx.putD (n0:=w.heap.size) (.deferred none) HD.out (by have:=H2.out.2.2.1.size;omega)
  refine ⟨_,by simp [results,Tryz.results79,go_sem],.slice none 0 0,rfl,?_,?_⟩
  ·rw [HC.out.2.2.1]
   exact rets_nil _ _
  ·rw [HC.out.2.2.2]
   exact Stp.same ⟨_,_,_,HC.out.1⟩ (tx_grown t1 HB.out.1 (Nat.le_refl _))
 case hround =>
  rintro l' k k' G W0 W1 xs HI0 hlt0 htn ⟨j,c,hkj,hj,_⟩ _
  simp at hj
theorem end_is (rb kb:Nat)(w:World)(r:PRep)(rv:Value)(what:Int)(ao:Option Addr)(an ac:Nat)(ans:Bs)(h:Cm Q F w b oa wo wc s)(ha:Disk.Own w 0 (.slice ao an ac) ans)(hl:ans.length<=140737488355328)(hr:Blk w rb 43 (repA rv r))(hk:Blk w kb 27 #[.pointer (some ⟨b,0,none⟩)])(hrF:¬F rb)(hkF:¬F kb) :
  Calls Tryz.prog 79 #[.pointer (some ⟨b,0,none⟩),.func (.func 133) #[] #[.pointer (some ⟨rb,0,none⟩),.pointer (some ⟨kb,0,none⟩)],.int .i64 what,.slice ao an ac] w (EndP Q F b s (isR s r) what ans w):=by
 by_cases h0:s.ses=0
 ·exact end_none rb kb w (isR s r) what ao an ac ans h h0
 ·exact end_133 rb kb w (isR s r) what ao an ac ans h h0 ha hl fun y hf hs j _=>is133 rb kb rv r j y hs (hr.same (hf.block rb hr.lt hrF)) (hk.same (hf.block kb hk.lt hkF))
theorem repA_cells {w:World}{b:Nat}{av:Value}{r:PRep}(h:Blk w b 43 (repA av r)):w.cell? ⟨b,0,none⟩=some (.int .i64 r.kind)/\w.cell? ⟨b,1,none⟩=some (.int .i64 r.token)/\w.cell? ⟨b,2,none⟩=some (.int .i64 r.session)/\w.cell? ⟨b,3,none⟩=some (.int .i64 r.number)/\w.cell? ⟨b,4,none⟩=some av:=⟨h.cell 0,h.cell 1,h.cell 2,h.cell 3,h.cell 4⟩
theorem EndP.rs {P:Nat->Bool}{what:Int}{ans:Bs}{w1:World}{e:Ending}(h:EndP Q F b s P what ans w1 e w')(hg:w.grownBy w1 none):RS Q F b w (s.rets P what ans) (s.ended P) e w':=RS.from hg h
theorem Cm.new (h:Cm Q F w b oa wo wc s){i:Nat}(hi:w.heap.size<=i):¬F i:=fun e=>by
 have:=h.flt i e
 omega
theorem stale73 (w:World)(ao:Option Addr)(an ac:Nat)(r:PRep)(h:Cm Q F w b oa wo wc s):Calls Tryz.prog 73 #[.pointer (some ⟨b,0,none⟩),repV (.slice ao an ac) r] w (RS Q F b w (s.rets (isR s r) 2 []) (s.ended (isR s r))):=by
 have HC:Hid (Cm Q F w b oa wo wc s):=h
 clear h
 unfold repV
 go_enter Tryz.func73,Tryz.ntmps73
 go_upto_region 1 with fail
 obtain ⟨w1,hw1,H1⟩:=al1 w (repA (.slice ao an ac) r) 43
 unfold repA at hw1
 rw [hw1]
 clear hw1
 obtain ⟨c0,c1,c2,c3,c4⟩:=repA_cells H1.out.1
 go_wp2_with fail
 refine (is102 b ao an ac r w1).mono ?_
 rintro e w2 ⟨rb,kb,rfl,hr,hk,hg,hrb,hkb⟩
 have H2:Hid (Blk w2 rb 43 (repA (.slice ao an ac) r)/\Blk w2 kb 27 #[.pointer (some ⟨b,0,none⟩)]/\w.grownBy w2 none/\w.heap.size<=rb/\w.heap.size<=kb):=⟨hr,hk,grown_trans H1.out.2.1 hg,Nat.le_trans H1.out.2.1.size hrb,Nat.le_trans H1.out.2.1.size hkb⟩
 clear c0 c1 c2 c3 c4 hr hk hg hrb hkb H1
 go_wp2_with fail
 refine (end_is rb kb w2 r _ 2 none 0 0 [] (HC.out.grown H2.out.2.2.1) (Own.nil _ _) (by simp) H2.out.1 H2.out.2.1 (HC.out.new H2.out.2.2.2.1) (HC.out.new H2.out.2.2.2.2)).mono ?_
 rintro e w3 he
 have he':=he.rs H2.out.2.2.1
 obtain ⟨v,rfl,hv,hs⟩:=he'
 have H3:Hid (Rets w3 w.heap.size v (s.rets (isR s r) 2 [])/\Stp Q F w b (s.ended (isR s r)) w3):=⟨hv,hs⟩
 obtain ⟨vo,vn,vc,rfl⟩:=hv.slice
 clear hv hs he
 go_wp2_with fail
 go_ret
 exact ⟨_,rfl,H3.out⟩
theorem answered71 (w:World)(ao:Option Addr)(an ac:Nat)(r:PRep)(h:Cm Q F w b oa wo wc s)(ha:Disk.Own w 0 (.slice ao an ac) r.answer)(hl:r.answer.length<=140737488355328):Calls Tryz.prog 71 #[.pointer (some ⟨b,0,none⟩),repV (.slice ao an ac) r] w (RS Q F b w (s.rets (isR s r) 1 r.answer) (s.ended (isR s r))):=by
 have HC:Hid (Cm Q F w b oa wo wc s/\Disk.Own w 0 (.slice ao an ac) r.answer/\r.answer.length<=140737488355328):=⟨h,ha,hl⟩
 clear h ha hl
 unfold repV
 go_enter Tryz.func71,Tryz.ntmps71
 go_upto_region 1 with fail
 obtain ⟨w1,hw1,H1⟩:=al1 w (repA (.slice ao an ac) r) 43
 unfold repA at hw1
 rw [hw1]
 clear hw1
 obtain ⟨x3,hx3⟩:∃x,w.heap.size=x:=⟨_,rfl⟩
 rw [hx3] at H1 ⊢
 have HX3:Hid (w.heap.size=x3):=hx3
 clear hx3
 have HRD:Hid (∀y,Fr w1 y F->y.cell? ⟨x3,0,none⟩=some (.int .i64 r.kind)/\y.cell? ⟨x3,1,none⟩=some (.int .i64 r.token)/\y.cell? ⟨x3,2,none⟩=some (.int .i64 r.session)/\y.cell? ⟨x3,3,none⟩=some (.int .i64 r.number)/\y.cell? ⟨x3,4,none⟩=some (.slice ao an ac)):=fun y hy=>repA_cells (H1.out.1.same (hy.block x3 H1.out.1.lt (HC.out.1.new (by rw [HX3.out];exact Nat.le_refl _))))
 refine wp_region_hold 1000 (fun y=>Fr w1 y F) (by kernel_rfl) ?_
 have HD:Hid (w1.grownBy w1.drew none):=grown_drew _ _
 generalize w1.drew=wd at HD ⊢
 have J:Idx [0,1,2,4,5]:=trivial
 iterate 5 (refine tK J ((Fr.of HD.out (by simp))) rfl rfl (fun wk hk=>by obtain ⟨k0,k1,k2,k3,k4⟩:=HRD.out wk hk;go_simp;try rfl) ?_;replace J:=J.tl;try simp only [pN])
 clear J
 refine wpHold_one (i:=3) rfl (by kernel_rfl) (by rfl) (fun K hK=>?_)
 go_wp2_with fail
 refine (is102 b ao an ac r wd).mono ?_
 rintro e w2 ⟨rb,kb,rfl,hr,hk,hg,hrb,hkb⟩
 have H2:Hid (Blk w2 rb 43 (repA (.slice ao an ac) r)/\Blk w2 kb 27 #[.pointer (some ⟨b,0,none⟩)]/\w1.grownBy w2 none/\w.grownBy w2 none/\w.heap.size<=rb/\w.heap.size<=kb):=by
  have g:=grown_trans H1.out.2.1 HD.out
  exact ⟨hr,hk,grown_trans HD.out hg,grown_trans g hg,Nat.le_trans g.size hrb,Nat.le_trans g.size hkb⟩
 clear hr hk hg hrb hkb
 go_wp2_with fail
 refine hK.out _ _ (fun _=>Fr.of H2.out.2.2.1 (by simp)) ?_
 clear hK K
 try simp only [pN]
 refine wpHold_one (i:=6) rfl (by kernel_rfl) (by rfl) (fun K hK=>?_)
 go_wp2_with fail
 refine (end_is rb kb w2 r _ 1 ao an ac r.answer (HC.out.1.grown H2.out.2.2.2.1) (HC.out.2.1.grown H2.out.2.2.2.1) HC.out.2.2 H2.out.1 H2.out.2.1 (HC.out.1.new H2.out.2.2.2.2.1) (HC.out.1.new H2.out.2.2.2.2.2)).mono ?_
 rintro e w3 he
 have hf3:Fr w1 w3 F:=by
  obtain ⟨_,_,_,_,_,_,hf,_⟩:=id he
  exact (Fr.of (F:=F) H2.out.2.2.1 (by simp)).trans hf fun i hi=>.inl hi
 have he':=he.rs H2.out.2.2.2.1
 obtain ⟨v,rfl,hv,hs⟩:=he'
 have H3:Hid (Rets w3 w.heap.size v (s.rets (isR s r) 1 r.answer)/\Stp Q F w b (s.ended (isR s r)) w3/\Fr w1 w3 F):=⟨hv,hs,hf3⟩
 obtain ⟨vo,vn,vc,rfl⟩:=hv.slice
 clear hv hs he hf3
 go_wp2_with fail
 refine hK.out _ _ (fun _=>H3.out.2.2) ?_
 clear hK K
 try simp only [pN]
 have J:Idx [7]:=trivial
 iterate 1 (refine tK J (H3.out.2.2) rfl rfl (fun wk hk=>by obtain ⟨k0,k1,k2,k3,k4⟩:=HRD.out wk hk;go_simp;try rfl) ?_;replace J:=J.tl;try simp only [pN])
 clear J
 refine wpHold_done (by kernel_rfl) ?_
 refine (‹∀(a:Act) (w:World),Code.wp Tryz.prog _ _ a w->_› _ _ ?_)
 go_wp2_with fail
 go_ret
 exact ⟨_,rfl,H3.out.1,H3.out.2.1⟩
def goneL (s:CS)(r:PRep):List PRet:=if r.session=s.ses then s.rets (fun _=>true) 2 [] else []
def goneS (s:CS)(r:PRep):CS:=if r.session=s.ses then s.lost else s
theorem gone72 (w:World)(ao:Option Addr)(an ac:Nat)(r:PRep)(h:Cm Q F w b oa wo wc s)(h1:1<=r.session)(ht:s.tok<=3999999999999992):Calls Tryz.prog 72 #[.pointer (some ⟨b,0,none⟩),repV (.slice ao an ac) r] w (RS Q F b w (goneL s r) (goneS s r)):=by
 have HC:Hid (Cm Q F w b oa wo wc s/\1<=r.session/\s.tok<=3999999999999992):=⟨h,h1,ht⟩
 obtain ⟨x,hx⟩:∃x,s.ses=x:=⟨_,rfl⟩
 obtain ⟨y,hy⟩:∃y,r.session=y:=⟨_,rfl⟩
 have HXY:Hid (s.ses=x/\r.session=y):=⟨hx,hy⟩
 have c7:=h.blk.cell 7
 rw [hx] at c7
 simp at c7
 clear h h1 ht hx hy
 unfold repV
 rw [HXY.out.2]
 go_enter Tryz.func72,Tryz.ntmps72
 go_upto_region 1 with fail
 obtain ⟨w1,hw1,H1⟩:=al1 w #[.int .i64 r.kind,.int .i64 r.token,.int .i64 y,.int .i64 r.number,.slice ao an ac] 43
 rw [hw1]
 clear hw1
 have k7:=H1.out.2.1.cell c7 (by simp)
 have k2:=H1.out.1.cell 2
 simp at k2
 by_cases he:y=x
 ·subst he
  refine wp_region_hold 1000 (fun y=>w1.grownBy y none) (by kernel_rfl) ?_
  have HD:Hid (w1.grownBy w1.drew none):=grown_drew _ _
  generalize w1.drew=wd at HD ⊢
  have J:Idx [0,1,2,3,4,5,6]:=trivial
  iterate 7 (refine tK J (HD.out) rfl rfl (fun wk hk=>by have k7:=hk.cell k7 (by simp);have k2:=hk.cell k2 (by simp);go_simp;try rfl) ?_;replace J:=J.tl;try simp only [pN])
  clear J
  refine wpHold_done (by kernel_rfl) ?_
  refine (‹∀(a:Act) (w:World),Code.wp Tryz.prog _ _ a w->_› _ _ ?_)
  have G:Hid (w.grownBy wd none):=grown_trans H1.out.2.1 HD.out
  clear k7 k2 c7
  have s1:(y != y)=false:=by simp
  go_wp2_with fail
  refine (lose44 wd (HC.out.1.grown G.out) (by have:=HXY.out;have:=HC.out.2.1;omega) HC.out.2.2).mono ?_
  rintro e w3 he
  have he':=RS.from G.out he
  obtain ⟨v,rfl,hv,hs⟩:=he'
  have H3:Hid (Rets w3 w.heap.size v (goneL s r)/\Stp Q F w b (goneS s r) w3):=by
   unfold goneL goneS
   rw [if_pos (HXY.out.2.trans HXY.out.1.symm),if_pos (HXY.out.2.trans HXY.out.1.symm)]
   exact ⟨hv,hs⟩
  obtain ⟨vo,vn,vc,rfl⟩:=hv.slice
  clear hv hs he
  go_wp2_with fail
  go_ret
  exact ⟨_,rfl,H3.out⟩
 ·have i1:(y != x)=true:=by simp [he]
  have HE:Hid (¬r.session=s.ses):=fun e=>he (HXY.out.2.symm.trans (e.trans HXY.out.1))
  clear he
  refine wp_region_hold 1000 (fun y=>w1.grownBy y none) (by kernel_rfl) ?_
  have HD:Hid (w1.grownBy w1.drew none):=grown_drew _ _
  generalize w1.drew=wd at HD ⊢
  have J:Idx [0,1,2,3,4,5,6]:=trivial
  iterate 7 (refine tK J (HD.out) rfl rfl (fun wk hk=>by have k7:=hk.cell k7 (by simp);have k2:=hk.cell k2 (by simp);go_simp;try rfl) ?_;replace J:=J.tl;try simp only [pN])
  clear J
  refine wpHold_done (by kernel_rfl) ?_
  refine (‹∀(a:Act) (w:World),Code.wp Tryz.prog _ _ a w->_› _ _ ?_)
  have G:Hid (w.grownBy wd none):=grown_trans H1.out.2.1 HD.out
  clear k7 k2 c7
  go_wp2_with fail
  go_ret
  unfold goneL goneS
  rw [if_neg HE.out,if_neg HE.out]
  exact ⟨_,rfl,rets_nil _ _,Stp.same ⟨_,_,_,HC.out.1⟩ G.out⟩
end Go.Proofs.YtanoabliahcbeaaGreat.Wn
