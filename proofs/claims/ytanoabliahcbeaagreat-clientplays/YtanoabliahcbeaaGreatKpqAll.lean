import Derived.Test.YtanoabliahcbeaaGreatKnoAll
import Derived.Test.YtanoabliahcbeaaGreatKdjAll
import Derived.Maps.Own
set_option maxHeartbeats 4000000
set_option maxRecDepth 100000
namespace Go.Proofs.YtanoabliahcbeaaGreat.Wn
open Go.RowKit Disk Table
open _root_.Go.Proofs.YtanoabliahcbeaaGreat.Calls _root_.Go.Proofs.YtanoabliahcbeaaGreat.Command
variable {Q F:Nat->Prop} {w w':World} {b:Nat} {oa wo:Option Addr} {wc:Nat} {s:CS}
def fnR (v:Value):Option (DataW Unit × List MemPlace):=match v with
 | .func (.func n) f c=>if f.size=0/\c.size=0 then some (.lit (.int .i64 ((n:Nat)+1:Nat)),[]) else none
 | .nilFunc=>some (.lit (.int .i64 0),[])
 | _=>none
theorem fnR_some {v:Value}{n:Nat}{ps:List MemPlace}(h:fnR v=some (.lit (.int .i64 (n+1:Nat)),ps)):v=.func (.func n) #[] #[]:=by
 unfold fnR at h
 split at h
 ·rename_i m f c
  split at h
  ·rename_i hs
   simp at h
   have e:m=n:=by exact_mod_cast h.1
   rw [e,Array.eq_empty_of_size_eq_zero hs.1,Array.eq_empty_of_size_eq_zero hs.2]
  ·cases h
 ·simp at h
  omega
 ·cases h
def heardD:DataW Unit:=.map [(.int .i64 1,.lit (.int .i64 71)),(.int .i64 3,.lit (.int .i64 72)),(.int .i64 4,.lit (.int .i64 73)),(.int .i64 5,.lit (.int .i64 74))]
theorem keyed40:Maps.Keyed Tryz.prog 40:=Maps.int_keyed Tryz.underlying40
theorem map98:Tryz.prog.underlying 98=some (.map 40 97):=by kernel_rfl
theorem zero97:∀w,(zeroValue 97).run Tryz.prog w=.ok .nilFunc w:=fun w=>by kernel_rfl
def HeardP (w:World)(e:Ending)(w':World):Prop:=∃m,e=.returned (.map (some m))/\w'.ownsMap Tryz.prog 40 fnR m 4 heardD/\w.grownBy w' none
theorem heard40 (w:World):Calls Tryz.prog 40 #[] w (HeardP w):=by
 have h0:=World.ownsMap_made w Tryz.prog 40 fnR
 have g0:=World.grownBy_alloc w (.map #[] 0) none
 have mk:(Instr.makeMap 98 none).run Tryz.prog w=.ok (.map (some w.heap.size)) (w.alloc (.map #[] 0)):=rfl
 obtain ⟨m,hm⟩:∃m,w.heap.size=m:=⟨_,rfl⟩
 have HM:Hid (w.heap.size=m):=hm
 rw [hm] at h0 mk
 generalize w.alloc (.map #[] 0)=w0 at h0 g0 mk
 obtain ⟨w1,u1,h1,g1⟩:=h0.update keyed40 map98 (by decide) (key:=.int .i64 1) (val:=.func (.func 70) #[] #[]) (Maps.keyOf_int_mk Tryz.underlying40 (by decide)) (d:=.lit (.int .i64 71)) (ps:=[]) (by simp [fnR])
 obtain ⟨w2,u2,h2,g2⟩:=h1.update keyed40 map98 (by decide) (key:=.int .i64 3) (val:=.func (.func 71) #[] #[]) (Maps.keyOf_int_mk Tryz.underlying40 (by decide)) (d:=.lit (.int .i64 72)) (ps:=[]) (by simp [fnR])
 obtain ⟨w3,u3,h3,g3⟩:=h2.update keyed40 map98 (by decide) (key:=.int .i64 4) (val:=.func (.func 72) #[] #[]) (Maps.keyOf_int_mk Tryz.underlying40 (by decide)) (d:=.lit (.int .i64 73)) (ps:=[]) (by simp [fnR])
 obtain ⟨w4,u4,h4,g4⟩:=h3.update keyed40 map98 (by decide) (key:=.int .i64 5) (val:=.func (.func 73) #[] #[]) (Maps.keyOf_int_mk Tryz.underlying40 (by decide)) (d:=.lit (.int .i64 74)) (ps:=[]) (by simp [fnR])
 have HE:Hid (w4.ownsMap Tryz.prog 40 fnR m 4 heardD/\w.grownBy w4 none):=⟨h4,grown_new g0 (grown_trans g1 (grown_trans g2 (grown_trans g3 g4))) (by intro x hx;simp at hx;omega)⟩
 clear h0 h1 h2 h3 h4 g0 g1 g2 g3 g4 hm
 go_enter Tryz.func40,Tryz.ntmps40
 go_wp2_with fail
 go_ret
 exact ⟨_,rfl,HE.out⟩
theorem look_heard {m:Nat}{w:World}(h:w.ownsMap Tryz.prog 40 fnR m 4 heardD)(k:Int)(hk:-9223372036854775808<=k/\k<=9223372036854775807):∃v,(Instr.lookup 98 (.map (some m)) (.int .i64 k) false).run Tryz.prog w=.ok v w/\((k=1/\v=.func (.func 70) #[] #[])\/(k=3/\v=.func (.func 71) #[] #[])\/(k=4/\v=.func (.func 72) #[] #[])\/(k=5/\v=.func (.func 73) #[] #[])\/(k≠1/\k≠3/\k≠4/\k≠5/\v=.nilFunc)):=by
 obtain ⟨v,ps,h1,h2⟩:=h.lookup keyed40 map98 (zero97 w) (zd:=.lit (.int .i64 0)) (zp:=[]) rfl (key:=.int .i64 k) (Maps.keyOf_int_mk Tryz.underlying40 (by
  simp only [Lit.wf,Bool.and_eq_true,decide_eq_true_eq]
  exact hk))
 refine ⟨v,h1,?_⟩
 by_cases e1:k=1
 ·subst e1
  exact .inl ⟨rfl,fnR_some (n:=70) h2⟩
 by_cases e3:k=3
 ·subst e3
  exact .inr (.inl ⟨rfl,fnR_some (n:=71) h2⟩)
 by_cases e4:k=4
 ·subst e4
  exact .inr (.inr (.inl ⟨rfl,fnR_some (n:=72) h2⟩))
 by_cases e5:k=5
 ·subst e5
  exact .inr (.inr (.inr (.inl ⟨rfl,fnR_some (n:=73) h2⟩)))
 refine .inr (.inr (.inr (.inr ⟨e1,e3,e4,e5,?_⟩)))
 have q1:¬(1:Int)=k:=fun e=>e1 e.symm
 have q3:¬(3:Int)=k:=fun e=>e3 e.symm
 have q4:¬(4:Int)=k:=fun e=>e4 e.symm
 have q5:¬(5:Int)=k:=fun e=>e5 e.symm
 have e:heardD.atKey (.int .i64 k) (.lit (.int .i64 0))=.lit (.int .i64 0):=by simp [heardD,DataW.atKey,Lit.sameKey,q1,q3,q4,q5]
 rw [e] at h2
 unfold fnR at h2
 split at h2
 ·rename_i m f c
  split at h2
  ·rename_i hs
   simp at h2
   omega
  ·cases h2
 ·rfl
 ·cases h2
variable {Q F:Nat->Prop} {w w':World} {b:Nat} {oa wo:Option Addr} {wc:Nat} {s:CS}
theorem Okc.opened {n:Int}(h:Okc s)(hn:1<=n/\n<=9223372036854775807):Okc (s.opened n):=by
 refine ⟨h.num,h.size,h.most,h.tmo,h.tok,h.askAt,⟨by simp only [CS.opened];omega,hn.2⟩,fun _=>rfl,?_,h.now,?_,fun c hc=>?_,h.wait⟩
 ·have:=h.last
  simp [CS.opened]
  omega
 ·have:=h.few
  simp [CS.opened,outN_zero]
  omega
 ·rcases hc with hc | hc
  ·simp [CS.opened] at hc
  ·exact h.call c (.inr hc)
theorem Cm.opened {n:Int}{ob:Nat}{v:Value}(h:Cm Q F w b oa wo wc s)(hn:1<=n/\n<=9223372036854775807)(hb:Blk w' b 85 #[.int .i64 s.num,.int .i64 s.size,.int .i64 s.most,.int .i64 s.tmo,.int .i64 s.tok,.bool s.asked,.int .i64 s.askAt,.int .i64 n,.pointer (some ⟨ob,0,none⟩),.slice wo s.wt.length wc,.int .i64 s.last,.int .i64 s.now])
  (hf:Fr w w' (fun i=>i=b)) (hw:Win (fun _=>False) w' ob v s.size [] 0):Cm (fun _=>False) (fun i=>F i\/FN ob v i) w' b (some ⟨ob,0,none⟩) wo wc (s.opened n):=by
 have hG:Gt w (fun i=>i=b):=fun i hi=>⟨85,_,(show i=b from hi) ▸ h.blk,by decide,by decide⟩
 refine ⟨hb,.inr ⟨hn.1,ob,v,rfl,hw,fun i hi=>.inr hi⟩,?_,fun k hk=>.inl (h.wf k hk),fun c hc=>?_,.inl h.fb,fun i hi=>?_,fun _ _ h=>h,fun _ h=>h.elim,h.ok.opened hn⟩
 ·refine lrow_fr (fun _ _ _ _ h=>h) h.wt hf fun k hk e=>?_
  obtain ⟨C,hC⟩:=h.wt_blk hk
  subst e
  exact absurd (blk_type hC h.blk) (by decide)
 ·rcases hc with hc | hc
  ·simp [CS.opened] at hc
  ·exact opsOwn_fr (h.ops c (.inr hc)) hf hG
 ·rcases hi with hi | hi
  ·by_cases e:i=b
   ·subst e
    exact ⟨85,_,hb,.inl rfl⟩
   ·obtain ⟨t,c,hbb,hk⟩:=h.ft i hi
    exact ⟨t,c,hbb.same (hf.block i hbb.lt e),hk⟩
  ·rcases hi with e | e
   ·subst e
    exact ⟨144,_,hw.blk,.inr (.inl rfl)⟩
   ·obtain ⟨xs,hrr,_⟩:=hw.ring
    obtain ⟨C,hC⟩:=hrr.blk i e
    exact ⟨142,_,hC,.inr (.inr (.inl rfl))⟩
def openedS (s:CS)(r:PRep):CS:=if s.ses=0/\r.token=s.tok then s.opened r.session else s
theorem opened70 (w:World)(ao:Option Addr)(an ac:Nat)(r:PRep)(h:Cm Q F w b oa wo wc s)(h1:1<=r.session/\r.session<=9223372036854775807):Calls Tryz.prog 70 #[.pointer (some ⟨b,0,none⟩),repV (.slice ao an ac) r] w (RS Q F b w [] (openedS s r)):=by
 have HC:Hid (Cm Q F w b oa wo wc s/\1<=r.session/\r.session<=9223372036854775807):=⟨h,h1⟩
 obtain ⟨x,hx⟩:∃x,s.ses=x:=⟨_,rfl⟩
 obtain ⟨t,ht⟩:∃x,s.tok=x:=⟨_,rfl⟩
 obtain ⟨z,hz⟩:∃x,r.token=x:=⟨_,rfl⟩
 have HV:Hid (s.ses=x/\s.tok=t/\r.token=z):=⟨hx,ht,hz⟩
 have c7:=h.blk.cell 7
 have c4:=h.blk.cell 4
 have c1:w.cell? ⟨b,1,none⟩=some (.int .i64 s.size):=h.blk.cell 1
 rw [hx] at c7
 rw [ht] at c4
 simp at c7 c4
 clear h h1 hx ht hz
 unfold repV
 rw [HV.out.2.2]
 go_enter Tryz.func70,Tryz.ntmps70
 go_upto_region 1 with fail
 obtain ⟨w1,hw1,H1⟩:=al1 w #[.int .i64 r.kind,.int .i64 z,.int .i64 r.session,.int .i64 r.number,.slice ao an ac] 43
 rw [hw1]
 clear hw1
 obtain ⟨x3,hx3⟩:∃x,w.heap.size=x:=⟨_,rfl⟩
 rw [hx3] at H1 ⊢
 have HX3:Hid (w.heap.size=x3):=hx3
 clear hx3
 have k7:=H1.out.2.1.cell c7 (by simp)
 have k4:=H1.out.2.1.cell c4 (by simp)
 have q1:=H1.out.1.cell 1
 simp at q1
 by_cases h0:x=0
 ·subst h0
  refine wp_region_hold 1000 (fun y=>w1.grownBy y none) (by kernel_rfl) ?_
  have HD:Hid (w1.grownBy w1.drew none):=grown_drew _ _
  generalize w1.drew=wd at HD ⊢
  have J:Idx [0,1,2,3,4,5,6,7,8,9,10,11,12,13]:=trivial
  iterate 14 (refine tK J (HD.out) rfl rfl (fun wk hk=>by have k7:=hk.cell k7 (by simp);have k4:=hk.cell k4 (by simp);have q1:=hk.cell q1 (by simp);go_simp;try rfl) ?_;replace J:=J.tl;try simp only [pN])
  clear J
  refine wpHold_done (by kernel_rfl) ?_
  refine (‹∀(a:Act) (w:World),Code.wp Tryz.prog _ _ a w->_› _ _ ?_)
  have HG:Hid (w.grownBy wd none/\Cm Q F wd b oa wo wc s/\Blk wd x3 43 #[.int .i64 r.kind,.int .i64 z,.int .i64 r.session,.int .i64 r.number,.slice ao an ac]):=⟨grown_trans H1.out.2.1 HD.out,HC.out.1.grown (grown_trans H1.out.2.1 HD.out),H1.out.1.grown HD.out (by simp)⟩
  clear k7 k4 q1 c7 c4 c1
  by_cases he:z=t
  ·subst he
   have s1:(z==z)=true:=by simp
   have HE:Hid (openedS s r=s.opened r.session):=by
    unfold Hid openedS
    rw [if_pos ⟨HV.out.1,HV.out.2.2.trans HV.out.2.1.symm⟩]
   have k7:wd.cell? ⟨b,7,none⟩=some (.int .i64 s.ses):=HG.out.2.1.blk.cell 7
   have f7:=HG.out.2.1.blk.free 7
   have q2:=HG.out.2.2.cell 2
   simp at q2
   have HB:Hid (Blk (wd.setCell ⟨b,7,none⟩ (.int .i64 r.session)) b 85 #[.int .i64 s.num,.int .i64 s.size,.int .i64 s.most,.int .i64 s.tmo,.int .i64 s.tok,.bool s.asked,.int .i64 s.askAt,.int .i64 r.session,.pointer oa,.slice wo s.wt.length wc,.int .i64 s.last,.int .i64 s.now]/\wd.grownBy (wd.setCell ⟨b,7,none⟩ (.int .i64 r.session)) (some b)):=⟨HG.out.2.1.blk.store 7 _,grown_setCell _ _ _ _⟩
   go_upto_region 3 with fail
   generalize wd.setCell ⟨b,7,none⟩ (.int .i64 r.session)=w2 at HB ⊢
   clear k7 f7 q2
   have c1:w2.cell? ⟨b,1,none⟩=some (.int .i64 s.size):=HB.out.1.cell 1
   go_wp2_with fail
   refine (new_win s.size w2 HC.out.1.ok.size.1 HC.out.1.ok.size.2).mono ?_
   rintro e w3 ⟨ob,v,rfl,hw,hg,hN⟩
   have H3:Hid (Win (fun _=>False) w3 ob v s.size [] 0/\w2.grownBy w3 none/\∀i,FN ob v i->w2.heap.size<=i):=⟨hw,hg,hN⟩
   have hb3:=HB.out.1.grown hg (by simp)
   have k8:=hb3.cell 8
   have f8:=hb3.free 8
   simp at k8
   have HF:Hid (Cm (fun _=>False) (fun i=>F i\/FN ob v i) (w3.setCell ⟨b,8,none⟩ (.pointer (some ⟨ob,0,none⟩))) b (some ⟨ob,0,none⟩) wo wc (s.opened r.session)/\Fr w (w3.setCell ⟨b,8,none⟩ (.pointer (some ⟨ob,0,none⟩))) (fun i=>i=b)/\∀i,FN ob v i->w.heap.size<=i):=by
    have gs:=grown_setCell w3 b 8 (.pointer (some ⟨ob,0,none⟩))
    have fd:Fr wd (w3.setCell ⟨b,8,none⟩ (.pointer (some ⟨ob,0,none⟩))) (fun i=>i=b):=((Fr.of (F:=fun i=>i=b) HB.out.2 fun k hk=>by simp at hk;exact hk.symm).trans (Fr.of (F:=fun i=>i=b) hg (by simp)) fun i hi=>.inl hi).trans (Fr.of (F:=fun i=>i=b) gs fun k hk=>by simp at hk;exact hk.symm) fun i hi=>.inl hi
    refine ⟨HG.out.2.1.opened HC.out.2 (hb3.store 8 _) fd ?_,(Fr.of (F:=fun i=>i=b) HG.out.1 (by simp)).trans fd fun i hi=>.inl hi,fun i hi=>?_⟩
    ·refine hw.kept fun i hi hl=>gs.block i hl fun e=>?_
     simp at e
     subst e
     rcases hi with hi | hi
     ·have:=hN _ hi
      have:=HB.out.1.lt
      omega
     ·exact hi
    ·have:=hN i hi
     have:=HB.out.2.size
     have:=HG.out.1.size
     omega
   clear hw hg hN hb3 c1
   go_wp2_with fail
   go_ret
   rw [HE.out]
   refine ⟨_,rfl,rets_nil _ _,_,_,⟨_,_,_,HF.out.1⟩,HF.out.2.1.mono fun i hi=>(show i=b from hi) ▸ HC.out.1.fb,fun i hi=>?_,fun _ h=>h.elim⟩
   rcases hi with hi | hi
   ·exact .inl hi
   ·exact .inr (HF.out.2.2 i hi)
  ·have s1:(z==t)=false:=by simp [he]
   have HE:Hid (openedS s r=s):=by
    unfold Hid openedS
    rw [if_neg fun h=>he (HV.out.2.2.symm.trans (h.2.trans HV.out.2.1))]
   clear he
   go_wp2_with fail
   go_ret
   rw [HE.out]
   exact ⟨_,rfl,rets_nil _ _,Stp.same ⟨_,_,_,HC.out.1⟩ HG.out.1⟩
 ·have s1:(x==0)=false:=by simp [h0]
  have HE:Hid (openedS s r=s):=by
   unfold Hid openedS
   rw [if_neg fun h=>h0 (HV.out.1.symm.trans h.1)]
  clear h0
  refine wp_region_hold 1000 (fun y=>w1.grownBy y none) (by kernel_rfl) ?_
  have HD:Hid (w1.grownBy w1.drew none):=grown_drew _ _
  generalize w1.drew=wd at HD ⊢
  have J:Idx [0,1,2,3,4,5]:=trivial
  iterate 6 (refine tK J (HD.out) rfl rfl (fun wk hk=>by have k7:=hk.cell k7 (by simp);go_simp;try rfl) ?_;replace J:=J.tl;try simp only [pN])
  clear J
  have J:Idx [6,7,8,9,10,11,12]:=trivial
  iterate 7 (refine sk J (HD.out) rfl rfl ?_;replace J:=J.tl;try simp only [pN])
  clear J
  have J:Idx [13]:=trivial
  iterate 1 (refine tK J (HD.out) rfl rfl (fun wk hk=>by have k7:=hk.cell k7 (by simp);go_simp;try rfl) ?_;replace J:=J.tl;try simp only [pN])
  clear J
  refine wpHold_done (by kernel_rfl) ?_
  refine (‹∀(a:Act) (w:World),Code.wp Tryz.prog _ _ a w->_› _ _ ?_)
  have HG:Hid (w.grownBy wd none):=grown_trans H1.out.2.1 HD.out
  clear k7 k4 q1 c7 c4 c1
  go_wp2_with fail
  go_ret
  rw [HE.out]
  exact ⟨_,rfl,rets_nil _ _,Stp.same ⟨_,_,_,HC.out.1⟩ HG.out⟩
variable {Q F:Nat->Prop} {w w':World} {b:Nat} {oa wo:Option Addr} {wc:Nat} {s:CS}
def hears (s:CS)(m:PMsg):Bool:=decide (m.kind=2) && decide (m.client=s.num) && okM m
def tellL (s:CS)(r:PRep):List PRet :=
 if r.kind=3 then s.rets (isR s r) 1 r.answer else if r.kind=4 then goneL s r else if r.kind=5 then s.rets (isR s r) 2 [] else []
def tellS (s:CS)(r:PRep):CS :=
 if r.kind=1 then openedS s r else if r.kind=3 then s.ended (isR s r) else if r.kind=4 then goneS s r else if r.kind=5 then s.ended (isR s r) else s
def hearL (s:CS)(m:PMsg):List PRet:=if hears s m=true then tellL s m.tell else []
def hearS (s:CS)(m:PMsg):CS:=if hears s m=true then tellS s m.tell else s
theorem okM_tell {m:PMsg}(h:okM m=true)(hk:m.kind=2):(m.tell.kind=1->1<=m.tell.session)/\(m.tell.kind=4->1<=m.tell.session):=by
 unfold okM at h
 simp only [Bool.and_eq_true] at h
 obtain ⟨_,h⟩:=h
 rw [if_neg (by omega)] at h
 simp only [Bool.and_eq_true,decide_eq_true_eq] at h
 have h2:=h.1.2
 constructor
 ·intro e
  rw [okR,if_pos e] at h2
  simp at h2
  exact h2.2.1
 ·intro e
  rw [okR,if_neg (by omega),if_neg (by omega),if_neg (by omega),if_pos e] at h2
  simp at h2
  exact h2.2.1
theorem neF (w:World)(n:Nat):(binOp .neq 97 (.func (.func n) #[] #[]) .nilFunc).run Tryz.prog w=.ok (.bool true) w:=by kernel_rfl
theorem neN (w:World):(binOp .neq 97 .nilFunc .nilFunc).run Tryz.prog w=.ok (.bool false) w:=by kernel_rfl
theorem hear_nocl (x:Value)(ov av:Value)(m:PMsg)(w:World)(h:NoCl w x):Calls Tryz.prog 14 #[x,msgV ov av m] w fun e w'=>e=.returned (.slice none 0 0)/\w.grownBy w' none:=by
 have HN:Hid (NoCl w x):=h
 clear h
 unfold msgV
 go_enter Tryz.func14,Tryz.ntmps14
 go_upto_region 1 with fail
 obtain ⟨w1,hw1,H1⟩:=al1 w (msgA ov av m) 45
 unfold msgA at hw1
 rw [hw1]
 clear hw1
 refine wp_region_hold 1000 (fun y=>w1.grownBy y none) (by kernel_rfl) ?_
 have HD:Hid (w1.grownBy w1.drew none):=grown_drew _ _
 generalize w1.drew=wd at HD ⊢
 have J:Idx [0]:=trivial
 iterate 1 (refine tK J (HD.out) rfl rfl (fun wk hk=>by skip;go_simp;try rfl) ?_;replace J:=J.tl;try simp only [pN])
 clear J
 refine wpHold_one (i:=1) rfl (by kernel_rfl) (by rfl) (fun K hK=>?_)
 go_wp2_with fail
 refine (there_nocl x wd (HN.out.grown (grown_trans H1.out.2.1 HD.out))).mono ?_
 rintro e w2 ⟨rfl,rfl⟩
 go_wp2_with fail
 refine hK.out _ _ (fun _=>HD.out) ?_
 clear hK K
 try simp only [pN]
 have J:Idx [2,3]:=trivial
 iterate 2 (refine tK J (HD.out) rfl rfl (fun wk hk=>by skip;go_simp;try rfl) ?_;replace J:=J.tl;try simp only [pN])
 clear J
 have J:Idx [4,5,6]:=trivial
 iterate 3 (refine sk J (HD.out) rfl rfl ?_;replace J:=J.tl;try simp only [pN])
 clear J
 have J:Idx [7,8]:=trivial
 iterate 2 (refine tK J (HD.out) rfl rfl (fun wk hk=>by skip;go_simp;try rfl) ?_;replace J:=J.tl;try simp only [pN])
 clear J
 have J:Idx [9,10,11,12,13,14,15]:=trivial
 iterate 7 (refine sk J (HD.out) rfl rfl ?_;replace J:=J.tl;try simp only [pN])
 clear J
 have J:Idx [16,17]:=trivial
 iterate 2 (refine tK J (HD.out) rfl rfl (fun wk hk=>by skip;go_simp;try rfl) ?_;replace J:=J.tl;try simp only [pN])
 clear J
 have J:Idx [18,19,20]:=trivial
 iterate 3 (refine sk J (HD.out) rfl rfl ?_;replace J:=J.tl;try simp only [pN])
 clear J
 have J:Idx [21]:=trivial
 iterate 1 (refine tK J (HD.out) rfl rfl (fun wk hk=>by skip;go_simp;try rfl) ?_;replace J:=J.tl;try simp only [pN])
 clear J
 refine wpHold_done (by kernel_rfl) ?_
 refine (‹∀(a:Act) (w:World),Code.wp Tryz.prog _ _ a w->_› _ _ ?_)
 go_wp2_with fail
 go_ret
 exact ⟨rfl,grown_trans H1.out.2.1 HD.out⟩
theorem hear14 (w:World)(ov:Value)(ao:Option Addr)(an ac:Nat)(m:PMsg)(h:Cm Q F w b oa wo wc s)(ho:Ops w ov m.ask.ops)(ha:Disk.Own w 0 (.slice ao an ac) m.tell.answer)(hl:m.tell.answer.length<=140737488354304)(hi:InM m)(ht:s.tok<=3999999999999992) :
  Calls Tryz.prog 14 #[.pointer (some ⟨b,0,none⟩),msgV ov (.slice ao an ac) m] w (RS Q F b w (hearL s m) (hearS s m)):=by
 obtain ⟨oo,on,oc,rfl⟩:=isSl_ops ho
 have HC:Hid (Cm Q F w b oa wo wc s/\Ops w (.slice oo on oc) m.ask.ops/\Disk.Own w 0 (.slice ao an ac) m.tell.answer/\m.tell.answer.length<=140737488354304/\InM m/\s.tok<=3999999999999992):=⟨h,ho,ha,hl,hi,ht⟩
 have c0:w.cell? ⟨b,0,none⟩=some (.int .i64 s.num):=h.blk.cell 0
 obtain ⟨kd,hkd⟩:∃x,m.kind=x:=⟨_,rfl⟩
 obtain ⟨cl,hcl⟩:∃x,m.client=x:=⟨_,rfl⟩
 obtain ⟨nu,hnu⟩:∃x,((s.num:Nat):Int)=x:=⟨_,rfl⟩
 have HV:Hid (m.kind=kd/\m.client=cl/\((s.num:Nat):Int)=nu):=⟨hkd,hcl,hnu⟩
 rw [hnu] at c0
 clear h ho ha hl hi ht hkd hcl hnu
 unfold msgV
 rw [HV.out.1,HV.out.2.1]
 go_enter Tryz.func14,Tryz.ntmps14
 go_upto_region 1 with fail
 obtain ⟨w1,hw1,H1'⟩:=al1 w (msgA (.slice oo on oc) (.slice ao an ac) m) 45
 unfold msgA at hw1
 rw [HV.out.1,HV.out.2.1] at hw1
 rw [hw1]
 clear hw1
 obtain ⟨x3,hx3⟩:∃x,w.heap.size=x:=⟨_,rfl⟩
 rw [hx3] at H1' ⊢
 have H1:Hid (MB w1 x3 (.slice oo on oc) (.slice ao an ac) m/\w.grownBy w1 none):=⟨H1'.out.1,H1'.out.2.1⟩
 clear hx3 H1'
 have k0:=H1.out.2.cell c0 (by simp)
 obtain ⟨q0,q1,q2,q3,q4,q5,q6,q7,q8,q9,q10,q11,q12⟩:=H1.out.1.cells
 rw [HV.out.1] at q0
 rw [HV.out.2.1] at q1
 by_cases e0:kd=2
 rotate_left
 ·have s1:(kd != 2)=true:=by simp [e0]
  have HE:Hid (hears s m=false):=by simp [Hid,hears,HV.out.1,e0]
  clear e0
  refine wp_region_hold 1000 (fun y=>w1.grownBy y none) (by kernel_rfl) ?_
  have HD:Hid (w1.grownBy w1.drew none):=grown_drew _ _
  generalize w1.drew=wd at HD ⊢
  have J:Idx [0]:=trivial
  iterate 1 (refine tK J (HD.out) rfl rfl (fun wk hk=>by have q0:=hk.cell q0 (by simp);go_simp;try rfl) ?_;replace J:=J.tl;try simp only [pN])
  clear J
  refine wpHold_one (i:=1) rfl (by kernel_rfl) (by rfl) (fun K hK=>?_)
  go_wp2_with fail
  refine (there_cl wd (HC.out.1.grown (grown_trans H1.out.2 HD.out))).mono ?_
  rintro e w2 ⟨rfl,rfl⟩
  go_wp2_with fail
  refine hK.out _ _ (fun _=>HD.out) ?_
  clear hK K
  try simp only [pN]
  have J:Idx [2,3,4,5,6,7,8]:=trivial
  iterate 7 (refine tK J (HD.out) rfl rfl (fun wk hk=>by have q0:=hk.cell q0 (by simp);go_simp;try rfl) ?_;replace J:=J.tl;try simp only [pN])
  clear J
  have J:Idx [9,10,11,12,13,14,15]:=trivial
  iterate 7 (refine sk J (HD.out) rfl rfl ?_;replace J:=J.tl;try simp only [pN])
  clear J
  have J:Idx [16,17]:=trivial
  iterate 2 (refine tK J (HD.out) rfl rfl (fun wk hk=>by have q0:=hk.cell q0 (by simp);go_simp;try rfl) ?_;replace J:=J.tl;try simp only [pN])
  clear J
  have J:Idx [18,19,20]:=trivial
  iterate 3 (refine sk J (HD.out) rfl rfl ?_;replace J:=J.tl;try simp only [pN])
  clear J
  have J:Idx [21]:=trivial
  iterate 1 (refine tK J (HD.out) rfl rfl (fun wk hk=>by have q0:=hk.cell q0 (by simp);go_simp;try rfl) ?_;replace J:=J.tl;try simp only [pN])
  clear J
  refine wpHold_done (by kernel_rfl) ?_
  refine (‹∀(a:Act) (w:World),Code.wp Tryz.prog _ _ a w->_› _ _ ?_)
  clear c0 k0 q0 q1 q2 q3 q4 q5 q6 q7 q8 q9 q10 q11 q12
  go_wp2_with fail
  go_ret
  unfold hearL hearS
  rw [HE.out]
  exact ⟨_,rfl,rets_nil _ _,Stp.same ⟨_,_,_,HC.out.1⟩ (grown_trans H1.out.2 HD.out)⟩
 ·subst e0
  have s1:((2:Int) != 2)=false:=by decide
  by_cases e1:cl=nu
  rotate_left
  ·have s2:(cl != nu)=true:=by simp [e1]
   have HE:Hid (hears s m=false):=by simp [Hid,hears,HV.out.2.1,HV.out.2.2,e1]
   clear e1
   refine wp_region_hold 1000 (fun y=>w1.grownBy y none) (by kernel_rfl) ?_
   have HD:Hid (w1.grownBy w1.drew none):=grown_drew _ _
   generalize w1.drew=wd at HD ⊢
   have J:Idx [0]:=trivial
   iterate 1 (refine tK J (HD.out) rfl rfl (fun wk hk=>by have q0:=hk.cell q0 (by simp);have q1:=hk.cell q1 (by simp);have k0:=hk.cell k0 (by simp);go_simp;try rfl) ?_;replace J:=J.tl;try simp only [pN])
   clear J
   refine wpHold_one (i:=1) rfl (by kernel_rfl) (by rfl) (fun K hK=>?_)
   go_wp2_with fail
   refine (there_cl wd (HC.out.1.grown (grown_trans H1.out.2 HD.out))).mono ?_
   rintro e w2 ⟨rfl,rfl⟩
   go_wp2_with fail
   refine hK.out _ _ (fun _=>HD.out) ?_
   clear hK K
   try simp only [pN]
   have J:Idx [2,3,4,5,6,7,8,9,10,11,12,13,14,15,16,17]:=trivial
   iterate 16 (refine tK J (HD.out) rfl rfl (fun wk hk=>by have q0:=hk.cell q0 (by simp);have q1:=hk.cell q1 (by simp);have k0:=hk.cell k0 (by simp);go_simp;try rfl) ?_;replace J:=J.tl;try simp only [pN])
   clear J
   have J:Idx [18,19,20]:=trivial
   iterate 3 (refine sk J (HD.out) rfl rfl ?_;replace J:=J.tl;try simp only [pN])
   clear J
   have J:Idx [21]:=trivial
   iterate 1 (refine tK J (HD.out) rfl rfl (fun wk hk=>by have q0:=hk.cell q0 (by simp);have q1:=hk.cell q1 (by simp);have k0:=hk.cell k0 (by simp);go_simp;try rfl) ?_;replace J:=J.tl;try simp only [pN])
   clear J
   refine wpHold_done (by kernel_rfl) ?_
   refine (‹∀(a:Act) (w:World),Code.wp Tryz.prog _ _ a w->_› _ _ ?_)
   clear c0 k0 q0 q1 q2 q3 q4 q5 q6 q7 q8 q9 q10 q11 q12
   go_wp2_with fail
   go_ret
   unfold hearL hearS
   rw [HE.out]
   exact ⟨_,rfl,rets_nil _ _,Stp.same ⟨_,_,_,HC.out.1⟩ (grown_trans H1.out.2 HD.out)⟩
  ·subst e1
   have s2:(cl != cl)=false:=by simp
   obtain ⟨er,her⟩:∃x,errM m=x:=⟨_,rfl⟩
   have HER:Hid (errM m=er):=her
   clear her
   refine wp_region_hold 1000 (fun y=>w1.grownBy y none) (by kernel_rfl) ?_
   have HD:Hid (w1.grownBy w1.drew none):=grown_drew _ _
   generalize w1.drew=wd at HD ⊢
   have J:Idx [0]:=trivial
   iterate 1 (refine tK J (HD.out) rfl rfl (fun wk hk=>by have q0:=hk.cell q0 (by simp);have q1:=hk.cell q1 (by simp);have k0:=hk.cell k0 (by simp);have q2:=hk.cell q2 (by simp);have q3:=hk.cell q3 (by simp);have q4:=hk.cell q4 (by simp);have q5:=hk.cell q5 (by simp);have q6:=hk.cell q6 (by simp);have q7:=hk.cell q7 (by simp);have q8:=hk.cell q8 (by simp);have q9:=hk.cell q9 (by simp);have q10:=hk.cell q10 (by simp);have q11:=hk.cell q11 (by simp);have q12:=hk.cell q12 (by simp);go_simp;try rfl) ?_;replace J:=J.tl;try simp only [pN])
   clear J
   refine wpHold_one (i:=1) rfl (by kernel_rfl) (by rfl) (fun K hK=>?_)
   go_wp2_with fail
   refine (there_cl wd (HC.out.1.grown (grown_trans H1.out.2 HD.out))).mono ?_
   rintro e w2 ⟨rfl,rfl⟩
   go_wp2_with fail
   refine hK.out _ _ (fun _=>HD.out) ?_
   clear hK K
   try simp only [pN]
   have J:Idx [2,3,4,5,6,7,8,9,10,11,12,13,14,15,16,17,18]:=trivial
   iterate 17 (refine tK J (HD.out) rfl rfl (fun wk hk=>by have q0:=hk.cell q0 (by simp);have q1:=hk.cell q1 (by simp);have k0:=hk.cell k0 (by simp);have q2:=hk.cell q2 (by simp);have q3:=hk.cell q3 (by simp);have q4:=hk.cell q4 (by simp);have q5:=hk.cell q5 (by simp);have q6:=hk.cell q6 (by simp);have q7:=hk.cell q7 (by simp);have q8:=hk.cell q8 (by simp);have q9:=hk.cell q9 (by simp);have q10:=hk.cell q10 (by simp);have q11:=hk.cell q11 (by simp);have q12:=hk.cell q12 (by simp);go_simp;try rfl) ?_;replace J:=J.tl;try simp only [pN])
   clear J
   refine wpHold_one (i:=19) rfl (by kernel_rfl) (by rfl) (fun K hK=>?_)
   have hck:=check8 (.slice oo on oc) (.slice ao an ac) m w2 (HC.out.2.1.grown (grown_trans H1.out.2 HD.out)) (HC.out.2.2.1.grown (grown_trans H1.out.2 HD.out)).seg HC.out.2.2.2.1 HC.out.2.2.2.2.1
   unfold msgV at hck
   rw [HV.out.1,HV.out.2.1,HER.out] at hck
   have HCK:Hid _:=hck
   clear hck
   go_wp2_with fail
   refine (show Go.Calls Tryz.prog 39 _ w2 (fun e w'=>e=.returned (.int .i64 er)/\w2.grownBy w' none) from HCK.out).mono ?_
   rintro e w3 ⟨rfl,hg⟩
   have H3:Hid (w1.grownBy w3 none):=grown_trans HD.out hg
   clear hg HCK
   go_wp2_with fail
   refine hK.out _ _ (fun _=>H3.out) ?_
   clear hK K
   try simp only [pN]
   have J:Idx [20,21]:=trivial
   iterate 2 (refine tK J (H3.out) rfl rfl (fun wk hk=>by have q0:=hk.cell q0 (by simp);have q1:=hk.cell q1 (by simp);have k0:=hk.cell k0 (by simp);have q2:=hk.cell q2 (by simp);have q3:=hk.cell q3 (by simp);have q4:=hk.cell q4 (by simp);have q5:=hk.cell q5 (by simp);have q6:=hk.cell q6 (by simp);have q7:=hk.cell q7 (by simp);have q8:=hk.cell q8 (by simp);have q9:=hk.cell q9 (by simp);have q10:=hk.cell q10 (by simp);have q11:=hk.cell q11 (by simp);have q12:=hk.cell q12 (by simp);go_simp;try rfl) ?_;replace J:=J.tl;try simp only [pN])
   clear J
   refine wpHold_done (by kernel_rfl) ?_
   refine (‹∀(a:Act) (w:World),Code.wp Tryz.prog _ _ a w->_› _ _ ?_)
   clear c0 k0 q0 q1 q2 q3 q4 q5 q6 q7 q8 q9 q10 q11 q12
   cases hok:okM m with
   | false =>
    have he:er=2:=by rw [<-HER.out];unfold errM;rw [hok];rfl
    subst he
    have HE:Hid (hears s m=false):=by simp [Hid,hears,hok]
    clear hok
    go_wp2_with fail
    go_ret
    unfold hearL hearS
    rw [HE.out]
    exact ⟨_,rfl,rets_nil _ _,Stp.same ⟨_,_,_,HC.out.1⟩ (grown_trans H1.out.2 H3.out)⟩
   | true =>
    have he:er=0:=by rw [<-HER.out];unfold errM;rw [hok];rfl
    subst he
    have HE:Hid (hearL s m=tellL s m.tell/\hearS s m=tellS s m.tell/\(m.tell.kind=1->1<=m.tell.session)/\(m.tell.kind=4->1<=m.tell.session)):=by
     have hh:hears s m=true:=by simp [hears,HV.out.1,HV.out.2.1,HV.out.2.2,hok]
     exact ⟨by unfold hearL;rw [if_pos hh],by unfold hearS;rw [if_pos hh],okM_tell hok HV.out.1⟩
    clear hok
    have HG:Hid (w.grownBy w3 none/\MB w3 x3 (.slice oo on oc) (.slice ao an ac) m/\Cm Q F w3 b oa wo wc s):=⟨grown_trans H1.out.2 H3.out,H1.out.1.grown H3.out,HC.out.1.grown (grown_trans H1.out.2 H3.out)⟩
    have q8:w3.cell? ⟨x3,8,none⟩=some (.int .i64 m.tell.kind):=HG.out.2.1.cells.2.2.2.2.2.2.2.2.1
    go_upto_region 3 with fail
    refine wp_region_hold 1000 (fun y=>w3.grownBy y none) (by kernel_rfl) ?_
    have HD3:Hid (w3.grownBy w3.drew none):=grown_drew _ _
    generalize w3.drew=we at HD3 ⊢
    have J:Idx [1,2,3]:=trivial
    iterate 3 (refine tK J (HD3.out) rfl rfl (fun wk hk=>by have q8:=hk.cell q8 (by simp);go_simp;try rfl) ?_;replace J:=J.tl;try simp only [pN])
    clear J
    refine wpHold_one (i:=0) rfl (by kernel_rfl) (by rfl) (fun K hK=>?_)
    go_wp2_with fail
    refine (heard40 we).mono ?_
    rintro e w4 ⟨hm,rfl,hown,hg⟩
    obtain ⟨fv,hlk,hfv⟩:=look_heard hown m.tell.kind ⟨HC.out.2.2.2.2.1.tell.k0,HC.out.2.2.2.2.1.tell.k1⟩
    have H4:Hid (w3.grownBy w4 none/\(Instr.lookup 98 (.map (some hm)) (.int .i64 m.tell.kind) false).run Tryz.prog w4=.ok fv w4):=⟨grown_trans HD3.out hg,hlk⟩
    have HFV:Hid _:=hfv
    clear hown hg hlk hfv
    go_wp2_with fail
    refine hK.out _ _ (fun _=>H4.out.1) ?_
    clear hK K
    try simp only [pN]
    refine wpHold_one (i:=4) rfl (by kernel_rfl) (by rfl) (fun K hK=>?_)
    have hlk:=H4.out.2
    go_wp2_with fail
    refine hK.out _ _ (fun _=>H4.out.1) ?_
    clear hK K hlk
    try simp only [pN]
    have J:Idx [5]:=trivial
    iterate 1 (refine tK J (H4.out.1) rfl rfl (fun wk hk=>by have q8:=hk.cell q8 (by simp);go_simp;try rfl) ?_;replace J:=J.tl;try simp only [pN])
    clear J
    refine wpHold_done (by kernel_rfl) ?_
    refine (‹∀(a:Act) (w:World),Code.wp Tryz.prog _ _ a w->_› _ _ ?_)
    clear q8
    have G4:Hid (w.grownBy w4 none/\Cm Q F w4 b oa wo wc s/\MB w4 x3 (.slice oo on oc) (.slice ao an ac) m/\Disk.Own w4 0 (.slice ao an ac) m.tell.answer):=⟨grown_trans HG.out.1 H4.out.1,HG.out.2.2.grown H4.out.1,HG.out.2.1.grown H4.out.1,HC.out.2.2.1.grown (grown_trans HG.out.1 H4.out.1)⟩
    obtain ⟨q0,q1,q2,q3,q4,q5,q6,q7,q8,q9,q10,q11,q12⟩:=G4.out.2.2.1.cells
    clear q0 q1 q2 q3 q4 q5 q6 q7
    have n1:=neF
    have n2:=neN
    have HT:Hid (∀e w',RS Q F b w4 (tellL s m.tell) (tellS s m.tell) e w'->RS Q F b w (hearL s m) (hearS s m) e w'):=fun e w' h=>by
     rw [HE.out.1,HE.out.2.1]
     exact RS.from G4.out.1 h
    rcases HFV.out with ⟨ek,rfl⟩ | ⟨ek,rfl⟩ | ⟨ek,rfl⟩ | ⟨ek,rfl⟩ | ⟨k1,k3,k4,k5,rfl⟩
    ·have HK:Hid (tellL s m.tell=[]/\tellS s m.tell=openedS s m.tell/\1<=m.tell.session):=⟨by simp [tellL,ek],by simp [tellS,ek],HE.out.2.2.1 ek⟩
     clear ek
     go_wp2_with fail
     refine (opened70 w4 ao an ac m.tell G4.out.2.1 ⟨HK.out.2.2,HC.out.2.2.2.2.1.tell.s1⟩).mono ?_
     rintro e w5 he
     have he2:=HT.out _ _ (by rw [HK.out.1,HK.out.2.1];exact he)
     obtain ⟨v,rfl,hv⟩:=he
     have HX:Hid _:=he2
     clear hv he2 q8 q9 q10 q11 q12
     go_wp2_with fail
     go_ret
     exact HX.out
    ·have HK:Hid (tellL s m.tell=s.rets (isR s m.tell) 1 m.tell.answer/\tellS s m.tell=s.ended (isR s m.tell)):=⟨by simp [tellL,ek],by simp [tellS,ek]⟩
     clear ek
     go_wp2_with fail
     refine (answered71 w4 ao an ac m.tell G4.out.2.1 G4.out.2.2.2 (by have:=HC.out.2.2.2.1;omega)).mono ?_
     rintro e w5 he
     have he2:=HT.out _ _ (by rw [HK.out.1,HK.out.2];exact he)
     obtain ⟨v,rfl,hv⟩:=he
     have HX:Hid _:=he2
     clear hv he2 q8 q9 q10 q11 q12
     go_wp2_with fail
     go_ret
     exact HX.out
    ·have HK:Hid (tellL s m.tell=goneL s m.tell/\tellS s m.tell=goneS s m.tell/\1<=m.tell.session):=⟨by simp [tellL,ek],by simp [tellS,ek],HE.out.2.2.2 ek⟩
     clear ek
     go_wp2_with fail
     refine (gone72 w4 ao an ac m.tell G4.out.2.1 HK.out.2.2 HC.out.2.2.2.2.2).mono ?_
     rintro e w5 he
     have he2:=HT.out _ _ (by rw [HK.out.1,HK.out.2.1];exact he)
     obtain ⟨v,rfl,hv⟩:=he
     have HX:Hid _:=he2
     clear hv he2 q8 q9 q10 q11 q12
     go_wp2_with fail
     go_ret
     exact HX.out
    ·have HK:Hid (tellL s m.tell=s.rets (isR s m.tell) 2 []/\tellS s m.tell=s.ended (isR s m.tell)):=⟨by simp [tellL,ek],by simp [tellS,ek]⟩
     clear ek
     go_wp2_with fail
     refine (stale73 w4 ao an ac m.tell G4.out.2.1).mono ?_
     rintro e w5 he
     have he2:=HT.out _ _ (by rw [HK.out.1,HK.out.2];exact he)
     obtain ⟨v,rfl,hv⟩:=he
     have HX:Hid _:=he2
     clear hv he2 q8 q9 q10 q11 q12
     go_wp2_with fail
     go_ret
     exact HX.out
    ·have HK:Hid (tellL s m.tell=[]/\tellS s m.tell=s):=⟨by simp [tellL,k3,k4,k5],by simp [tellS,k1,k3,k4,k5]⟩
     clear k1 k3 k4 k5 q8 q9 q10 q11 q12
     go_wp2_with fail
     go_ret
     refine HT.out _ _ ?_
     rw [HK.out.1,HK.out.2]
     exact ⟨_,rfl,rets_nil _ _,Stp.same ⟨_,_,_,G4.out.2.1⟩ (grown_refl _ _)⟩
end Go.Proofs.YtanoabliahcbeaaGreat.Wn
