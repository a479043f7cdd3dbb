import Derived.Test.YtanoabliahcbeaaGreatKuvAll
import Derived.Lib.SlBytesConst
set_option maxHeartbeats 8000000
set_option maxRecDepth 100000
namespace Go.Proofs.YtanoabliahcbeaaGreat.Wn
open Go.RowKit Disk Table
open _root_.Go.Proofs.YtanoabliahcbeaaGreat.Calls _root_.Go.Proofs.YtanoabliahcbeaaGreat.Command
def putOps:List POp:=[⟨2,[116],[107],[118],false,[],[],0⟩]
theorem put_chk:chk putOps=0:=by kernel_rfl
def smallJob:PCfg:=⟨9,900,2,9,3,5,9,1000⟩
theorem job23 (w:World):Calls Tryz.prog 23 #[] w fun e w'=>e=.returned (cfgV smallJob)/\w.grownBy w' none:=by
 go_enter Tryz.func23,Tryz.ntmps23
 go_upto_region 1 with fail
 obtain ⟨w1,hw1,H1⟩:=al1 w #[.int .i64 0,.int .i64 0,.int .i64 0,.int .i64 0,.int .i64 0,.int .i64 0,.int .i64 0,.int .i64 0] 25
 rw [hw1]
 obtain ⟨x0,hx0⟩:∃x,w.heap.size=x:=⟨_,rfl⟩
 have HX:Hid (w.heap.size=x0):=hx0
 rw [hx0] at H1 ⊢
 clear hw1 hx0
 obtain ⟨k0,k1,k2,k3,k4,k5,k6,k7⟩:=cells8 H1.out.1
 have f0:=H1.out.1.free 0
 have f1:=H1.out.1.free 1
 have f2:=H1.out.1.free 2
 have f3:=H1.out.1.free 3
 have f4:=H1.out.1.free 4
 have f5:=H1.out.1.free 5
 have f6:=H1.out.1.free 6
 have f7:=H1.out.1.free 7
 have HB:Hid (Blk ((((((((w1.setCell ⟨x0,0,none⟩ (.int .i64 9)).setCell ⟨x0,1,none⟩ (.int .i64 900)).setCell ⟨x0,2,none⟩ (.int .i64 2)).setCell ⟨x0,3,none⟩ (.int .i64 9)).setCell ⟨x0,4,none⟩ (.int .i64 3)).setCell ⟨x0,5,none⟩ (.int .i64 5)).setCell ⟨x0,6,none⟩ (.int .i64 9)).setCell ⟨x0,7,none⟩ (.int .i64 1000)) x0 25 #[.int .i64 9,.int .i64 900,.int .i64 2,.int .i64 9,.int .i64 3,.int .i64 5,.int .i64 9,.int .i64 1000]) :=
  (((((((H1.out.1.store 0 _).store 1 _).store 2 _).store 3 _).store 4 _).store 5 _).store 6 _).store 7 _
 have HG:Hid (w1.grownBy ((((((((w1.setCell ⟨x0,0,none⟩ (.int .i64 9)).setCell ⟨x0,1,none⟩ (.int .i64 900)).setCell ⟨x0,2,none⟩ (.int .i64 2)).setCell ⟨x0,3,none⟩ (.int .i64 9)).setCell ⟨x0,4,none⟩ (.int .i64 3)).setCell ⟨x0,5,none⟩ (.int .i64 5)).setCell ⟨x0,6,none⟩ (.int .i64 9)).setCell ⟨x0,7,none⟩ (.int .i64 1000)) (some x0)) :=
  grown_trans (grown_setCell _ _ _ _) (grown_trans (grown_setCell _ _ _ _) (grown_trans (grown_setCell _ _ _ _) (grown_trans (grown_setCell _ _ _ _) (grown_trans (grown_setCell _ _ _ _) (grown_trans (grown_setCell _ _ _ _) (grown_trans (grown_setCell _ _ _ _) (grown_setCell _ _ _ _)))))))
 go_wp2_with fail
 generalize ((((((((w1.setCell ⟨x0,0,none⟩ (.int .i64 9)).setCell ⟨x0,1,none⟩ (.int .i64 900)).setCell ⟨x0,2,none⟩ (.int .i64 2)).setCell ⟨x0,3,none⟩ (.int .i64 9)).setCell ⟨x0,4,none⟩ (.int .i64 3)).setCell ⟨x0,5,none⟩ (.int .i64 5)).setCell ⟨x0,6,none⟩ (.int .i64 9)).setCell ⟨x0,7,none⟩ (.int .i64 1000))=w2 at HB HG ⊢
 refine bodyPost_ret (v:=_) (results_cell_row rfl _ _ x0 25 _ (0,0) _ rfl HB.out Tryz.underlying25 rfl (by kernel_rfl)) rfl ?_
 exact ⟨rfl,grown_new H1.out.2.1 HG.out (by intro x hx;simp at hx;have:=HX.out;omega)⟩
theorem lit41 (w:World)(C:Array Value)(n:Nat)(L:List UInt8)(h:C.size=n)(hx:C.toList=BV L)(hl:L.length=n)(hz:L.length<=9223372036854775807) :
  ∃w',(convert 41 41 (.slice (some ⟨w.heap.size,0,none⟩) n n)).run Tryz.prog (w.alloc (.cells C 5))=.ok (.slice (some ⟨w.heap.size,0,none⟩) n n) w'/\Hid (Seg w' (.slice (some ⟨w.heap.size,0,none⟩) n n) L/\w.grownBy w' none/\w'.heap.size=w.heap.size+1):=by
 refine ⟨w.alloc (.cells C 5 (n,n+1)),?_,?_,World.grownBy_alloc _ _ _,by simp⟩
 ·subst h
  exact Go.Lib.run_convert_bytes_const w 41 5 C _ _ Tryz.underlying41 Tryz.underlying5
 ·subst hl
  exact seg_lit w C _ L hx hz
theorem cell_same {w w':World}{b:Nat}(e:w'.heap[b]? = w.heap[b]?)(j:Nat):w'.cell? ⟨b,j,none⟩=w.cell? ⟨b,j,none⟩:=by
 unfold World.cell?
 simp only [e]
theorem seg_same {w w':World}{kb n cap:Nat}{L:List UInt8}(h:Seg w (.slice (some ⟨kb,0,none⟩) n cap) L)(e:w'.heap[kb]? = w.heap[kb]?):Seg w' (.slice (some ⟨kb,0,none⟩) n cap) L:=by
 obtain ⟨ao,cap',hv,h1,h2,h3,h4⟩:=h
 refine ⟨ao,cap',hv,h1,h2,h3,fun j hj=>?_⟩
 obtain ⟨b,off,e1,hc⟩:=h4 j hj
 simp at hv
 obtain ⟨rfl,_⟩:=hv
 simp at e1
 obtain ⟨rfl,rfl⟩:=e1
 exact ⟨_,_,rfl,by rw [cell_same e];exact hc⟩
def CallP (w:World)(e:Ending)(w':World):Prop:=∃ov,e=.returned (.agg #[ov])/\IsSl ov/\(∀y:World,(∀i,w.heap.size<=i->i<w'.heap.size->y.heap[i]? = w'.heap[i]?)->Ops y ov putOps)/\w.grownBy w' none
theorem call20 (w:World):Calls Tryz.prog 20 #[] w (CallP w):=by
 obtain ⟨w1,hw1,H1⟩:=al1 w #[.slice none 0 0] 35
 obtain ⟨x0,hx0⟩:∃x,w.heap.size=x:=⟨_,rfl⟩
 have HX:Hid (w.heap.size=x0):=hx0
 rw [hx0] at H1
 obtain ⟨w2,cv2,h2⟩:=lit41 w1 #[.int .u8 107] 1 [107] rfl rfl rfl (by simp)
 obtain ⟨kb,hkb⟩:∃kb,w1.heap.size=kb:=⟨_,rfl⟩
 have H2:Hid (Seg w2 (.slice (some ⟨kb,0,none⟩) 1 1) [107]/\w1.grownBy w2 none/\w2.heap.size=kb+1/\kb=x0+1):=by
  rw [<-hkb]
  exact ⟨h2.out.1,h2.out.2.1,h2.out.2.2,by have:=H1.out.2.2;have:=HX.out;omega⟩
 rw [hkb] at cv2
 obtain ⟨w3,cv3,h3⟩:=lit41 w2 #[.int .u8 118] 1 [118] rfl rfl rfl (by simp)
 obtain ⟨vb,hvb⟩:∃kb,w2.heap.size=kb:=⟨_,rfl⟩
 have H3:Hid (Seg w3 (.slice (some ⟨vb,0,none⟩) 1 1) [118]/\w2.grownBy w3 none/\w3.heap.size=vb+1/\vb=x0+2):=by
  rw [<-hvb]
  exact ⟨h3.out.1,h3.out.2.1,h3.out.2.2,by have:=H2.out;omega⟩
 rw [hvb] at cv3
 obtain ⟨w4,hw4,H4'⟩:=al1 w3 #[.int .i64 2,.string ⟨#[116]⟩,.slice (some ⟨kb,0,none⟩) 1 1,.slice (some ⟨vb,0,none⟩) 1 1,.bool false,.slice none 0 0,.slice none 0 0,.int .i64 0] 109
 obtain ⟨p,hp⟩:∃p,w3.heap.size=p:=⟨_,rfl⟩
 rw [hp] at H4'
 have HW4:Hid (w3.alloc (.cells #[.int .i64 2,.string ⟨#[116]⟩,.slice (some ⟨kb,0,none⟩) 1 1,.slice (some ⟨vb,0,none⟩) 1 1,.bool false,.slice none 0 0,.slice none 0 0,.int .i64 0] 109)=w4/\w3.heap.size=p/\p=x0+3):=⟨hw4,hp,by have:=H3.out;omega⟩
 have H4:Hid (Blk w4 p 109 #[.int .i64 2,.string ⟨#[116]⟩,.slice (some ⟨kb,0,none⟩) 1 1,.slice (some ⟨vb,0,none⟩) 1 1,.bool false,.slice none 0 0,.slice none 0 0,.int .i64 0]/\w3.grownBy w4 none/\Blk w4 x0 35 #[.slice none 0 0]):=⟨H4'.out.1,H4'.out.2.1,H1.out.1.grown (grown_trans H2.out.2.1 (grown_trans H3.out.2.1 H4'.out.2.1)) (by simp)⟩
 have HW1:Hid (w.alloc (.cells #[.slice none 0 0] 35)=w1/\w1.heap.size=kb/\w2.heap.size=vb/\w.grownBy w1 none):=⟨hw1,hkb,hvb,H1.out.2.1⟩
 have y0:=H4.out.2.2.cell 0
 have z0:=H4.out.2.2.free 0
 simp at y0
 have y1:(w3.alloc (.cells #[.int .i64 2,.string ⟨#[116]⟩,.slice (some ⟨kb,0,none⟩) 1 1,.slice (some ⟨vb,0,none⟩) 1 1,.bool false,.slice none 0 0,.slice none 0 0,.int .i64 0] 109)).cell? ⟨x0,0,none⟩=some (.slice none 0 0):=by rw [HW4.out.1];exact y0
 have z1:(w3.alloc (.cells #[.int .i64 2,.string ⟨#[116]⟩,.slice (some ⟨kb,0,none⟩) 1 1,.slice (some ⟨vb,0,none⟩) 1 1,.bool false,.slice none 0 0,.slice none 0 0,.int .i64 0] 109)).frozen? ⟨x0,0,none⟩=false:=by rw [HW4.out.1];exact z0
 clear y0 z0
 have HB:Hid (Blk (w4.setCell ⟨x0,0,none⟩ (.slice (some ⟨p,0,none⟩) 1 1)) x0 35 #[.slice (some ⟨p,0,none⟩) 1 1]/\w4.grownBy (w4.setCell ⟨x0,0,none⟩ (.slice (some ⟨p,0,none⟩) 1 1)) (some x0)):=⟨H4.out.2.2.store 0 _,grown_setCell _ _ _ _⟩
 clear hw1 hx0 h2 hkb h3 hvb hw4 H4' hp H1
 go_enter Tryz.func20,Tryz.ntmps20
 go_upto_region 1 with fail
 rw [HW1.out.1,HX.out]
 go_wp2_with fail
 rw [HW1.out.2.1,cv2]
 go_wp2_with fail
 rw [HW1.out.2.2.1,cv3]
 go_wp2_with fail
 rw [HW4.out.1,HW4.out.2.1]
 generalize hw5:w4.setCell ⟨x0,0,none⟩ (.slice (some ⟨p,0,none⟩) 1 1)=w5 at HB ⊢
 refine bodyPost_ret (v:=_) (results_cell_row rfl _ _ x0 35 _ (0,0) _ rfl HB.out.1 Tryz.underlying35 rfl (by kernel_rfl)) rfl ?_
 have hx:=HX.out
 have h2:=H2.out
 have h3:=H3.out
 have h4:=H4.out
 have hp:=HW4.out.2
 have hz4:p<w4.heap.size:=h4.1.lt
 have hz5:w4.heap.size<=w5.heap.size:=HB.out.2.size
 have keep:∀i,i≠x0->i<w4.heap.size->w5.heap[i]? = w4.heap[i]?:=fun i h1 hl=>HB.out.2.block i hl (by simp;omega)
 have hkl:kb<w3.heap.size:=by have:=h3.2.1.size;omega
 refine ⟨_,rfl,⟨_,_,_,rfl⟩,fun y hy=>?_,grown_new (grown_trans HW1.out.2.2.2 (grown_trans h2.2.1 (grown_trans h3.2.1 h4.2.1))) HB.out.2 (by intro x hx;simp at hx;omega)⟩
 have hyw:∀i,x0<i->i<=p->y.heap[i]? = w4.heap[i]?:=fun i h1 hl=>(hy i (by omega) (by omega)).trans (keep i (by omega) (by omega))
 have hk:y.heap[kb]? = w2.heap[kb]?:=by
  rw [hyw kb (by omega) (by omega),h4.2.1.block kb hkl (by simp),h3.2.1.block kb (by omega) (by simp)]
 have hv:y.heap[vb]? = w3.heap[vb]?:=by
  rw [hyw vb (by omega) (by omega),h4.2.1.block vb (by omega) (by simp)]
 have hb:Blk y p 109 _:=h4.1.same (hyw p (by omega) (Nat.le_refl _))
 refine ⟨some ⟨p,0,none⟩,1,rfl,by simp [putOps],fun j hj=>?_⟩
 have hj0:j=0:=by simp [putOps] at hj;exact hj
 subst hj0
 exact ⟨p,0,_,_,_,_,rfl,⟨hb.cell 0,hb.cell 1,hb.cell 2,hb.cell 3,hb.cell 4,hb.cell 5,hb.cell 6,hb.cell 7⟩,⟨seg_same h2.1 hk,seg_same h3.1 hv,seg_nil _,seg_nil _,by constructor <;> simp [putOps]⟩⟩
variable {Q F:Nat->Prop} {w w':World} {b:Nat} {oa wo:Option Addr} {wc:Nat} {s:CS}
structure Run (Q F:Nat->Prop)(w A:World)(b:Nat)(oa wo:Option Addr)(wc:Nat)(s:CS):Prop where
 cm:Cm Q F A b oa wo wc s
 gr:w.grownBy A none
 new:∀i,F i->w.heap.size<=i
def Runs (w A:World)(b:Nat)(s:CS):Prop:=∃Q F oa wo wc,Run Q F w A b oa wo wc s
theorem Run.grown {A A':World}(h:Run Q F w A b oa wo wc s)(hg:A.grownBy A' none):Run Q F w A' b oa wo wc s:=⟨h.cm.grown hg,grown_trans h.gr hg,h.new⟩
theorem Run.stp {A A':World}{s':CS}(h:Run Q F w A b oa wo wc s)(hs:Stp Q F A b s' A'):Runs w A' b s':=by
 obtain ⟨Q',F',⟨oa',wo',wc',hc⟩,hf,hF,_⟩:=hs
 refine ⟨Q',F',oa',wo',wc',hc,Fr.grown ((Fr.of (F:=F) h.gr (by simp)).trans hf fun i hi=>.inl hi) h.new,fun i hi=>?_⟩
 rcases hF i hi with e | e
 ·exact h.new i e
 ·have:=h.gr.size
  omega
theorem Run.fr {A A':World}{s':CS}(_h:Run Q F w A b oa wo wc s)(hs:Stp Q F A b s' A'):Fr A A' F:=by
 obtain ⟨_,_,_,hf,_⟩:=hs
 exact hf
theorem msgs_stay {A A':World}{B:Nat}{v:Value}{l:List PMsg}(h:Run Q F w A b oa wo wc s)(hm:MsgsOwn A B v l)(hf:Fr A A' F):MsgsOwn A' B v l:=by
 refine msgsOwn_fr hm hf h.cm.gt fun k hk hF=>?_
 obtain ⟨⟨vs,h1,_⟩,_⟩:=hm
 obtain ⟨C,hC⟩:=owns_blk h1 hk
 obtain ⟨t,c,hb,hkt⟩:=h.cm.ft k hF
 have:=blk_type hC hb
 subst this
 unfold KT at hkt
 omega
theorem msgs_first {A:World}{B:Nat}{v:Value}{m:PMsg}(hm:MsgsOwn A B v [m]):∃g cap,v=.slice (some ⟨g,0,none⟩) 1 cap/\A.cell? ⟨g,3,none⟩=some (.int .i64 m.ask.token)/\A.cell? ⟨g,5,none⟩=some (.int .i64 m.ask.number)/\A.cell? ⟨g,6,none⟩=some (.int .i64 m.ask.mark):=by
 obtain ⟨g,cap,cs,e,hl,⟨ov,av,rfl,_⟩,_,_,hc⟩:=hm.1.cell 0 (by simp)
 have k3:=hc 3 (by decide)
 have k5:=hc 5 (by decide)
 have k6:=hc 6 (by decide)
 simp at k3 k5 k6 e
 exact ⟨g,cap,e,k3,k5,k6⟩
def st0:CS:=⟨0,2,3,5,1,false,0,0,[],[],0,0⟩
def cr1 (o:Option Addr)(n c:Nat):Cr:=⟨1,o,n,c,putOps,false,0⟩
def st1 (o:Option Addr)(n c:Nat):CS:=⟨0,2,3,5,1,false,0,0,[],[cr1 o n c],1,0⟩
def st2 (o:Option Addr)(n c:Nat):CS:=⟨0,2,3,5,1,false,0,0,[],[cr1 o n c],2,0⟩
def st3 (o:Option Addr)(n c:Nat):CS:=⟨0,2,3,5,1,true,1,0,[],[cr1 o n c],2,1⟩
def st4 (o:Option Addr)(n c:Nat):CS:=⟨0,2,3,5,1,true,1,0,[],[cr1 o n c],2,2⟩
def st5 (o:Option Addr)(n c:Nat):CS:=⟨0,2,3,5,1,true,1,9,[],[cr1 o n c],2,2⟩
theorem may_small:okNew 0 smallJob=true:=by kernel_rfl
theorem open0:openW st0 putOps=0:=by unfold openW;rw [put_chk];rfl
theorem chk_none:chk []=2:=by kernel_rfl
theorem open1 (o:Option Addr)(n c:Nat):openW (st1 o n c) []=3:=by unfold openW;rw [chk_none];rfl
theorem step1 (o:Option Addr)(n c:Nat):stepE (st2 o n c) 1=0/\stepM (st2 o n c) 1=[msgOpen (st3 o n c)]/\stepS (st2 o n c) 1=st3 o n c:=⟨rfl,rfl,rfl⟩
theorem step2 (o:Option Addr)(n c:Nat):stepE (st3 o n c) 2=0/\stepM (st3 o n c) 2=[]/\stepS (st3 o n c) 2=st4 o n c:=⟨rfl,rfl,rfl⟩
def openedM:PMsg:=⟨2,0,zeroC,⟨1,1,9,0,[]⟩⟩
theorem opened_ok:okM openedM=true:=by kernel_rfl
theorem opened_in:InM openedM:=⟨by decide,by decide,by decide,by decide,inC_zero,by constructor <;> decide⟩
theorem hear5 (o:Option Addr)(n c:Nat):hearL (st4 o n c) openedM=[]/\hearS (st4 o n c) openedM=st5 o n c:=by
 have h:hears (st4 o n c) openedM=true:=by unfold hears;rw [opened_ok];rfl
 constructor
 ·unfold hearL;rw [if_pos h];rfl
 ·unfold hearS;rw [if_pos h];rfl
theorem step3 (o:Option Addr)(n c:Nat):stepE (st5 o n c) 3=0/\stepM (st5 o n c) 3=[⟨1,0,⟨2,0,9,1,0,putOps⟩,zeroR⟩]:=⟨rfl,rfl⟩
theorem known22 (w:World):Calls Tryz.prog 22 #[] w fun e w'=>e=.returned (.bool true)/\w.grownBy w' none:=by
 go_enter Tryz.func22,Tryz.ntmps22
 go_wp2_with fail
 refine (job23 w).mono ?_
 rintro e w1 ⟨rfl,hg⟩
 have H1:Hid (w.grownBy w1 none):=hg
 clear hg
 go_wp2_with fail
 refine (new_cl 0 smallJob w1).mono ?_
 rintro e w2 ⟨hg,hn | ⟨_,b,rfl,hb,⟨oa,wo,wc,hc⟩⟩⟩
 ·rw [may_small] at hn
  cases hn.1
 have H2:Hid (Run (fun _=>False) (fun i=>i=b) w w2 b oa wo wc st0):=⟨hc,grown_trans H1.out hg,fun i hi=>by
  have hi':i=b:=hi
  have:=H1.out.size
  omega⟩
 clear hg hb hc
 go_wp2_with fail
 refine (call20 w2).mono ?_
 rintro e w3 ⟨ov,rfl,hsl,hop,hg⟩
 have H3:Hid (Run (fun _=>False) (fun i=>i=b) w w3 b oa wo wc st0/\(∀y,Fr w3 y (fun i=>i=b)->Ops y ov putOps)):=⟨H2.out.grown hg,fun y hy=>hop y fun i h1 h2=>hy.block i h2 fun e=>by
  have e':i=b:=e
  have:=H2.out.cm.blk.lt
  omega⟩
 obtain ⟨o1,o2,o3,rfl⟩:=hsl
 clear hop hg
 go_wp2_with fail
 refine (invoke9 w3 (.slice o1 o2 o3) putOps H3.out.1.cm H3.out.2 (by decide)).mono ?_
 rintro e w4 ⟨he,s',hs',hst⟩
 rw [open0] at he hs'
 subst he
 obtain ⟨c1,c2,c3,rfl⟩:∃c1 c2 c3,s'=st1 c1 c2 c3:=by
  rcases hs' with ⟨_,a,b,c,e⟩ | ⟨e,_⟩
  ·exact ⟨a,b,c,e⟩
  ·exact absurd rfl e
 obtain ⟨Q4,F4,oa4,wo4,wc4,h4⟩:=H3.out.1.stp hst
 have H4:Hid (Run Q4 F4 w w4 b oa4 wo4 wc4 (st1 c1 c2 c3)):=h4
 clear hs' hst h4
 go_wp2_with fail
 refine (invoke9 w4 (.slice none 0 0) [] H4.out.cm (fun y _=>ops_none y) (by show (1:Int)<1000000000000;decide)).mono ?_
 rintro e w5 ⟨he,s',hs',hst⟩
 rw [open1] at he hs'
 subst he
 obtain rfl:s'=st2 c1 c2 c3:=by
  rcases hs' with ⟨e,_⟩ | ⟨_,e⟩
  ·cases e
  ·exact e
 obtain ⟨Q5,F5,oa5,wo5,wc5,h5⟩:=H4.out.stp hst
 have H5:Hid (Run Q5 F5 w w5 b oa5 wo5 wc5 (st2 c1 c2 c3)):=h5
 clear hs' hst h5
 go_wp2_with fail
 refine (step11 w5 1 H5.out.cm).mono ?_
 rintro e w6 ⟨v6,rfl,hm6,hst⟩
 rw [(step1 c1 c2 c3).1,(step1 c1 c2 c3).2.1] at *
 rw [(step1 c1 c2 c3).2.2] at hst
 obtain ⟨g6,cap6,rfl,_⟩:=msgs_first hm6
 obtain ⟨Q6,F6,oa6,wo6,wc6,h6⟩:=H5.out.stp hst
 have H6:Hid (Run Q6 F6 w w6 b oa6 wo6 wc6 (st3 c1 c2 c3)/\MsgsOwn w6 w5.heap.size (.slice (some ⟨g6,0,none⟩) 1 cap6) [msgOpen (st3 c1 c2 c3)]):=⟨h6,hm6⟩
 clear hm6 hst h6
 go_wp2_with fail
 refine (step11 w6 2 H6.out.1.cm).mono ?_
 rintro e w7 ⟨v7,rfl,hm7,hst⟩
 rw [(step2 c1 c2 c3).2.1] at hm7
 rw [(step2 c1 c2 c3).1]
 rw [(step2 c1 c2 c3).2.2] at hst
 obtain ⟨a7,n7,cap7,rfl,hn7⟩:=hm7.slice
 have hn7':n7=0:=by simpa using hn7
 subst hn7'
 obtain ⟨Q7,F7,oa7,wo7,wc7,h7⟩:=H6.out.1.stp hst
 have H7:Hid (Run Q7 F7 w w7 b oa7 wo7 wc7 (st4 c1 c2 c3)/\MsgsOwn w7 w5.heap.size (.slice (some ⟨g6,0,none⟩) 1 cap6) [msgOpen (st3 c1 c2 c3)]):=⟨h7,msgs_stay H6.out.1 H6.out.2 (H6.out.1.fr hst)⟩
 clear hm7 hst h7 hn7
 go_wp2_with fail
 refine (hear14 w7 (.slice none 0 0) none 0 0 openedM H7.out.1.cm (ops_none w7) (Own.nil _ _) (by simp [openedM]) opened_in (by show (1:Int)<=3999999999999992;decide)).mono ?_
 rintro e w8 ⟨v8,rfl,hr8,hst⟩
 rw [(hear5 c1 c2 c3).1] at hr8
 rw [(hear5 c1 c2 c3).2] at hst
 obtain ⟨a8,cap8,rfl⟩:=LRow.shape hr8
 obtain ⟨Q8,F8,oa8,wo8,wc8,h8⟩:=H7.out.1.stp hst
 have H8:Hid (Run Q8 F8 w w8 b oa8 wo8 wc8 (st5 c1 c2 c3)/\MsgsOwn w8 w5.heap.size (.slice (some ⟨g6,0,none⟩) 1 cap6) [msgOpen (st3 c1 c2 c3)]):=⟨h8,msgs_stay H7.out.1 H7.out.2 (H7.out.1.fr hst)⟩
 clear hr8 hst h8
 go_wp2_with fail
 refine (session_cl w8 H8.out.1.cm).mono ?_
 rintro e w9 ⟨he,hg⟩
 have he':e=.returned (.tuple #[.int .i64 9,.bool true]):=he
 subst he'
 have H9:Hid (Run Q8 F8 w w9 b oa8 wo8 wc8 (st5 c1 c2 c3)/\MsgsOwn w9 w5.heap.size (.slice (some ⟨g6,0,none⟩) 1 cap6) [msgOpen (st3 c1 c2 c3)]):=⟨H8.out.1.grown hg,H8.out.2.grown hg⟩
 clear he hg
 go_wp2_with fail
 refine (step11 w9 3 H9.out.1.cm).mono ?_
 rintro e w10 ⟨v10,rfl,hm10,hst⟩
 rw [(step3 c1 c2 c3).2] at hm10
 rw [(step3 c1 c2 c3).1]
 obtain ⟨Q10,F10,oa10,wo10,wc10,h10⟩:=H9.out.1.stp hst
 have hm6:=msgs_stay H9.out.1 H9.out.2 (H9.out.1.fr hst)
 obtain ⟨g10,cap10,rfl,_,k5,k6⟩:=msgs_first hm10
 obtain ⟨g6',cap6',e6,k3,_,_⟩:=msgs_first hm6
 simp at e6
 obtain ⟨rfl,rfl⟩:=e6
 have HG:Hid (w.grownBy w10 none):=h10.gr
 have k3':w10.cell? ⟨g6,3,none⟩=some (.int .i64 1):=k3
 have k5':w10.cell? ⟨g10,5,none⟩=some (.int .i64 1):=k5
 have k6':w10.cell? ⟨g10,6,none⟩=some (.int .i64 0):=k6
 clear hm10 hst h10 hm6 k3 k5 k6
 go_wp2_with fail
 go_ret
 exact ⟨rfl,HG.out⟩
end Go.Proofs.YtanoabliahcbeaaGreat.Wn
