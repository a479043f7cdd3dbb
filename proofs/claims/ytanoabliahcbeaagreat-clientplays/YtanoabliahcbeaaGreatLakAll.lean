import Derived.Test.YtanoabliahcbeaaGreatKuvAll
import Derived.Lib.SlBytesConst
set_option maxHeartbeats 8000000
set_option maxRecDepth 100000
namespace Go.Proofs.YtanoabliahcbeaaGreat.Wn
open Go.RowKit Disk Table
open _root_.Go.Proofs.YtanoabliahcbeaaGreat.Calls _root_.Go.Proofs.YtanoabliahcbeaaGreat.Command
variable {s:CS}
theorem mem_gather {β:Type}{g:Nat->Cr->List β}{L:List (Option Cr)}{x:β}:∀{k:Nat},x ∈ gather g L k->∃j c,j<k/\L[j]? = some (some c)/\x ∈ g j c
 | 0,h=>by simp [gather] at h
 | k+1,h=>by
  rw [gather,List.mem_append] at h
  rcases h with h | h
  ·obtain ⟨j,c,h1,h2⟩:=mem_gather h
   exact ⟨j,c,by omega,h2⟩
  ·cases e:L[k]? with
   | none=>rw [e] at h;simp at h
   | some o =>
    cases o with
    | none=>rw [e] at h;simp at h
    | some c=>rw [e] at h;exact ⟨k,c,by omega,e,h⟩
structure Ido (s:CS):Prop where
 pl:∀(j k:Nat) (c d:Cr),j<k->s.L[j]? = some (some c)->s.L[k]? = some (some d)->c.id<d.id
 lw:∀c d:Cr,some c ∈ s.L->d ∈ s.wt->c.id<d.id
 ww:s.wt.Pairwise (fun (c d:Cr)=>c.id<d.id)
 top:∀c:Cr,some c ∈ s.L\/c ∈ s.wt->c.id<=s.last
def BackOk (s:CS)(back:List Int):Prop:=∀y ∈ back,y<=s.last/\∀c:Cr,(some c ∈ s.L\/c ∈ s.wt)->c.id≠y
variable {s:CS}
def nx (id:Int)(p:Int × Int)(m:PMsg):Int × Int:=if m.ask.kind=2 then (id,max (if id=p.1 then p.2 else 0) m.ask.number) else p
def NumOk (s:CS)(p:Int × Int):Prop:=0<=p.2/\p.2<=s.last/\(s.L≠[]->p.1=s.ses/\(s.L.length:Int)<=p.2)
def RoomS (s:CS):Prop:=s.L.length<=lead s.L+s.size
theorem gather_nil {β:Type}{g:Nat->Cr->List β}{L:List (Option Cr)}(h:∀(k:Nat) (c:Cr),L[k]? = some (some c)->g k c=[]):∀k,gather g L k=[]
 | 0=>rfl
 | k+1=>by
  rw [gather,gather_nil h k]
  cases e:L[k]? with
  | none=>rfl
  | some o =>
   cases o with
   | none=>rfl
   | some c =>
    show [] ++ g k c=[]
    rw [h k c e]
    rfl
structure Cst (s s':CS):Prop where
 num:s'.num=s.num
 size:s'.size=s.size
 tok:s'.tok=s.tok\/s'.tok=s.tok+8
 last:s.last<=s'.last/\s'.last<=s.last+1
theorem cst_same:Cst s s:=⟨rfl,rfl,.inl rfl,by omega⟩
theorem cst_step (now:Int):Cst s (stepS s now):=by
 unfold stepS
 split
 ·exact cst_same
 ·split
  ·unfold enterS
   split <;> exact ⟨rfl,rfl,.inl rfl,⟨Int.le_refl _,Int.le_add_one (Int.le_refl _)⟩⟩
  ·exact ⟨rfl,rfl,.inl rfl,⟨Int.le_refl _,Int.le_add_one (Int.le_refl _)⟩⟩
theorem cst_lost:Cst s s.lost:=⟨rfl,rfl,.inr rfl,⟨Int.le_refl _,Int.le_add_one (Int.le_refl _)⟩⟩
theorem cst_out (L:List (Option Cr)):Cst s (s.out L):=⟨rfl,rfl,.inl rfl,⟨Int.le_refl _,Int.le_add_one (Int.le_refl _)⟩⟩
theorem cst_leave:Cst s (leaveS s):=by
 unfold leaveS
 split
 ·exact cst_lost
 ·exact cst_same
theorem cst_hear (m:PMsg):Cst s (hearS s m):=by
 unfold hearS
 split
 ·unfold tellS openedS goneS
  repeat' split
  all_goals first | exact cst_lost | exact cst_out _ | exact cst_same | exact ⟨rfl,rfl,.inl rfl,⟨Int.le_refl _,Int.le_add_one (Int.le_refl _)⟩⟩
 ·exact cst_same
def putOps:List POp:=[⟨2,[116],[107],[118],false,[],[],0⟩]
theorem put_chk:chk putOps=0:=by kernel_rfl
def smallJob:PCfg:=⟨9,900,2,9,3,5,9,1000⟩
theorem job23 (w:World):Calls Tryz.prog 23 #[] w fun e w'=>e=.returned (cfgV smallJob)/\w.grownBy w' none:=by
 go_enter Tryz.func23,Tryz.ntmps23
 go_upto_region 1 with fail
 obtain ⟨w1,hw1,H1⟩:=al1 w #[.int .i64 0,.int .i64 0,.int .i64 0,.int .i64 0,.int .i64 0,.int .i64 0,.int .i64 0,.int .i64 0] 25
 rw [hw1]
 obtain ⟨x0,hx0⟩:∃x,w.heap.size=x:=⟨_,rfl⟩
 have HX:Hid (w.heap.size=x0):=hx0
 rw [hx0] at H1 ⊢
 clear hw1 hx0
 obtain ⟨k0,k1,k2,k3,k4,k5,k6,k7⟩:=cells8 H1.out.1
 have f0:=H1.out.1.free 0
 have f1:=H1.out.1.free 1
 have f2:=H1.out.1.free 2
 have f3:=H1.out.1.free 3
 have f4:=H1.out.1.free 4
 have f5:=H1.out.1.free 5
 have f6:=H1.out.1.free 6
 have f7:=H1.out.1.free 7
 have HB:Hid (Blk ((((((((w1.setCell ⟨x0,0,none⟩ (.int .i64 9)).setCell ⟨x0,1,none⟩ (.int .i64 900)).setCell ⟨x0,2,none⟩ (.int .i64 2)).setCell ⟨x0,3,none⟩ (.int .i64 9)).setCell ⟨x0,4,none⟩ (.int .i64 3)).setCell ⟨x0,5,none⟩ (.int .i64 5)).setCell ⟨x0,6,none⟩ (.int .i64 9)).setCell ⟨x0,7,none⟩ (.int .i64 1000)) x0 25 #[.int .i64 9,.int .i64 900,.int .i64 2,.int .i64 9,.int .i64 3,.int .i64 5,.int .i64 9,.int .i64 1000]) :=
  (((((((H1.out.1.store 0 _).store 1 _).store 2 _).store 3 _).store 4 _).store 5 _).store 6 _).store 7 _
 have HG:Hid (w1.grownBy ((((((((w1.setCell ⟨x0,0,none⟩ (.int .i64 9)).setCell ⟨x0,1,none⟩ (.int .i64 900)).setCell ⟨x0,2,none⟩ (.int .i64 2)).setCell ⟨x0,3,none⟩ (.int .i64 9)).setCell ⟨x0,4,none⟩ (.int .i64 3)).setCell ⟨x0,5,none⟩ (.int .i64 5)).setCell ⟨x0,6,none⟩ (.int .i64 9)).setCell ⟨x0,7,none⟩ (.int .i64 1000)) (some x0)) :=
  grown_trans (grown_setCell _ _ _ _) (grown_trans (grown_setCell _ _ _ _) (grown_trans (grown_setCell _ _ _ _) (grown_trans (grown_setCell _ _ _ _) (grown_trans (grown_setCell _ _ _ _) (grown_trans (grown_setCell _ _ _ _) (grown_trans (grown_setCell _ _ _ _) (grown_setCell _ _ _ _)))))))
 go_wp2_with fail
 generalize ((((((((w1.setCell ⟨x0,0,none⟩ (.int .i64 9)).setCell ⟨x0,1,none⟩ (.int .i64 900)).setCell ⟨x0,2,none⟩ (.int .i64 2)).setCell ⟨x0,3,none⟩ (.int .i64 9)).setCell ⟨x0,4,none⟩ (.int .i64 3)).setCell ⟨x0,5,none⟩ (.int .i64 5)).setCell ⟨x0,6,none⟩ (.int .i64 9)).setCell ⟨x0,7,none⟩ (.int .i64 1000))=w2 at HB HG ⊢
 refine bodyPost_ret (v:=_) (results_cell_row rfl _ _ x0 25 _ (0,0) _ rfl HB.out Tryz.underlying25 rfl (by kernel_rfl)) rfl ?_
 exact ⟨rfl,grown_new H1.out.2.1 HG.out (by intro x hx;simp at hx;have:=HX.out;omega)⟩
theorem lit41 (w:World)(C:Array Value)(n:Nat)(L:List UInt8)(h:C.size=n)(hx:C.toList=BV L)(hl:L.length=n)(hz:L.length<=9223372036854775807) :
  ∃w',(convert 41 41 (.slice (some ⟨w.heap.size,0,none⟩) n n)).run Tryz.prog (w.alloc (.cells C 5))=.ok (.slice (some ⟨w.heap.size,0,none⟩) n n) w'/\Hid (Seg w' (.slice (some ⟨w.heap.size,0,none⟩) n n) L/\w.grownBy w' none/\w'.heap.size=w.heap.size+1):=by
 refine ⟨w.alloc (.cells C 5 (n,n+1)),?_,?_,World.grownBy_alloc _ _ _,by simp⟩
 ·subst h
  exact Go.Lib.run_convert_bytes_const w 41 5 C _ _ Tryz.underlying41 Tryz.underlying5
 ·subst hl
  exact seg_lit w C _ L hx hz
theorem cell_same {w w':World}{b:Nat}(e:w'.heap[b]? = w.heap[b]?)(j:Nat):w'.cell? ⟨b,j,none⟩=w.cell? ⟨b,j,none⟩:=by
 unfold World.cell?
 simp only [e]
theorem seg_same {w w':World}{kb n cap:Nat}{L:List UInt8}(h:Seg w (.slice (some ⟨kb,0,none⟩) n cap) L)(e:w'.heap[kb]? = w.heap[kb]?):Seg w' (.slice (some ⟨kb,0,none⟩) n cap) L:=by
 obtain ⟨ao,cap',hv,h1,h2,h3,h4⟩:=h
 refine ⟨ao,cap',hv,h1,h2,h3,fun j hj=>?_⟩
 obtain ⟨b,off,e1,hc⟩:=h4 j hj
 simp at hv
 obtain ⟨rfl,_⟩:=hv
 simp at e1
 obtain ⟨rfl,rfl⟩:=e1
 exact ⟨_,_,rfl,by rw [cell_same e];exact hc⟩
def CallP (w:World)(e:Ending)(w':World):Prop:=∃ov,e=.returned (.agg #[ov])/\IsSl ov/\(∀y:World,(∀i,w.heap.size<=i->i<w'.heap.size->y.heap[i]? = w'.heap[i]?)->Ops y ov putOps)/\w.grownBy w' none
theorem call20 (w:World):Calls Tryz.prog 20 #[] w (CallP w):=by
 obtain ⟨w1,hw1,H1⟩:=al1 w #[.slice none 0 0] 35
 obtain ⟨x0,hx0⟩:∃x,w.heap.size=x:=⟨_,rfl⟩
 have HX:Hid (w.heap.size=x0):=hx0
 rw [hx0] at H1
 obtain ⟨w2,cv2,h2⟩:=lit41 w1 #[.int .u8 107] 1 [107] rfl rfl rfl (by simp)
 obtain ⟨kb,hkb⟩:∃kb,w1.heap.size=kb:=⟨_,rfl⟩
 have H2:Hid (Seg w2 (.slice (some ⟨kb,0,none⟩) 1 1) [107]/\w1.grownBy w2 none/\w2.heap.size=kb+1/\kb=x0+1):=by
  rw [<-hkb]
  exact ⟨h2.out.1,h2.out.2.1,h2.out.2.2,by have:=H1.out.2.2;have:=HX.out;omega⟩
 rw [hkb] at cv2
 obtain ⟨w3,cv3,h3⟩:=lit41 w2 #[.int .u8 118] 1 [118] rfl rfl rfl (by simp)
 obtain ⟨vb,hvb⟩:∃kb,w2.heap.size=kb:=⟨_,rfl⟩
 have H3:Hid (Seg w3 (.slice (some ⟨vb,0,none⟩) 1 1) [118]/\w2.grownBy w3 none/\w3.heap.size=vb+1/\vb=x0+2):=by
  rw [<-hvb]
  exact ⟨h3.out.1,h3.out.2.1,h3.out.2.2,by have:=H2.out;omega⟩
 rw [hvb] at cv3
 obtain ⟨w4,hw4,H4'⟩:=al1 w3 #[.int .i64 2,.string ⟨#[116]⟩,.slice (some ⟨kb,0,none⟩) 1 1,.slice (some ⟨vb,0,none⟩) 1 1,.bool false,.slice none 0 0,.slice none 0 0,.int .i64 0] 109
 obtain ⟨p,hp⟩:∃p,w3.heap.size=p:=⟨_,rfl⟩
 rw [hp] at H4'
 have HW4:Hid (w3.alloc (.cells #[.int .i64 2,.string ⟨#[116]⟩,.slice (some ⟨kb,0,none⟩) 1 1,.slice (some ⟨vb,0,none⟩) 1 1,.bool false,.slice none 0 0,.slice none 0 0,.int .i64 0] 109)=w4/\w3.heap.size=p/\p=x0+3):=⟨hw4,hp,by have:=H3.out;omega⟩
 have H4:Hid (Blk w4 p 109 #[.int .i64 2,.string ⟨#[116]⟩,.slice (some ⟨kb,0,none⟩) 1 1,.slice (some ⟨vb,0,none⟩) 1 1,.bool false,.slice none 0 0,.slice none 0 0,.int .i64 0]/\w3.grownBy w4 none/\Blk w4 x0 35 #[.slice none 0 0]):=⟨H4'.out.1,H4'.out.2.1,H1.out.1.grown (grown_trans H2.out.2.1 (grown_trans H3.out.2.1 H4'.out.2.1)) (by simp)⟩
 have HW1:Hid (w.alloc (.cells #[.slice none 0 0] 35)=w1/\w1.heap.size=kb/\w2.heap.size=vb/\w.grownBy w1 none):=⟨hw1,hkb,hvb,H1.out.2.1⟩
 have y0:=H4.out.2.2.cell 0
 have z0:=H4.out.2.2.free 0
 simp at y0
 have y1:(w3.alloc (.cells #[.int .i64 2,.string ⟨#[116]⟩,.slice (some ⟨kb,0,none⟩) 1 1,.slice (some ⟨vb,0,none⟩) 1 1,.bool false,.slice none 0 0,.slice none 0 0,.int .i64 0] 109)).cell? ⟨x0,0,none⟩=some (.slice none 0 0):=by rw [HW4.out.1];exact y0
 have z1:(w3.alloc (.cells #[.int .i64 2,.string ⟨#[116]⟩,.slice (some ⟨kb,0,none⟩) 1 1,.slice (some ⟨vb,0,none⟩) 1 1,.bool false,.slice none 0 0,.slice none 0 0,.int .i64 0] 109)).frozen? ⟨x0,0,none⟩=false:=by rw [HW4.out.1];exact z0
 clear y0 z0
 have HB:Hid (Blk (w4.setCell ⟨x0,0,none⟩ (.slice (some ⟨p,0,none⟩) 1 1)) x0 35 #[.slice (some ⟨p,0,none⟩) 1 1]/\w4.grownBy (w4.setCell ⟨x0,0,none⟩ (.slice (some ⟨p,0,none⟩) 1 1)) (some x0)):=⟨H4.out.2.2.store 0 _,grown_setCell _ _ _ _⟩
 clear hw1 hx0 h2 hkb h3 hvb hw4 H4' hp H1
 go_enter Tryz.func20,Tryz.ntmps20
 go_upto_region 1 with fail
 rw [HW1.out.1,HX.out]
 go_wp2_with fail
 rw [HW1.out.2.1,cv2]
 go_wp2_with fail
 rw [HW1.out.2.2.1,cv3]
 go_wp2_with fail
 rw [HW4.out.1,HW4.out.2.1]
 generalize hw5:w4.setCell ⟨x0,0,none⟩ (.slice (some ⟨p,0,none⟩) 1 1)=w5 at HB ⊢
 refine bodyPost_ret (v:=_) (results_cell_row rfl _ _ x0 35 _ (0,0) _ rfl HB.out.1 Tryz.underlying35 rfl (by kernel_rfl)) rfl ?_
 have hx:=HX.out
 have h2:=H2.out
 have h3:=H3.out
 have h4:=H4.out
 have hp:=HW4.out.2
 have hz4:p<w4.heap.size:=h4.1.lt
 have hz5:w4.heap.size<=w5.heap.size:=HB.out.2.size
 have keep:∀i,i≠x0->i<w4.heap.size->w5.heap[i]? = w4.heap[i]?:=fun i h1 hl=>HB.out.2.block i hl (by simp;omega)
 have hkl:kb<w3.heap.size:=by have:=h3.2.1.size;omega
 refine ⟨_,rfl,⟨_,_,_,rfl⟩,fun y hy=>?_,grown_new (grown_trans HW1.out.2.2.2 (grown_trans h2.2.1 (grown_trans h3.2.1 h4.2.1))) HB.out.2 (by intro x hx;simp at hx;omega)⟩
 have hyw:∀i,x0<i->i<=p->y.heap[i]? = w4.heap[i]?:=fun i h1 hl=>(hy i (by omega) (by omega)).trans (keep i (by omega) (by omega))
 have hk:y.heap[kb]? = w2.heap[kb]?:=by
  rw [hyw kb (by omega) (by omega),h4.2.1.block kb hkl (by simp),h3.2.1.block kb (by omega) (by simp)]
 have hv:y.heap[vb]? = w3.heap[vb]?:=by
  rw [hyw vb (by omega) (by omega),h4.2.1.block vb (by omega) (by simp)]
 have hb:Blk y p 109 _:=h4.1.same (hyw p (by omega) (Nat.le_refl _))
 refine ⟨some ⟨p,0,none⟩,1,rfl,by simp [putOps],fun j hj=>?_⟩
 have hj0:j=0:=by simp [putOps] at hj;exact hj
 subst hj0
 exact ⟨p,0,_,_,_,_,rfl,⟨hb.cell 0,hb.cell 1,hb.cell 2,hb.cell 3,hb.cell 4,hb.cell 5,hb.cell 6,hb.cell 7⟩,⟨seg_same h2.1 hk,seg_same h3.1 hv,seg_nil _,seg_nil _,by constructor <;> simp [putOps]⟩⟩
variable {Q F:Nat->Prop} {w w':World} {b:Nat} {oa wo:Option Addr} {wc:Nat} {s:CS}
structure Run (Q F:Nat->Prop)(w A:World)(b:Nat)(oa wo:Option Addr)(wc:Nat)(s:CS):Prop where
 cm:Cm Q F A b oa wo wc s
 gr:w.grownBy A none
 new:∀i,F i->w.heap.size<=i
def Runs (w A:World)(b:Nat)(s:CS):Prop:=∃Q F oa wo wc,Run Q F w A b oa wo wc s
theorem Run.grown {A A':World}(h:Run Q F w A b oa wo wc s)(hg:A.grownBy A' none):Run Q F w A' b oa wo wc s:=⟨h.cm.grown hg,grown_trans h.gr hg,h.new⟩
theorem Run.stp {A A':World}{s':CS}(h:Run Q F w A b oa wo wc s)(hs:Stp Q F A b s' A'):Runs w A' b s':=by
 obtain ⟨Q',F',⟨oa',wo',wc',hc⟩,hf,hF,_⟩:=hs
 refine ⟨Q',F',oa',wo',wc',hc,Fr.grown ((Fr.of (F:=F) h.gr (by simp)).trans hf fun i hi=>.inl hi) h.new,fun i hi=>?_⟩
 rcases hF i hi with e | e
 ·exact h.new i e
 ·have:=h.gr.size
  omega
theorem Run.fr {A A':World}{s':CS}(_h:Run Q F w A b oa wo wc s)(hs:Stp Q F A b s' A'):Fr A A' F:=by
 obtain ⟨_,_,_,hf,_⟩:=hs
 exact hf
theorem msgs_stay {A A':World}{B:Nat}{v:Value}{l:List PMsg}(h:Run Q F w A b oa wo wc s)(hm:MsgsOwn A B v l)(hf:Fr A A' F):MsgsOwn A' B v l:=by
 refine msgsOwn_fr hm hf h.cm.gt fun k hk hF=>?_
 obtain ⟨⟨vs,h1,_⟩,_⟩:=hm
 obtain ⟨C,hC⟩:=owns_blk h1 hk
 obtain ⟨t,c,hb,hkt⟩:=h.cm.ft k hF
 have:=blk_type hC hb
 subst this
 unfold KT at hkt
 omega
theorem msgs_first {A:World}{B:Nat}{v:Value}{m:PMsg}(hm:MsgsOwn A B v [m]):∃g cap,v=.slice (some ⟨g,0,none⟩) 1 cap/\A.cell? ⟨g,3,none⟩=some (.int .i64 m.ask.token)/\A.cell? ⟨g,5,none⟩=some (.int .i64 m.ask.number)/\A.cell? ⟨g,6,none⟩=some (.int .i64 m.ask.mark):=by
 obtain ⟨g,cap,cs,e,hl,⟨ov,av,rfl,_⟩,_,_,hc⟩:=hm.1.cell 0 (by simp)
 have k3:=hc 3 (by decide)
 have k5:=hc 5 (by decide)
 have k6:=hc 6 (by decide)
 simp at k3 k5 k6 e
 exact ⟨g,cap,e,k3,k5,k6⟩
def st0:CS:=⟨0,2,3,5,1,false,0,0,[],[],0,0⟩
def cr1 (o:Option Addr)(n c:Nat):Cr:=⟨1,o,n,c,putOps,false,0⟩
def st1 (o:Option Addr)(n c:Nat):CS:=⟨0,2,3,5,1,false,0,0,[],[cr1 o n c],1,0⟩
def st2 (o:Option Addr)(n c:Nat):CS:=⟨0,2,3,5,1,false,0,0,[],[cr1 o n c],2,0⟩
def st3 (o:Option Addr)(n c:Nat):CS:=⟨0,2,3,5,1,true,1,0,[],[cr1 o n c],2,1⟩
def st4 (o:Option Addr)(n c:Nat):CS:=⟨0,2,3,5,1,true,1,0,[],[cr1 o n c],2,2⟩
def st5 (o:Option Addr)(n c:Nat):CS:=⟨0,2,3,5,1,true,1,9,[],[cr1 o n c],2,2⟩
theorem may_small:okNew 0 smallJob=true:=by kernel_rfl
theorem open0:openW st0 putOps=0:=by unfold openW;rw [put_chk];rfl
theorem chk_none:chk []=2:=by kernel_rfl
theorem open1 (o:Option Addr)(n c:Nat):openW (st1 o n c) []=3:=by unfold openW;rw [chk_none];rfl
theorem step1 (o:Option Addr)(n c:Nat):stepE (st2 o n c) 1=0/\stepM (st2 o n c) 1=[msgOpen (st3 o n c)]/\stepS (st2 o n c) 1=st3 o n c:=⟨rfl,rfl,rfl⟩
theorem step2 (o:Option Addr)(n c:Nat):stepE (st3 o n c) 2=0/\stepM (st3 o n c) 2=[]/\stepS (st3 o n c) 2=st4 o n c:=⟨rfl,rfl,rfl⟩
def openedM:PMsg:=⟨2,0,zeroC,⟨1,1,9,0,[]⟩⟩
theorem opened_ok:okM openedM=true:=by kernel_rfl
theorem opened_in:InM openedM:=⟨by decide,by decide,by decide,by decide,inC_zero,by constructor <;> decide⟩
theorem hear5 (o:Option Addr)(n c:Nat):hearL (st4 o n c) openedM=[]/\hearS (st4 o n c) openedM=st5 o n c:=by
 have h:hears (st4 o n c) openedM=true:=by unfold hears;rw [opened_ok];rfl
 constructor
 ·unfold hearL;rw [if_pos h];rfl
 ·unfold hearS;rw [if_pos h];rfl
theorem step3 (o:Option Addr)(n c:Nat):stepE (st5 o n c) 3=0/\stepM (st5 o n c) 3=[⟨1,0,⟨2,0,9,1,0,putOps⟩,zeroR⟩]:=⟨rfl,rfl⟩
theorem known22 (w:World):Calls Tryz.prog 22 #[] w fun e w'=>e=.returned (.bool true)/\w.grownBy w' none:=by
 go_enter Tryz.func22,Tryz.ntmps22
 go_wp2_with fail
 refine (job23 w).mono ?_
 rintro e w1 ⟨rfl,hg⟩
 have H1:Hid (w.grownBy w1 none):=hg
 clear hg
 go_wp2_with fail
 refine (new_cl 0 smallJob w1).mono ?_
 rintro e w2 ⟨hg,hn | ⟨_,b,rfl,hb,⟨oa,wo,wc,hc⟩⟩⟩
 ·rw [may_small] at hn
  cases hn.1
 have H2:Hid (Run (fun _=>False) (fun i=>i=b) w w2 b oa wo wc st0):=⟨hc,grown_trans H1.out hg,fun i hi=>by
  have hi':i=b:=hi
  have:=H1.out.size
  omega⟩
 clear hg hb hc
 go_wp2_with fail
 refine (call20 w2).mono ?_
 rintro e w3 ⟨ov,rfl,hsl,hop,hg⟩
 have H3:Hid (Run (fun _=>False) (fun i=>i=b) w w3 b oa wo wc st0/\(∀y,Fr w3 y (fun i=>i=b)->Ops y ov putOps)):=⟨H2.out.grown hg,fun y hy=>hop y fun i h1 h2=>hy.block i h2 fun e=>by
  have e':i=b:=e
  have:=H2.out.cm.blk.lt
  omega⟩
 obtain ⟨o1,o2,o3,rfl⟩:=hsl
 clear hop hg
 go_wp2_with fail
 refine (invoke9 w3 (.slice o1 o2 o3) putOps H3.out.1.cm H3.out.2 (by decide)).mono ?_
 rintro e w4 ⟨he,s',hs',hst⟩
 rw [open0] at he hs'
 subst he
 obtain ⟨c1,c2,c3,rfl⟩:∃c1 c2 c3,s'=st1 c1 c2 c3:=by
  rcases hs' with ⟨_,a,b,c,e⟩ | ⟨e,_⟩
  ·exact ⟨a,b,c,e⟩
  ·exact absurd rfl e
 obtain ⟨Q4,F4,oa4,wo4,wc4,h4⟩:=H3.out.1.stp hst
 have H4:Hid (Run Q4 F4 w w4 b oa4 wo4 wc4 (st1 c1 c2 c3)):=h4
 clear hs' hst h4
 go_wp2_with fail
 refine (invoke9 w4 (.slice none 0 0) [] H4.out.cm (fun y _=>ops_none y) (by show (1:Int)<1000000000000;decide)).mono ?_
 rintro e w5 ⟨he,s',hs',hst⟩
 rw [open1] at he hs'
 subst he
 obtain rfl:s'=st2 c1 c2 c3:=by
  rcases hs' with ⟨e,_⟩ | ⟨_,e⟩
  ·cases e
  ·exact e
 obtain ⟨Q5,F5,oa5,wo5,wc5,h5⟩:=H4.out.stp hst
 have H5:Hid (Run Q5 F5 w w5 b oa5 wo5 wc5 (st2 c1 c2 c3)):=h5
 clear hs' hst h5
 go_wp2_with fail
 refine (step11 w5 1 H5.out.cm).mono ?_
 rintro e w6 ⟨v6,rfl,hm6,hst⟩
 rw [(step1 c1 c2 c3).1,(step1 c1 c2 c3).2.1] at *
 rw [(step1 c1 c2 c3).2.2] at hst
 obtain ⟨g6,cap6,rfl,_⟩:=msgs_first hm6
 obtain ⟨Q6,F6,oa6,wo6,wc6,h6⟩:=H5.out.stp hst
 have H6:Hid (Run Q6 F6 w w6 b oa6 wo6 wc6 (st3 c1 c2 c3)/\MsgsOwn w6 w5.heap.size (.slice (some ⟨g6,0,none⟩) 1 cap6) [msgOpen (st3 c1 c2 c3)]):=⟨h6,hm6⟩
 clear hm6 hst h6
 go_wp2_with fail
 refine (step11 w6 2 H6.out.1.cm).mono ?_
 rintro e w7 ⟨v7,rfl,hm7,hst⟩
 rw [(step2 c1 c2 c3).2.1] at hm7
 rw [(step2 c1 c2 c3).1]
 rw [(step2 c1 c2 c3).2.2] at hst
 obtain ⟨a7,n7,cap7,rfl,hn7⟩:=hm7.slice
 have hn7':n7=0:=by simpa using hn7
 subst hn7'
 obtain ⟨Q7,F7,oa7,wo7,wc7,h7⟩:=H6.out.1.stp hst
 have H7:Hid (Run Q7 F7 w w7 b oa7 wo7 wc7 (st4 c1 c2 c3)/\MsgsOwn w7 w5.heap.size (.slice (some ⟨g6,0,none⟩) 1 cap6) [msgOpen (st3 c1 c2 c3)]):=⟨h7,msgs_stay H6.out.1 H6.out.2 (H6.out.1.fr hst)⟩
 clear hm7 hst h7 hn7
 go_wp2_with fail
 refine (hear14 w7 (.slice none 0 0) none 0 0 openedM H7.out.1.cm (ops_none w7) (Own.nil _ _) (by simp [openedM]) opened_in (by show (1:Int)<=3999999999999992;decide)).mono ?_
 rintro e w8 ⟨v8,rfl,hr8,hst⟩
 rw [(hear5 c1 c2 c3).1] at hr8
 rw [(hear5 c1 c2 c3).2] at hst
 obtain ⟨a8,cap8,rfl⟩:=LRow.shape hr8
 obtain ⟨Q8,F8,oa8,wo8,wc8,h8⟩:=H7.out.1.stp hst
 have H8:Hid (Run Q8 F8 w w8 b oa8 wo8 wc8 (st5 c1 c2 c3)/\MsgsOwn w8 w5.heap.size (.slice (some ⟨g6,0,none⟩) 1 cap6) [msgOpen (st3 c1 c2 c3)]):=⟨h8,msgs_stay H7.out.1 H7.out.2 (H7.out.1.fr hst)⟩
 clear hr8 hst h8
 go_wp2_with fail
 refine (session_cl w8 H8.out.1.cm).mono ?_
 rintro e w9 ⟨he,hg⟩
 have he':e=.returned (.tuple #[.int .i64 9,.bool true]):=he
 subst he'
 have H9:Hid (Run Q8 F8 w w9 b oa8 wo8 wc8 (st5 c1 c2 c3)/\MsgsOwn w9 w5.heap.size (.slice (some ⟨g6,0,none⟩) 1 cap6) [msgOpen (st3 c1 c2 c3)]):=⟨H8.out.1.grown hg,H8.out.2.grown hg⟩
 clear he hg
 go_wp2_with fail
 refine (step11 w9 3 H9.out.1.cm).mono ?_
 rintro e w10 ⟨v10,rfl,hm10,hst⟩
 rw [(step3 c1 c2 c3).2] at hm10
 rw [(step3 c1 c2 c3).1]
 obtain ⟨Q10,F10,oa10,wo10,wc10,h10⟩:=H9.out.1.stp hst
 have hm6:=msgs_stay H9.out.1 H9.out.2 (H9.out.1.fr hst)
 obtain ⟨g10,cap10,rfl,_,k5,k6⟩:=msgs_first hm10
 obtain ⟨g6',cap6',e6,k3,_,_⟩:=msgs_first hm6
 simp at e6
 obtain ⟨rfl,rfl⟩:=e6
 have HG:Hid (w.grownBy w10 none):=h10.gr
 have k3':w10.cell? ⟨g6,3,none⟩=some (.int .i64 1):=k3
 have k5':w10.cell? ⟨g10,5,none⟩=some (.int .i64 1):=k5
 have k6':w10.cell? ⟨g10,6,none⟩=some (.int .i64 0):=k6
 clear hm10 hst h10 hm6 k3 k5 k6
 go_wp2_with fail
 go_ret
 exact ⟨rfl,HG.out⟩
theorem ropen_nil (w:World):Calls Tryz.prog 50 #[.pointer none] w fun e w'=>e=.returned (.slice none 0 0)/\w.grownBy w' none:=by
 go_enter Tryz.func50,Tryz.ntmps50
 go_wp2_with fail
 go_ret
 exact ⟨rfl,grown_refl _ _⟩
theorem stands_nil (x:Value)(w:World)(h:NoCl w x):Calls Tryz.prog 21 #[x,.pointer none] w fun e w'=>e=.returned (.bool true)/\w.grownBy w' none:=by
 have HN:Hid (NoCl w x):=h
 clear h
 go_enter Tryz.func21,Tryz.ntmps21
 go_wp2_with fail
 refine (session_nocl x w HN.out).mono ?_
 rintro e w1 ⟨rfl,hg⟩
 have H1:Hid (NoCl w1 x/\w.grownBy w1 none):=⟨HN.out.grown hg,hg⟩
 clear hg
 go_wp2_with fail
 refine (open_nocl x w1 H1.out.1).mono ?_
 rintro e w2 ⟨rfl,hg⟩
 have H2:Hid (NoCl w2 x/\w.grownBy w2 none):=⟨H1.out.1.grown hg,grown_trans H1.out.2 hg⟩
 clear hg
 go_wp2_with fail
 refine (ropen_nil w2).mono ?_
 rintro e w3 ⟨rfl,hg⟩
 have H3:Hid (NoCl w3 x/\w.grownBy w3 none):=⟨H2.out.1.grown hg,grown_trans H2.out.2 hg⟩
 clear hg
 go_wp2_with fail
 refine (token_nocl x w3 H3.out.1).mono ?_
 rintro e w4 ⟨rfl,rfl⟩
 go_wp2_with fail
 refine (mark_nocl x w4 H3.out.1).mono ?_
 rintro e w5 ⟨rfl,rfl⟩
 go_wp2_with fail
 refine (number_nocl x w5 H3.out.1).mono ?_
 rintro e w6 ⟨rfl,rfl⟩
 go_wp2_with fail
 go_ret
 exact ⟨rfl,H3.out.2⟩
variable {Q F:Nat->Prop} {w w':World} {b:Nat} {oa wo:Option Addr} {wc:Nat} {s:CS}
def cL:Code->Code | .seq a _=>a | c=>c
def cR:Code->Code | .seq _ b=>b | c=>c
def cB:Code->Code | .block _ c=>c | c=>c
def cW:Code->Code | .loop c=>c | c=>c
noncomputable def b4:Code:=Tryz.f4.body.getD .skip
def sl (t:Array Value)(k:Nat):Value:=t.getD k undef
theorem t259 (t:Array Value)(h:t.size=259):t=#[sl t 0,sl t 1,sl t 2,sl t 3,sl t 4,sl t 5,sl t 6,sl t 7,sl t 8,sl t 9,sl t 10,sl t 11,sl t 12,sl t 13,sl t 14,sl t 15,sl t 16,sl t 17,sl t 18,sl t 19,sl t 20,sl t 21,sl t 22,sl t 23,sl t 24,sl t 25,sl t 26,sl t 27,sl t 28,sl t 29,sl t 30,sl t 31,sl t 32,sl t 33,sl t 34,sl t 35,sl t 36,sl t 37,sl t 38,sl t 39,sl t 40,sl t 41,sl t 42,sl t 43,sl t 44,sl t 45,sl t 46,sl t 47,sl t 48,sl t 49,sl t 50,sl t 51,sl t 52,sl t 53,sl t 54,sl t 55,sl t 56,sl t 57,sl t 58,sl t 59,sl t 60,sl t 61,sl t 62,sl t 63,sl t 64,sl t 65,sl t 66,sl t 67,sl t 68,sl t 69,sl t 70,sl t 71,sl t 72,sl t 73,sl t 74,sl t 75,sl t 76,sl t 77,sl t 78,sl t 79,sl t 80,sl t 81,sl t 82,sl t 83,sl t 84,sl t 85,sl t 86,sl t 87,sl t 88,sl t 89,sl t 90,sl t 91,sl t 92,sl t 93,sl t 94,sl t 95,sl t 96,sl t 97,sl t 98,sl t 99,sl t 100,sl t 101,sl t 102,sl t 103,sl t 104,sl t 105,sl t 106,sl t 107,sl t 108,sl t 109,sl t 110,sl t 111,sl t 112,sl t 113,sl t 114,sl t 115,sl t 116,sl t 117,sl t 118,sl t 119,sl t 120,sl t 121,sl t 122,sl t 123,sl t 124,sl t 125,sl t 126,sl t 127,sl t 128,sl t 129,sl t 130,sl t 131,sl t 132,sl t 133,sl t 134,sl t 135,sl t 136,sl t 137,sl t 138,sl t 139,sl t 140,sl t 141,sl t 142,sl t 143,sl t 144,sl t 145,sl t 146,sl t 147,sl t 148,sl t 149,sl t 150,sl t 151,sl t 152,sl t 153,sl t 154,sl t 155,sl t 156,sl t 157,sl t 158,sl t 159,sl t 160,sl t 161,sl t 162,sl t 163,sl t 164,sl t 165,sl t 166,sl t 167,sl t 168,sl t 169,sl t 170,sl t 171,sl t 172,sl t 173,sl t 174,sl t 175,sl t 176,sl t 177,sl t 178,sl t 179,sl t 180,sl t 181,sl t 182,sl t 183,sl t 184,sl t 185,sl t 186,sl t 187,sl t 188,sl t 189,sl t 190,sl t 191,sl t 192,sl t 193,sl t 194,sl t 195,sl t 196,sl t 197,sl t 198,sl t 199,sl t 200,sl t 201,sl t 202,sl t 203,sl t 204,sl t 205,sl t 206,sl t 207,sl t 208,sl t 209,sl t 210,sl t 211,sl t 212,sl t 213,sl t 214,sl t 215,sl t 216,sl t 217,sl t 218,sl t 219,sl t 220,sl t 221,sl t 222,sl t 223,sl t 224,sl t 225,sl t 226,sl t 227,sl t 228,sl t 229,sl t 230,sl t 231,sl t 232,sl t 233,sl t 234,sl t 235,sl t 236,sl t 237,sl t 238,sl t 239,sl t 240,sl t 241,sl t 242,sl t 243,sl t 244,sl t 245,sl t 246,sl t 247,sl t 248,sl t 249,sl t 250,sl t 251,sl t 252,sl t 253,sl t 254,sl t 255,sl t 256,sl t 257,sl t 258]:=by
 have h1:t.toList=(List.range 259).map (sl t):=by
  apply List.ext_getElem
  ·simp [h]
  ·intro i h1 h2
   simp [sl] at h1 ⊢
   rw [Array.getElem?_eq_getElem h1]
   rfl
 have h2:(List.range 259).map (sl t)=[sl t 0,sl t 1,sl t 2,sl t 3,sl t 4,sl t 5,sl t 6,sl t 7,sl t 8,sl t 9,sl t 10,sl t 11,sl t 12,sl t 13,sl t 14,sl t 15,sl t 16,sl t 17,sl t 18,sl t 19,sl t 20,sl t 21,sl t 22,sl t 23,sl t 24,sl t 25,sl t 26,sl t 27,sl t 28,sl t 29,sl t 30,sl t 31,sl t 32,sl t 33,sl t 34,sl t 35,sl t 36,sl t 37,sl t 38,sl t 39,sl t 40,sl t 41,sl t 42,sl t 43,sl t 44,sl t 45,sl t 46,sl t 47,sl t 48,sl t 49,sl t 50,sl t 51,sl t 52,sl t 53,sl t 54,sl t 55,sl t 56,sl t 57,sl t 58,sl t 59,sl t 60,sl t 61,sl t 62,sl t 63,sl t 64,sl t 65,sl t 66,sl t 67,sl t 68,sl t 69,sl t 70,sl t 71,sl t 72,sl t 73,sl t 74,sl t 75,sl t 76,sl t 77,sl t 78,sl t 79,sl t 80,sl t 81,sl t 82,sl t 83,sl t 84,sl t 85,sl t 86,sl t 87,sl t 88,sl t 89,sl t 90,sl t 91,sl t 92,sl t 93,sl t 94,sl t 95,sl t 96,sl t 97,sl t 98,sl t 99,sl t 100,sl t 101,sl t 102,sl t 103,sl t 104,sl t 105,sl t 106,sl t 107,sl t 108,sl t 109,sl t 110,sl t 111,sl t 112,sl t 113,sl t 114,sl t 115,sl t 116,sl t 117,sl t 118,sl t 119,sl t 120,sl t 121,sl t 122,sl t 123,sl t 124,sl t 125,sl t 126,sl t 127,sl t 128,sl t 129,sl t 130,sl t 131,sl t 132,sl t 133,sl t 134,sl t 135,sl t 136,sl t 137,sl t 138,sl t 139,sl t 140,sl t 141,sl t 142,sl t 143,sl t 144,sl t 145,sl t 146,sl t 147,sl t 148,sl t 149,sl t 150,sl t 151,sl t 152,sl t 153,sl t 154,sl t 155,sl t 156,sl t 157,sl t 158,sl t 159,sl t 160,sl t 161,sl t 162,sl t 163,sl t 164,sl t 165,sl t 166,sl t 167,sl t 168,sl t 169,sl t 170,sl t 171,sl t 172,sl t 173,sl t 174,sl t 175,sl t 176,sl t 177,sl t 178,sl t 179,sl t 180,sl t 181,sl t 182,sl t 183,sl t 184,sl t 185,sl t 186,sl t 187,sl t 188,sl t 189,sl t 190,sl t 191,sl t 192,sl t 193,sl t 194,sl t 195,sl t 196,sl t 197,sl t 198,sl t 199,sl t 200,sl t 201,sl t 202,sl t 203,sl t 204,sl t 205,sl t 206,sl t 207,sl t 208,sl t 209,sl t 210,sl t 211,sl t 212,sl t 213,sl t 214,sl t 215,sl t 216,sl t 217,sl t 218,sl t 219,sl t 220,sl t 221,sl t 222,sl t 223,sl t 224,sl t 225,sl t 226,sl t 227,sl t 228,sl t 229,sl t 230,sl t 231,sl t 232,sl t 233,sl t 234,sl t 235,sl t 236,sl t 237,sl t 238,sl t 239,sl t 240,sl t 241,sl t 242,sl t 243,sl t 244,sl t 245,sl t 246,sl t 247,sl t 248,sl t 249,sl t 250,sl t 251,sl t 252,sl t 253,sl t 254,sl t 255,sl t 256,sl t 257,sl t 258]:=rfl
 rw [h2] at h1
 exact Array.toList_inj.1 h1
structure S4 (a:Act)(v1 v5 v7 v8 v9 v10 v11 v12:Value):Prop where
 size:a.tmps.size=259
 defers:a.defers=[]
 e1:sl a.tmps 1=v1
 e5:sl a.tmps 5=v5
 e7:sl a.tmps 7=v7
 e8:sl a.tmps 8=v8
 e9:sl a.tmps 9=v9
 e10:sl a.tmps 10=v10
 e11:sl a.tmps 11=v11
 e12:sl a.tmps 12=v12
theorem S4.eq {a:Act}{v1 v5 v7 v8 v9 v10 v11 v12:Value}(h:S4 a v1 v5 v7 v8 v9 v10 v11 v12):∃t:Array Value,a={ tmps:=#[sl t 0,v1,sl t 2,sl t 3,sl t 4,v5,sl t 6,v7,v8,v9,v10,v11,v12,sl t 13,sl t 14,sl t 15,sl t 16,sl t 17,sl t 18,sl t 19,sl t 20,sl t 21,sl t 22,sl t 23,sl t 24,sl t 25,sl t 26,sl t 27,sl t 28,sl t 29,sl t 30,sl t 31,sl t 32,sl t 33,sl t 34,sl t 35,sl t 36,sl t 37,sl t 38,sl t 39,sl t 40,sl t 41,sl t 42,sl t 43,sl t 44,sl t 45,sl t 46,sl t 47,sl t 48,sl t 49,sl t 50,sl t 51,sl t 52,sl t 53,sl t 54,sl t 55,sl t 56,sl t 57,sl t 58,sl t 59,sl t 60,sl t 61,sl t 62,sl t 63,sl t 64,sl t 65,sl t 66,sl t 67,sl t 68,sl t 69,sl t 70,sl t 71,sl t 72,sl t 73,sl t 74,sl t 75,sl t 76,sl t 77,sl t 78,sl t 79,sl t 80,sl t 81,sl t 82,sl t 83,sl t 84,sl t 85,sl t 86,sl t 87,sl t 88,sl t 89,sl t 90,sl t 91,sl t 92,sl t 93,sl t 94,sl t 95,sl t 96,sl t 97,sl t 98,sl t 99,sl t 100,sl t 101,sl t 102,sl t 103,sl t 104,sl t 105,sl t 106,sl t 107,sl t 108,sl t 109,sl t 110,sl t 111,sl t 112,sl t 113,sl t 114,sl t 115,sl t 116,sl t 117,sl t 118,sl t 119,sl t 120,sl t 121,sl t 122,sl t 123,sl t 124,sl t 125,sl t 126,sl t 127,sl t 128,sl t 129,sl t 130,sl t 131,sl t 132,sl t 133,sl t 134,sl t 135,sl t 136,sl t 137,sl t 138,sl t 139,sl t 140,sl t 141,sl t 142,sl t 143,sl t 144,sl t 145,sl t 146,sl t 147,sl t 148,sl t 149,sl t 150,sl t 151,sl t 152,sl t 153,sl t 154,sl t 155,sl t 156,sl t 157,sl t 158,sl t 159,sl t 160,sl t 161,sl t 162,sl t 163,sl t 164,sl t 165,sl t 166,sl t 167,sl t 168,sl t 169,sl t 170,sl t 171,sl t 172,sl t 173,sl t 174,sl t 175,sl t 176,sl t 177,sl t 178,sl t 179,sl t 180,sl t 181,sl t 182,sl t 183,sl t 184,sl t 185,sl t 186,sl t 187,sl t 188,sl t 189,sl t 190,sl t 191,sl t 192,sl t 193,sl t 194,sl t 195,sl t 196,sl t 197,sl t 198,sl t 199,sl t 200,sl t 201,sl t 202,sl t 203,sl t 204,sl t 205,sl t 206,sl t 207,sl t 208,sl t 209,sl t 210,sl t 211,sl t 212,sl t 213,sl t 214,sl t 215,sl t 216,sl t 217,sl t 218,sl t 219,sl t 220,sl t 221,sl t 222,sl t 223,sl t 224,sl t 225,sl t 226,sl t 227,sl t 228,sl t 229,sl t 230,sl t 231,sl t 232,sl t 233,sl t 234,sl t 235,sl t 236,sl t 237,sl t 238,sl t 239,sl t 240,sl t 241,sl t 242,sl t 243,sl t 244,sl t 245,sl t 246,sl t 247,sl t 248,sl t 249,sl t 250,sl t 251,sl t 252,sl t 253,sl t 254,sl t 255,sl t 256,sl t 257,sl t 258],defers:=[] }:=by
 obtain ⟨t,d⟩:=a
 obtain ⟨h1,h2,h3,h4,h5,h6,h7,h8,h9,h10⟩:=h
 dsimp only at h1 h2 h3 h4 h5 h6 h7 h8 h9 h10
 refine ⟨t,?_⟩
 rw [h2]
 have e:=t259 t h1
 rw [h3,h4,h5,h6,h7,h8,h9,h10] at e
 exact congrArg (fun x=>Act.mk x []) e
structure T4 (a:Act)(v1 v5 v7 v8 v9 v10 v11 v12 v13 v14 v15 v16 v17:Value):Prop where
 size:a.tmps.size=259
 defers:a.defers=[]
 e1:sl a.tmps 1=v1
 e5:sl a.tmps 5=v5
 e7:sl a.tmps 7=v7
 e8:sl a.tmps 8=v8
 e9:sl a.tmps 9=v9
 e10:sl a.tmps 10=v10
 e11:sl a.tmps 11=v11
 e12:sl a.tmps 12=v12
 e13:sl a.tmps 13=v13
 e14:sl a.tmps 14=v14
 e15:sl a.tmps 15=v15
 e16:sl a.tmps 16=v16
 e17:sl a.tmps 17=v17
theorem T4.eq {a:Act}{v1 v5 v7 v8 v9 v10 v11 v12 v13 v14 v15 v16 v17:Value}(h:T4 a v1 v5 v7 v8 v9 v10 v11 v12 v13 v14 v15 v16 v17):∃t:Array Value,a={ tmps:=#[sl t 0,v1,sl t 2,sl t 3,sl t 4,v5,sl t 6,v7,v8,v9,v10,v11,v12,v13,v14,v15,v16,v17,sl t 18,sl t 19,sl t 20,sl t 21,sl t 22,sl t 23,sl t 24,sl t 25,sl t 26,sl t 27,sl t 28,sl t 29,sl t 30,sl t 31,sl t 32,sl t 33,sl t 34,sl t 35,sl t 36,sl t 37,sl t 38,sl t 39,sl t 40,sl t 41,sl t 42,sl t 43,sl t 44,sl t 45,sl t 46,sl t 47,sl t 48,sl t 49,sl t 50,sl t 51,sl t 52,sl t 53,sl t 54,sl t 55,sl t 56,sl t 57,sl t 58,sl t 59,sl t 60,sl t 61,sl t 62,sl t 63,sl t 64,sl t 65,sl t 66,sl t 67,sl t 68,sl t 69,sl t 70,sl t 71,sl t 72,sl t 73,sl t 74,sl t 75,sl t 76,sl t 77,sl t 78,sl t 79,sl t 80,sl t 81,sl t 82,sl t 83,sl t 84,sl t 85,sl t 86,sl t 87,sl t 88,sl t 89,sl t 90,sl t 91,sl t 92,sl t 93,sl t 94,sl t 95,sl t 96,sl t 97,sl t 98,sl t 99,sl t 100,sl t 101,sl t 102,sl t 103,sl t 104,sl t 105,sl t 106,sl t 107,sl t 108,sl t 109,sl t 110,sl t 111,sl t 112,sl t 113,sl t 114,sl t 115,sl t 116,sl t 117,sl t 118,sl t 119,sl t 120,sl t 121,sl t 122,sl t 123,sl t 124,sl t 125,sl t 126,sl t 127,sl t 128,sl t 129,sl t 130,sl t 131,sl t 132,sl t 133,sl t 134,sl t 135,sl t 136,sl t 137,sl t 138,sl t 139,sl t 140,sl t 141,sl t 142,sl t 143,sl t 144,sl t 145,sl t 146,sl t 147,sl t 148,sl t 149,sl t 150,sl t 151,sl t 152,sl t 153,sl t 154,sl t 155,sl t 156,sl t 157,sl t 158,sl t 159,sl t 160,sl t 161,sl t 162,sl t 163,sl t 164,sl t 165,sl t 166,sl t 167,sl t 168,sl t 169,sl t 170,sl t 171,sl t 172,sl t 173,sl t 174,sl t 175,sl t 176,sl t 177,sl t 178,sl t 179,sl t 180,sl t 181,sl t 182,sl t 183,sl t 184,sl t 185,sl t 186,sl t 187,sl t 188,sl t 189,sl t 190,sl t 191,sl t 192,sl t 193,sl t 194,sl t 195,sl t 196,sl t 197,sl t 198,sl t 199,sl t 200,sl t 201,sl t 202,sl t 203,sl t 204,sl t 205,sl t 206,sl t 207,sl t 208,sl t 209,sl t 210,sl t 211,sl t 212,sl t 213,sl t 214,sl t 215,sl t 216,sl t 217,sl t 218,sl t 219,sl t 220,sl t 221,sl t 222,sl t 223,sl t 224,sl t 225,sl t 226,sl t 227,sl t 228,sl t 229,sl t 230,sl t 231,sl t 232,sl t 233,sl t 234,sl t 235,sl t 236,sl t 237,sl t 238,sl t 239,sl t 240,sl t 241,sl t 242,sl t 243,sl t 244,sl t 245,sl t 246,sl t 247,sl t 248,sl t 249,sl t 250,sl t 251,sl t 252,sl t 253,sl t 254,sl t 255,sl t 256,sl t 257,sl t 258],defers:=[] }:=by
 obtain ⟨t,d⟩:=a
 obtain ⟨h1,h2,h3,h4,h5,h6,h7,h8,h9,h10,h11,h12,h13,h14,h15⟩:=h
 dsimp only at h1 h2 h3 h4 h5 h6 h7 h8 h9 h10 h11 h12 h13 h14 h15
 refine ⟨t,?_⟩
 rw [h2]
 have e:=t259 t h1
 rw [h3,h4,h5,h6,h7,h8,h9,h10,h11,h12,h13,h14,h15] at e
 exact congrArg (fun x=>Act.mk x []) e
structure U4 (a:Act)(v1 v5 v7 v8 v9 v10 v11 v12 v17:Value):Prop where
 size:a.tmps.size=259
 defers:a.defers=[]
 e1:sl a.tmps 1=v1
 e5:sl a.tmps 5=v5
 e7:sl a.tmps 7=v7
 e8:sl a.tmps 8=v8
 e9:sl a.tmps 9=v9
 e10:sl a.tmps 10=v10
 e11:sl a.tmps 11=v11
 e12:sl a.tmps 12=v12
 e17:sl a.tmps 17=v17
theorem U4.eq {a:Act}{v1 v5 v7 v8 v9 v10 v11 v12 v17:Value}(h:U4 a v1 v5 v7 v8 v9 v10 v11 v12 v17):∃t:Array Value,a={ tmps:=#[sl t 0,v1,sl t 2,sl t 3,sl t 4,v5,sl t 6,v7,v8,v9,v10,v11,v12,sl t 13,sl t 14,sl t 15,sl t 16,v17,sl t 18,sl t 19,sl t 20,sl t 21,sl t 22,sl t 23,sl t 24,sl t 25,sl t 26,sl t 27,sl t 28,sl t 29,sl t 30,sl t 31,sl t 32,sl t 33,sl t 34,sl t 35,sl t 36,sl t 37,sl t 38,sl t 39,sl t 40,sl t 41,sl t 42,sl t 43,sl t 44,sl t 45,sl t 46,sl t 47,sl t 48,sl t 49,sl t 50,sl t 51,sl t 52,sl t 53,sl t 54,sl t 55,sl t 56,sl t 57,sl t 58,sl t 59,sl t 60,sl t 61,sl t 62,sl t 63,sl t 64,sl t 65,sl t 66,sl t 67,sl t 68,sl t 69,sl t 70,sl t 71,sl t 72,sl t 73,sl t 74,sl t 75,sl t 76,sl t 77,sl t 78,sl t 79,sl t 80,sl t 81,sl t 82,sl t 83,sl t 84,sl t 85,sl t 86,sl t 87,sl t 88,sl t 89,sl t 90,sl t 91,sl t 92,sl t 93,sl t 94,sl t 95,sl t 96,sl t 97,sl t 98,sl t 99,sl t 100,sl t 101,sl t 102,sl t 103,sl t 104,sl t 105,sl t 106,sl t 107,sl t 108,sl t 109,sl t 110,sl t 111,sl t 112,sl t 113,sl t 114,sl t 115,sl t 116,sl t 117,sl t 118,sl t 119,sl t 120,sl t 121,sl t 122,sl t 123,sl t 124,sl t 125,sl t 126,sl t 127,sl t 128,sl t 129,sl t 130,sl t 131,sl t 132,sl t 133,sl t 134,sl t 135,sl t 136,sl t 137,sl t 138,sl t 139,sl t 140,sl t 141,sl t 142,sl t 143,sl t 144,sl t 145,sl t 146,sl t 147,sl t 148,sl t 149,sl t 150,sl t 151,sl t 152,sl t 153,sl t 154,sl t 155,sl t 156,sl t 157,sl t 158,sl t 159,sl t 160,sl t 161,sl t 162,sl t 163,sl t 164,sl t 165,sl t 166,sl t 167,sl t 168,sl t 169,sl t 170,sl t 171,sl t 172,sl t 173,sl t 174,sl t 175,sl t 176,sl t 177,sl t 178,sl t 179,sl t 180,sl t 181,sl t 182,sl t 183,sl t 184,sl t 185,sl t 186,sl t 187,sl t 188,sl t 189,sl t 190,sl t 191,sl t 192,sl t 193,sl t 194,sl t 195,sl t 196,sl t 197,sl t 198,sl t 199,sl t 200,sl t 201,sl t 202,sl t 203,sl t 204,sl t 205,sl t 206,sl t 207,sl t 208,sl t 209,sl t 210,sl t 211,sl t 212,sl t 213,sl t 214,sl t 215,sl t 216,sl t 217,sl t 218,sl t 219,sl t 220,sl t 221,sl t 222,sl t 223,sl t 224,sl t 225,sl t 226,sl t 227,sl t 228,sl t 229,sl t 230,sl t 231,sl t 232,sl t 233,sl t 234,sl t 235,sl t 236,sl t 237,sl t 238,sl t 239,sl t 240,sl t 241,sl t 242,sl t 243,sl t 244,sl t 245,sl t 246,sl t 247,sl t 248,sl t 249,sl t 250,sl t 251,sl t 252,sl t 253,sl t 254,sl t 255,sl t 256,sl t 257,sl t 258],defers:=[] }:=by
 obtain ⟨t,d⟩:=a
 obtain ⟨h1,h2,h3,h4,h5,h6,h7,h8,h9,h10,h11⟩:=h
 dsimp only at h1 h2 h3 h4 h5 h6 h7 h8 h9 h10 h11
 refine ⟨t,?_⟩
 rw [h2]
 have e:=t259 t h1
 rw [h3,h4,h5,h6,h7,h8,h9,h10,h11] at e
 exact congrArg (fun x=>Act.mk x []) e
def At4 (P:Act->World->Prop):Exit->Act->World->Prop
 | .normal,a,w=>P a w
 | _,_,_=>False
def KB (A:World)(i:Nat):Prop:=∃t c,Blk A i t c/\KT t
def Keep (A A':World):Prop:=Fr A A' (KB A)
theorem kb_gt (A:World):Gt A (KB A):=fun i ⟨t,c,hb,hk⟩=>⟨t,c,hb,by rcases hk with rfl | rfl | rfl | rfl <;> decide,by rcases hk with rfl | rfl | rfl | rfl <;> decide⟩
theorem keep_grown {A A':World}(hg:A.grownBy A' none):Keep A A':=Fr.of hg (by simp)
theorem keep_trans {A B C:World}(h:Keep A B)(k:Keep B C):Keep A C:=by
 refine Fr.trans h k fun i hi=>?_
 obtain ⟨t,c,hb,hk⟩:=hi
 rcases Nat.lt_or_ge i A.heap.size with hlt | hge
 ·by_cases e:KB A i
  ·exact .inl e
  ·exact .inl ⟨t,c,(h.block i hlt e).symm.trans hb,hk⟩
 ·exact .inr hge
theorem Run.keep {A A':World}{s':CS}(h:Run Q F w A b oa wo wc s)(hs:Stp Q F A b s' A'):Keep A A':=(h.fr hs).mono fun i hi=>h.cm.ft i hi
theorem Runs.grown {A A':World}(h:Runs w A b s)(hg:A.grownBy A' none):Runs w A' b s:=by
 obtain ⟨Q,F,oa,wo,wc,h⟩:=h
 exact ⟨Q,F,oa,wo,wc,h.grown hg⟩
theorem Runs.ok {A:World}(h:Runs w A b s):Okc s:=by
 obtain ⟨Q,F,oa,wo,wc,h⟩:=h
 exact h.cm.ok
theorem Runs.gr {A:World}(h:Runs w A b s):w.grownBy A none:=by
 obtain ⟨Q,F,oa,wo,wc,h⟩:=h
 exact h.gr
theorem Runs.room {A:World}(h:Runs w A b s):RoomS s:=by
 obtain ⟨Q,F,oa,wo,wc,h⟩:=h
 unfold RoomS
 by_cases h0:s.ses=0
 ·rw [(h.cm.nowin h0).2]
  simp
 ·obtain ⟨_,ob,v,_,hw,_⟩:=h.cm.yeswin h0
  exact hw.room
theorem rsession {A:World}(h:Runs w A b s):Calls Tryz.prog 24 #[.pointer (some ⟨b,0,none⟩)] A fun e A'=>e=.returned (.tuple #[.int .i64 s.ses,.bool (decide (0<s.ses))])/\A.grownBy A' none:=by
 obtain ⟨Q,F,oa,wo,wc,h⟩:=h
 exact session_cl A h.cm
theorem rnumber {A:World}(h:Runs w A b s):Calls Tryz.prog 25 #[.pointer (some ⟨b,0,none⟩)] A fun e A'=>e=.returned (.int .i64 s.num)/\A'=A:=by
 obtain ⟨Q,F,oa,wo,wc,h⟩:=h
 exact number_cl A h.cm
theorem rtoken {A:World}(h:Runs w A b s):Calls Tryz.prog 26 #[.pointer (some ⟨b,0,none⟩)] A fun e A'=>e=.returned (.int .i64 s.tok)/\A'=A:=by
 obtain ⟨Q,F,oa,wo,wc,h⟩:=h
 exact token_cl A h.cm
theorem rinvoke {A:World}{ov:Value}{ops:List POp}(h:Runs w A b s)(ho:∀y,w.grownBy y none->Ops y ov ops)(hl:s.last<1000000000000):Calls Tryz.prog 9 #[.pointer (some ⟨b,0,none⟩),.agg #[ov]] A fun e A'=>∃s',e=.returned (.tuple #[.int .i64 (s.last+1),.int .i64 (openW s ops)])/\((openW s ops=0/\∃o n c,s'=s.id.put ⟨s.last+1,o,n,c,ops,false,0⟩)\/(openW s ops≠0/\s'=s.id))/\Runs w A' b s'/\Keep A A':=by
 obtain ⟨Q,F,oa,wo,wc,h⟩:=h
 refine (invoke9 A ov ops h.cm (fun y hy=>ho y (Fr.grown ((Fr.of (F:=F) h.gr (by simp)).trans hy fun i hi=>.inl hi) h.new)) hl).mono ?_
 rintro e A' ⟨rfl,s',h1,h2⟩
 exact ⟨s',rfl,h1,h.stp h2,h.keep h2⟩
theorem rstep {A:World}(now:Int)(h:Runs w A b s):Calls Tryz.prog 11 #[.pointer (some ⟨b,0,none⟩),.int .i64 now] A fun e A'=>∃v,e=.returned (.tuple #[v,.int .i64 (stepE s now)])/\MsgsOwn A' A.heap.size v (stepM s now)/\Runs w A' b (stepS s now)/\Keep A A':=by
 obtain ⟨Q,F,oa,wo,wc,h⟩:=h
 refine (step11 A now h.cm).mono ?_
 rintro e A' ⟨v,rfl,h1,h2⟩
 exact ⟨v,rfl,h1,h.stp h2,h.keep h2⟩
theorem rleave {A:World}(h:Runs w A b s)(ht:s.tok<=3999999999999992):Calls Tryz.prog 17 #[.pointer (some ⟨b,0,none⟩)] A fun e A'=>∃v u,e=.returned (.tuple #[v,u])/\MsgsOwn A' A.heap.size v (leaveM s)/\Rets A' A.heap.size u (leaveL s)/\Runs w A' b (leaveS s)/\Keep A A':=by
 obtain ⟨Q,F,oa,wo,wc,h⟩:=h
 refine (leave17 A h.cm ht).mono ?_
 rintro e A' ⟨v,u,rfl,h0,h1,h2⟩
 exact ⟨v,u,rfl,h0,h1,h.stp h2,h.keep h2⟩
theorem rhear {A:World}{ov:Value}{ao:Option Addr}{an ac:Nat}{m:PMsg}(h:Runs w A b s)(ho:Ops A ov m.ask.ops)(ha:Disk.Own A 0 (.slice ao an ac) m.tell.answer)(hl:m.tell.answer.length<=140737488354304)(hi:InM m)(ht:s.tok<=3999999999999992):Calls Tryz.prog 14 #[.pointer (some ⟨b,0,none⟩),msgV ov (.slice ao an ac) m] A fun e A'=>∃u,e=.returned u/\Rets A' A.heap.size u (hearL s m)/\Runs w A' b (hearS s m)/\Keep A A':=by
 obtain ⟨Q,F,oa,wo,wc,h⟩:=h
 refine (hear14 A ov ao an ac m h.cm ho ha hl hi ht).mono ?_
 rintro e A' ⟨u,rfl,h1,h2⟩
 exact ⟨u,rfl,h1,h.stp h2,h.keep h2⟩
def ints (l:List Int):List Value:=l.map (Value.int .i64)
structure Onc (w A:World)(b:Nat)(v7 v8:Value)(s:CS)(back toks:List Int)(p:Int × Int)(tn:Int)(i:Nat):Prop where
 run:Runs w A b s
 two:s.size=2
 row7:Row 2 A w.heap.size v7 (ints back)
 row8:Row 2 A w.heap.size v8 (ints toks)
 ap:∀k,v7.ownBlock=some k->v8.ownBlock≠some k
 ido:Ido s
 bk:BackOk s back
 nm:NumOk s p
 tk:∀y ∈ toks,y<=s.tok
 hd:toks=[]\/toks.getLast? = some s.tok
 lst:s.last<=i/\0<=s.last
 tokb:0<=s.tok/\s.tok<=8+8*(i:Int)
 nw:s.now<=tn/\0<=tn/\tn<=8*(i:Int)
 bl:back.length<=300*i
 tl:toks.length<=i
theorem Onc.keep {A A':World}{v7 v8:Value}{back toks:List Int}{p:Int × Int}{tn:Int}{i:Nat}(h:Onc w A b v7 v8 s back toks p tn i)(hg:A.grownBy A' none):Onc w A' b v7 v8 s back toks p tn i :=
 ⟨h.run.grown hg,h.two,h.row7.grown hg,h.row8.grown hg,h.ap,h.ido,h.bk,h.nm,h.tk,h.hd,h.lst,h.tokb,h.nw,h.bl,h.tl⟩
structure Mid (w A:World)(b:Nat)(v7 v8:Value)(s:CS)(t0:Int)(back toks:List Int)(p:Int × Int)(tn:Int)(i:Nat):Prop where
 run:Runs w A b s
 two:s.size=2
 row7:Row 2 A w.heap.size v7 (ints back)
 row8:Row 2 A w.heap.size v8 (ints toks)
 ap:∀k,v7.ownBlock=some k->v8.ownBlock≠some k
 ido:Ido s
 nm:NumOk s p
 tk:∀y ∈ toks,y<=t0
 hd:toks=[]\/toks.getLast? = some t0
 tok:s.tok=t0\/s.tok=t0+8
 lst:s.last<=(i+1:Nat)/\0<=s.last
 tokb:0<=s.tok/\s.tok<=8+8*((i+1:Nat):Int)
 nw:s.now<=tn/\0<=tn/\tn<=8*((i+1:Nat):Int)
 tl:toks.length<=i
theorem Mid.keep {A A':World}{v7 v8:Value}{t0:Int}{back toks:List Int}{p:Int × Int}{tn:Int}{i:Nat}(h:Mid w A b v7 v8 s t0 back toks p tn i)(hg:A.grownBy A' none):Mid w A' b v7 v8 s t0 back toks p tn i :=
 ⟨h.run.grown hg,h.two,h.row7.grown hg,h.row8.grown hg,h.ap,h.ido,h.nm,h.tk,h.hd,h.tok,h.lst,h.tokb,h.nw,h.tl⟩
theorem num_out {A A':World}{v:Value}{xs:List Value}{P:World->Prop}(hr:Row 2 A w.heap.size v xs)(hg:A.grownBy A' v.ownBlock)(h0:A.grownBy A' none->P A')(h1:∀k C,w.heap.size<=k->Blk A k 2 C->A.grownBy A' (some k)->P A'):P A':=by
 cases e:v.ownBlock with
 | none=>rw [e] at hg;exact h0 hg
 | some k =>
  rw [e] at hg
  obtain ⟨C,hC⟩:=hr.blk k e
  exact h1 k C (hr.lt k e).1 hC hg
theorem Runs.num {A A':World}{v:Value}{xs:List Value}(h:Runs w A b s)(hr:Row 2 A w.heap.size v xs)(hg:A.grownBy A' v.ownBlock):Runs w A' b s:=by
 refine num_out (P:=fun A'=>Runs w A' b s) hr hg (fun hg=>h.grown hg) fun k C hk hC hg=>?_
 obtain ⟨Q,F,oa,wo,wc,h⟩:=h
 refine ⟨_,F,oa,wo,wc,(h.cm.boxes).beside (G:=fun i=>i=k) (Fr.of hg (by simp)) ?_ ?_,grown_new h.gr hg (by intro x hx;simp at hx;omega),h.new⟩
 ·rintro i hi rfl
  rcases hi with hi | hi
  ·obtain ⟨t,c,hb,hkt⟩:=h.cm.ft i hi
   have:=blk_type hb hC
   subst this
   unfold KT at hkt
   omega
  ·obtain ⟨_,c,hb⟩:=hi
   have:=blk_type hb hC
   omega
 ·rintro i rfl
  exact ⟨2,C,hC,by decide,by decide⟩
theorem Mid.next {A:World}{v7 v8:Value}{t0:Int}{back toks:List Int}{p:Int × Int}{tn:Int}{i:Nat}(h:Mid w A b v7 v8 s t0 back toks p tn i)(hb:BackOk s back)(hl:back.length<=300*(i+1))(hs:s.tok=t0)(_hne:toks≠[]):Onc w A b v7 v8 s back toks p tn (i+1):=by
 have:=h.tl
 refine ⟨h.run,h.two,h.row7,h.row8,h.ap,h.ido,hb,h.nm,by rw [hs];exact h.tk,by rw [hs];exact h.hd,h.lst,h.tokb,h.nw,by omega,by omega⟩
structure Ret4 (w A:World)(b:Nat)(v7 v8 v17:Value)(s:CS)(t0:Int)(back toks:List Int)(rl:List PRet)(p:Int × Int)(tn:Int)(i:Nat):Prop where
 mid:Mid w A b v7 v8 s t0 back toks p tn i
 rets:∃B,Rets A B v17 rl
 fr:∀r ∈ rl,∀y ∈ back,y≠r.id
 pw:rl.Pairwise (fun a b=>a.id≠b.id)
 bk:BackOk s (back ++ rl.map (·.id))
 bl:back.length<=300*i
 rn:rl.length<=300
theorem rets_len (P:Nat->Bool)(what:Int)(ans:Bs):(s.rets P what ans).length<=s.L.length:=by
 refine gather_len (fun k c=>?_) _
 unfold endG
 split <;> simp
theorem hearL_len (m:PMsg):(hearL s m).length<=s.L.length:=by
 unfold hearL
 split
 ·unfold tellL goneL
  repeat' split
  all_goals first | exact rets_len _ _ _ | simp
 ·simp
theorem leaveL_len:(leaveL s).length<=s.L.length:=by
 unfold leaveL
 split
 ·exact rets_len _ _ _
 ·simp
structure PStep where
 kind:Int
 n:Int
 ops:List POp
 tell:PMsg
structure StpAt (w:World)(g off:Nat)(x:PStep)(o1:Value)(o2:Value)(av:Value):Prop where
 c0:w.cell? ⟨g,off,none⟩=some (.int .i64 x.kind)
 c1:w.cell? ⟨g,off+1,none⟩=some (.int .i64 x.n)
 c2:w.cell? ⟨g,off+2,none⟩=some o1
 ms:MsAt w g (off+3) o2 av x.tell
 ops:Ops w o1 x.ops
 ask:Ops w o2 x.tell.ask.ops
 ans:Seg w av x.tell.tell.answer
 good:GoodM x.tell
 n0:-9223372036854775808<=x.n/\x.n<=9223372036854775807
def StepsIn (w:World)(v:Value)(l:List PStep):Prop:=∃ao cap,v=.slice ao l.length cap/\l.length<=1000000000000/\∀j (hj:j<l.length),∃g off o1 o2 av,ao=some ⟨g,off,none⟩/\StpAt w g (off+j*16) l[j] o1 o2 av
variable {s:CS}
theorem steps_at {w:World}{so:Option Addr}{sn sc:Nat}{ss:List PStep}(h:StepsIn w (.slice so sn sc) ss)(j:Nat)(hj:j<ss.length):ss.length=sn/\∃g off o1 o2 av,so=some ⟨g,off,none⟩/\StpAt w g (off+j*16) ss[j] o1 o2 av:=by
 obtain ⟨ao,cap,e,_,h⟩:=h
 simp at e
 obtain ⟨rfl,rfl,rfl⟩:=e
 obtain ⟨g,off,o1,o2,av,e,h⟩:=h j hj
 exact ⟨rfl,g,off,o1,o2,av,e,h⟩
theorem blk3 {w:World}{b t:Nat}{v0 v1 v2 v3 v4 v5 v6 v7 v8 v9 v10 v11 v12 v13 v14 v15:Value}(h:Blk w b t #[v0,v1,v2,v3,v4,v5,v6,v7,v8,v9,v10,v11,v12,v13,v14,v15]):w.cell? ⟨b,0,none⟩=some v0/\w.cell? ⟨b,1,none⟩=some v1/\w.cell? ⟨b,2,none⟩=some v2:=⟨h.cell 0,h.cell 1,h.cell 2⟩
theorem blk13 {w:World}{b t:Nat}{v0 v1 v2 v3 v4 v5 v6 v7 v8 v9 v10 v11 v12 v13 v14 v15:Value}(h:Blk w b t #[v0,v1,v2,v3,v4,v5,v6,v7,v8,v9,v10,v11,v12,v13,v14,v15]):w.cell? ⟨b,3,none⟩=some v3/\w.cell? ⟨b,4,none⟩=some v4/\w.cell? ⟨b,5,none⟩=some v5/\w.cell? ⟨b,6,none⟩=some v6/\w.cell? ⟨b,7,none⟩=some v7/\w.cell? ⟨b,8,none⟩=some v8/\w.cell? ⟨b,9,none⟩=some v9/\w.cell? ⟨b,10,none⟩=some v10/\w.cell? ⟨b,11,none⟩=some v11/\w.cell? ⟨b,12,none⟩=some v12/\w.cell? ⟨b,13,none⟩=some v13/\w.cell? ⟨b,14,none⟩=some v14/\w.cell? ⟨b,15,none⟩=some v15:=by
 have q:=fun j=>h.cell j
 exact ⟨q 3,q 4,q 5,q 6,q 7,q 8,q 9,q 10,q 11,q 12,q 13,q 14,q 15⟩
variable {s:CS}
theorem cst_id:Cst s s.id:=⟨rfl,rfl,.inl rfl,by simp only [CS.id];omega⟩
theorem cst_put (x:Cr):Cst s (s.id.put x):=⟨rfl,rfl,.inl rfl,by simp only [CS.id,CS.put];omega⟩
end Go.Proofs.YtanoabliahcbeaaGreat.Wn
