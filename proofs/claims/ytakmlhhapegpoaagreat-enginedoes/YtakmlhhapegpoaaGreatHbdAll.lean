import Derived.Test.YtakmlhhapegpoaaGreatHnoAll
import Derived.Test.YtakmlhhapegpoaaGreatFv
import Derived.Test.YtakmlhhapegpoaaGreatCallsSm
set_option maxHeartbeats 32000000
set_option maxRecDepth 100000
namespace Go.Proofs.YtakmlhhapegpoaaGreat
open Go.RowKit Disk Table
open Names (Str cmpL keyB valueB tabB)
open _root_.Go.Proofs.YtakmlhhapegpoaaGreat.Calls (POp POut PRes opV OpSeg mayOp Ops OpAt ops_at ops_open chk rds mayCall OpsOwn)
def CallE (b rb:Nat)(q:Int × Int)(w:World)(e:Ending)(w':World):Prop:=e=.returned (.bool true)/\∃m' D',DbQ q D'/\TabD D'/\EngB w' b q m'/\EM X0 w' m' D'/\REng X0 w' rb q (flatD D')/\KeepS w.heap.size b rb w w'
def XB (B E:Nat):Nat->Prop:=fun i=>B<=i/\i<E
theorem keepS_fr {w W:World}{b rb:Nat}{F:Nat->Prop}(h:Fr w W F)(hF:∀i,F i->i=b\/i=rb):KeepS w.heap.size b rb w W:=⟨h.os,h.tape,h.output,h.size,fun k hk h1 h2=>h.block k hk (fun e=>(hF k e).elim h1 h2)⟩
theorem call11 (b m rb:Nat)(q:Int × Int)(D:DB)(hD:DbQ q D)(hT:TabD D)(v:Value)(l:List POp)(hf:Calls.Fit l)(w0 w:World)(hv:Ops w0 v l)(hg:w0.grownBy w none)(hb0:w0.heap.size<=b)(hr0:w0.heap.size<=rb)(hb:EngB w b q m)(hm:EM X0 w m D)(hr:REng X0 w rb q (flatD D)):Calls Tryz.prog 11 #[.pointer (some ⟨b,0,none⟩),.pointer (some ⟨rb,0,none⟩),.agg #[v]] w (CallE b rb q w):=by
 obtain ⟨ao,n,cap,rfl,hn,hn2,HV⟩:=ops_open hv
 have hne:rb≠b:=fun e=>by
  subst e
  obtain ⟨u,h1,_⟩:=hr
  exact absurd (blk_ne h1 hb) (by decide)
 have HH:Hid (DbQ q D/\TabD D/\Calls.Fit l/\w0.grownBy w none/\w0.heap.size<=b/\w0.heap.size<=rb/\EngB w b q m/\EM X0 w m D/\REng X0 w rb q (flatD D)/\rb≠b):=⟨hD,hT,hf,hg,hb0,hr0,hb,hm,hr,hne⟩
 obtain ⟨C,hC⟩:∃C,chk l=C:=⟨_,rfl⟩
 have HC:Hid (chk l=C):=hC
 clear hD hT hf hg hb0 hr0 hb hm hr hne hv hn hn2 hC
 go_enter Tryz.func11,Tryz.ntmps11
 go_wp2_with fail
 obtain ⟨w1,hw1,H1⟩:=al w #[.slice ao n cap] 37
 rw [hw1]
 clear hw1
 refine (Calls.copy11 (.slice ao n cap) l w1 (HV.out.grown (grown_trans HH.out.2.2.2.1 H1.out.2.1)) HH.out.2.2.1).mono ?_
 rintro e w2 ⟨u,rfl,hu,g2⟩
 obtain ⟨ua,un,uc,rfl⟩:∃a n b,u=.slice a n b:=by obtain ⟨a,n,b,e,_⟩:=ops_open hu.ops;exact ⟨a,n,b,e⟩
 obtain ⟨cb,hcb⟩:∃x,w.heap.size=x:=⟨_,rfl⟩
 obtain ⟨B,hB⟩:∃x,w1.heap.size=x:=⟨_,rfl⟩
 obtain ⟨E,hE⟩:∃x,w2.heap.size=x:=⟨_,rfl⟩
 have H2:Hid (Blk w2 cb 37 #[.slice ao n cap]/\w.grownBy w2 none/\OpsOwn w2 B (.slice ua un uc) l/\w.heap.size=cb/\B=cb+1/\w2.heap.size=E/\B<=E):=by
  have s1:=H1.out.2.2
  have s2:=g2.size
  refine ⟨?_,grown_trans H1.out.2.1 g2,by rw [<-hB];exact hu,hcb,by omega,hE,by omega⟩
  rw [<-hcb]
  exact H1.out.1.grown g2 (by simp)
 rw [hcb]
 clear hcb hB hu g2 H1
 go_upto_region 2 with fail
 obtain ⟨w3,hw3,H3⟩:=al w2 #[.slice ua un uc] 37
 rw [hw3]
 rw [hE] at H3
 have G3:Hid (w2.grownBy w3 none/\Blk w3 E 37 #[.slice ua un uc]/\E<w3.heap.size):=⟨H3.out.2.1,H3.out.1,H3.out.1.lt⟩
 clear hw3 H3 hE
 have k5:=(H2.out.1.grown G3.out.1 (by simp)).cell 0
 simp at k5
 go_wp2_with fail
 refine (rcheck33 (.slice ao n cap) l w3 (HV.out.grown (grown_trans HH.out.2.2.2.1 (grown_trans H2.out.2.1 G3.out.1)))).mono ?_
 rw [HC.out]
 rintro e w4 ⟨rfl,g4⟩
 have G4:Hid (w2.grownBy w4 none/\E<w4.heap.size):=⟨grown_trans G3.out.1 g4,Nat.lt_of_lt_of_le G3.out.2.2 g4.size⟩
 have HO:Hid (Blk w4 E 37 #[.slice ua un uc]):=G3.out.2.1.grown g4 (by simp)
 clear g4 k5
 have HX:Hid (∀W:World,w2.grownBy W none->EngB W b q m/\EM (XB B E) W m D/\Ops W (.slice ua un uc) l/\Ops W (.slice ao n cap) l/\Blk W cb 37 #[.slice ao n cap]):=fun W hW=>by
  have gw:=grown_trans H2.out.2.1 hW
  refine ⟨Blk.grown HH.out.2.2.2.2.2.2.1 gw (by simp),em_anti (em_widen (n:=E) HH.out.2.2.2.2.2.2.2.1 gw) (fun g hg=>.inr ⟨?_,hg.2⟩),(H2.out.2.2.1.grown hW).ops,HV.out.grown (grown_trans HH.out.2.2.2.1 gw),H2.out.1.grown hW (by simp)⟩
  have:=H2.out.2.2.2
  have:=hg.1
  omega
 have hXB:Hid (∀W:World,w2.grownBy W none->∀g,XB B E g->g<W.heap.size):=fun W hW g hg=>by
  have:=hW.size
  have:=H2.out.2.2.2.2.2.1
  have:=hg.2
  omega
 have k7:=HO.out.cell 0
 simp at k7
 go_wp2_with fail
 refine (look26z (X:=XB B E) b m q D HH.out.1 (.slice ua un uc) l w4 (hXB.out w4 G4.out.1) (HX.out w4 G4.out.1).1 (HX.out w4 G4.out.1).2.1 (HX.out w4 G4.out.1).2.2.1).mono ?_
 rintro e w5 ⟨xa,xp,xv,xe,xo,rfl,hxo,g5,hx1,hx2,hx3⟩
 obtain ⟨xs,xn,xc,rfl,hxn,_,_⟩:=hxo.shape
 have H5:Hid (OutsN w5 w4.heap.size (.slice xs xn xc) xo/\xo.length=xn/\(chk l≠0->xo=[]/\xe=chk l)/\(chk l=0->rds l=false->xo=[]/\xa=0/\xe=2)/\(chk l=0->rds l=true->xe=0/\xa=(doP q D l).abort/\xp=((doP q D l).place:Int)/\xo=(doP q D l).outs)):=⟨hxo,hxn,hx1,hx2,hx3⟩
 have G5:Hid (w4.grownBy w5 none):=g5
 clear g5 hxo hxn hx1 hx2 hx3 k7
 go_upto_region 4 with fail
 obtain ⟨w6,hw6,H6⟩:=al w5 #[.int .i64 xa,.int .i64 xp,.slice xs xn xc] 49
 rw [hw6]
 obtain ⟨xb,hxb⟩:∃x,w5.heap.size=x:=⟨_,rfl⟩
 rw [hxb] at H6 ⊢
 have G6:Hid (w2.grownBy w6 none/\w5.grownBy w6 none/\Blk w6 xb 49 #[.int .i64 xa,.int .i64 xp,.slice xs xn xc]/\E<xb):=⟨grown_trans G4.out.1 (grown_trans G5.out H6.out.2.1),H6.out.2.1,H6.out.1,by rw [<-hxb];exact Nat.lt_of_lt_of_le G4.out.2 G5.out.size⟩
 have HO6:Hid (Blk w6 E 37 #[.slice ua un uc]):=HO.out.grown (grown_trans G5.out H6.out.2.1) (by simp)
 clear hw6 H6 hxb HO
 have k7:=HO6.out.cell 0
 simp at k7
 go_wp2_with fail
 refine (try34z (X:=XB B E) b m q D HH.out.1 (.slice ua un uc) l w6 (hXB.out w6 G6.out.1) (HX.out w6 G6.out.1).1 (HX.out w6 G6.out.1).2.1 (HX.out w6 G6.out.1).2.2.1).mono ?_
 rintro e w7 ⟨yy,ya,yp,yv,ye,yo,rfl,hyo,g7,hy1,hy2⟩
 obtain ⟨ys,yn,yc,rfl,hyn,_,_⟩:=hyo.shape
 have H7:Hid (OutsN w7 w6.heap.size (.slice ys yn yc) yo/\yo.length=yn/\(chk l≠0->yy=none/\yo=[]/\ye=chk l)/\(chk l=0->ye=0/\ya=(doP q D l).abort/\yp=((doP q D l).place:Int)/\yo=(doP q D l).outs/\∃yb my,yy=some ⟨yb,0,none⟩/\w6.heap.size<=yb/\EngB w7 yb q my/\EM (XB B E) w7 my (doP q D l).db)):=⟨hyo,hyn,hy1,hy2⟩
 have G7:Hid (w6.grownBy w7 none):=g7
 clear g7 hyo hyn hy1 hy2 k7
 go_upto_region 5 with fail
 obtain ⟨w8,hw8,H8⟩:=al w7 #[.int .i64 ya,.int .i64 yp,.slice ys yn yc] 49
 rw [hw8]
 obtain ⟨bb,hbb⟩:∃x,w7.heap.size=x:=⟨_,rfl⟩
 rw [hbb] at H8 ⊢
 have G8:Hid (w2.grownBy w8 none/\w7.grownBy w8 none/\Blk w8 bb 49 #[.int .i64 ya,.int .i64 yp,.slice ys yn yc]/\E<bb/\w6.grownBy w8 none):=⟨grown_trans G6.out.1 (grown_trans G7.out H8.out.2.1),H8.out.2.1,H8.out.1,by rw [<-hbb];have:=G6.out.2.2.1.lt;have:=G7.out.size;have:=G6.out.2.2.2;omega,grown_trans G7.out H8.out.2.1⟩
 clear hw8 H8 hbb
 go_wp2_with fail
 refine (len19 (X:=XB B E) b q D HH.out.1.good w8 ⟨m,(HX.out w8 G8.out.1).1,(HX.out w8 G8.out.1).2.1⟩).mono ?_
 rintro e w9 ⟨rfl,g9⟩
 have G9:Hid (w2.grownBy w9 none/\w8.grownBy w9 none):=⟨grown_trans G8.out.1 g9,g9⟩
 have HO9:Hid (Blk w9 E 37 #[.slice ua un uc]):=HO6.out.grown (grown_trans G8.out.2.2.2.2 g9) (by simp)
 clear g9 HO6
 have k7:=HO9.out.cell 0
 simp at k7
 go_wp2_with fail
 refine (do17zy (X:=XB B E) b m q D HH.out.1 (.slice ua un uc) l w9 (hXB.out w9 G9.out.1) (HX.out w9 G9.out.1).1 (HX.out w9 G9.out.1).2.1 (HX.out w9 G9.out.1).2.2.1).mono ?_
 obtain ⟨r,hr⟩:∃r,doP q D l=r:=⟨_,rfl⟩
 have HF:Hid (doP q D l=r/\DoF q D l r):=⟨hr,by rw [<-hr];exact doF HH.out.1 HH.out.2.1⟩
 unfold DoZY
 rw [hr] at H5 H7 ⊢
 clear hr
 rintro e wA ⟨zv,m',Y,rfl,hzo,hYb,hE',hM',gA⟩
 obtain ⟨zs,zn,zc,rfl,hzn,_,_⟩:=hzo.n.shape
 have HA:Hid (OutsY Y wA w9.heap.size (.slice zs zn zc) r.outs/\r.outs.length=zn/\(∀g,Y g->w9.heap.size<=g/\g<wA.heap.size)/\EngB wA b q m'/\EM (XY (XB B E) Y) wA m' r.db/\w9.grownBy wA (some b)):=⟨hzo,hzn,hYb,hE',hM',gA⟩
 clear hzo hzn hYb hE' hM' gA k7
 go_upto_region 7 with fail
 obtain ⟨wB,hwB,H10⟩:=al wA #[.int .i64 r.abort,.int .i64 (r.place:Int),.slice zs zn zc] 49
 rw [hwB]
 obtain ⟨zb,hzb⟩:∃x,wA.heap.size=x:=⟨_,rfl⟩
 rw [hzb] at H10 ⊢
 obtain ⟨o,ho⟩:∃o,wA.heap[b]? = some o:=⟨_,HA.out.2.2.2.1⟩
 have HB:Hid (Fr w wB (fun i=>i=b)/\EngB wB b q m'/\EM (XY (XB B E) Y) wB m' r.db/\OutsY Y wB w9.heap.size (.slice zs zn zc) r.outs/\OutsN wB w4.heap.size (.slice xs xn xc) xo/\OutsN wB w6.heap.size (.slice ys yn yc) yo/\Blk wB cb 37 #[.slice ao n cap]/\Blk wB E 37 #[.slice ua un uc]/\Blk wB xb 49 #[.int .i64 xa,.int .i64 xp,.slice xs xn xc]/\Blk wB bb 49 #[.int .i64 ya,.int .i64 yp,.slice ys yn yc]/\Blk wB zb 49 #[.int .i64 r.abort,.int .i64 (r.place:Int),.slice zs zn zc]/\(chk l=0->∃yb my,yy=some ⟨yb,0,none⟩/\EngB wB yb q my/\EM (XB B E) wB my r.db)):=by
  have gA:=HA.out.2.2.2.2.2
  have g9:=G9.out
  have hb9:=(HX.out w9 g9.1).1
  have gw9:=grown_trans H2.out.2.1 g9.1
  have gB:=H10.out.2.1
  have keep:∀{x t:Nat} {c:Array Value},Blk w9 x t c->t≠64->Blk wB x t c:=fun {x t c} hx ht=>(hx.grown gA (fun e=>by
   simp at e
   subst e
   exact ht (blk_ne hx hb9))).grown gB (by simp)
  refine ⟨?_,Blk.grown HA.out.2.2.2.1 gB (by simp),HA.out.2.2.2.2.1.grown gB,HA.out.1.grown gB,((H5.out.1.grown (grown_trans G6.out.2.1 (grown_trans G8.out.2.2.2.2 g9.2))).off gA hb9 (by decide) (by decide) (by decide)).grown gB,((H7.out.1.grown (grown_trans G8.out.2.1 g9.2)).off gA hb9 (by decide) (by decide) (by decide)).grown gB,keep (HX.out w9 g9.1).2.2.2.2 (by decide),keep HO9.out (by decide),keep (G6.out.2.2.1.grown (grown_trans G8.out.2.2.2.2 g9.2) (by simp)) (by decide),keep (G8.out.2.2.1.grown g9.2 (by simp)) (by decide),H10.out.1,fun hc=>?_⟩
  ·exact ((Fr.of (F:=fun i=>i=b) gw9 (by simp)).trans (Fr.of (F:=fun i=>i=b) gA (fun k hk=>by simp at hk;exact hk.symm)) (fun i hi=>.inl hi)).trans (Fr.of (F:=fun i=>i=b) gB (by simp)) (fun i hi=>.inl hi)
  ·obtain ⟨_,_,_,_,yb,my,e1,e2,e3,e4⟩:=H7.out.2.2.2 hc
   have hbl:=Blk.lt HH.out.2.2.2.2.2.2.1
   have s6:=(grown_trans H2.out.2.1 G6.out.1).size
   have g79:=grown_trans G8.out.2.1 g9.2
   exact ⟨yb,my,e1,(Blk.grown (Blk.grown e3 g79 (by simp)) gA (by simp;omega)).grown gB (by simp),(em_offT (e4.grown g79) gA hb9 (by decide) (by decide) (by decide) (noP_eng q m)).grown gB⟩
 have HE2:Hid (OpsOwn (w2.putObj b o) B (.slice ua un uc) l/\(w2.putObj b o).grownBy wB none/\(w2.putObj b o).heap.size=E):=by
  have hb2:=(HX.out w2 (grown_refl _ _)).1
  have g2:w2.grownBy (w2.putObj b o) (some b):=⟨rfl,rfl,rfl,by simp [World.putObj],fun k _ hne=>World.putObj_heap_other (fun e=>hne (by rw [e]))⟩
  have gA:=HA.out.2.2.2.2.2
  have g29:=G9.out.1
  refine ⟨H2.out.2.2.1.set hb2 (by decide) (by decide) g2,grown_trans (a:=w2.putObj b o) (b:=wA) ⟨gA.os.trans g29.os,gA.tape.trans g29.tape,gA.output.trans g29.output,by have:=g29.size;have:=gA.size;simp [World.putObj];omega,fun k hk _=>?_⟩ H10.out.2.1,by simp [World.putObj];exact H2.out.2.2.2.2.2.1⟩
  have hk2:k<w2.heap.size:=by simpa [World.putObj] using hk
  by_cases e:k=b
  ·subst e
   rw [World.putObj_heap_same hk2,ho]
  ·rw [World.putObj_heap_other e,gA.block k (by have:=g29.size;omega) (by simp;omega)]
   exact g29.block k hk2 (by simp)
 have HYB:Hid ((∀g,Y g->w9.heap.size<=g/\g<zb)/\E<w4.heap.size/\w4.heap.size<=w6.heap.size/\w6.heap.size<=w9.heap.size/\E<xb/\E<bb/\E<zb/\r.outs.length=zn/\cb<B/\w.heap.size=cb/\w.heap.size<=w9.heap.size/\E<w9.heap.size):=by
  have h1:=G4.out.2
  have h2:=G5.out.size
  have h3:=G6.out.2.1.size
  have h4:=G8.out.2.2.2.2.size
  have h5:=G9.out.2.size
  have h6:=HA.out.2.2.2.2.2.size
  have h7:=(grown_trans H2.out.2.1 G9.out.1).size
  have h8:=H2.out.2.2.2
  exact ⟨fun g hg=>by rw [<-hzb];exact HA.out.2.2.1 g hg,h1,by omega,by omega,G6.out.2.2.2,G8.out.2.2.2.1,by omega,HA.out.2.1,by omega,by omega,by omega,by omega⟩
 clear hwB H10 hzb ho HA G9 HO9
 have HG0:Hid (∀(F:Nat->Prop) (W:World),(∀i,F i->i=b\/i=rb)->Fr w W F->w0.grownBy W none/\Ops W (.slice ao n cap) l):=fun F W hF h=>by
  have g:w0.grownBy W none:=(Fr.after HH.out.2.2.2.1 h (fun i _=>by omega)).grown (fun k hk=>by rcases hF k hk with e | e <;> rw [e];exact HH.out.2.2.2.2.1;exact HH.out.2.2.2.2.2.1)
  exact ⟨g,HV.out.grown g⟩
 have k5:=HB.out.2.2.2.2.2.2.1.cell 0
 have k7:=HB.out.2.2.2.2.2.2.2.1.cell 0
 simp at k5 k7
 go_wp2_with fail
 refine (Calls.same19 (.slice ua un uc) (.slice ao n cap) l l wB (HE2.out.1.grown HE2.out.2.1).ops (HG0.out _ wB (fun i h=>.inl h) HB.out.1).2).mono ?_
 rw [decide_eq_true (rfl:l=l)]
 rintro e wC ⟨rfl,gC⟩
 have GC:Hid (wB.grownBy wC none):=gC
 clear gC k5 k7
 have k7:=(HB.out.2.2.2.2.2.2.2.1.grown GC.out (by simp)).cell 0
 simp at k7
 go_wp2_with fail
 refine (Calls.spoil24 (.slice ua un uc) l B (w2.putObj b o) wC HE2.out.1 (grown_trans HE2.out.2.1 GC.out)).mono ?_
 rw [HE2.out.2.2]
 rintro e wD ⟨rfl,fD,sD⟩
 have HD:Hid (Fr w wD (fun i=>i=b)/\EngB wD b q m'/\EM (XY (XB B E) Y) wD m' r.db/\OutsY Y wD w9.heap.size (.slice zs zn zc) r.outs/\OutsN wD w4.heap.size (.slice xs xn xc) xo/\OutsN wD w6.heap.size (.slice ys yn yc) yo/\Blk wD cb 37 #[.slice ao n cap]/\Blk wD xb 49 #[.int .i64 xa,.int .i64 xp,.slice xs xn xc]/\Blk wD bb 49 #[.int .i64 ya,.int .i64 yp,.slice ys yn yc]/\Blk wD zb 49 #[.int .i64 r.abort,.int .i64 (r.place:Int),.slice zs zn zc]/\(chk l=0->∃yb my,yy=some ⟨yb,0,none⟩/\EngB wD yb q my/\EM (XB B E) wD my r.db)/\REng (XB w9.heap.size zb) wD rb q (flatD D)):=by
  have hy:=HYB.out
  have hB:=HB.out
  have gC:=GC.out
  have fr:Fr w wD (fun i=>i=b):=(hB.1.trans (Fr.of (F:=fun i=>i=b) gC (by simp)) (fun i hi=>.inl hi)).trans fD (fun i hi=>.inr (by have:=hi.1;omega))
  have kb:∀{x t:Nat} {c:Array Value},Blk wB x t c->t≠5->t≠67->t≠61->Blk wD x t c:=fun {x t c} hx h5 h67 h61=>sD.blk (hx.grown gC (by simp)) (fun e=>absurd e h5) h67 h61
  have hi:∀N,E<=N->∀g,N<=g->g<wC.heap.size->wD.heap[g]? = wC.heap[g]?:=fun N hN g hg hl=>fD.block g hl (fun e=>by have:=e.2;omega)
  refine ⟨fr,kb hB.2.1 (by decide) (by decide) (by decide),(hB.2.2.1.grown gC).sp (sD.mono fun g h=>.inl h),(hB.2.2.2.1.grown gC).same (hi _ (by omega)),(hB.2.2.2.2.1.grown gC).same (hi _ (by omega)),(hB.2.2.2.2.2.1.grown gC).same (hi _ (by omega)),kb hB.2.2.2.2.2.2.1 (by decide) (by decide) (by decide),kb hB.2.2.2.2.2.2.2.2.1 (by decide) (by decide) (by decide),kb hB.2.2.2.2.2.2.2.2.2.1 (by decide) (by decide) (by decide),kb hB.2.2.2.2.2.2.2.2.2.2.1 (by decide) (by decide) (by decide),fun hc=>?_,reng_but (reng_wide (Z:=XB w9.heap.size zb) HH.out.2.2.2.2.2.2.2.2.1 (fun g hg=>by have:=hg.1;omega)) HH.out.2.2.2.2.2.2.1 (by decide) (by decide) HH.out.2.2.2.2.2.2.2.2.2 (fun g hg hn=>fr.block g hg hn)⟩
  obtain ⟨yb,my,e1,e2,e3⟩:=hB.2.2.2.2.2.2.2.2.2.2.2 hc
  exact ⟨yb,my,e1,kb e2 (by decide) (by decide) (by decide),(e3.grown gC).sp sD⟩
 clear fD sD HB GC HE2 k7
 by_cases hC0:C=0
 rotate_left
 ·have hc0:chk l≠0:=by rw [HC.out];exact hC0
  have hr1:r=⟨C,0,0,[],D⟩:=by rw [<-HF.out.1];unfold doP;rw [if_pos hc0,HC.out]
  obtain ⟨ex1,ex2⟩:=H5.out.2.2.1 hc0
  obtain ⟨ey1,ey2,ey3⟩:=H7.out.2.2.1 hc0
  rw [HC.out] at ex2 ey3
  have hxn:xn=0:=by have:=H5.out.2.1;rw [ex1] at this;exact this.symm
  have hyn:yn=0:=by have:=H7.out.2.1;rw [ey2] at this;exact this.symm
  have hzn:zn=0:=by have:=HYB.out.2.2.2.2.2.2.2.1;rw [hr1] at this;exact this.symm
  have HDD:Hid (Fr w wD (fun i=>i=b)/\EngB wD b q m'/\EM (XY (XB B E) Y) wD m' D/\REng X0 wD rb q (flatD D)):=⟨HD.out.1,HD.out.2.1,by have:=HD.out.2.2.1;rw [hr1] at this;exact this,HD.out.2.2.2.2.2.2.2.2.2.2.2.weak (fun g _ h=>h.elim)⟩
  have c9:=HD.out.2.2.2.2.2.2.2.1.cell 2
  have c12:=HD.out.2.2.2.2.2.2.2.2.1.cell 2
  have c15:=HD.out.2.2.2.2.2.2.2.2.2.1.cell 2
  simp at c9 c12 c15
  rw [hxn] at c9
  rw [hyn] at c12
  rw [hzn] at c15
  have hre:r.err=C:=by rw [hr1]
  have q1:(C != 0)=true:=by simpa using hC0
  have q2:(C==0)=false:=by simpa using hC0
  have q3:(C=0)=False:=eq_false hC0
  subst ex2 ey1 ey3
  rw [hre]
  clear hc0 hr1 ex1 ey2 hxn hyn hzn hre hC0 HD
  go_wp2_with (go_at_call 16;refine (num16 _ _).mono ?_;rintro e ww ⟨rfl,hw⟩;rw [hw];clear hw)
  refine (len19 (X:=XY (XB B E) Y) b q D HH.out.1.good wD ⟨m',HDD.out.2.1,HDD.out.2.2.1⟩).mono ?_
  rintro e wE ⟨rfl,gE⟩
  have GE:Hid (wD.grownBy wE none):=gE
  clear gE c9 c12 c15
  go_wp2_with fail
  go_ret
  exact ⟨rfl,m',D,HH.out.1,HH.out.2.1,Blk.grown HDD.out.2.1 GE.out (by simp),em_anti (HDD.out.2.2.1.grown GE.out) (fun g h=>h.elim),HDD.out.2.2.2.grown GE.out,keepS_fr (HDD.out.1.trans (Fr.of (F:=fun i=>i=b) GE.out (by simp)) (fun i hi=>.inl hi)) (fun i hi=>.inl hi)⟩
 subst hC0
 have hc0:chk l=0:=HC.out
 have hre:r.err=0:=by
  rw [<-HF.out.1]
  unfold doP
  rw [if_neg (by simpa using hc0)]
  cases callD q D [] l with
  | ok x=>rfl
  | error x=>rfl
 obtain ⟨ey1,ey2,ey3,ey4,yb,my,ey5,_⟩:=H7.out.2.2.2 hc0
 obtain ⟨yb',my',ey6,hyE,hyM⟩:=HD.out.2.2.2.2.2.2.2.2.2.2.1 hc0
 rw [ey5] at ey6
 simp at ey6
 subst ey6
 have HL:Hid ((flatD D).length<=1000000/\chk l=0):=⟨by have:=HH.out.1.len;rw [flat_len];omega,hc0⟩
 have HE1:Hid (EngB wD yb q my'/\EM (XB B E) wD my' r.db/\yo=r.outs):=⟨hyE,hyM,ey4⟩
 subst ey1 ey2 ey3 ey5
 rw [hre]
 clear hre hyE hyM ey4 hc0
 go_wp2_with fail
 refine (rcopy10 (X:=XB w9.heap.size zb) rb q (flatD D) wD (fun g hg=>Nat.lt_trans hg.2 HD.out.2.2.2.2.2.2.2.2.2.1.lt) HL.out.1 HD.out.2.2.2.2.2.2.2.2.2.2.2).mono ?_
 rintro e wF ⟨d,rfl,hd,hdR,gF⟩
 have GF:Hid (wD.grownBy wF none/\wD.heap.size<=d/\REng (XB w9.heap.size zb) wF d q (flatD D)/\REng (XB w9.heap.size zb) wF rb q (flatD D)):=⟨gF,hd,hdR,HD.out.2.2.2.2.2.2.2.2.2.2.2.grown gF⟩
 clear gF hd hdR
 have k5:=(HD.out.2.2.2.2.2.2.1.grown GF.out.1 (by simp)).cell 0
 simp at k5
 go_wp2_with fail
 refine (rdo37z (X:=XB w9.heap.size zb) rb q D HH.out.1 (.slice ao n cap) l HL.out.2 wF (fun g hg=>Nat.lt_trans hg.2 (Nat.lt_of_lt_of_le HD.out.2.2.2.2.2.2.2.2.2.1.lt GF.out.1.size)) GF.out.2.2.2 (HG0.out (fun i=>i=b) wF (fun i h=>.inl h) (HD.out.1.trans (Fr.of (F:=fun i=>i=b) GF.out.1 (by simp)) (fun i hi=>.inl hi))).2).mono ?_
 unfold RDoZ
 rw [HF.out.1]
 rintro e wG ⟨u2,rfl,hu2,hRG,gG⟩
 obtain ⟨us,un2,uc2,rfl,_,_,_⟩:=hu2.shape
 have HGG:Hid (OutsN wG wF.heap.size (.slice us un2 uc2) r.outs/\REng (XB w9.heap.size zb) wG rb q (flatD r.db)/\wF.grownBy wG (some rb)):=⟨hu2,hRG,gG⟩
 clear hu2 hRG gG k5
 go_upto_region 14 with fail
 obtain ⟨wH,hwH,H11⟩:=al wG #[.int .i64 r.abort,.int .i64 (r.place:Int),.slice us un2 uc2] 49
 rw [hwH]
 obtain ⟨tb,htb⟩:∃x,wG.heap.size=x:=⟨_,rfl⟩
 rw [htb] at H11 ⊢
 have HK:Hid (Fr w wH (fun i=>i=b\/i=rb)/\EngB wH b q m'/\EM (XY (XB B E) Y) wH m' r.db/\OutsY Y wH w9.heap.size (.slice zs zn zc) r.outs/\OutsN wH w4.heap.size (.slice xs xn xc) xo/\OutsN wH w6.heap.size (.slice ys yn yc) r.outs/\OutsN wH wF.heap.size (.slice us un2 uc2) r.outs/\Blk wH cb 37 #[.slice ao n cap]/\Blk wH xb 49 #[.int .i64 xa,.int .i64 xp,.slice xs xn xc]/\Blk wH bb 49 #[.int .i64 r.abort,.int .i64 (r.place:Int),.slice ys yn yc]/\Blk wH zb 49 #[.int .i64 r.abort,.int .i64 (r.place:Int),.slice zs zn zc]/\Blk wH tb 49 #[.int .i64 r.abort,.int .i64 (r.place:Int),.slice us un2 uc2]/\EngB wH yb q my'/\EM (XB B E) wH my' r.db/\REng (XB w9.heap.size zb) wH rb q (flatD r.db)/\REng (XB w9.heap.size zb) wH d q (flatD D)):=by
  have hd:=HD.out
  have gF:=GF.out.1
  have gG:=HGG.out.2.2
  have gH:=H11.out.2.1
  obtain ⟨ra,rn,rc,_,_,_,HR⟩:=reng_open GF.out.2.2.2
  have hrb:=HR.out.1
  have kb:∀{x t:Nat} {c:Array Value},Blk wD x t c->t≠77->Blk wH x t c:=fun {x t c} hx ht=>((hx.grown gF (by simp)).grown gG (fun e=>by
   simp at e
   subst e
   exact ht (blk_ne (hx.grown gF (by simp)) hrb))).grown gH (by simp)
  have ke:∀{X:Nat->Prop} {mm:Nat} {DD:DB},EM X wD mm DD->EM X wH mm DD:=fun h=>(em_offT (h.grown gF) gG hrb (by decide) (by decide) (by decide) (noP3 _ _ _ _ _)).grown gH
  have ko:∀{N:Nat} {vv:Value} {L:List POut},OutsN wD N vv L->OutsN wH N vv L:=fun h=>((h.grown gF).off gG hrb (by decide) (by decide) (by decide)).grown gH
  have hdl:rb<wD.heap.size:=by
   obtain ⟨_,h,_⟩:=hd.2.2.2.2.2.2.2.2.2.2.2
   exact h.lt
  refine ⟨?_,kb hd.2.1 (by decide),ke hd.2.2.1,((hd.2.2.2.1.grown gF).off gG hrb (by decide) (by decide) (by decide)).grown gH,ko hd.2.2.2.2.1,by rw [<-HE1.out.2.2];exact ko hd.2.2.2.2.2.1,HGG.out.1.grown gH,kb hd.2.2.2.2.2.2.1 (by decide),kb hd.2.2.2.2.2.2.2.1 (by decide),kb hd.2.2.2.2.2.2.2.2.1 (by decide),kb hd.2.2.2.2.2.2.2.2.2.1 (by decide),H11.out.1,kb HE1.out.1 (by decide),ke HE1.out.2.1,HGG.out.2.1.grown gH,?_⟩
  ·exact (((hd.1.mono (G:=fun i=>i=b\/i=rb) (fun i hi=>.inl hi)).trans (Fr.of (F:=fun i=>i=b\/i=rb) gF (by simp)) (fun i hi=>.inl hi)).trans (Fr.of (F:=fun i=>i=b\/i=rb) gG (fun k hk=>by simp at hk;exact .inr hk.symm)) (fun i hi=>.inl hi)).trans (Fr.of (F:=fun i=>i=b\/i=rb) gH (by simp)) (fun i hi=>.inl hi)
  ·obtain ⟨dv,h1,h2⟩:=GF.out.2.2.1
   have hdd:=GF.out.2.1
   exact REng.grown ⟨dv,h1.grown gG (by simp;omega),h2.off gG hrb (by decide) (by decide)⟩ gH
 clear hwH H11 htb HD HGG GF HE1
 have HOA:Hid (∀(W:World) (N:Nat) (vv:Value),OutsN W N vv r.outs->Calls.Outs W vv r.outs):=fun W N vv h=>outs_of h HF.out.2.len HF.out.2.rows
 have HCL:Hid (∀W:World,wH.grownBy W none->(W.cell? ⟨xb,0,none⟩=some (.int .i64 xa)/\W.cell? ⟨xb,1,none⟩=some (.int .i64 xp)/\W.cell? ⟨xb,2,none⟩=some (.slice xs xn xc))/\(W.cell? ⟨bb,0,none⟩=some (.int .i64 r.abort)/\W.cell? ⟨bb,1,none⟩=some (.int .i64 (r.place:Int))/\W.cell? ⟨bb,2,none⟩=some (.slice ys yn yc))/\(W.cell? ⟨zb,0,none⟩=some (.int .i64 r.abort)/\W.cell? ⟨zb,1,none⟩=some (.int .i64 (r.place:Int))/\W.cell? ⟨zb,2,none⟩=some (.slice zs zn zc))/\(W.cell? ⟨tb,0,none⟩=some (.int .i64 r.abort)/\W.cell? ⟨tb,1,none⟩=some (.int .i64 (r.place:Int))/\W.cell? ⟨tb,2,none⟩=some (.slice us un2 uc2))/\W.cell? ⟨cb,0,none⟩=some (.slice ao n cap)):=fun W hW=>by
  have h:=HK.out
  have h1:=h.2.2.2.2.2.2.2.2.1.grown hW (by simp)
  have h2:=h.2.2.2.2.2.2.2.2.2.1.grown hW (by simp)
  have h3:=h.2.2.2.2.2.2.2.2.2.2.1.grown hW (by simp)
  have h4:=h.2.2.2.2.2.2.2.2.2.2.2.1.grown hW (by simp)
  exact ⟨⟨h1.cell 0,h1.cell 1,h1.cell 2⟩,⟨h2.cell 0,h2.cell 1,h2.cell 2⟩,⟨h3.cell 0,h3.cell 1,h3.cell 2⟩,⟨h4.cell 0,h4.cell 1,h4.cell 2⟩,(h.2.2.2.2.2.2.2.1.grown hW (by simp)).cell 0⟩
 obtain ⟨_,⟨p0,p1,p2⟩,_,⟨s0,s1,s2⟩,_⟩:=HCL.out wH (grown_refl _ _)
 go_wp2_with fail
 refine (Calls.alike30 (.slice ys yn yc) (.slice us un2 uc2) ⟨r.abort,(r.place:Int),r.outs⟩ ⟨r.abort,(r.place:Int),r.outs⟩ wH (HOA.out wH _ _ HK.out.2.2.2.2.2.1) (HOA.out wH _ _ HK.out.2.2.2.2.2.2.1)).mono ?_
 rw [decide_eq_true rfl]
 rintro e wI ⟨rfl,gI⟩
 have GI:Hid (wH.grownBy wI none):=gI
 clear gI p0 p1 p2 s0 s1 s2
 obtain ⟨_,_,⟨p0,p1,p2⟩,⟨s0,s1,s2⟩,_⟩:=HCL.out wI GI.out
 go_wp2_with fail
 refine (Calls.alike30 (.slice zs zn zc) (.slice us un2 uc2) ⟨r.abort,(r.place:Int),r.outs⟩ ⟨r.abort,(r.place:Int),r.outs⟩ wI (HOA.out wI _ _ (HK.out.2.2.2.1.n.grown GI.out)) (HOA.out wI _ _ (HK.out.2.2.2.2.2.2.1.grown GI.out))).mono ?_
 rw [decide_eq_true rfl]
 rintro e wJ ⟨rfl,gJ⟩
 have GJ:Hid (wH.grownBy wJ none):=grown_trans GI.out gJ
 clear gJ p0 p1 p2 s0 s1 s2 GI
 go_wp2_with (go_at_call 16;refine (num16 _ _).mono ?_;rintro e ww ⟨rfl,hw⟩;rw [hw];clear hw)
 refine (stands12 (X:=XB B E) (Y:=XB w9.heap.size zb) yb my' rb q r.db HF.out.2.dbq wJ (Blk.grown HK.out.2.2.2.2.2.2.2.2.2.2.2.2.1 GJ.out (by simp)) (HK.out.2.2.2.2.2.2.2.2.2.2.2.2.2.1.grown GJ.out) (HK.out.2.2.2.2.2.2.2.2.2.2.2.2.2.2.1.grown GJ.out)).mono ?_
 rintro e wK ⟨rfl,gK⟩
 have GK:Hid (wH.grownBy wK none):=grown_trans GJ.out gK
 clear gK GJ
 go_wp2_with fail
 refine (len19 (X:=XB B E) yb q r.db HF.out.2.dbq.good wK ⟨my',Blk.grown HK.out.2.2.2.2.2.2.2.2.2.2.2.2.1 GK.out (by simp),HK.out.2.2.2.2.2.2.2.2.2.2.2.2.2.1.grown GK.out⟩).mono ?_
 rintro e wL ⟨rfl,gL⟩
 have GL:Hid (wH.grownBy wL none):=grown_trans GK.out gL
 clear gL GK
 go_wp2_with fail
 refine (len19 (X:=XY (XB B E) Y) b q r.db HF.out.2.dbq.good wL ⟨m',Blk.grown HK.out.2.1 GL.out (by simp),HK.out.2.2.1.grown GL.out⟩).mono ?_
 rintro e wM ⟨rfl,gM⟩
 have GM:Hid (wH.grownBy wM none):=grown_trans GL.out gM
 clear gM GL
 obtain ⟨_,_,_,_,k5⟩:=HCL.out wM GM.out
 go_wp2_with fail
 refine (Calls.reads18 (.slice ao n cap) l wM (HG0.out (fun i=>i=b\/i=rb) wM (fun i h=>h) (HK.out.1.trans (Fr.of (F:=fun i=>i=b\/i=rb) GM.out (by simp)) (fun i hi=>.inl hi))).2).mono ?_
 rintro e wN ⟨rfl,gN⟩
 have GN:Hid (wH.grownBy wN none):=grown_trans GM.out gN
 clear gN GM k5
 obtain ⟨rd,hrd⟩:∃x,rds l=x:=⟨_,rfl⟩
 have HRD:Hid (rds l=rd):=hrd
 rw [hrd]
 clear hrd
 go_upto_if 141 with fail
 go_cut [] (fun wc=>Hid (wH.grownBy wc none))
 case first =>
  obtain ⟨⟨p0,p1,p2⟩,_,_,⟨s0,s1,s2⟩,_⟩:=HCL.out wN GN.out
  cases rd with
  | false =>
   obtain ⟨e1,e2,e3⟩:=H5.out.2.2.2.1 HL.out.2 HRD.out
   have q1:(xe != 2)=false:=by rw [e3];rfl
   have q2:(xa != 0)=false:=by rw [e2];rfl
   have q3:((xn:Int) != 0)=false:=by have:=H5.out.2.1;rw [e1] at this;rw [<-this];rfl
   clear e1 e2 e3
   go_wp2_with (go_at_call 16;refine (num16 _ _).mono ?_;rintro e ww ⟨rfl,hw⟩;rw [hw];clear hw)
   go_meet
   case rel=>exact GN.out
  | true =>
   obtain ⟨e1,e2,e3,e4⟩:=H5.out.2.2.2.2 HL.out.2 HRD.out
   have q1:(xe != 0)=false:=by rw [e1];rfl
   have HE4:Hid (xa=r.abort/\xp=(r.place:Int)/\xo=r.outs):=⟨e2,e3,e4⟩
   clear e1 e2 e3 e4
   go_wp2_with fail
   refine (Calls.alike30 (.slice xs xn xc) (.slice us un2 uc2) ⟨xa,xp,xo⟩ ⟨r.abort,(r.place:Int),r.outs⟩ wN (by have h:=HK.out.2.2.2.2.1.grown GN.out;rw [HE4.out.2.2] at h ⊢;exact HOA.out wN _ _ h) (HOA.out wN _ _ (HK.out.2.2.2.2.2.2.1.grown GN.out))).mono ?_
   rw [decide_eq_true (by rw [HE4.out.1,HE4.out.2.1,HE4.out.2.2])]
   rintro e wO ⟨rfl,gO⟩
   have GO:Hid (wH.grownBy wO none):=grown_trans GN.out gO
   clear gO p0 p1 p2 s0 s1 s2
   go_wp2_with (go_at_call 16;refine (num16 _ _).mono ?_;rintro e ww ⟨rfl,hw⟩;rw [hw];clear hw)
   refine (rsame14 (X:=XB w9.heap.size zb) (Y:=XB w9.heap.size zb) d rb q (flatD D) (flatD r.db) wO HL.out.1 (HK.out.2.2.2.2.2.2.2.2.2.2.2.2.2.2.2.grown GO.out) (HK.out.2.2.2.2.2.2.2.2.2.2.2.2.2.2.1.grown GO.out)).mono ?_
   rw [decide_eq_true (by rw [HF.out.2.same (.inr (.inr HRD.out))])]
   rintro e wP ⟨rfl,gP⟩
   have GP:Hid (wH.grownBy wP none):=grown_trans GO.out gP
   clear gP GO
   go_wp2_with fail
   go_meet
   case rel=>exact GP.out
 case rest =>
 have HZ0:Hid (OutsY Y wc w9.heap.size (.slice zs zn zc) r.outs/\Blk wc zb 49 #[.int .i64 r.abort,.int .i64 (r.place:Int),.slice zs zn zc]/\EngB wc b q m'/\EM (XY (XB B E) Y) wc m' r.db/\REng (XB w9.heap.size zb) wc rb q (flatD r.db)/\Fr w wc (fun i=>i=b\/i=rb)):=by
  have h:=HK.out
  have g:=hcut.out
  exact ⟨h.2.2.2.1.grown g,h.2.2.2.2.2.2.2.2.2.2.1.grown g (by simp),Blk.grown h.2.1 g (by simp),h.2.2.1.grown g,h.2.2.2.2.2.2.2.2.2.2.2.2.2.2.1.grown g,h.1.trans (Fr.of (F:=fun i=>i=b\/i=rb) g (by simp)) (fun i hi=>.inl hi)⟩
 have hzl:Hid (r.outs.length=zn/\zn<=1000000):=⟨HYB.out.2.2.2.2.2.2.2.1,by rw [<-HYB.out.2.2.2.2.2.2.2.1];exact HF.out.2.len⟩
 have hzz:zn<=1000000:=hzl.out.2
 clear HK HCL HOA H5 H7 hcut GN HRD
 go_wp2_with fail
 go_loopw [19] (fun s wr=>∃i:Nat,i<=zn/\s=.int .i64 (i:Int)/\Hid (ZI Y w9.heap.size wc wr)) (fun s _=>zn-(intOf s).toNat)
 case atStart=>exact ⟨0,Nat.zero_le _,rfl,ZI.refl _ _ _⟩
 case round =>
  obtain ⟨i,hi,rfl,HI⟩:=hrel
  have k15:=(HI.out.blk HZ0.out.2.1 (by decide) (by decide) (by decide)).cell 2
  simp at k15
  rcases Nat.lt_or_ge i zn with hlt | hge
  ·have i0:(0:Int)<=(i:Int):=by omega
   have i1:(i:Int)<(zn:Int):=by omega
   obtain ⟨g,vx,vn,vy,rx,rn,ry,rfl,hin,hvn,hrn,hW,hrk⟩:=zouts HZ0.out.1 i (by rw [hzl.out.1];exact hlt)
   have HWZ:Hid (InY Y (.slice vx vn vy)/\(∀W,ZI Y w9.heap.size wc W->W.cell? ⟨g,i*3+1,none⟩=some (.slice vx vn vy)/\W.cell? ⟨g,i*3+2,none⟩=some (.slice rx rn ry)/\∃M:Bs,M.length=vn/\Disk.Own W w9.heap.size (.slice vx vn vy) M)/\∀k,k<rn->∃rg kx kn ky jx jn jy,rx=some ⟨rg,0,none⟩/\InY Y (.slice kx kn ky)/\kn<=9223372036854775807/\∀W,ZI Y w9.heap.size wc W->W.cell? ⟨rg,k*2,none⟩=some (.slice kx kn ky)/\W.cell? ⟨rg,k*2+1,none⟩=some (.slice jx jn jy)/\∃M:Bs,M.length=kn/\Disk.Own W w9.heap.size (.slice kx kn ky) M):=⟨hin,hW,hrk⟩
   clear hin hW hrk
   go_wp2_with fail
   go_loopw [20] (fun s wr=>∃k:Nat,k<=vn/\s=.int .i64 (k:Int)/\Hid (ZI Y w9.heap.size wc wr)) (fun s _=>vn-(intOf s).toNat)
   case atStart=>exact ⟨0,Nat.zero_le _,rfl,HI.out⟩
   case round =>
    obtain ⟨k,hk,rfl,HI2⟩:=hrel
    clear HI k15
    have k15:=(HI2.out.blk HZ0.out.2.1 (by decide) (by decide) (by decide)).cell 2
    simp at k15
    obtain ⟨d1,_,M,hM,hO⟩:=HWZ.out.2.1 _ HI2.out
    rcases Nat.lt_or_ge k vn with hlt2 | hge2
    ·have j0:(0:Int)<=(k:Int):=by omega
     have j1:(k:Int)<(vn:Int):=by omega
     obtain ⟨h,c0,cc,rfl,e1,e2,hbk,hnp⟩:=own_at hO hM hlt2
     have HI3:Hid (ZI Y w9.heap.size wc (wr.setCell ⟨h,k,none⟩ (.int .u8 90))):=HI2.out.byte hbk (HWZ.out.1 h rfl) e1 hnp
     clear hbk hnp hO hM
     go_wp2_with fail
     go_roundw
     case rel=>exact ⟨k+1,by omega,by go_num,HI3.out⟩
     case measure=>simp [intOf];omega
    ·have j1:¬((k:Int)<(vn:Int)):=by omega
     clear hO hM
     go_wp2_with fail
     go_loopw [21] (fun s wr=>∃k2:Nat,k2<=rn/\s=.int .i64 (k2:Int)/\Hid (ZI Y w9.heap.size wc wr)) (fun s _=>rn-(intOf s).toNat)
     case atStart=>exact ⟨0,Nat.zero_le _,rfl,HI2.out⟩
     case round =>
      obtain ⟨k2,hk2,rfl,HI3⟩:=hrel
      clear HI2 k15 d1
      have k15:=(HI3.out.blk HZ0.out.2.1 (by decide) (by decide) (by decide)).cell 2
      simp at k15
      obtain ⟨_,d2,_⟩:=HWZ.out.2.1 _ HI3.out
      rcases Nat.lt_or_ge k2 rn with hlt3 | hge3
      ·have l0:(0:Int)<=(k2:Int):=by omega
       have l1:(k2:Int)<(rn:Int):=by omega
       obtain ⟨rg,kx,kn,ky,jx,jn,jy,rfl,hin2,hkn,hW2⟩:=HWZ.out.2.2 k2 hlt3
       obtain ⟨f0,f1,_⟩:=hW2 _ HI3.out
       have HW2:Hid (InY Y (.slice kx kn ky)/\∀W,ZI Y w9.heap.size wc W->∃M:Bs,M.length=kn/\Disk.Own W w9.heap.size (.slice kx kn ky) M):=⟨hin2,fun W hW=>(hW2 W hW).2.2⟩
       clear hin2 hW2
       go_upto_region 32 with fail
       obtain ⟨wR,hwR,HR⟩:=al wr #[.slice kx kn ky,.slice jx jn jy] 86
       rw [hwR]
       obtain ⟨rk,hrk⟩:∃x,wr.heap.size=x:=⟨_,rfl⟩
       rw [hrk] at HR ⊢
       have HI4:Hid (ZI Y w9.heap.size wc wR/\Blk wR rk 86 #[.slice kx kn ky,.slice jx jn jy]):=⟨HI3.out.grown HR.out.2.1,HR.out.1⟩
       clear hwR hrk HR f0 f1 d2 k15
       go_wp2_with fail
       go_loopw [23] (fun s wr=>∃j:Nat,j<=kn/\s=.int .i64 (j:Int)/\Hid (ZI Y w9.heap.size wc wr/\Blk wr rk 86 #[.slice kx kn ky,.slice jx jn jy])) (fun s _=>kn-(intOf s).toNat)
       case atStart=>exact ⟨0,Nat.zero_le _,rfl,HI4.out⟩
       case round =>
        obtain ⟨j,hj,rfl,HJ⟩:=hrel
        clear HI4
        have r0:=HJ.out.2.cell 0
        simp at r0
        obtain ⟨M,hM,hO⟩:=HW2.out.2 _ HJ.out.1
        rcases Nat.lt_or_ge j kn with hlt4 | hge4
        ·have n0:(0:Int)<=(j:Int):=by omega
         have n1:(j:Int)<(kn:Int):=by omega
         obtain ⟨h,c0,cc,rfl,e1,e2,hbk,hnp⟩:=own_at hO hM hlt4
         have HJ2:Hid (ZI Y w9.heap.size wc (wr.setCell ⟨h,j,none⟩ (.int .u8 90))/\Blk (wr.setCell ⟨h,j,none⟩ (.int .u8 90)) rk 86 #[.slice (some ⟨h,0,none⟩) kn ky,.slice jx jn jy]):=⟨HJ.out.1.byte hbk (HW2.out.1 h rfl) e1 hnp,HJ.out.2.grown (grown_setCell _ _ _ _) (fun e=>by
          simp at e
          subst e
          exact absurd (blk_ne hbk HJ.out.2) (by decide))⟩
         clear hbk hnp hO hM
         go_wp2_with fail
         go_roundw
         case rel=>exact ⟨j+1,by omega,by go_num,HJ2.out⟩
         case measure=>simp [intOf];omega
        ·have n1:¬((j:Int)<(kn:Int)):=by omega
         clear hO hM
         go_wp2_with fail
         go_roundw
         case rel=>exact ⟨k2+1,by omega,by go_num,HJ.out.1⟩
         case measure=>simp [intOf];omega
      ·have l1:¬((k2:Int)<(rn:Int)):=by omega
       go_wp2_with fail
       go_roundw
       case rel=>exact ⟨i+1,by omega,by go_num,HI3.out⟩
       case measure=>simp [intOf];omega
  ·have i1:¬((i:Int)<(zn:Int)):=by omega
   go_wp2_with fail
   go_ret
   refine ⟨rfl,m',r.db,HF.out.2.dbq,HF.out.2.tab,HI.out.blk HZ0.out.2.2.1 (by decide) (by decide) (by decide),em_anti (HZ0.out.2.2.2.1.sp (HI.out.1.mono fun g h=>.inr h)) (fun g h=>h.elim),(reng_zi HZ0.out.2.2.2.2.1 HI.out (fun g h=>HYB.out.1 g h)).weak (fun g _ h=>h.elim),keepS_fr (HZ0.out.2.2.2.2.2.trans HI.out.2.1 (fun i hi=>.inr ?_)) (fun i hi=>hi)⟩
   have h1:=(HYB.out.1 i hi).1
   have h2:=HYB.out.2.2.2.2.2.2.2.2.2.2.1
   omega
end Go.Proofs.YtakmlhhapegpoaaGreat
namespace Go.Proofs.YtakmlhhapegpoaaGreat
open Go.RowKit Disk Table
open Names (Str cmpL keyB valueB tabB)
open _root_.Go.Proofs.YtakmlhhapegpoaaGreat.Calls (POp POut PRes)
theorem newD_good:∀(N:Nat) (l:List NRow),l.length<=N->∀(D:DB) (last:Bs) (D':DB),GoodD D->lenD D+l.length<=1000000->newD D last l=some D'->GoodD D'
 | _,[],_,D,last,D',hD,_,h=>by
  unfold newD at h
  simp at h
  rw [<-h]
  exact hD
 | 0,r :: l,hl,_,_,_,_,_,_=>by simp at hl
 | N+1,r :: l,hl,D,last,D',hD,hz,h=>by
  unfold newD at h
  split at h
  ·rename_i hc
   have h1:=front_pos r l
   have h2:=front_le (r :: l)
   have h3:(frontR (r :: l)).length=(front (r :: l)).length:=by unfold frontR;simp
   have h4:=len_stand D r.1 (frontR (r :: l))
   refine newD_good N _ (by rw [List.length_drop];simp at hl ⊢;omega) _ _ _ (hD.stand r.1 hc.1 (by omega)) ?_ h
   rw [List.length_drop]
   omega
  ·cases h
open Classical in
noncomputable def wrongC (q:Int × Int) (l:List NRow):Int:=if mayQ q=true/\OkL l then (if q.1<(l.length:Int)\/q.2<(sizeF l:Int) then 7 else 0) else 2
theorem wrongC_ok {q:Int × Int}{l:List NRow}(h:NewOk q l):wrongC q l=0:=by
 unfold wrongC
 rw [if_pos ⟨h.1,h.2.1⟩,if_neg h.2.2]
theorem wrongC_no {q:Int × Int}{l:List NRow}(h:¬NewOk q l):wrongC q l≠0:=by
 unfold wrongC
 split
 ·rename_i h1
  split
  ·decide
  ·rename_i h2
   exact absurd ⟨h1.1,h1.2,h2⟩ h
 ·decide
theorem wrong28z (q:Int × Int)(v:Value)(l:List NRow)(w:World)(hz:l.length<=1000000)(hT:∀r ∈ l,r.1.length<=9223372036854775807)(hv:Nms w v l):Calls Tryz.prog 28 #[quoV q,v] w fun e w'=>e=.returned (.int .i64 (wrongC q l))/\w.grownBy w' none:=by
 refine (wrong28 q v l w hz hT hv).mono ?_
 rintro e w' ⟨g,⟨h,rfl⟩ | ⟨h1,h2,h3,rfl⟩ | ⟨h1,h2,h3,rfl⟩⟩
 ·refine ⟨?_,g⟩
  unfold wrongC
  rw [if_neg]
  rintro ⟨a,b⟩
  rcases h with h | h
  ·rw [a] at h;cases h
  ·exact h b
 ·refine ⟨?_,g⟩
  unfold wrongC
  rw [if_pos ⟨h1,h2⟩,if_pos h3]
 ·exact ⟨by rw [wrongC_ok ⟨h1,h2,h3⟩],g⟩
theorem above_ok {q:Int × Int}{D:DB}:aboveD q D=0<->¬(q.1<((flatD D).length:Int)\/q.2<(sizeF (flatD D):Int)):=by
 rw [flat_len,size_flat]
 unfold aboveD
 constructor
 ·intro h
  split at h
  ·cases h
  ·split at h
   ·cases h
   ·omega
 ·intro h
  rw [if_neg (by omega),if_neg (by omega)]
def NewZ (X:Nat->Prop)(q:Int × Int)(l:List NRow)(w:World)(e:Ending)(w':World):Prop :=
 ∃ep,e=.returned (.tuple #[.pointer ep,.int .i64 (wrongC q l)])/\w.grownBy w' none/\(¬NewOk q l->ep=none)/\(NewOk q l->∃b m D,ep=some ⟨b,0,none⟩/\w.heap.size<=b/\DbQ q D/\TabD D/\flatD D=l/\EngB w' b q m/\EM X w' m D)
theorem new15z {X:Nat->Prop}(q:Int × Int)(v:Value)(l:List NRow)(hz:l.length<=1000000)(hT:∀r ∈ l,r.1.length<=9223372036854775807)(w:World)(hX:∀g,X g->g<w.heap.size)(hv:Nms w v l):Calls Tryz.prog 15 #[quoV q,v] w (NewZ X q l w):=by
 refine (new15g q v l hz hT w hX hv).mono ?_
 have key:∀D,newD [] [] l=some D->GoodD D/\TabD D/\flatD D=l/\OkL l:=fun D h=>by
  have hg:=newD_good l.length l (Nat.le_refl _) [] [] D good_nil (by simpa [lenD] using hz) h
  have ht:=newD_tab l.length l (Nat.le_refl _) [] [] D (fun _ h=>by simp at h) h
  have:=(new_ok hz).1 D h hg ht
  exact ⟨hg,ht,this⟩
 rintro e w' ⟨g,⟨hm,D,b,hn,hG,ha,rfl,hb,m,h1,h2⟩ | ⟨hm,D,hn,ha,rfl⟩ | ⟨h,rfl⟩⟩
 ·obtain ⟨k1,k2,k3,k4⟩:=key D hn
  have hok:NewOk q l:=⟨hm,k4,by rw [<-k3];exact above_ok.1 ha⟩
  exact ⟨_,by rw [wrongC_ok hok];rfl,g,fun h=>absurd hok h,fun _=>⟨b,m,D,rfl,hb,⟨hG,hm,ha⟩,k2,k3,h1,h2⟩⟩
 ·obtain ⟨k1,k2,k3,k4⟩:=key D hn
  have hbig:q.1<(l.length:Int)\/q.2<(sizeF l:Int):=by
   rw [<-k3]
   exact Classical.byContradiction fun h=>ha (above_ok.2 h)
  refine ⟨none,?_,g,fun _=>rfl,fun h=>absurd hbig h.2.2⟩
  unfold wrongC
  rw [if_pos ⟨hm,k4⟩,if_pos hbig]
 ·have hno:¬(mayQ q=true/\OkL l):=by
   rintro ⟨a,b⟩
   rcases h with h | h
   ·rw [a] at h;cases h
   ·exact (new_ok hz).2 h b
  refine ⟨none,?_,g,fun _=>rfl,fun h=>absurd ⟨h.1,h.2.1⟩ hno⟩
  unfold wrongC
  rw [if_neg hno]
def SA (Y:Nat->Prop)(B g n i:Nat)(W:World):Prop:=∃cur,Blk W g 61 cur/\(∀j,i<=j->j<n->∃kx kn ky,cur[j*3+1]? = some (.slice kx kn ky)/\InY Y (.slice kx kn ky)/\∃M:Bs,M.length=kn/\Disk.Own W B (.slice kx kn ky) M)/\∀p,p<n*3->∃u,cur[p]? = some u/\noP u
theorem SA.grown {Y:Nat->Prop}{B g n i:Nat}{W W':World}(h:SA Y B g n i W)(hg:W.grownBy W' none):SA Y B g n i W':=by
 obtain ⟨cur,h1,h2,h3⟩:=h
 refine ⟨cur,h1.grown hg (by simp),fun j a b=>?_,h3⟩
 obtain ⟨kx,kn,ky,e1,e2,M,e3,e4⟩:=h2 j a b
 exact ⟨kx,kn,ky,e1,e2,M,e3,e4.grown hg⟩
theorem SA.byte {Y:Nat->Prop}{B g n i h j:Nat}{W:World}{cc:Array Value}(hs:SA Y B g n i W)(hb:Blk W h 5 cc):SA Y B g n i (W.setCell ⟨h,j,none⟩ (.int .u8 90)):=by
 obtain ⟨cur,h1,h2,h3⟩:=hs
 refine ⟨cur,h1.grown (grown_setCell _ _ _ _) (fun e=>?_),fun j' a b=>?_,h3⟩
 ·simp at e
  subst e
  exact absurd (blk_ne hb h1) (by decide)
 ·obtain ⟨kx,kn,ky,e1,e2,M,e3,e4⟩:=h2 j' a b
  obtain ⟨M',m1,m2⟩:=Calls.own_byte e4 h j
  exact ⟨kx,kn,ky,e1,e2,M',m1.trans e3,m2⟩
theorem SA.put {Y:Nat->Prop}{B g n i p:Nat}{W:World}{v:Value}(hs:SA Y B g n (i+1) W)(hp:p<(i+1)*3)(_hpn:p<n*3)(hv:noP v):SA Y B g n (i+1) (W.setCell ⟨g,p,none⟩ v):=by
 obtain ⟨cur,h1,h2,h3⟩:=hs
 refine ⟨_,h1.store p v,fun j a b=>?_,fun r hr=>?_⟩
 ·obtain ⟨kx,kn,ky,e1,e2,M,e3,e4⟩:=h2 j a b
  refine ⟨kx,kn,ky,?_,e2,M,e3,own_off e4 (grown_setCell W g p v) h1 (by decide)⟩
  rw [Array.getElem?_setIfInBounds,if_neg (by have:(i+1)*3<=j*3:=Nat.mul_le_mul_right 3 a;omega)]
  exact e1
 ·rw [Array.getElem?_setIfInBounds]
  obtain ⟨u,hu,hn⟩:=h3 r hr
  split
  ·rename_i e
   subst e
   have:=(Array.getElem?_eq_some_iff.1 hu).1
   exact ⟨v,by rw [if_pos this],hv⟩
  ·exact ⟨u,hu,hn⟩
theorem SA.next {Y:Nat->Prop}{B g n i:Nat}{W:World}(hs:SA Y B g n i W):SA Y B g n (i+1) W:=by
 obtain ⟨cur,h1,h2,h3⟩:=hs
 exact ⟨cur,h1,fun j a b=>h2 j (by omega) b,h3⟩
theorem SA.old {Y:Nat->Prop}{B g n i p:Nat}{W:World}(hs:SA Y B g n i W)(hp:p<n*3):∃u,W.cell? ⟨g,p,none⟩=some u/\noP u/\W.frozen? ⟨g,p,none⟩=false:=by
 obtain ⟨cur,h1,h2,h3⟩:=hs
 obtain ⟨u,hu,hn⟩:=h3 p hp
 exact ⟨u,by rw [h1.cell];exact hu,hn,h1.free p⟩
theorem ZI.arr {Y:Nat->Prop}{B g n i p:Nat}{Wb W:World}{v:Value}(h:ZI Y B Wb W)(hs:SA Y B g n i W)(hY:Y g)(hp:p<n*3):ZI Y B Wb (W.setCell ⟨g,p,none⟩ v):=by
 obtain ⟨u,hu,hn,_⟩:=hs.old hp
 obtain ⟨cur,h1,_⟩:=hs
 exact ⟨h.1.trans (sp5_store h1 (.inr (.inr rfl)) hu hn),h.2.1.trans (Fr.of (F:=Y) (grown_setCell W g p _) (fun k hk=>by simp at hk;rw [<-hk];exact hY)) (fun i hi=>.inl hi),fun v L ho=>by
  obtain ⟨M,m1,m2⟩:=h.2.2 v L ho
  exact ⟨M,m1,own_off m2 (grown_setCell W g p _) h1 (by decide)⟩⟩
theorem sa_start {Y:Nat->Prop}{B n cu:Nat}{u:Option Addr}{W:World}{ks:List (Bs × Value × Value)}{l:List NRow}(h:NmsO W B (.slice u n cu) ks)(hk:NOwn W B ks l)(hn:ks.length=n)(h0:0<n)(hY:∀g,B<=g->g<W.heap.size->Y g):∃g,u=some ⟨g,0,none⟩/\Y g/\SA Y B g n 0 W:=by
 rcases h.2 with ⟨e2,e3⟩ | ⟨g,cap,cur,e2,hb,hg,hnc,hcm,hcs,htake⟩
 ·omega
 ·simp at e2
  obtain ⟨rfl,_,rfl⟩:=e2
  have hblk:Blk W g 61 cur:=hg
  have cell:∀(j:Nat) (u:Value),j<ks.length*3->(ncells ks)[j]? = some u->cur[j]? = some u:=fun j u hj hu=>by
   rw [<-htake,List.getElem?_take_of_lt hj] at hu
   simpa using hu
  refine ⟨g,rfl,hY g hb hblk.lt,cur,hblk,fun j _ hj=>?_,fun p hp=>?_⟩
  ·have hjk:j<ks.length:=by omega
   have hjl:j<l.length:=by rw [<-hk.1];exact hjk
   have ho:=hk.2 j hjk hjl
   obtain ⟨kx,ky,ek⟩:=ho.2.1.seg.shape
   have c1:=cell (j*3+1) _ (by omega) (ncells_at ks j hjk).2.1
   rw [ek] at c1
   refine ⟨kx,_,ky,c1,fun x hx=>?_,l[j].2.1,rfl,by rw [<-ek];exact ho.2.1⟩
   rw [<-ek] at hx
   exact hY x (ho.2.1.lt x hx).1 (ho.2.1.lt x hx).2
  ·obtain ⟨j,r,hr,rfl⟩:∃j r,r<3/\p=j*3+r:=⟨p / 3,p % 3,Nat.mod_lt _ (by decide),by omega⟩
   have hjk:j<ks.length:=by omega
   have ho:=hk.2 j hjk (by rw [<-hk.1];exact hjk)
   have hat:=ncells_at ks j hjk
   match r,hr with
   | 0,_=>exact ⟨_,cell _ _ (by omega) hat.1,fun q=>by simp [Str,ptr]⟩
   | 1,_=>exact ⟨_,cell _ _ (by omega) hat.2.1,own_noP ho.2.1⟩
   | 2,_=>exact ⟨_,cell _ _ (by omega) hat.2.2,own_noP ho.2.2⟩
def XB' (B E:Nat):Nat->Prop:=fun i=>B<=i/\i<E
def BeginE (q:Int × Int)(l:List NRow)(w:World)(e:Ending)(w':World):Prop :=
 w.grownBy w' none/\((¬NewOk q l/\e=.returned (.tuple #[.pointer none,.pointer none,.bool true]))\/(NewOk q l/\∃b d m D,e=.returned (.tuple #[.pointer (some ⟨b,0,none⟩),.pointer (some ⟨d,0,none⟩),.bool true])/\w.heap.size<=b/\w.heap.size<=d/\DbQ q D/\TabD D/\flatD D=l/\EngB w' b q m/\EM X0 w' m D/\REng X0 w' d q l))
theorem eqNil28 (a:Option Addr)(w:World):(binOp .eql 28 (.pointer a) (.pointer none)).run Tryz.prog w=.ok (.bool a.isNone) w:=by
 cases a <;> simp [go_sem]
theorem eqGuardP (t:TypeId)(x y:Operand)(v:Value):eqGuard .eql t x y v (.pointer none)=pure ():=by cases v <;> rfl
def RNewZ (q:Int × Int)(l:List NRow)(w:World)(e:Ending)(w':World):Prop:=∃dp,e=.returned (.pointer dp)/\w.grownBy w' none/\(¬NewOk q l->dp=none)/\(NewOk q l->∃d,dp=some ⟨d,0,none⟩/\w.heap.size<=d/\REng X0 w' d q l)
theorem rnew30z (q:Int × Int)(v:Value)(l:List NRow)(w:World)(hz:l.length<=1000000)(hT:∀r ∈ l,r.1.length<=9223372036854775807)(hv:Nms w v l):Calls Tryz.prog 30 #[quoV q,v] w (RNewZ q l w):=by
 refine (rnew30 (X:=X0) q v l w (x0 w) hz hT hv).mono ?_
 rintro e w' ⟨g,⟨h,d,rfl,h1,h2⟩ | ⟨h,rfl⟩⟩
 ·exact ⟨_,rfl,g,fun h'=>absurd h h',fun _=>⟨d,rfl,h1,h2⟩⟩
 ·exact ⟨_,rfl,g,fun _=>rfl,fun h'=>absurd h' h⟩
theorem begin8 (q:Int × Int)(v:Value)(l:List NRow)(w:World)(hz:l.length<=1000)(hT:∀r ∈ l,r.1.length<=9223372036854775807)(hR:∀r ∈ l,r.2.1.length<=140737488355328/\r.2.2.length<=140737488355328)(hv:Nms w v l):Calls Tryz.prog 8 #[quoV q,v] w (BeginE q l w):=by
 obtain ⟨a1,n1,c1,rfl,hn1,hc1,hc1',HV⟩:=nms_open hv
 have HN:Hid (l.length=n1/\(∀r ∈ l,r.1.length<=9223372036854775807)/\∀r ∈ l,r.2.1.length<=140737488355328/\r.2.2.length<=140737488355328):=⟨hn1,hT,hR⟩
 have hz1:n1<=1000:=by omega
 obtain ⟨C,hC⟩:∃C,wrongC q l=C:=⟨_,rfl⟩
 have HC:Hid (wrongC q l=C):=hC
 clear hv hn1 hT hz hR hC
 unfold quoV
 go_enter Tryz.func8,Tryz.ntmps8
 go_upto_region 2 with fail
 obtain ⟨w1,hw1,H1⟩:=al w #[.int .i64 q.1,.int .i64 q.2] 23
 rw [hw1]
 obtain ⟨qb,hqb⟩:∃b,w.heap.size=b:=⟨_,rfl⟩
 rw [hqb] at H1 ⊢
 obtain ⟨B,hB⟩:∃b,w1.heap.size=b:=⟨_,rfl⟩
 have HQ:Hid (Blk w1 qb 23 #[.int .i64 q.1,.int .i64 q.2]/\w.grownBy w1 none/\w.heap.size=qb/\B=qb+1/\w1.heap.size=B):=⟨H1.out.1,H1.out.2.1,hqb,by have:=H1.out.2.2;omega,hB⟩
 clear hw1 hqb hB H1
 go_wp2_with fail
 go_loopw [7,8] (fun o t wr=>∃(k:Nat) (u:Option Addr) (cu:Nat) (ks:List (Bs × Value × Value)),o=.slice u k cu/\t=.int .i64 (k:Int)/\k<=n1/\Hid (NmsO wr B (.slice u k cu) ks/\NOwn wr B ks (l.take k)/\w1.grownBy wr none)) (fun _ t _=>n1-(intOf t).toNat)
 case atStart=>exact ⟨0,none,0,[],rfl,rfl,Nat.zero_le _,nmsO_nil _ _,nown_nil _ _,grown_refl _ _⟩
 case round =>
  obtain ⟨k,u,cu,ks,rfl,rfl,hk,HR⟩:=hrel
  have hkk:ks.length=k:=by rw [HR.out.2.1.1];simp;have:=HN.out.1;omega
  rcases Nat.lt_or_ge k n1 with hlt | hge
  ·have hkl:k<l.length:=by rw [HN.out.1];exact hlt
   obtain ⟨b,off,xv,yv,rfl,e0,e1,e2,s1,s2⟩:=nms_at HV.out k hkl
   obtain ⟨xa,xc,ex⟩:=s1.shape
   obtain ⟨ya,yc,ey⟩:=s2.shape
   have hok:=HN.out.2.2 l[k] (List.getElem_mem hkl)
   have htk:l.take (k+1)=l.take k ++ [l[k]]:=List.take_succ_eq_append_getElem hkl
   obtain ⟨fr,hfr⟩:∃f,l[k]=f:=⟨_,rfl⟩
   rw [hfr] at e0 s1 s2 ex ey hok htk
   obtain ⟨ft,fk⟩:=fr
   simp only at e0 s1 s2 ex ey hok
   obtain ⟨l1,hl1⟩:∃l,fk.1.length=l:=⟨_,rfl⟩
   obtain ⟨l2,hl2⟩:∃l,fk.2.length=l:=⟨_,rfl⟩
   rw [hl1] at ex
   rw [hl2] at ey
   subst ex ey
   have i0:(0:Int)<=(k:Int):=by omega
   have i1:(k:Int)<(n1:Int):=by omega
   have HT:Hid (Seg w (.slice xa l1 xc) fk.1/\Seg w (.slice ya l2 yc) fk.2/\l.take (k+1)=l.take k ++ [(ft,fk)]/\fk.1.length=l1/\fk.2.length=l2/\fk.1.length<=140737488355328/\fk.2.length<=140737488355328/\ks.length=k):=⟨s1,s2,htk,hl1,hl2,hok.1,hok.2,hkk⟩
   have HCC:Hid (∀y:World,w.grownBy y none->y.cell? ⟨b,off+k*3,none⟩=some (.string ⟨ft.toArray⟩)/\y.cell? ⟨b,off+k*3+1,none⟩=some (.slice xa l1 xc)/\y.cell? ⟨b,off+k*3+2,none⟩=some (.slice ya l2 yc)):=fun y hy=>⟨hy.cell e0 (by simp),hy.cell e1 (by simp),hy.cell e2 (by simp)⟩
   clear e0 e1 e2 s1 s2 hl1 hl2 hfr hok htk hkk
   go_wp2_with fail
   refine wp_region_noPanic ?_
   refine wp_region_hold 1000 (fun y=>w.grownBy y none) (by kernel_rfl) ?_
   have G0:Hid (w.grownBy wr.drew none/\wr.grownBy wr.drew none):=⟨grown_trans HQ.out.2.1 (grown_trans HR.out.2.2 (grown_drew _ _)),grown_drew _ _⟩
   generalize wr.drew=wd at G0 ⊢
   have J:Idx [0,1,2,3,4,5,6,7,8,9,10,12,13,14,15,16]:=trivial
   iterate 16 (refine tK J (G0.out.1) rfl rfl (fun wk hk=>by obtain ⟨m0,m1,m2⟩:=HCC.out wk hk;go_simp;try rfl) ?_;replace J:=J.tl;try simp only [pN])
   clear J
   refine wpHold_one (i:=11) rfl (by kernel_rfl) (by rfl) (fun K hK=>?_)
   refine app22_wp wd _ _ rfl B (.slice none 0 0) [] (.slice xa l1 xc) fk.1 rfl rfl (Own.nil _ _) (HT.out.1.grown G0.out.1) (by have:=HT.out.2.2.2.2.2.1;simp;omega) (by have:=HQ.out.2.2.2.2;have:=HR.out.2.2.size;have:=G0.out.2.size;omega) ?_
   intro p w3a hu gg _
   rw [List.nil_append] at hu
   obtain ⟨u1,u2,eu⟩:=hu.seg.shape
   rw [HT.out.2.2.2.1] at eu
   subst eu
   have G1:Hid (w.grownBy w3a none/\wr.grownBy w3a none/\Disk.Own w3a B (.slice u1 l1 u2) fk.1):=⟨grown_trans G0.out.1 gg,grown_trans G0.out.2 gg,hu⟩
   clear hu gg
   refine hK.out _ _ (fun _=>G1.out.1) ?_
   clear hK K
   try simp only [pN]
   refine wpHold_one (i:=17) rfl (by kernel_rfl) (by rfl) (fun K hK=>?_)
   refine app22_wp w3a _ _ rfl B (.slice none 0 0) [] (.slice ya l2 yc) fk.2 rfl rfl (Own.nil _ _) (HT.out.2.1.grown G1.out.1) (by have:=HT.out.2.2.2.2.2.2.1;simp;omega) (by have:=HQ.out.2.2.2.2;have:=HR.out.2.2.size;have:=G1.out.2.1.size;omega) ?_
   intro p w3b hu gg _
   rw [List.nil_append] at hu
   obtain ⟨u3,u4,eu⟩:=hu.seg.shape
   rw [HT.out.2.2.2.2.1] at eu
   subst eu
   have G2:Hid (w.grownBy w3b none/\wr.grownBy w3b none/\Disk.Own w3b B (.slice u1 l1 u2) fk.1/\Disk.Own w3b B (.slice u3 l2 u4) fk.2):=⟨grown_trans G1.out.1 gg,grown_trans G1.out.2.1 gg,G1.out.2.2.grown gg,hu⟩
   clear hu gg
   refine hK.out _ _ (fun _=>G2.out.1) ?_
   clear hK K
   try simp only [pN]
   have J:Idx [18]:=trivial
   iterate 1 (refine tK J (G2.out.1) rfl rfl (fun wk hk=>by obtain ⟨m0,m1,m2⟩:=HCC.out wk hk;go_simp;try rfl) ?_;replace J:=J.tl;try simp only [pN])
   clear J
   refine wpHold_one (i:=19) rfl (by kernel_rfl) (by rfl) (fun K hK=>?_)
   go_wp2_with fail
   obtain ⟨w3c,hw3c,H3c⟩:=al w3b #[.string ⟨ft.toArray⟩,.slice u1 l1 u2,.slice u3 l2 u4] 61
   rw [hw3c]
   clear hw3c
   have G3:Hid (w.grownBy w3c none/\wr.grownBy w3c none/\Disk.Own w3c B (.slice u1 l1 u2) fk.1/\Disk.Own w3c B (.slice u3 l2 u4) fk.2):=⟨grown_trans G2.out.1 H3c.out.2.1,grown_trans G2.out.2.1 H3c.out.2.1,G2.out.2.2.1.grown H3c.out.2.1,G2.out.2.2.2.grown H3c.out.2.1⟩
   refine hK.out _ _ (fun _=>G3.out.1) ?_
   clear hK K
   try simp only [pN]
   refine wpHold_one (i:=20) rfl (by kernel_rfl) (by rfl) (fun K hK=>?_)
   refine appM_wp w3c _ _ rfl B (.slice u k cu) ks ft u1 l1 u2 u3 l2 u4 w3b.heap.size rfl rfl H3c.out.1 (HR.out.1.grown G3.out.2.1) (by have:=HT.out.2.2.2.2.2.2.2;omega) (by have:=HQ.out.2.2.2.2;have:=HR.out.2.2.size;have:=G3.out.2.1.size;omega) ?_
   intro g cg w3d ht9 hg9 hgg hgl
   rw [HT.out.2.2.2.2.2.2.2] at ht9 ⊢
   have G4:Hid (w.grownBy w3d none/\w1.grownBy w3d none/\NmsO w3d B (.slice (some ⟨g,0,none⟩) (k+1) cg) (ks ++ [(ft,.slice u1 l1 u2,.slice u3 l2 u4)])/\NOwn w3d B (ks ++ [(ft,.slice u1 l1 u2,.slice u3 l2 u4)]) (l.take (k+1))):=by
    have hN:=HR.out.1.grown G3.out.2.1
    have hoff:∀(y:Value) (L:Bs),Disk.Own w3c B y L->Disk.Own w3d B y L:=fun y L hy=>hy.same fun j hj=>hg9.block j (hy.lt j hj).2 (fun e=>nmsO_apart hN hy hj e.symm)
    have hq:=HQ.out
    refine ⟨grown_new G3.out.1 hg9 (fun x hx=>by have:=(hN.lt x hx).1;omega),grown_new (grown_trans HR.out.2.2 G3.out.2.1) hg9 (fun x hx=>by have:=(hN.lt x hx).1;omega),ht9,?_⟩
    rw [HT.out.2.2.1]
    have h7:=HR.out.2.1.grown G3.out.2.1
    exact NOwn.snoc ⟨h7.1,fun j a b=>⟨(h7.2 j a b).1,hoff _ _ (h7.2 j a b).2.1,hoff _ _ (h7.2 j a b).2.2⟩⟩ (hoff _ _ G3.out.2.2.1) (hoff _ _ G3.out.2.2.2)
   clear ht9 hg9 hgg hgl
   refine hK.out _ _ (fun _=>G4.out.1) ?_
   clear hK K
   try simp only [pN]
   have J:Idx [21]:=trivial
   iterate 1 (refine tK J (G4.out.1) rfl rfl (fun wk hk=>by obtain ⟨m0,m1,m2⟩:=HCC.out wk hk;go_simp;try rfl) ?_;replace J:=J.tl;try simp only [pN])
   clear J
   refine wpHold_done (by kernel_rfl) ?_
   refine (‹∀(a:Act) (w:World),Code.wp Tryz.prog _ _ a w->_› _ _ ?_)
   go_wp2_with fail
   go_roundw
   case rel=>exact ⟨k+1,some ⟨g,0,none⟩,cg,_,rfl,by go_num,by omega,G4.out.2.2.1,G4.out.2.2.2,G4.out.2.1⟩
   case measure=>simp [intOf];omega
  ·obtain rfl:k=n1:=by omega
   have i1:¬((k:Int)<(k:Int)):=by omega
   have htl:l.take k=l:=by rw [<-HN.out.1,List.take_length]
   obtain ⟨E,hE⟩:∃x,wr.heap.size=x:=⟨_,rfl⟩
   obtain ⟨Wb,hWb⟩:∃x,x=wr:=⟨_,rfl⟩
   subst hWb
   have HW:Hid (NmsO Wb B (.slice u k cu) ks/\NOwn Wb B ks l/\w1.grownBy Wb none/\ks.length=k/\w.grownBy Wb none/\Blk Wb qb 23 #[.int .i64 q.1,.int .i64 q.2]/\Wb.heap.size=E/\B<=E/\w.heap.size<B):=by
    have hq:=HQ.out
    have hs:=HR.out.2.2.size
    exact ⟨HR.out.1,by have:=HR.out.2.1;rw [htl] at this;exact this,HR.out.2.2,hkk,grown_trans hq.2.1 HR.out.2.2,hq.1.grown HR.out.2.2 (by simp),hE,by omega,by omega⟩
   have hNm:Hid (∀W:World,Wb.grownBy W none->Nms W (.slice u k cu) l):=fun W hW=>nms_of (HW.out.1.grown hW) (HW.out.2.1.grown hW)
   have k0:=HW.out.2.2.2.2.2.1.cell 0
   have k1:=HW.out.2.2.2.2.2.1.cell 1
   simp at k0 k1
   clear htl HR hkk hE
   go_wp2_with fail
   refine (new15z (X:=XB' B E) q (.slice u k cu) l (by have:=HN.out.1;omega) HN.out.2.1 Wb (fun g hg=>by have:=HW.out.2.2.2.2.2.2.1;have:=hg.2;omega) (hNm.out Wb (grown_refl _ _))).mono ?_
   unfold NewZ
   rw [HC.out]
   rintro e w3 ⟨ep,rfl,g3,hep1,hep2⟩
   have H3:Hid (Wb.grownBy w3 none/\(¬NewOk q l->ep=none)/\(NewOk q l->∃b m D,ep=some ⟨b,0,none⟩/\Wb.heap.size<=b/\DbQ q D/\TabD D/\flatD D=l/\EngB w3 b q m/\EM (XB' B E) w3 m D)):=⟨g3,hep1,hep2⟩
   clear g3 hep1 hep2 k0 k1
   have k0:=(HW.out.2.2.2.2.2.1.grown H3.out.1 (by simp)).cell 0
   have k1:=(HW.out.2.2.2.2.2.1.grown H3.out.1 (by simp)).cell 1
   simp at k0 k1
   go_wp2_with fail
   refine (wrong28z q (.slice a1 k c1) l w3 (by have:=HN.out.1;omega) HN.out.2.1 (HV.out.grown (grown_trans HW.out.2.2.2.2.1 H3.out.1))).mono ?_
   rw [HC.out]
   rintro e w4 ⟨rfl,g4⟩
   have G4:Hid (Wb.grownBy w4 none/\w3.grownBy w4 none):=⟨grown_trans H3.out.1 g4,g4⟩
   clear g4 k0 k1
   go_wp2_with fail
   refine (sameRows29 (.slice u k cu) (.slice a1 k c1) l l w4 (by have:=HN.out.1;omega) (hNm.out w4 G4.out.1) (HV.out.grown (grown_trans HW.out.2.2.2.2.1 G4.out.1))).mono ?_
   rw [decide_eq_true (rfl:l=l)]
   rintro e w5 ⟨rfl,g5⟩
   have G5:Hid (Wb.grownBy w5 none/\w3.grownBy w5 none):=⟨grown_trans G4.out.1 g5,grown_trans G4.out.2 g5⟩
   clear g5 G4
   have q28:=eqNil28 ep
   have gp:=eqGuardP
   obtain ⟨pb,hpb⟩:∃x,ep.isNone=x:=⟨_,rfl⟩
   have hpc:(C != 0)=pb:=by
    rw [<-hpb]
    by_cases hno:NewOk q l
    ·obtain ⟨b,m,D,e1,_⟩:=H3.out.2.2 hno
     rw [e1,<-HC.out,wrongC_ok hno]
     rfl
    ·rw [H3.out.2.1 hno,<-HC.out]
     have:=wrongC_no hno
     simpa using this
   rw [hpb] at q28
   clear hpb
   go_wp2_with (go_at_call 16;refine (num16 _ _).mono ?_;rintro e ww ⟨rfl,hw⟩;rw [hw];clear hw)
   clear q28 gp hpc
   have HSA:Hid (0<k->∃g,u=some ⟨g,0,none⟩/\XB' B E g/\SA (XB' B E) B g k 0 w5):=fun h0=>by
    obtain ⟨g,e1,e2,e3⟩:=sa_start (Y:=XB' B E) HW.out.1 HW.out.2.1 HW.out.2.2.2.1 h0 (fun g h1 h2=>⟨h1,by have:=HW.out.2.2.2.2.2.2.1;omega⟩)
    exact ⟨g,e1,e2,e3.grown G5.out.1⟩
   go_loopw [12] (fun s wr=>∃i:Nat,i<=k/\s=.int .i64 (i:Int)/\Hid (ZI (XB' B E) B w5 wr/\∀g,u=some ⟨g,0,none⟩->0<k->SA (XB' B E) B g k i wr)) (fun s _=>k-(intOf s).toNat)
   case atStart=>exact ⟨0,Nat.zero_le _,rfl,ZI.refl _ _ _,fun g hg h0=>by
    obtain ⟨g',e1,_,e3⟩:=HSA.out h0
    rw [hg] at e1
    simp at e1
    rw [e1]
    exact e3⟩
   case round =>
    obtain ⟨i,hi,rfl,HI⟩:=hrel
    rcases Nat.lt_or_ge i k with hlt | hge2
    ·obtain ⟨g,rfl,hYg,_⟩:=HSA.out (by omega)
     have hsa:=HI.out.2 g rfl (by omega)
     obtain ⟨cur,hbk,hjj,_⟩:=hsa
     obtain ⟨kx,kn,ky,hc,hin,M,hM,hO⟩:=hjj i (Nat.le_refl _) hlt
     have HY:Hid (XB' B E g/\InY (XB' B E) (.slice kx kn ky)/\kn<=9223372036854775807):=⟨hYg,hin,by rw [<-hM];exact hO.seg.len⟩
     have hkn:kn<=9223372036854775807:=HY.out.2.2
     have HI2:Hid (ZI (XB' B E) B w5 wr/\SA (XB' B E) B g k i wr/\wr.cell? ⟨g,i*3+1,none⟩=some (.slice kx kn ky)/\∃M:Bs,M.length=kn/\Disk.Own wr B (.slice kx kn ky) M):=⟨HI.out.1,HI.out.2 g rfl (by omega),by rw [hbk.cell];exact hc,M,hM,hO⟩
     have i0:(0:Int)<=(i:Int):=by omega
     have j1:(i:Int)<(k:Int):=by omega
     clear hYg hin hM hO hc hjj hbk HI
     go_wp2_with fail
     go_loopw [13] (fun s wr=>∃j:Nat,j<=kn/\s=.int .i64 (j:Int)/\Hid (ZI (XB' B E) B w5 wr/\SA (XB' B E) B g k i wr/\wr.cell? ⟨g,i*3+1,none⟩=some (.slice kx kn ky)/\∃M:Bs,M.length=kn/\Disk.Own wr B (.slice kx kn ky) M)) (fun s _=>kn-(intOf s).toNat)
     case atStart=>exact ⟨0,Nat.zero_le _,rfl,HI2.out⟩
     case round =>
      obtain ⟨j,hj,rfl,HJ⟩:=hrel
      clear HI2
      have d1:=HJ.out.2.2.1
      rcases Nat.lt_or_ge j kn with hlt3 | hge3
      ·have n0:(0:Int)<=(j:Int):=by omega
       have n1:(j:Int)<(kn:Int):=by omega
       obtain ⟨M,hM,hO⟩:=HJ.out.2.2.2
       obtain ⟨h,c0,cc,rfl,e1,e2,hbk,hnp⟩:=own_at hO hM hlt3
       have HJ2:Hid (ZI (XB' B E) B w5 (wr.setCell ⟨h,j,none⟩ (.int .u8 90))/\SA (XB' B E) B g k i (wr.setCell ⟨h,j,none⟩ (.int .u8 90))/\(wr.setCell ⟨h,j,none⟩ (.int .u8 90)).cell? ⟨g,i*3+1,none⟩=some (.slice (some ⟨h,0,none⟩) kn ky)/\∃M:Bs,M.length=kn/\Disk.Own (wr.setCell ⟨h,j,none⟩ (.int .u8 90)) B (.slice (some ⟨h,0,none⟩) kn ky) M):=by
        refine ⟨HJ.out.1.byte hbk (HY.out.2.1 h rfl) e1 hnp,HJ.out.2.1.byte hbk,(grown_setCell _ _ _ _).cell d1 (fun e=>?_),?_⟩
        ·simp at e
         subst e
         obtain ⟨cur,h1,_⟩:=HJ.out.2.1
         exact absurd (blk_ne hbk h1) (by decide)
        ·obtain ⟨M',m1,m2⟩:=Calls.own_byte hO h j
         exact ⟨M',m1.trans hM,m2⟩
       clear hbk hnp hO hM
       go_wp2_with fail
       go_roundw
       case rel=>exact ⟨j+1,by omega,by go_num,HJ2.out⟩
       case measure=>simp [intOf];omega
      ·have n1:¬((j:Int)<(kn:Int)):=by omega
       obtain ⟨o0,p0,_,f0⟩:=HJ.out.2.1.old (p:=i*3) (by omega)
       obtain ⟨o1,p1,_,f1⟩:=HJ.out.2.1.old (p:=i*3+1) (by omega)
       obtain ⟨o2,p2,_,f2⟩:=HJ.out.2.1.old (p:=i*3+2) (by omega)
       clear p1
       go_wp2_with fail
       have HK3:Hid (ZI (XB' B E) B w5 (((wr.setCell ⟨g,i*3,none⟩ (.string ⟨#[]⟩)).setCell ⟨g,i*3+1,none⟩ (.slice none 0 0)).setCell ⟨g,i*3+2,none⟩ (.slice none 0 0))/\SA (XB' B E) B g k (i+1) (((wr.setCell ⟨g,i*3,none⟩ (.string ⟨#[]⟩)).setCell ⟨g,i*3+1,none⟩ (.slice none 0 0)).setCell ⟨g,i*3+2,none⟩ (.slice none 0 0))):=by
        have s0:=HJ.out.2.1.next
        have s1:=s0.put (p:=i*3) (v:=.string ⟨#[]⟩) (by omega) (by omega) (fun p=>by simp [ptr])
        have s2:=s1.put (p:=i*3+1) (v:=.slice none 0 0) (by omega) (by omega) (fun p=>by simp [ptr])
        have s3:=s2.put (p:=i*3+2) (v:=.slice none 0 0) (by omega) (by omega) (fun p=>by simp [ptr])
        exact ⟨((HJ.out.1.arr s0 HY.out.1 (by omega)).arr s1 HY.out.1 (by omega)).arr s2 HY.out.1 (by omega),s3⟩
       go_roundw
       case rel=>exact ⟨i+1,by omega,by go_num,HK3.out.1,fun g' hg _=>by simp at hg;rw [<-hg];exact HK3.out.2⟩
       case measure=>simp [intOf];omega
    ·have j1:¬((i:Int)<(k:Int)):=by omega
     have hqk:=HI.out.1.blk (HW.out.2.2.2.2.2.1.grown G5.out.1 (by simp)) (by decide) (by decide) (by decide)
     have k0:=hqk.cell 0
     have k1:=hqk.cell 1
     simp at k0 k1
     have HG6:Hid (w.grownBy wr none):=(Fr.after (grown_trans HW.out.2.2.2.2.1 G5.out.1) HI.out.1.2.1 (fun i _=>by omega)).grown (fun x hx=>by have:=hx.1;have:=HW.out.2.2.2.2.2.2.2.2;omega)
     clear hqk
     go_wp2_with fail
     refine (rnew30z q (.slice a1 k c1) l wr (by have:=HN.out.1;omega) HN.out.2.1 (HV.out.grown HG6.out)).mono ?_
     rintro e w7 ⟨dp,rfl,g7,hd1,hd2⟩
     have H7:Hid (wr.grownBy w7 none/\(¬NewOk q l->dp=none)/\(NewOk q l->∃d,dp=some ⟨d,0,none⟩/\wr.heap.size<=d/\REng X0 w7 d q l)):=⟨g7,hd1,hd2⟩
     clear g7 hd1 hd2 k0 k1
     go_wp2_with fail
     refine bodyPost_ret (v:=.tuple #[.pointer ep,.pointer dp,.bool true]) (by simp [results,Tryz.results8]) rfl ?_
     refine ⟨grown_trans HG6.out H7.out.1,?_⟩
     by_cases hno:NewOk q l
     ·refine .inr ⟨hno,?_⟩
      obtain ⟨b,m,D,e1,e2,e3,e4,e5,e6,e7⟩:=H3.out.2.2 hno
      obtain ⟨d,f1,f2,f3⟩:=H7.out.2.2 hno
      have s1:=HW.out.2.2.2.2.1.size
      have s2:=HG6.out.size
      refine ⟨b,d,m,D,by rw [e1,f1],by omega,by omega,e3,e4,e5,Blk.grown (HI.out.1.blk (Blk.grown e6 G5.out.2 (by simp)) (by decide) (by decide) (by decide)) H7.out.1 (by simp),em_anti (((e7.grown G5.out.2).sp HI.out.1.1).grown H7.out.1) (fun g h=>h.elim),f3⟩
     ·exact .inl ⟨hno,by rw [H3.out.2.1 hno,H7.out.2.1 hno]⟩
end Go.Proofs.YtakmlhhapegpoaaGreat
namespace Go.Proofs.YtakmlhhapegpoaaGreat
open Go.RowKit Disk Table
open Names (Str cmpL keyB valueB tabB)
open _root_.Go.Proofs.YtakmlhhapegpoaaGreat.Calls (POp POut PRes opV OpSeg mayOp Ops OpAt ops_at ops_open chk rds mayCall)
theorem reng_two {X:Nat->Prop}{w w':World}{b d d2 t t':Nat}{q:Int × Int}{F:List NRow}{c c':Array Value}(h:REng X w d2 q F)(hb:Blk w b t c)(hd:Blk w d t' c')(h1:t≠61)(h2:t≠5)(h3:t'≠61)(h4:t'≠5)(n1:d2≠b)(n2:d2≠d)(hk:KeepS w.heap.size b d w w'):REng X w' d2 q F:=by
 obtain ⟨v,k1,k2⟩:=h
 refine ⟨v,k1.same (hk.2.2.2.2 d2 k1.lt n1 n2),k2.keep fun g hg _ ht=>hk.2.2.2.2 g hg (fun e=>?_) (fun e=>?_)⟩
 ·subst e
  rcases ht t c hb with h | h
  ·exact h1 h
  ·exact h2 h
 ·subst e
  rcases ht t' c' hd with h | h
  ·exact h3 h
  ·exact h4 h
theorem flat_inj {D D':DB}(h:GoodD D)(ht:TabD D)(h':GoodD D')(ht':TabD D'):decide (flatD D=flatD D')=decide (D=D'):=by
 by_cases e:D=D'
 ·subst e
  simp
 ·rw [decide_eq_false e,decide_eq_false]
  intro e2
  have h1:=new_all h ht
  rw [e2,new_all h' ht'] at h1
  simp at h1
  exact e h1.symm
theorem does3 (q:Int × Int)(v u:Value)(l:List NRow)(ls:List (List POp))(w:World)(hT:∀r ∈ l,r.1.length<=9223372036854775807)(hR:∀r ∈ l,r.2.1.length<=140737488355328/\r.2.2.length<=140737488355328)(hF:∀c ∈ ls,Calls.Fit c)(hv:Nms w v l)(hu:Cls w u ls):Calls Tryz.prog 3 #[quoV q,v,u] w fun e w'=>e=.returned (.bool true)/\w.grownBy w' none:=by
 obtain ⟨a1,n1,c1,rfl,hn1,hc1,hc1',HV⟩:=nms_open hv
 obtain ⟨a2,n2,c2,rfl,hn2,hc2,hc2',HU⟩:=cls_open hu
 have HN:Hid (l.length=n1/\ls.length=n2/\(∀r ∈ l,r.1.length<=9223372036854775807)/\(∀r ∈ l,r.2.1.length<=140737488355328/\r.2.2.length<=140737488355328)/\∀c ∈ ls,Calls.Fit c):=⟨hn1,hn2,hT,hR,hF⟩
 clear hv hu hn1 hn2 hT hR hF
 unfold quoV
 go_enter Tryz.func3,Tryz.ntmps3
 go_wp2_with fail
 obtain ⟨w1,hw1,H1⟩:=al w #[.int .i64 q.1,.int .i64 q.2] 23
 rw [hw1]
 obtain ⟨qb,hqb⟩:∃b,w.heap.size=b:=⟨_,rfl⟩
 rw [hqb] at H1 ⊢
 clear hw1 hqb
 refine (much6 _ _ l ls w1 (HV.out.grown H1.out.2.1) (HU.out.grown H1.out.2.1)).mono ?_
 rintro e w3 ⟨mb,rfl,hmb,g3⟩
 cases mb with
 | true =>
  have G3:Hid (w.grownBy w3 none):=grown_trans H1.out.2.1 g3
  clear hmb g3
  go_wp2_with fail
  refine (known7 w3).mono ?_
  rintro e w4 ⟨rfl,g4⟩
  have G4:Hid (w.grownBy w4 none):=grown_trans G3.out g4
  clear g4
  go_wp2_with fail
  go_ret
  exact ⟨rfl,G4.out⟩
 | false =>
  have hb:=hmb rfl
  have hb1:n1<=120:=by have:=HN.out.1;omega
  have hb2:n2<=60:=by have:=HN.out.2.1;omega
  have H3:Hid (Blk w3 qb 23 #[.int .i64 q.1,.int .i64 q.2]/\w.grownBy w3 none):=⟨H1.out.1.grown g3 (by simp),grown_trans H1.out.2.1 g3⟩
  clear hmb g3 hb H1
  have k0:=H3.out.1.cell 0
  have k1:=H3.out.1.cell 1
  simp at k0 k1
  go_wp2_with fail
  refine (begin8 q (.slice a1 n1 c1) l w3 (by have:=HN.out.1;omega) HN.out.2.2.1 HN.out.2.2.2.1 (HV.out.grown H3.out.2)).mono ?_
  rintro e w4 ⟨g4,⟨_,rfl⟩ | ⟨_,b,d,m,D,rfl,hb,hd,hD,hDT,hfl,hE,hM,hRd⟩⟩
  ·have G4:Hid (w.grownBy w4 none):=grown_trans H3.out.2 g4
   clear g4 k0 k1
   go_wp2_with fail
   refine (known7 w4).mono ?_
   rintro e w5 ⟨rfl,g5⟩
   have G5:Hid (w.grownBy w5 none):=grown_trans G4.out g5
   clear g5
   go_wp2_with fail
   go_ret
   exact ⟨rfl,G5.out⟩
  have H4:Hid (w.grownBy w4 none/\w.heap.size<=b/\w.heap.size<=d/\DbQ q D/\TabD D/\EngB w4 b q m/\EM X0 w4 m D/\REng X0 w4 d q (flatD D)):=⟨grown_trans H3.out.2 g4,by have:=H3.out.2.size;omega,by have:=H3.out.2.size;omega,hD,hDT,hE,hM,by rw [hfl];exact hRd⟩
  clear g4 k0 k1 hb hd hD hDT hfl hE hM hRd
  go_wp2_with fail
  refine (copy9 b m q w4 H4.out.2.2.2.2.2.1).mono ?_
  rintro e w5 ⟨c,rfl,hc,hcE,g5⟩
  have H5:Hid (w4.grownBy w5 none/\w4.heap.size<=c/\EngB w5 c q m):=⟨g5,hc,hcE⟩
  clear g5 hc hcE
  go_wp2_with fail
  refine (rcopy10 (X:=X0) d q (flatD D) w5 (x0 w5) (by have:=H4.out.2.2.2.1.len;rw [flat_len];omega) (H4.out.2.2.2.2.2.2.2.grown H5.out.1)).mono ?_
  rintro e w6 ⟨d2,rfl,hd2,hdR,g6⟩
  have hdl:d<w4.heap.size:=by
   obtain ⟨_,h,_⟩:=H4.out.2.2.2.2.2.2.2
   exact h.lt
  have H6:Hid (w.grownBy w6 none/\EngB w6 b q m/\EM X0 w6 m D/\REng X0 w6 d q (flatD D)/\EngB w6 c q m/\REng X0 w6 d2 q (flatD D)/\b≠d/\c≠b/\c≠d/\d2≠b/\d2≠d):=by
   have g:=grown_trans H5.out.1 g6
   have hbl:=Blk.lt H4.out.2.2.2.2.2.1
   have hcl:=H5.out.2.1
   have s5:=H5.out.1.size
   refine ⟨grown_trans H4.out.1 g,Blk.grown H4.out.2.2.2.2.2.1 g (by simp),H4.out.2.2.2.2.2.2.1.grown g,H4.out.2.2.2.2.2.2.2.grown g,Blk.grown H5.out.2.2 g6 (by simp),hdR,fun e=>?_,by omega,by omega,by omega,by omega⟩
   subst e
   obtain ⟨_,h,_⟩:=H4.out.2.2.2.2.2.2.2
   exact absurd (blk_ne h H4.out.2.2.2.2.2.1) (by decide)
  clear g6 hd2 hdR hdl H5
  go_wp2_with fail
  go_loopw [12] (fun t wr=>∃(i m':Nat) (D':DB),t=.int .i64 (i:Int)/\i<=n2/\Hid (EngB wr b q m'/\EM X0 wr m' D'/\DbQ q D'/\TabD D'/\REng X0 wr d q (flatD D')/\EngB wr c q m/\EM X0 wr m D/\REng X0 wr d2 q (flatD D)/\w.grownBy wr none)) (fun t _=>n2-(intOf t).toNat)
  case atStart=>exact ⟨0,m,D,rfl,Nat.zero_le _,H6.out.2.1,H6.out.2.2.1,H4.out.2.2.2.1,H4.out.2.2.2.2.1,H6.out.2.2.2.1,H6.out.2.2.2.2.1,H6.out.2.2.1,H6.out.2.2.2.2.2.1,H6.out.1⟩
  case round =>
   obtain ⟨i,m',D',rfl,hi,HR⟩:=hrel
   rcases Nat.lt_or_ge i n2 with hlt | hge
   ·have i0:(0:Int)<=(i:Int):=by omega
    have i1:(i:Int)<(n2:Int):=by omega
    have hil:i<ls.length:=by rw [HN.out.2.1];exact hlt
    obtain ⟨cb,off,av,nv,cv,rfl,hcell,hn1',hn2',hops⟩:=cls_at HU.out i hil
    have hfit:=HN.out.2.2.2.2 ls[i] (List.getElem_mem hil)
    obtain ⟨lc,hlc⟩:∃lc,ls[i]=lc:=⟨_,rfl⟩
    rw [hlc] at hops hfit
    have HO:Hid (Ops w (.slice av nv cv) lc/\Calls.Fit lc):=⟨hops,hfit⟩
    have kc:=HR.out.2.2.2.2.2.2.2.2.cell hcell (by simp)
    clear hops hfit hcell hlc hil
    go_wp2_with fail
    refine (call11 b m' d q D' HR.out.2.2.1 HR.out.2.2.2.1 (.slice av nv cv) lc HO.out.2 w wr HO.out.1 HR.out.2.2.2.2.2.2.2.2 H4.out.2.1 H4.out.2.2.1 HR.out.1 HR.out.2.1 HR.out.2.2.2.2.1).mono ?_
    rintro e w7 ⟨rfl,m2,D2,hD2,hT2,hE2,hM2,hR2,hk⟩
    have H7:Hid (EngB w7 b q m2/\EM X0 w7 m2 D2/\DbQ q D2/\TabD D2/\REng X0 w7 d q (flatD D2)/\EngB w7 c q m/\EM X0 w7 m D/\REng X0 w7 d2 q (flatD D)/\w.grownBy w7 none):=by
     have hr:=HR.out
     have h6:=H6.out.2.2.2.2.2.2
     obtain ⟨ra,rn,rc,_,_,_,HRO⟩:=reng_open hr.2.2.2.2.1
     have hdB:=HRO.out.1
     refine ⟨hE2,hM2,hD2,hT2,hR2,hr.2.2.2.2.2.1.same (hk.2.2.2.2 c (Blk.lt hr.2.2.2.2.2.1) h6.2.1 h6.2.2.1),em_two hr.2.2.2.2.2.2.1 hr.1 hdB h6.1 hk (by decide) (by decide) (by decide) (noP_eng q m') (by decide) (by decide) (by decide) (noP3 _ _ _ _ _),reng_two hr.2.2.2.2.2.2.2.1 hr.1 hdB (by decide) (by decide) (by decide) (by decide) h6.2.2.2.1 h6.2.2.2.2 hk,?_⟩
     have g:=hr.2.2.2.2.2.2.2.2
     have hb1:=H4.out.2.1
     have hd1:=H4.out.2.2.1
     exact ⟨hk.1.trans g.os,hk.2.1.trans g.tape,hk.2.2.1.trans g.output,Nat.le_trans g.size hk.2.2.2.1,fun x hx _=>(hk.2.2.2.2 x (by have:=g.size;omega) (by omega) (by omega)).trans (g.block x hx (by simp))⟩
    clear hD2 hT2 hE2 hM2 hR2 hk kc
    go_wp2_with fail
    go_roundw
    case rel=>exact ⟨i+1,m2,D2,by go_num,by omega,H7.out⟩
    case measure=>simp [intOf];omega
   ·have i1:¬((i:Int)<(n2:Int)):=by omega
    go_wp2_with fail
    refine (stands12 (X:=X0) (Y:=X0) b m' d q D' HR.out.2.2.1 wr HR.out.1 HR.out.2.1 HR.out.2.2.2.2.1).mono ?_
    rintro e w7 ⟨rfl,g7⟩
    have G7:Hid (wr.grownBy w7 none):=g7
    clear g7
    go_wp2_with fail
    refine (stands12 (X:=X0) (Y:=X0) c m d2 q D H4.out.2.2.2.1 w7 (Blk.grown HR.out.2.2.2.2.2.1 G7.out (by simp)) (HR.out.2.2.2.2.2.2.1.grown G7.out) (HR.out.2.2.2.2.2.2.2.1.grown G7.out)).mono ?_
    rintro e w8 ⟨rfl,g8⟩
    have G8:Hid (wr.grownBy w8 none):=grown_trans G7.out g8
    clear g8 G7
    go_wp2_with fail
    refine (same13 (X:=X0) (Y:=X0) c b q q D D' H4.out.2.2.2.1.good.rise HR.out.2.2.1.good.rise w8 ⟨m,Blk.grown HR.out.2.2.2.2.2.1 G8.out (by simp),HR.out.2.2.2.2.2.2.1.grown G8.out⟩ ⟨m',Blk.grown HR.out.1 G8.out (by simp),HR.out.2.1.grown G8.out⟩).mono ?_
    rw [decide_eq_true (rfl:q=q),Bool.true_and]
    rintro e w9 ⟨rfl,g9⟩
    have G9:Hid (wr.grownBy w9 none):=grown_trans G8.out g9
    clear g9 G8
    go_wp2_with fail
    refine (rsame14 (X:=X0) (Y:=X0) d2 d q (flatD D) (flatD D') w9 (by have:=H4.out.2.2.2.1.len;rw [flat_len];omega) (HR.out.2.2.2.2.2.2.2.1.grown G9.out) (HR.out.2.2.2.2.1.grown G9.out)).mono ?_
    rw [flat_inj H4.out.2.2.2.1.good H4.out.2.2.2.2.1 HR.out.2.2.1.good HR.out.2.2.2.1]
    obtain ⟨sb,hsb⟩:∃x,decide (D=D')=x:=⟨_,rfl⟩
    rw [hsb]
    clear hsb
    rintro e wA ⟨rfl,gA⟩
    have GA:Hid (wr.grownBy wA none):=grown_trans G9.out gA
    clear gA G9
    go_wp2_with fail
    refine (same13 (X:=X0) (Y:=X0) b b q q D' D' HR.out.2.2.1.good.rise HR.out.2.2.1.good.rise wA ⟨m',Blk.grown HR.out.1 GA.out (by simp),HR.out.2.1.grown GA.out⟩ ⟨m',Blk.grown HR.out.1 GA.out (by simp),HR.out.2.1.grown GA.out⟩).mono ?_
    rw [decide_eq_true (rfl:q=q),decide_eq_true (rfl:D'=D'),Bool.and_self]
    rintro e wB ⟨rfl,gB⟩
    have GB:Hid (wr.grownBy wB none):=grown_trans GA.out gB
    clear gB GA
    go_wp2_with fail
    refine (known7 wB).mono ?_
    rintro e wC ⟨rfl,gC⟩
    have GC:Hid (w.grownBy wC none):=grown_trans HR.out.2.2.2.2.2.2.2.2 (grown_trans GB.out gC)
    clear gC GB
    go_wp2_with fail
    go_ret
    exact ⟨rfl,GC.out⟩
end Go.Proofs.YtakmlhhapegpoaaGreat
