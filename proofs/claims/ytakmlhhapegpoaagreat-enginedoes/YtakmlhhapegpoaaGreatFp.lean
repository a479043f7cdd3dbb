import Derived.Test.YtakmlhhapegpoaaGreatFoAll
set_option maxHeartbeats 16000000
set_option maxRecDepth 100000
namespace Go.Proofs.YtakmlhhapegpoaaGreat
open Go.RowKit Disk Table
open Names (Str cmpL keyB valueB tabB inB)
open _root_.Go.Proofs.YtakmlhhapegpoaaGreat.Calls (POp POut PRes opV OpSeg mayOp Ops OpAt ops_at ops_open)
def OpR (X:Nat->Prop)(q:Int × Int)(D:DB)(o:POp)(B:Nat)(w:World)(hb:Bool)(x y u:Value)(c:Int):Prop :=
 (c=0/\∃r D',opD q D o=.ok (r,D')/\hb=r.has/\Disk.Own w B x r.value/\TRws w B y r.rows/\DRow X w u (flatD D'))\/(c≠0/\opD q D o=.error c)
theorem OpR.grown {X:Nat->Prop}{q:Int × Int}{D:DB}{o:POp}{B:Nat}{w w':World}{hb:Bool}{x y u:Value}{c:Int}(h:OpR X q D o B w hb x y u c)(hg:w.grownBy w' none):OpR X q D o B w' hb x y u c:=by
 rcases h with ⟨h1,r,D',h2,h3,h4,h5,h6⟩ | h
 ·exact .inl ⟨h1,r,D',h2,h3,h4.grown hg,h5.grown hg,h6.grown hg⟩
 ·exact .inr h
theorem OpR.set3 {X:Nat->Prop}{q:Int × Int}{D:DB}{o:POp}{B:Nat}{w:World}{hb:Bool}{x y u:Value}{c:Int}(h:OpR X q D o B w hb x y u c){b:Nat}{cs:Array Value}(hk:Blk w b 72 cs){x0 x1 x2:Value}:OpR X q D o B (((w.setCell ⟨b,0,none⟩ x0).setCell ⟨b,1,none⟩ x1).setCell ⟨b,2,none⟩ x2) hb x y u c:=by
 rcases h with ⟨h1,r,D',h2,h3,h4,h5,h6⟩ | h
 ·exact .inl ⟨h1,r,D',h2,h3,own_set3 h4 hk (by decide),trws_set3 h5 hk (by decide) (by decide),drow_set3 h6 hk (by decide) (by decide)⟩
 ·exact .inr h
theorem opR_mono {X:Nat->Prop}{q:Int × Int}{D:DB}{o:POp}{B B':Nat}{w:World}{hb:Bool}{x y u:Value}{c:Int}(h:OpR X q D o B w hb x y u c)(hB:B'<=B):OpR X q D o B' w hb x y u c:=by
 rcases h with ⟨h1,r,D',h2,h3,h4,h5,h6⟩ | h
 ·exact .inl ⟨h1,r,D',h2,h3,h4.mono hB,h5.mono hB,h6⟩
 ·exact .inr h
theorem outs_set3 {w:World}{B:Nat}{v:Value}{l:List POut}(h:OutsN w B v l){b:Nat}{c:Array Value}(hb:Blk w b 49 c){i j k:Nat}{x y z:Value}:OutsN (((w.setCell ⟨b,i,none⟩ x).setCell ⟨b,j,none⟩ y).setCell ⟨b,k,none⟩ z) B v l :=
 ((h.off (grown_setCell _ _ _ _) hb (by decide) (by decide) (by decide)).off (grown_setCell _ _ _ _) (hb.store _ _) (by decide) (by decide) (by decide)).off (grown_setCell _ _ _ _) ((hb.store _ _).store _ _) (by decide) (by decide) (by decide)
def OpS (X:Nat->Prop)(q:Int × Int)(D:DB)(o:POp)(w:World)(e:Ending)(w':World):Prop :=
 ∃(hb:Bool) (x1:Option Addr) (x2 x3:Nat) (y1:Option Addr) (y2 y3:Nat) (u1:Option Addr) (u2 u3:Nat) (c:Int),e=.returned (.tuple #[.agg #[.bool hb,.slice x1 x2 x3,.slice y1 y2 y3],.slice u1 u2 u3,.int .i64 c])/\w.grownBy w' none/\OpR X q D o w.heap.size w' hb (.slice x1 x2 x3) (.slice y1 y2 y3) (.slice u1 u2 u3) c
theorem opS_of {X:Nat->Prop}{q:Int × Int}{D:DB}{o:POp}{w w':World}{e:Ending}(h:ROpE X q D o w e w'):OpS X q D o w e w':=by
 obtain ⟨g,⟨r,D',h1,x,y,u,rfl,h2,h3,h4⟩ | ⟨c,h1,h2,a,n,k,rfl⟩⟩:=h
 ·obtain ⟨x1,x2,ex⟩:=h2.seg.shape
  obtain ⟨y1,y2,y3,ey,_⟩:=rws_open h3.rws
  obtain ⟨u1,u2,u3,eu,_⟩:=nms_open h4.nms
  subst ex ey eu
  exact ⟨_,_,_,_,_,_,_,_,_,_,0,rfl,g,.inl ⟨rfl,r,D',h1,rfl,h2,h3,h4⟩⟩
 ·exact ⟨_,_,_,_,_,_,_,_,_,_,c,rfl,g,.inr ⟨h2,h1⟩⟩
theorem op68 {X:Nat->Prop}(q:Int × Int)(D:DB)(hD:DbQ q D)(v kv vv ol tv:Value)(o:POp)(hmay:mayOp o=true)(w:World)(hX:∀g,X g->g<w.heap.size)(hv:DRow X w v (flatD D))(ho:OpSeg w kv vv ol tv o):Calls Tryz.prog 68 #[quoV q,v,opV kv vv ol tv o] w (OpS X q D o w):=by
 have key:Calls Tryz.prog 68 #[quoV q,v,opV kv vv ol tv o] w (ROpE X q D o w):=by
  rcases may_kind hmay with h | h | h | h | h
  ·exact op68_1 q D hD v kv vv ol tv o h hmay w hX hv ho
  ·exact op68_2 q D hD v kv vv ol tv o h hmay w hX hv ho
  ·exact op68_3 q D hD v kv vv ol tv o h hmay w hX hv ho
  ·exact op68_4 q D hD v kv vv ol tv o h hmay w hX hv ho
  ·exact op68_5 q D hD v kv vv ol tv o h hmay w hX hv ho
 exact key.mono fun e w' h=>opS_of h
theorem appO_at {ops:Array Oper}{rest:List Oper}{o:Oper}{a:Act}{Q:Exit->Act->World->Prop}(w:World)(hw:Region.wanted o (yielded ops a.tmps)=true)(s x:Operand)(ho:o.op=.call { callee:=.builtin .append,args:=#[s,x],argTypes:=#[47,47] })
  (B:Nat) (v:Value) (l:List POut) (u:Value) (k:Bool × Value × Value) (r:POut) (hs:a.eval s=v) (hx:a.eval x=u) (hv:OutsN w B v l) (hu:Vec w 3 u 1 [.bool k.1,k.2.1,k.2.2]) (hk:OutN w B k r) (h1:k.2.1.oneCell'=true) (h2:k.2.2.oneCell'=true) (hb:l.length<=1000000) (hB:B<=w.heap.size)
  (h:∀ao cap w' q,OutsN w' B (.slice ao (l.length+1) cap) (l ++ [r])->w.grownBy w' q->(∀g,q=some g->B<=g/\∃c,Blk w g 72 c/\∀u ∈ c.toList,noP u)->wpList Tryz.prog ops Q rest (a.put o.dst (.slice ao (l.length+1) cap)) w'):wpList Tryz.prog ops Q (o :: rest) a w :=
 BigFrame.wpList_want hw fun _ hK=>appO_wp w s x ho B v l u k r hs hx hv hu hk h1 h2 hb hB fun ao cap w' q k1 k2 k3=>hK _ _ (h ao cap w' q k1 k2 k3)
def RDoE (X:Nat->Prop)(q:Int × Int)(D:DB)(l:List POp)(b:Nat)(w:World)(e:Ending)(w':World):Prop :=
 w.grownBy w' (some b)/\((∃outs D',callD q D [] l=.ok (outs,D')/\DbQ q D'/\∃u,e=.returned (resV3 0 0 u)/\OutsN w' w.heap.size u outs/\REng X w' b q (flatD D')) ∨
  (∃c n,callD q D [] l=.error (c,n)/\e=.returned (resV3 c n (.slice none 0 0))/\REng X w' b q (flatD D)))
theorem rdo37 {X:Nat->Prop}(b:Nat)(q:Int × Int)(D:DB)(hD:DbQ q D)(v:Value)(l:List POp)(hmay:∀o ∈ l,mayOp o=true)(hl6:l.length<=1000)(w:World)(hX:∀g,X g->g<w.heap.size)(hb:REng X w b q (flatD D))(hv:Ops w v l):Calls Tryz.prog 37 #[.pointer (some ⟨b,0,none⟩),.agg #[v]] w (RDoE X q D l b w):=by
 obtain ⟨ao,n,cap,rfl,hn,hn2,HV⟩:=ops_open hv
 obtain ⟨a0,n0,c0,hn0,hc0,hc0',HB⟩:=reng_open hb
 have HH:Hid (DbQ q D/\(∀o ∈ l,mayOp o=true)/\l.length=n/\(∀g,X g->g<w.heap.size)):=⟨hD,hmay,hn,hX⟩
 have hn3:n<=1000:=by omega
 clear hv hD hX hb hmay hn hn0 hl6
 go_enter Tryz.func37,Tryz.ntmps37
 obtain ⟨w1,hw1,H1⟩:=al w #[.slice ao n cap] 37
 obtain ⟨w2,hw2,H2⟩:=al w1 #[.int .i64 0,.int .i64 0,.slice none 0 0] 49
 obtain ⟨w3,hw3,H3⟩:=al w2 #[.int .i64 0,.int .i64 0,.slice none 0 0] 49
 have s1:=H1.out.2.2
 have s2:=H2.out.2.2
 have g23:=grown_trans H2.out.2.1 H3.out.2.1
 have HC:Hid (Blk w3 w.heap.size 37 #[.slice ao n cap]/\Blk w3 (w.heap.size+1) 49 #[.int .i64 0,.int .i64 0,.slice none 0 0]/\Blk w3 (w.heap.size+1+1) 49 #[.int .i64 0,.int .i64 0,.slice none 0 0]/\w.grownBy w3 none):=⟨H1.out.1.grown g23 (by simp),by rw [<-s1];exact H2.out.1.grown H3.out.2.1 (by simp),by rw [<-s1,<-s2];exact H3.out.1,grown_trans H1.out.2.1 g23⟩
 go_upto_region 2 with fail
 try rw [hw1,hw2,hw3]
 obtain ⟨cb,hcb⟩:∃x,w.heap.size=x:=⟨_,rfl⟩
 rw [hcb] at HC ⊢
 have HCB:Hid (w.heap.size=cb):=hcb
 clear hw1 hw2 hw3 H1 H2 H3 s1 s2 g23 hcb
 obtain ⟨rb,hrb⟩:∃x,cb+1=x:=⟨_,rfl⟩
 rw [hrb] at HC ⊢
 obtain ⟨tb,htb⟩:∃x,rb+1=x:=⟨_,rfl⟩
 rw [htb] at HC ⊢
 have HRB:Hid (cb+1=rb/\rb+1=tb):=⟨hrb,htb⟩
 clear hrb htb
 have z2:=(HB.out.1.grown HC.out.2.2.2 (by simp)).cell 2
 simp at z2
 go_upto_region 3 with fail
 clear z2
 go_wp2_with fail
 go_loopw [6,7] (fun t6 t7 wr=>∃(k:Nat) (D1:DB) (outs:List POut) (a:Option Addr) (cp:Nat) (au:Option Addr) (nu cu:Nat),t6=.slice au nu cu/\t7=.int .i64 (k:Int)/\k<=n/\Hid (callD q D [] l=callD q D1 outs (l.drop k)/\outs.length=k/\DbQ q D1/\DRow X wr (.slice au nu cu) (flatD D1)/\Blk wr cb 37 #[.slice ao n cap]/\Blk wr rb 49 #[.int .i64 0,.int .i64 0,.slice none 0 0]/\Blk wr tb 49 #[.int .i64 0,.int .i64 0,.slice a k cp]/\OutsN wr w.heap.size (.slice a k cp) outs/\w.grownBy wr none)) (fun _ t _=>n-(intOf t).toNat)
 case atStart=>exact ⟨0,D,[],none,0,a0,n0,c0,rfl,rfl,Nat.zero_le _,by simp,rfl,HH.out.1,HB.out.2.grown HC.out.2.2.2,HC.out.1,HC.out.2.1,HC.out.2.2.1,OutsN.nil _ _,HC.out.2.2.2⟩
 case round =>
  obtain ⟨k,D1,outs,a,cp,au,nu,cu,rfl,rfl,hk,HR⟩:=hrel
  obtain ⟨Wr,hWr⟩:∃W:World,W=wr:=⟨_,rfl⟩
  subst hWr
  have y0:=HR.out.2.2.2.2.1.cell 0
  simp at y0
  rcases Nat.lt_or_ge k n with hlt | hge
  ·have i0:(0:Int)<=(k:Int):=by omega
   have i1:(k:Int)<(n:Int):=by omega
   have hkl:k<l.length:=by rw [HH.out.2.2.1];exact hlt
   obtain ⟨b9,off,ok,ox,oo,ot,rfl,hat,hseg⟩:=ops_at HV.out k hkl
   obtain ⟨o,ho⟩:∃o,l[k]=o:=⟨_,rfl⟩
   rw [ho] at hat hseg
   obtain ⟨a1,n1,c1,a2,n2,c2,a3,n3,c3,a4,n4,c4,rfl,rfl,rfl,rfl⟩:=op_shape hseg
   have HP:Hid (OpSeg w (.slice a1 n1 c1) (.slice a2 n2 c2) (.slice a3 n3 c3) (.slice a4 n4 c4) o/\mayOp o=true/\callD q D [] l=callD q D1 outs (o :: l.drop (k+1))):=⟨hseg,HH.out.2.1 o (by rw [<-ho];exact List.getElem_mem hkl),by rw [HR.out.1,<-ho,List.getElem_cons_drop]⟩
   have HCE:Hid (∀y:World,Wr.grownBy y none->(y.cell? ⟨b,0,none⟩=some (.int .i64 q.1)/\y.cell? ⟨b,1,none⟩=some (.int .i64 q.2)/\y.cell? ⟨cb,0,none⟩=some (.slice (some ⟨b9,off,none⟩) n cap))/\y.cell? ⟨b9,off+k*8,none⟩=some (.int .i64 o.kind)/\y.cell? ⟨b9,off+k*8+1,none⟩=some (Str o.table)/\y.cell? ⟨b9,off+k*8+2,none⟩=some (.slice a1 n1 c1)/\y.cell? ⟨b9,off+k*8+3,none⟩=some (.slice a2 n2 c2)/\y.cell? ⟨b9,off+k*8+4,none⟩=some (.bool o.has)/\y.cell? ⟨b9,off+k*8+5,none⟩=some (.slice a3 n3 c3)/\y.cell? ⟨b9,off+k*8+6,none⟩=some (.slice a4 n4 c4)/\y.cell? ⟨b9,off+k*8+7,none⟩=some (.int .i64 o.most)):=fun y hy=>by
    have hw:=grown_trans HR.out.2.2.2.2.2.2.2.2 hy
    have h1:=HB.out.1.grown hw (by simp)
    obtain ⟨d0,d1,d2,d3,d4,d5,d6,d7⟩:=hat
    exact ⟨⟨h1.cell 0,h1.cell 1,(HR.out.2.2.2.2.1.grown hy (by simp)).cell 0⟩,hw.cell d0 (by simp),hw.cell d1 (by simp),hw.cell d2 (by simp),hw.cell d3 (by simp),hw.cell d4 (by simp),hw.cell d5 (by simp),hw.cell d6 (by simp),hw.cell d7 (by simp)⟩
   clear hat hseg ho hkl
   go_upto_region 6 with fail
   clear y0
   go_cut [8,9,10] (fun p8 p9 p10 wc=>∃(ub:Nat) (hb:Bool) (x1:Option Addr) (x2 x3:Nat) (y1:Option Addr) (y2 y3:Nat) (u1:Option Addr) (u2 u3:Nat) (c:Int),p8=.pointer (some ⟨ub,0,none⟩)/\p9=.slice u1 u2 u3/\p10=.int .i64 c/\Blk wc ub 72 #[.bool hb,.slice x1 x2 x3,.slice y1 y2 y3]/\OpR X q D1 o Wr.heap.size wc hb (.slice x1 x2 x3) (.slice y1 y2 y3) (.slice u1 u2 u3) c/\Wr.grownBy wc none)
   case first =>
    refine wp_region_noPanic ?_
    refine wp_region_hold 1000 (fun y=>Wr.grownBy y none) (by kernel_rfl) ?_
    have G0:Hid (Wr.grownBy Wr.drew none):=grown_drew _ _
    generalize Wr.drew=wd at G0 ⊢
    have J:Idx [0,1,2,3,4,5,6,7,8,9]:=trivial
    iterate 10 (refine tK J (G0.out) rfl rfl (fun wk hk=>by obtain ⟨⟨m0,m1,m2⟩,m3,m4,m5,m6,m7,m8,m9,m10⟩:=HCE.out wk hk;go_simp;try rfl) ?_;replace J:=J.tl;try simp only [pN])
    clear J
    refine wpHold_two (i:=10) (j:=15) rfl rfl (by kernel_rfl) (by rfl) (by rfl) (fun K hK=>?_) (fun K hK=>?_)
    ·go_wp2_with fail
     refine (op68 (X:=X) q D1 HR.out.2.2.1 (.slice au nu cu) (.slice a1 n1 c1) (.slice a2 n2 c2) (.slice a3 n3 c3) (.slice a4 n4 c4) o HP.out.2.1 wd (fun g hg=>by have:=HH.out.2.2.2 g hg;have:=HR.out.2.2.2.2.2.2.2.2.size;have:=G0.out.size;omega) (HR.out.2.2.2.1.grown G0.out) (HP.out.1.grown (grown_trans HR.out.2.2.2.2.2.2.2.2 G0.out))).mono ?_
     rintro e wd ⟨hb,x1,x2,x3,y1,y2,y3,u1,u2,u3,c,rfl,gg,hop⟩
     have HOP:Hid (OpR X q D1 o Wr.heap.size wd hb (.slice x1 x2 x3) (.slice y1 y2 y3) (.slice u1 u2 u3) c):=opR_mono hop G0.out.size
     try replace HU:Hid (Blk wd ub 72 #[.bool false,.slice none 0 0,.slice none 0 0]):=HU.out.grown gg (by simp)
     replace G0:Hid (Wr.grownBy wd none):=grown_trans G0.out gg
     clear gg hop
     go_wp2_with fail
     refine hK.out _ _ (fun _=>G0.out) ?_
     clear hK K
     try simp only [pN]
     have J:Idx [11,12,13,14]:=trivial
     iterate 4 (refine tK J (G0.out) rfl rfl (fun wk hk=>by obtain ⟨⟨m0,m1,m2⟩,m3,m4,m5,m6,m7,m8,m9,m10⟩:=HCE.out wk hk;go_simp;try rfl) ?_;replace J:=J.tl;try simp only [pN])
     clear J
     refine wpHold_one (i:=15) rfl (by kernel_rfl) (by rfl) (fun K hK=>?_)
     go_wp2_with fail
     obtain ⟨ub,hub⟩:∃x,wd.heap.size=x:=⟨_,rfl⟩
     have HUB:Hid (Wr.heap.size<=ub):=by rw [<-hub];exact G0.out.size
     obtain ⟨wd,hwn,HA⟩:=al wd #[.bool false,.slice none 0 0,.slice none 0 0] 72
     rw [hwn,hub]
     rw [hub] at HA
     have HU:Hid (Blk wd ub 72 #[.bool false,.slice none 0 0,.slice none 0 0]):=HA.out.1
     try replace HOP:Hid (OpR X q D1 o Wr.heap.size wd hb (.slice x1 x2 x3) (.slice y1 y2 y3) (.slice u1 u2 u3) c):=HOP.out.grown HA.out.2.1
     replace G0:Hid (Wr.grownBy wd none):=grown_trans G0.out HA.out.2.1
     clear hwn hub HA
     refine hK.out _ _ (fun _=>G0.out) ?_
     clear hK K
     try simp only [pN]
     refine wpHold_one (i:=16) rfl (by kernel_rfl) (by rfl) (fun K hK=>?_)
     have f0:=HU.out.free 0
     have f1:=HU.out.free 1
     have f2:=HU.out.free 2
     have b0:=HU.out.cell 0
     have b1:=HU.out.cell 1
     have b2:=HU.out.cell 2
     simp at b0 b1 b2
     go_wp2_with fail
     have HZ:Hid (Blk (((wd.setCell ⟨ub,0,none⟩ (.bool hb)).setCell ⟨ub,1,none⟩ (.slice x1 x2 x3)).setCell ⟨ub,2,none⟩ (.slice y1 y2 y3)) ub 72 #[.bool hb,.slice x1 x2 x3,.slice y1 y2 y3]/\OpR X q D1 o Wr.heap.size (((wd.setCell ⟨ub,0,none⟩ (.bool hb)).setCell ⟨ub,1,none⟩ (.slice x1 x2 x3)).setCell ⟨ub,2,none⟩ (.slice y1 y2 y3)) hb (.slice x1 x2 x3) (.slice y1 y2 y3) (.slice u1 u2 u3) c/\Wr.grownBy (((wd.setCell ⟨ub,0,none⟩ (.bool hb)).setCell ⟨ub,1,none⟩ (.slice x1 x2 x3)).setCell ⟨ub,2,none⟩ (.slice y1 y2 y3)) none):=⟨((HU.out.store 0 _).store 1 _).store 2 _,HOP.out.set3 HU.out,grown_new3 G0.out HUB.out⟩
     generalize (((wd.setCell ⟨ub,0,none⟩ (.bool hb)).setCell ⟨ub,1,none⟩ (.slice x1 x2 x3)).setCell ⟨ub,2,none⟩ (.slice y1 y2 y3))=wz at HZ ⊢
     clear f0 f1 f2 b0 b1 b2
     refine hK.out _ _ (fun _=>HZ.out.2.2) ?_
     clear hK K
     try simp only [pN]
     have J:Idx [17,18]:=trivial
     iterate 2 (refine tK J (HZ.out.2.2) rfl rfl (fun wk hk=>by obtain ⟨⟨m0,m1,m2⟩,m3,m4,m5,m6,m7,m8,m9,m10⟩:=HCE.out wk hk;go_simp;try rfl) ?_;replace J:=J.tl;try simp only [pN])
     clear J
     refine wpHold_done (by kernel_rfl) ?_
     refine (‹∀(a:Act) (w:World),Met _ a w->_› _ _ ?_)
     go_meet
     case rel=>exact ⟨ub,hb,x1,x2,x3,y1,y2,y3,u1,u2,u3,c,rfl,rfl,rfl,HZ.out⟩
    ·go_wp2_with fail
     obtain ⟨ub,hub⟩:∃x,wd.heap.size=x:=⟨_,rfl⟩
     have HUB:Hid (Wr.heap.size<=ub):=by rw [<-hub];exact G0.out.size
     obtain ⟨wd,hwn,HA⟩:=al wd #[.bool false,.slice none 0 0,.slice none 0 0] 72
     rw [hwn,hub]
     rw [hub] at HA
     have HU:Hid (Blk wd ub 72 #[.bool false,.slice none 0 0,.slice none 0 0]):=HA.out.1
     try replace HOP:Hid (OpR X q D1 o Wr.heap.size wd hb (.slice x1 x2 x3) (.slice y1 y2 y3) (.slice u1 u2 u3) c):=HOP.out.grown HA.out.2.1
     replace G0:Hid (Wr.grownBy wd none):=grown_trans G0.out HA.out.2.1
     clear hwn hub HA
     refine hK.out _ _ (fun _=>G0.out) ?_
     clear hK K
     try simp only [pN]
     refine wpHold_one (i:=10) rfl (by kernel_rfl) (by rfl) (fun K hK=>?_)
     go_wp2_with fail
     refine (op68 (X:=X) q D1 HR.out.2.2.1 (.slice au nu cu) (.slice a1 n1 c1) (.slice a2 n2 c2) (.slice a3 n3 c3) (.slice a4 n4 c4) o HP.out.2.1 wd (fun g hg=>by have:=HH.out.2.2.2 g hg;have:=HR.out.2.2.2.2.2.2.2.2.size;have:=G0.out.size;omega) (HR.out.2.2.2.1.grown G0.out) (HP.out.1.grown (grown_trans HR.out.2.2.2.2.2.2.2.2 G0.out))).mono ?_
     rintro e wd ⟨hb,x1,x2,x3,y1,y2,y3,u1,u2,u3,c,rfl,gg,hop⟩
     have HOP:Hid (OpR X q D1 o Wr.heap.size wd hb (.slice x1 x2 x3) (.slice y1 y2 y3) (.slice u1 u2 u3) c):=opR_mono hop G0.out.size
     try replace HU:Hid (Blk wd ub 72 #[.bool false,.slice none 0 0,.slice none 0 0]):=HU.out.grown gg (by simp)
     replace G0:Hid (Wr.grownBy wd none):=grown_trans G0.out gg
     clear gg hop
     go_wp2_with fail
     refine hK.out _ _ (fun _=>G0.out) ?_
     clear hK K
     try simp only [pN]
     have J:Idx [11,12,13,14]:=trivial
     iterate 4 (refine tK J (G0.out) rfl rfl (fun wk hk=>by obtain ⟨⟨m0,m1,m2⟩,m3,m4,m5,m6,m7,m8,m9,m10⟩:=HCE.out wk hk;go_simp;try rfl) ?_;replace J:=J.tl;try simp only [pN])
     clear J
     refine wpHold_one (i:=16) rfl (by kernel_rfl) (by rfl) (fun K hK=>?_)
     have f0:=HU.out.free 0
     have f1:=HU.out.free 1
     have f2:=HU.out.free 2
     have b0:=HU.out.cell 0
     have b1:=HU.out.cell 1
     have b2:=HU.out.cell 2
     simp at b0 b1 b2
     go_wp2_with fail
     have HZ:Hid (Blk (((wd.setCell ⟨ub,0,none⟩ (.bool hb)).setCell ⟨ub,1,none⟩ (.slice x1 x2 x3)).setCell ⟨ub,2,none⟩ (.slice y1 y2 y3)) ub 72 #[.bool hb,.slice x1 x2 x3,.slice y1 y2 y3]/\OpR X q D1 o Wr.heap.size (((wd.setCell ⟨ub,0,none⟩ (.bool hb)).setCell ⟨ub,1,none⟩ (.slice x1 x2 x3)).setCell ⟨ub,2,none⟩ (.slice y1 y2 y3)) hb (.slice x1 x2 x3) (.slice y1 y2 y3) (.slice u1 u2 u3) c/\Wr.grownBy (((wd.setCell ⟨ub,0,none⟩ (.bool hb)).setCell ⟨ub,1,none⟩ (.slice x1 x2 x3)).setCell ⟨ub,2,none⟩ (.slice y1 y2 y3)) none):=⟨((HU.out.store 0 _).store 1 _).store 2 _,HOP.out.set3 HU.out,grown_new3 G0.out HUB.out⟩
     generalize (((wd.setCell ⟨ub,0,none⟩ (.bool hb)).setCell ⟨ub,1,none⟩ (.slice x1 x2 x3)).setCell ⟨ub,2,none⟩ (.slice y1 y2 y3))=wz at HZ ⊢
     clear f0 f1 f2 b0 b1 b2
     refine hK.out _ _ (fun _=>HZ.out.2.2) ?_
     clear hK K
     try simp only [pN]
     have J:Idx [17,18]:=trivial
     iterate 2 (refine tK J (HZ.out.2.2) rfl rfl (fun wk hk=>by obtain ⟨⟨m0,m1,m2⟩,m3,m4,m5,m6,m7,m8,m9,m10⟩:=HCE.out wk hk;go_simp;try rfl) ?_;replace J:=J.tl;try simp only [pN])
     clear J
     refine wpHold_done (by kernel_rfl) ?_
     refine (‹∀(a:Act) (w:World),Met _ a w->_› _ _ ?_)
     go_meet
     case rel=>exact ⟨ub,hb,x1,x2,x3,y1,y2,y3,u1,u2,u3,c,rfl,rfl,rfl,HZ.out⟩
   case rest =>
    obtain ⟨ub,hb,x1,x2,x3,y1,y2,y3,u1,u2,u3,c,rfl,rfl,rfl,hz1,hz2,hz3⟩:=hcut
    have HZ:Hid (Blk wc ub 72 #[.bool hb,.slice x1 x2 x3,.slice y1 y2 y3]/\Wr.grownBy wc none/\Blk wc cb 37 #[.slice (some ⟨b9,off,none⟩) n cap]/\Blk wc rb 49 #[.int .i64 0,.int .i64 0,.slice none 0 0]/\Blk wc tb 49 #[.int .i64 0,.int .i64 0,.slice a k cp]/\OutsN wc w.heap.size (.slice a k cp) outs/\w.grownBy wc none):=⟨hz1,hz3,HR.out.2.2.2.2.1.grown hz3 (by simp),HR.out.2.2.2.2.2.1.grown hz3 (by simp),HR.out.2.2.2.2.2.2.1.grown hz3 (by simp),HR.out.2.2.2.2.2.2.2.1.grown hz3,grown_trans HR.out.2.2.2.2.2.2.2.2 hz3⟩
    have HOP:Hid (OpR X q D1 o Wr.heap.size wc hb (.slice x1 x2 x3) (.slice y1 y2 y3) (.slice u1 u2 u3) c):=hz2
    clear hz1 hz2 hz3 HCE
    rcases HOP.out with ⟨rfl,r,D2,hop1,hop2,hop3,hop4,hop5⟩ | ⟨hc0,hop⟩
    ·subst hop2
     have HO2:Hid (opD q D1 o=.ok (r,D2)/\OutN wc w.heap.size (r.has,.slice x1 x2 x3,.slice y1 y2 y3) r/\DRow X wc (.slice u1 u2 u3) (flatD D2)):=⟨hop1,⟨rfl,hop3.mono HR.out.2.2.2.2.2.2.2.2.size,hop4.mono HR.out.2.2.2.2.2.2.2.2.size⟩,hop5⟩
     clear hop1 hop3 hop4 hop5 HOP
     have q2:=HZ.out.2.2.2.2.1.cell 2
     have e0:=HZ.out.1.cell 0
     have e1:=HZ.out.1.cell 1
     have e2:=HZ.out.1.cell 2
     simp at q2 e0 e1 e2
     obtain ⟨w10,hw10,H10⟩:=al wc #[.bool r.has,.slice x1 x2 x3,.slice y1 y2 y3] 72
     have hW10:Hid (wc.alloc (.cells #[.bool r.has,.slice x1 x2 x3,.slice y1 y2 y3] 72)=w10):=hw10
     clear hw10
     go_upto_region 9 with fail
     go_wp2_with (at_builtin;rw [hW10.out];refine appO_at w10 rfl _ _ rfl w.heap.size (.slice a k cp) outs _ (r.has,.slice x1 x2 x3,.slice y1 y2 y3) r rfl rfl (HZ.out.2.2.2.2.2.1.grown H10.out.2.1) (vec_three wc _ _ _ w10 H10.out.1) (HO2.out.2.1.grown H10.out.2.1) rfl rfl ?c1 ?c2 ?_)
     case c1=>have:=HR.out.2.1;omega
     case c2=>exact (grown_trans HZ.out.2.2.2.2.2.2 H10.out.2.1).size
     intro a9 c9 w11 q9 hO9 g11 hq9
     have hlen:=HR.out.2.1
     rw [hlen] at hO9 ⊢
     have hoff:∀(bb tt:Nat) (cc:Array Value),Blk wc bb tt cc->tt≠72->Blk w11 bb tt cc:=fun bb tt cc hbb htt=>(hbb.grown H10.out.2.1 (by simp)).grown g11 (fun e=>by
      obtain ⟨_,c',hc',_⟩:=hq9 bb e
      have hbb':=hbb.grown H10.out.2.1 (by simp)
      unfold Blk at hbb' hc'
      rw [hbb'] at hc'
      simp at hc'
      exact htt hc'.2)
     have H12:Hid (OutsN w11 w.heap.size (.slice a9 (k+1) c9) (outs ++ [r])/\DRow X w11 (.slice u1 u2 u3) (flatD D2)/\Blk w11 cb 37 #[.slice (some ⟨b9,off,none⟩) n cap]/\Blk w11 rb 49 #[.int .i64 0,.int .i64 0,.slice none 0 0]/\Blk w11 tb 49 #[.int .i64 0,.int .i64 0,.slice a k cp]/\w.grownBy w11 none):=by
      refine ⟨hO9,?_,hoff _ _ _ HZ.out.2.2.1 (by decide),hoff _ _ _ HZ.out.2.2.2.1 (by decide),hoff _ _ _ HZ.out.2.2.2.2.1 (by decide),grown_new (grown_trans HZ.out.2.2.2.2.2.2 H10.out.2.1) g11 (fun g hg=>(hq9 g hg).1)⟩
      have h:=HO2.out.2.2.grown H10.out.2.1
      cases q9 with
      | none=>exact h.grown g11
      | some g =>
       obtain ⟨_,c',hc',hn'⟩:=hq9 g rfl
       exact h.off g11 hc' (by decide) (by decide)
     clear hO9 g11 hq9 hoff hlen hW10 H10 q2 e0 e1 e2
     have f2:=H12.out.2.2.2.2.1.free 2
     have b2:=H12.out.2.2.2.2.1.cell 2
     simp at b2
     go_wp2_with fail
     have H13:Hid (OutsN (w11.setCell ⟨tb,2,none⟩ (.slice a9 (k+1) c9)) w.heap.size (.slice a9 (k+1) c9) (outs ++ [r])/\DRow X (w11.setCell ⟨tb,2,none⟩ (.slice a9 (k+1) c9)) (.slice u1 u2 u3) (flatD D2)/\Blk (w11.setCell ⟨tb,2,none⟩ (.slice a9 (k+1) c9)) cb 37 #[.slice (some ⟨b9,off,none⟩) n cap]/\Blk (w11.setCell ⟨tb,2,none⟩ (.slice a9 (k+1) c9)) rb 49 #[.int .i64 0,.int .i64 0,.slice none 0 0]/\Blk (w11.setCell ⟨tb,2,none⟩ (.slice a9 (k+1) c9)) tb 49 #[.int .i64 0,.int .i64 0,.slice a9 (k+1) c9]/\w.grownBy (w11.setCell ⟨tb,2,none⟩ (.slice a9 (k+1) c9)) none):=by
      have hg:=grown_setCell w11 tb 2 (.slice a9 (k+1) c9)
      have hr:=HRB.out
      have hcb:=HCB.out
      exact ⟨H12.out.1.off hg H12.out.2.2.2.2.1 (by decide) (by decide) (by decide),H12.out.2.1.off hg H12.out.2.2.2.2.1 (by decide) (by decide),H12.out.2.2.1.grown hg (by simp;omega),H12.out.2.2.2.1.grown hg (by simp;omega),H12.out.2.2.2.2.1.store 2 _,grown_new H12.out.2.2.2.2.2 hg (fun g hh=>by simp at hh;omega)⟩
     generalize w11.setCell ⟨tb,2,none⟩ (.slice a9 (k+1) c9)=w12 at H13 ⊢
     go_roundw
     case rel=>exact ⟨k+1,D2,outs ++ [r],a9,c9,u1,u2,u3,rfl,by go_num,by omega,by rw [HP.out.2.2,callD,HO2.out.1],by simp [HR.out.2.1],opD_ok HR.out.2.2.1 HP.out.2.1 HO2.out.1,H13.out.2.1,H13.out.2.2.1,H13.out.2.2.2.1,H13.out.2.2.2.2.1,H13.out.1,H13.out.2.2.2.2.2⟩
     case measure =>
      simp [intOf]
      omega
    ·have v1:(c==0)=false:=by simpa using hc0
     have v2:(c != 0)=true:=by simpa using hc0
     have v3:(c=0)=False:=by simpa using hc0
     have HER:Hid (callD q D [] l=.error (c,k)):=by
      show _=_
      rw [HP.out.2.2,callD,hop,HR.out.2.1]
     clear hc0 hop HOP
     have f0:=HZ.out.2.2.2.1.free 0
     have f1:=HZ.out.2.2.2.1.free 1
     have f2:=HZ.out.2.2.2.1.free 2
     have b0:=HZ.out.2.2.2.1.cell 0
     have b1:=HZ.out.2.2.2.1.cell 1
     have b2:=HZ.out.2.2.2.1.cell 2
     simp at b0 b1 b2
     go_wp2_with fail
     refine bodyPost_ret (v:=_) (results_cell_row rfl _ _ rb 49 _ (0,0) _ rfl (((HZ.out.2.2.2.1.store 0 (.int .i64 c)).store 1 (.int .i64 (k:Int))).store 2 (.slice none 0 0)) Tryz.underlying49 rfl (by kernel_rfl)) rfl ?_
     have hle:w.heap.size<=rb:=by have:=HRB.out;have:=HCB.out;omega
     have gw:=grown_new3 (i:=0) (j:=1) (k:=2) (u:=.int .i64 c) (v:=.int .i64 (k:Int)) (x:=.slice none 0 0) HZ.out.2.2.2.2.2.2 hle
     exact ⟨grown_weak gw _,.inr ⟨c,k,HER.out,rfl,⟨_,HB.out.1.grown gw (by simp),HB.out.2.grown gw⟩⟩⟩
  ·obtain rfl:k=n:=by omega
   have i1:¬((k:Int)<(k:Int)):=by omega
   have HEN:Hid (callD q D [] l=.ok (outs,D1)):=by
    show _=_
    rw [HR.out.1,List.drop_of_length_le (by rw [HH.out.2.2.1];exact Nat.le_refl _),callD]
   have HBB:Hid (Blk Wr b 77 #[.int .i64 q.1,.int .i64 q.2,.slice a0 n0 c0]):=HB.out.1.grown HR.out.2.2.2.2.2.2.2.2 (by simp)
   have e2:=HBB.out.cell 2
   have g2:=HBB.out.free 2
   simp at e2
   go_upto_region 12 with fail
   have hblt:=HB.out.1.lt
   have HT:Hid (Blk (Wr.setCell ⟨b,2,none⟩ (.slice au nu cu)) b 77 #[.int .i64 q.1,.int .i64 q.2,.slice au nu cu]/\DRow X (Wr.setCell ⟨b,2,none⟩ (.slice au nu cu)) (.slice au nu cu) (flatD D1)/\Blk (Wr.setCell ⟨b,2,none⟩ (.slice au nu cu)) rb 49 #[.int .i64 0,.int .i64 0,.slice none 0 0]/\Blk (Wr.setCell ⟨b,2,none⟩ (.slice au nu cu)) tb 49 #[.int .i64 0,.int .i64 0,.slice a k cp]/\OutsN (Wr.setCell ⟨b,2,none⟩ (.slice au nu cu)) w.heap.size (.slice a k cp) outs/\w.grownBy (Wr.setCell ⟨b,2,none⟩ (.slice au nu cu)) (some b)):=by
    have hg:=grown_setCell Wr b 2 (.slice au nu cu)
    have hr:=HRB.out
    have hcb:=HCB.out
    exact ⟨HBB.out.store 2 _,HR.out.2.2.2.1.off hg HBB.out (by decide) (by decide),HR.out.2.2.2.2.2.1.grown hg (by simp;omega),HR.out.2.2.2.2.2.2.1.grown hg (by simp;omega),HR.out.2.2.2.2.2.2.2.1.off hg HBB.out (by decide) (by decide) (by decide),grown_trans (grown_weak HR.out.2.2.2.2.2.2.2.2 _) hg⟩
   generalize Wr.setCell ⟨b,2,none⟩ (.slice au nu cu)=w8 at HT ⊢
   clear e2 g2 HBB y0
   have f0:=HT.out.2.2.1.free 0
   have f1:=HT.out.2.2.1.free 1
   have f2:=HT.out.2.2.1.free 2
   have b0:=HT.out.2.2.1.cell 0
   have b1:=HT.out.2.2.1.cell 1
   have b2:=HT.out.2.2.1.cell 2
   have s0:=HT.out.2.2.2.1.cell 0
   have s1:=HT.out.2.2.2.1.cell 1
   have s2:=HT.out.2.2.2.1.cell 2
   simp at b0 b1 b2 s0 s1 s2
   go_wp2_with fail
   refine bodyPost_ret (v:=_) (results_cell_row rfl _ _ rb 49 _ (0,0) _ rfl (((HT.out.2.2.1.store 0 (.int .i64 0)).store 1 (.int .i64 0)).store 2 (.slice a k cp)) Tryz.underlying49 rfl (by kernel_rfl)) rfl ?_
   have hr:=HRB.out
   have hcb:=HCB.out
   refine ⟨grown_new3 HT.out.2.2.2.2.2 (by omega),.inl ⟨outs,D1,HEN.out,HR.out.2.2.1,_,rfl,outs_set3 HT.out.2.2.2.2.1 HT.out.2.2.1,_,?_,drow_set3 HT.out.2.1 HT.out.2.2.1 (by decide) (by decide)⟩⟩
   exact ((HT.out.1.grown (grown_setCell _ _ _ _) (by simp;omega)).grown (grown_setCell _ _ _ _) (by simp;omega)).grown (grown_setCell _ _ _ _) (by simp;omega)
end Go.Proofs.YtakmlhhapegpoaaGreat
