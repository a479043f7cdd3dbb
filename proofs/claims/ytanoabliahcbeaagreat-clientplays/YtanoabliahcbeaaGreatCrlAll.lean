import Derived.Test.YtanoabliahcbeaaGreatCnAll
import Derived.Test.YtanoabliahcbeaaGreatCallsAl
import Derived.Test.YtanoabliahcbeaaGreatCallsPe
set_option maxHeartbeats 8000000
set_option maxRecDepth 100000
namespace Go.Proofs.YtanoabliahcbeaaGreat.Calls
open Go.RowKit Disk
open Names (Str)
open Wire (RdB RdG)
structure RowOwn (w:World)(B:Nat)(k v:Value)(r:PRow):Prop where
 key:Own w B k r.1
 value:Own w B v r.2
theorem RowOwn.grown {w w':World}{B:Nat}{k v:Value}{r:PRow}(h:RowOwn w B k v r)(hg:w.grownBy w' none):RowOwn w' B k v r:=⟨h.key.grown hg,h.value.grown hg⟩
theorem RowOwn.mono {w:World}{B B':Nat}{k v:Value}{r:PRow}(h:RowOwn w B k v r)(hB:B'<=B):RowOwn w B' k v r:=⟨h.key.mono hB,h.value.mono hB⟩
theorem RowOwn.set {w w':World}{B x t':Nat}{c:Array Value}{k v:Value}{r:PRow}(h:RowOwn w B k v r)(hx:Blk w x t' c)(ht:t'≠5)(hg:w.grownBy w' (some x)):RowOwn w' B k v r:=⟨aO h.key hx ht hg,aO h.value hx ht hg⟩
def RowR (B:Nat)(w:World)(x:List Value)(r:PRow):Prop:=∃k v,x=[k,v]/\RowOwn w B k v r
theorem jt (B:Nat):Stab (fun t=>t=5) (RowR B):=by
 refine ⟨fun w w' vs x h hg=>?_,fun w w' vs x g t cur h hb ht hg=>?_⟩
 ·obtain ⟨k,v,e,h⟩:=h
  exact ⟨k,v,e,h.grown hg⟩
 ·obtain ⟨k,v,e,h⟩:=h
  exact ⟨k,v,e,h.set hb ht hg⟩
def aY (w:World)(B:Nat)(v:Value)(l:List PRow):Prop:=LRow 214 2 (RowR B) w B v l/\l.length<=1099511627776
theorem aY.rws {w:World}{B:Nat}{v:Value}{l:List PRow}(h:aY w B v l):Rws w v l:=by
 obtain ⟨h,hl⟩:=h
 obtain ⟨x,y,e⟩:=h.shape
 refine ⟨x,y,e,by omega,fun j hj=>?_⟩
 obtain ⟨g,cap,cs,e2,hlen,⟨k,v',rfl,ho⟩,_,_,hc⟩:=h.cell j hj
 rw [e] at e2
 simp at e2
 refine ⟨g,0,k,v',e2.1,?_⟩
 rw [Nat.zero_add]
 exact ⟨hc 0 (by omega),hc 1 (by omega),ho.key.seg,ho.value.seg⟩
theorem aY.grown {w w':World}{B:Nat}{v:Value}{l:List PRow}(h:aY w B v l)(hg:w.grownBy w' none):aY w' B v l:=⟨h.1.grown (jt B) hg,h.2⟩
theorem aY.set {w w':World}{B x t':Nat}{v:Value}{l:List PRow}{cc:Array Value}(h:aY w B v l)(hx:Blk w x t' cc)(h1:t'≠214)(h2:t'≠5)(hg:w.grownBy w' (some x)):aY w' B v l:=⟨h.1.set (jt B) hx h1 h2 hg,h.2⟩
theorem aY.mono {w:World}{B B':Nat}{v:Value}{l:List PRow}(h:aY w B v l)(hB:B'<=B):aY w B' v l:=by
 obtain ⟨⟨vs,h1,h2,h3,h4⟩,hl⟩:=h
 refine ⟨LRow.mono ⟨vs,h1,h2,h3,fun j hj hj'=>?_⟩ hB,hl⟩
 obtain ⟨k,v,e,ho⟩:=h4 j hj hj'
 exact ⟨k,v,e,ho.mono hB⟩
structure OutOwn (w:World)(B:Nat)(k v:Value)(o:POut):Prop where
 value:Own w B k o.value
 rows:aY w B v o.rows
theorem OutOwn.grown {w w':World}{B:Nat}{k v:Value}{o:POut}(h:OutOwn w B k v o)(hg:w.grownBy w' none):OutOwn w' B k v o:=⟨h.value.grown hg,h.rows.grown hg⟩
theorem OutOwn.mono {w:World}{B B':Nat}{k v:Value}{o:POut}(h:OutOwn w B k v o)(hB:B'<=B):OutOwn w B' k v o:=⟨h.value.mono hB,h.rows.mono hB⟩
theorem OutOwn.set {w w':World}{B x t':Nat}{c:Array Value}{k v:Value}{o:POut}(h:OutOwn w B k v o)(hx:Blk w x t' c)(h1:t'≠214)(h2:t'≠5)(hg:w.grownBy w' (some x)):OutOwn w' B k v o:=⟨aO h.value hx h2 hg,h.rows.set hx h1 h2 hg⟩
def OutR (B:Nat)(w:World)(x:List Value)(o:POut):Prop:=∃k v,x=[.bool o.has,k,v]/\OutOwn w B k v o
theorem ju (B:Nat):Stab (fun t=>t=214\/t=5) (OutR B):=by
 refine ⟨fun w w' vs x h hg=>?_,fun w w' vs x g t cur h hb ht hg=>?_⟩
 ·obtain ⟨k,v,e,h⟩:=h
  exact ⟨k,v,e,h.grown hg⟩
 ·obtain ⟨k,v,e,h⟩:=h
  exact ⟨k,v,e,h.set hb (fun e=>ht (.inl e)) (fun e=>ht (.inr e)) hg⟩
def aQ (w:World)(B:Nat)(v:Value)(l:List POut):Prop:=LRow 212 3 (OutR B) w B v l/\l.length<=1099511627776
theorem aQ.outs {w:World}{B:Nat}{v:Value}{l:List POut}(h:aQ w B v l):Outs w v l:=by
 obtain ⟨h,hl⟩:=h
 obtain ⟨x,y,e⟩:=h.shape
 refine ⟨x,y,e,by omega,fun j hj=>?_⟩
 obtain ⟨g,cap,cs,e2,hlen,⟨k,v',rfl,ho⟩,_,_,hc⟩:=h.cell j hj
 rw [e] at e2
 simp at e2
 refine ⟨g,0,k,v',e2.1,?_,ho.value.seg,ho.rows.rws⟩
 rw [Nat.zero_add]
 exact ⟨hc 0 (by omega),hc 1 (by omega),hc 2 (by omega)⟩
theorem aQ.grown {w w':World}{B:Nat}{v:Value}{l:List POut}(h:aQ w B v l)(hg:w.grownBy w' none):aQ w' B v l:=⟨h.1.grown (ju B) hg,h.2⟩
theorem aQ.set {w w':World}{B x t':Nat}{v:Value}{l:List POut}{cc:Array Value}(h:aQ w B v l)(hx:Blk w x t' cc)(h0:t'≠212)(h1:t'≠214)(h2:t'≠5)(hg:w.grownBy w' (some x)):aQ w' B v l:=⟨h.1.set (ju B) hx h0 (fun e=>e.elim h1 h2) hg,h.2⟩
theorem aQ.mono {w:World}{B B':Nat}{v:Value}{l:List POut}(h:aQ w B v l)(hB:B'<=B):aQ w B' v l:=by
 obtain ⟨⟨vs,h1,h2,h3,h4⟩,hl⟩:=h
 refine ⟨LRow.mono ⟨vs,h1,h2,h3,fun j hj hj'=>?_⟩ hB,hl⟩
 obtain ⟨k,v,e,ho⟩:=h4 j hj hj'
 exact ⟨k,v,e,ho.mono hB⟩
theorem aY.slice {w:World}{B:Nat}{v:Value}{l:List PRow}(h:aY w B v l):∃x n y,v=.slice x n y/\n=l.length:=by obtain ⟨x,y,e⟩:=h.1.shape;exact ⟨x,_,y,e,rfl⟩
theorem aQ.slice {w:World}{B:Nat}{v:Value}{l:List POut}(h:aQ w B v l):∃x n y,v=.slice x n y/\n=l.length:=by obtain ⟨x,y,e⟩:=h.1.shape;exact ⟨x,_,y,e,rfl⟩
structure MidG (t:Nat)(z:Array Value)(w w1:World)(b:Nat)(L:Bs)(cs:Array Value):Prop where
 rr:RR w1 b L
 box:Blk w1 w.heap.size 149 #[.pointer (some ⟨b,0,none⟩)]
 res:Blk w1 (w.heap.size+1) t z
 op:Blk w1 (w.heap.size+2) t cs
 grow:w.grownBy w1 (some b)
section
variable {t:Nat} {z:Array Value} {w w1 w2:World} {b:Nat} {L M:Bs} {cs:Array Value}
theorem kK (t:Nat)(z:Array Value)(hr:RR w b L):MidG t z w (((w.alloc (.cells #[.pointer (some ⟨b,0,none⟩)] 149)).alloc (.cells z t)).alloc (.cells z t)) b L z:=by
 refine ⟨hr.grown (cw _ _ _ _),?_,?_,?_,aP (cw _ _ _ _) _⟩
 ·exact Blk.grown (Blk.grown (heap_alloc_new w _) gA_ (by simp)) gA_ (by simp)
 ·have:=Blk.grown (heap_alloc_new (w.alloc (.cells #[.pointer (some ⟨b,0,none⟩)] 149)) (.cells z t)) (World.grownBy_alloc _ (.cells z t) none) (by simp)
  simpa using this
 ·have:=heap_alloc_new ((w.alloc (.cells #[.pointer (some ⟨b,0,none⟩)] 149)).alloc (.cells z t)) (.cells z t)
  simpa [Blk] using this
theorem MidG.call (h:MidG t z w w1 b L cs)(ht:t≠220)(hr:RR w2 b M)(hg:w1.grownBy w2 (some b)):MidG t z w w2 b M cs :=
 ⟨hr,h.box.grown hg (fun e=>h.rr.ne h.box (by decide) (by simpa using e.symm)),h.res.grown hg (fun e=>h.rr.ne h.res ht (by simpa using e.symm)),h.op.grown hg (fun e=>h.rr.ne h.op ht (by simpa using e.symm)),aa h.grow hg⟩
theorem MidG.keep (h:MidG t z w w1 b L cs)(hg:w1.grownBy w2 (some b)):Keep w1 w2:=by
 obtain ⟨s,hs⟩:=h.rr.blk
 exact kA hs (by decide) hg
theorem MidG.store (h:MidG t z w w1 b L cs)(h1:t≠220)(h5:t≠5)(i:Nat)(v:Value):MidG t z w (w1.setCell ⟨w.heap.size+2,i,none⟩ v) b L (cs.setIfInBounds i v) :=
 have hg:=ae w1 (w.heap.size+2) i v
 ⟨h.rr.set h.op hg h1 h5,h.box.grown hg (by simp),h.res.grown hg (by simp),h.op.store i v,ai h.grow hg (fun y hy=>by simp at hy;omega)⟩
theorem MidG.more (h:MidG t z w w1 b L cs)(hg:w1.grownBy w2 none):MidG t z w w2 b L cs:=⟨h.rr.grown hg,h.box.grown hg (by simp),h.res.grown hg (by simp),h.op.grown hg (by simp),aa h.grow (aP hg _)⟩
end
def qX (w:World)(r:PRow)(v:Value)(w':World):Prop:=∃k x,v=.agg #[k,x]/\RowOwn w' w.heap.size k x r
theorem AR (b:Nat)(L:Bs)(w:World)(hz:L.length<=140737488355328)(hr:RR w b L):Calls Tryz.prog 206 #[rdV b] w (bj b w (pRow L) (qX w)):=by
 have HM0:Hid (MidG 214 #[.slice none 0 0,.slice none 0 0] w _ b L #[.slice none 0 0,.slice none 0 0]):=kK 214 #[.slice none 0 0,.slice none 0 0] hr
 have hblt:b<w.heap.size:=by obtain ⟨s,hs⟩:=hr.blk;exact hs.lt
 clear hr
 have e0:rdV b=.agg #[.pointer (some ⟨b,0,none⟩)]:=rfl
 rw [e0]
 go_enter Tryz.func206,Tryz.ntmps206
 go_wp2_with (go_at_call 154;refine (cI _ b L 64 rfl _ (by decide) hz HM0.out.rr).mono ?_)
 intro e w1 h
 rcases h.symm with ⟨hx,rfl,hg⟩ | ⟨ky,L1,v,hx,rfl,ho,hR,hg⟩
 ·have F:Hid (pRow L=none/\w.grownBy w1 (some b)):=⟨by unfold pRow;rw [hx];rfl,aa HM0.out.grow hg⟩
  clear hx hg h
  unfold Pan
  go_wp2_with fail
  exact ⟨rfl,.inr ⟨F.out.1,rfl,F.out.2⟩⟩
 clear h
 have HK:Hid (aZ 64 L=some (ky,L1)):=hx
 have hz1:L1.length<=140737488355328:=Nat.le_trans (eS hx) hz
 obtain ⟨x1,n1,y1,rfl⟩:=aB ho
 have HM1:Hid (MidG 214 #[.slice none 0 0,.slice none 0 0] w w1 b L1 #[.slice none 0 0,.slice none 0 0]/\Own w1 w.heap.size (.slice x1 n1 y1) ky):=⟨HM0.out.call (by decide) hR hg,ho.mono (by simp;omega)⟩
 clear hx ho hR hg HM0
 have c0:=HM1.out.1.op.cell 0
 have f0:=HM1.out.1.op.free 0
 have kb:=(HM1.out.1.store (by decide) (by decide) 0 (.slice x1 n1 y1)).box.cell 0
 go_wp2_with (go_at_call 154;refine (cI _ b L1 256 rfl _ (by decide) hz1 (HM1.out.1.store (by decide) (by decide) 0 (.slice x1 n1 y1)).rr).mono ?_)
 intro e w2 h
 have HM2:Hid (MidG 214 #[.slice none 0 0,.slice none 0 0] w (w1.setCell ⟨w.heap.size+2,0,none⟩ (.slice x1 n1 y1)) b L1 #[.slice x1 n1 y1,.slice none 0 0]/\Own (w1.setCell ⟨w.heap.size+2,0,none⟩ (.slice x1 n1 y1)) w.heap.size (.slice x1 n1 y1) ky):=⟨HM1.out.1.store (by decide) (by decide) 0 _,aO HM1.out.2 HM1.out.1.op (by decide) (ae _ _ _ _)⟩
 rcases h.symm with ⟨hx,rfl,hg⟩ | ⟨vy,L2,v2,hx,rfl,ho,hR,hg⟩
 ·have F:Hid (pRow L=none/\w.grownBy w2 (some b)):=⟨by unfold pRow;rw [HK.out];simp [hx],aa HM2.out.1.grow hg⟩
  clear hx hg h c0 f0 kb
  unfold Pan
  go_wp2_with fail
  exact ⟨rfl,.inr ⟨F.out.1,rfl,F.out.2⟩⟩
 clear h c0 f0 kb
 have HV:Hid (aZ 256 L1=some (vy,L2)):=hx
 obtain ⟨x2,n2,y2,rfl⟩:=aB ho
 have HM3:Hid (MidG 214 #[.slice none 0 0,.slice none 0 0] w w2 b L2 #[.slice x1 n1 y1,.slice none 0 0]/\Own w2 w.heap.size (.slice x1 n1 y1) ky/\Own w2 w.heap.size (.slice x2 n2 y2) vy):=⟨HM2.out.1.call (by decide) hR hg,HM2.out.1.keep hg _ _ _ HM2.out.2,ho.mono HM2.out.1.grow.size⟩
 clear hx ho hR hg HM1 HM2
 obtain ⟨w3,hw3⟩:∃W,w2.setCell ⟨w.heap.size+2,1,none⟩ (.slice x2 n2 y2)=W:=⟨_,rfl⟩
 have HM4:Hid (MidG 214 #[.slice none 0 0,.slice none 0 0] w w3 b L2 #[.slice x1 n1 y1,.slice x2 n2 y2]/\RowOwn w3 w.heap.size (.slice x1 n1 y1) (.slice x2 n2 y2) (ky,vy)):=by
  rw [<-hw3]
  exact ⟨HM3.out.1.store (by decide) (by decide) 1 _,aO HM3.out.2.1 HM3.out.1.op (by decide) (ae _ _ _ _),aO HM3.out.2.2 HM3.out.1.op (by decide) (ae _ _ _ _)⟩
 have c1:=HM3.out.1.op.cell 1
 have f1:=HM3.out.1.op.free 1
 have d0:=HM4.out.1.op.cell 0
 have d1:=HM4.out.1.op.cell 1
 cases hkb:Names.keyB ky with
 | false =>
  have F:Hid (pRow L=none/\w.grownBy w3 (some b)):=⟨by unfold pRow;rw [HK.out];simp [HV.out,hkb],HM4.out.1.grow⟩
  go_wp2_with (first | (go_at_call 166;refine (Names.wH _ ky _ HM4.out.2.key.seg).mono ?_;rintro e w4 ⟨rfl,hw4⟩;rw [hw4,hkb];clear hw4) | (go_at_call 110;refine (cn _ _).mono ?_;rintro e w5 ⟨rfl,hw5⟩;rw [hw5];clear hw5;unfold Pan))
  exact ⟨rfl,.inr ⟨F.out.1,rfl,F.out.2⟩⟩
 | true =>
  have F:Hid (pRow L=some ((ky,vy),L2)):=by unfold pRow;rw [HK.out];simp [HV.out,hkb,Hid]
  have g0:=HM4.out.1.res.cell 0
  have g1:=HM4.out.1.res.cell 1
  have j0:=HM4.out.1.res.free 0
  have j1:=HM4.out.1.res.free 1
  have HB:Hid _:=And.intro ((HM4.out.1.res.store 0 (.slice x1 n1 y1)).store 1 (.slice x2 n2 y2)) (aa (ae w3 (w.heap.size+1) 0 (.slice x1 n1 y1)) (ae _ (w.heap.size+1) 1 (.slice x2 n2 y2)))
  go_wp2_with (first | (go_at_call 166;refine (Names.wH _ ky _ HM4.out.2.key.seg).mono ?_;rintro e w4 ⟨rfl,hw4⟩;rw [hw4,hkb];clear hw4) | (go_at_call 110;refine (bq _ _).mono ?_;rintro e w5 ⟨rfl,hw5⟩;rw [hw5];clear hw5))
  refine bodyPost_ret (v:=_) (results_cell_row rfl _ _ (w.heap.size+1) 214 _ (0,0) _ rfl HB.out.1 Tryz.underlying214 rfl (by kernel_rfl)) rfl ?_
  exact .inl ⟨(ky,vy),L2,_,F.out,rfl,⟨_,_,rfl,HM4.out.2.set HM4.out.1.res (by decide) HB.out.2⟩,HM4.out.1.rr.set HM4.out.1.res HB.out.2 (by decide) (by decide),ai HM4.out.1.grow HB.out.2 (fun y hy=>by simp at hy;omega)⟩
theorem AS (c:Value)(w:World):(binOp .eql 283 (.func (.func 215) #[] #[c]) .nilFunc).run Tryz.prog w=.ok (.bool false) w:=by kernel_rfl
theorem jL {most n:Nat}{L M:Bs}(h:pNum most L=some (n,M)):aH pRow most L=bL pRow n M:=by unfold aH;rw [h];rfl
theorem oq {most:Nat}{L:Bs}(h:pNum most L=none):aH pRow most L=none:=by unfold aH;rw [h];rfl
theorem yi (L:Bs)(x:PRow)(M:Bs)(h:pRow L=some (x,M)):M.length<=L.length:=by rw [(nO h).2];simp
theorem AU (b f:Nat)(L:Bs)(w:World)(hz:L.length<=140737488355328)(hr:RR w b L)(hf:Blk w f 275 #[.func (.func 206) #[] #[]]) :
  Calls Tryz.prog 215 #[.pointer (some ⟨b,0,none⟩),.pointer (some ⟨f,0,none⟩)] w (bj b w (pRow L) (fun o v w'=>∃u,v=.tuple #[u,.int .i64 0]/\qX w o u w')):=by
 have HR:Hid (RR w b L):=hr
 have hb:b<w.heap.size:=by obtain ⟨s,hs⟩:=hr.blk;exact hs.lt
 have kf:=fun o=>ar (World.grownBy_alloc w o none) (hf.cell 0)
 clear hr
 go_enter Tryz.func215,Tryz.ntmps215
 go_wp2_with (go_at_call 206;refine (AR b L _ hz (HR.out.grown gA_)).mono ?_)
 intro e w1 h
 rcases h.symm with ⟨hx,rfl,hg⟩ | ⟨o,M,v,hx,rfl,ho,hR,hg⟩
 ·have F:Hid (pRow L=none/\w.grownBy w1 (some b)):=⟨hx,aa (World.grownBy_alloc _ _ _) hg⟩
  clear hx hg h
  unfold Pan
  go_wp2_with fail
  exact ⟨rfl,.inr ⟨F.out.1,rfl,F.out.2⟩⟩
 clear h
 have hres:Blk w1 w.heap.size 214 #[.slice none 0 0,.slice none 0 0]:=Blk.grown (heap_alloc_new w _) hg (fun e=>by simp at e;omega)
 have HW:Hid (w.grownBy w1 (some b)/\RR w1 b M/\pRow L=some (o,M)):=⟨aa (World.grownBy_alloc _ _ _) hg,hR,hx⟩
 obtain ⟨k,x,rfl,ho⟩:=ho
 obtain ⟨xa,na,ya,rfl⟩:=aB ho.key
 obtain ⟨xb,nb,yb,rfl⟩:=aB ho.value
 have r0:=hres.cell 0
 have z0:=hres.free 0
 have r1:=hres.cell 1
 have z1:=hres.free 1
 have HB:Hid _:=And.intro ((hres.store 0 (.slice xa na ya)).store 1 (.slice xb nb yb)) (aa (ae w1 w.heap.size 0 (.slice xa na ya)) (ae _ w.heap.size 1 (.slice xb nb yb)))
 have HO:Hid (RowOwn w1 w.heap.size (.slice xa na ya) (.slice xb nb yb) o/\Blk w1 w.heap.size 214 #[.slice none 0 0,.slice none 0 0]):=⟨ho.mono (by simp),hres⟩
 clear ho hres hx hg hR
 go_wp2_with fail
 refine bodyPost_ret (v:=_) (aI rfl _ _ w.heap.size _ rfl (run_loadVar_row _ w.heap.size 214 214 _ (0,0) _ HB.out.1 Tryz.underlying214 rfl (by kernel_rfl))) rfl ?_
 exact .inl ⟨o,M,_,HW.out.2.2,rfl,⟨_,rfl,_,_,rfl,HO.out.1.set HO.out.2 (by decide) HB.out.2⟩,HW.out.2.1.set HO.out.2 HB.out.2 (by decide) (by decide),ai HW.out.1 HB.out.2 (fun y hy=>by simp at hy;omega)⟩
theorem Tryz.info214:(Tryz.prog.info? 214).map (fun i=>(i.zero,i.size,i.bytes))=some (some (.agg #[.slice none 0 0,.slice none 0 0]),2,48):=by kernel_rfl
theorem ot {o:Oper}{a:Act}{K:Act->World->Prop}{Q:Exit->Act->World->Prop}(w:World)(s x:Operand)
  (ho:o.op=.call { callee:=.builtin .append,args:=#[s,x],argTypes:=#[210,210] })
  (B:Nat) (v:Value) (l:List PRow) (p:PRow) (g:Nat) (k vl:Value) (hs:a.eval s=v) (hx:a.eval x=.slice (some ⟨g,0,none⟩) 1 1)
  (hrow:aY w B v l) (hc:Blk w g 214 #[k,vl]) (hp:RowOwn w B k vl p) (hb:l.length<=100000000) (hB:B<=w.heap.size)
  (h:∀g' cap' w',aY w' B (.slice (some ⟨g',0,none⟩) (l.length+1) cap') (l ++ [p])->w.grownBy w' v.ownBlock->(v.ownBlock=some g'\/g'=w.heap.size)->K (a.put o.dst (.slice (some ⟨g',0,none⟩) (l.length+1) cap')) w'):o.wp Tryz.prog a w K Q:=by
 obtain ⟨i0,hi,hz0,hz1,hz2⟩:=info_parts Tryz.info214
 obtain ⟨⟨vs,h1,h2,h3,h4⟩,hl⟩:=hrow
 have q0:=hc.cell 0
 have q1:=hc.cell 1
 obtain ⟨xa,na,ya,rfl⟩:=aB hp.key
 obtain ⟨xb,nb,yb,rfl⟩:=aB hp.value
 refine wp_append_lies w s x 210 ho B 214 i0 _ 2 48 Tryz.underlying210 hi hz0 hz1 hz2 rfl (by decide) v l.length vs.flatten hs h1 ⟨g,0,none⟩ 1 1 [.slice xa na ya,.slice xb nb yb] hx rfl ?_ ?_ (by decide) (by unfold maxLen;omega) (by omega) hB w.heap.size rfl ?_
 ·intro j y hj
  rw [dD]
  match j,hj with
  | 0,hj=>simp at hj;subst hj;exact q0
  | 1,hj=>simp at hj;subst hj;exact q1
  | j+2,hj=>simp at hj
 ·intro y hy
  simp at hy
  rcases hy with rfl | rfl <;> rfl
 ·intro g' cap' w' r2 r3 r4 _
  exact h g' cap' w' ⟨LRow.snoc (jt B) (by decide) h1 h2 h3 h4 rfl ⟨_,_,rfl,hp⟩ r3 r2,by simp;omega⟩ r3 r4
theorem B5 {ops:Array Oper}{rest:List Oper}{o:Oper}{a:Act}{Q:Exit->Act->World->Prop}(w:World)(hw:Region.wanted o (yielded ops a.tmps)=true)(s x:Operand)
  (ho:o.op=.call { callee:=.builtin .append,args:=#[s,x],argTypes:=#[210,210] })
  (B:Nat) (v:Value) (l:List PRow) (p:PRow) (g:Nat) (k vl:Value) (hs:a.eval s=v) (hx:a.eval x=.slice (some ⟨g,0,none⟩) 1 1)
  (hrow:aY w B v l) (hc:Blk w g 214 #[k,vl]) (hp:RowOwn w B k vl p) (hb:l.length<=100000000) (hB:B<=w.heap.size)
  (h:∀g' cap' w',aY w' B (.slice (some ⟨g',0,none⟩) (l.length+1) cap') (l ++ [p])->w.grownBy w' v.ownBlock->(v.ownBlock=some g'\/g'=w.heap.size)->wpList Tryz.prog ops Q rest (a.put o.dst (.slice (some ⟨g',0,none⟩) (l.length+1) cap')) w'):wpList Tryz.prog ops Q (o :: rest) a w :=
 BigFrame.wpList_want hw fun _ hK=>ot w s x ho B v l p g k vl hs hx hrow hc hp hb hB fun g' cap' w' h1 h2 h3=>hK _ _ (h g' cap' w' h1 h2 h3)
theorem si (b f n:Nat)(L:Bs)(w:World)(hn:n<=100)(hz:L.length<=140737488355328)(hr:RR w b L)(hf:Blk w f 275 #[.func (.func 206) #[] #[]]) :
  Calls Tryz.prog 219 #[.pointer (some ⟨b,0,none⟩),.int .u64 n,.func (.func 215) #[] #[.pointer (some ⟨f,0,none⟩)]] w (bj b w (bL pRow n L) (fun l v w'=>∃u,v=.tuple #[u,.int .i64 0]/\aY w' w.heap.size u l)):=by
 have HR:Hid (RR w b L/\Blk w f 275 #[.func (.func 206) #[] #[]]):=⟨hr,hf⟩
 have hblt:b<w.heap.size:=by obtain ⟨s,hs⟩:=hr.blk;exact hs.lt
 have hfb:f≠b:=hr.ne hf (by decide)
 clear hr hf
 go_enter Tryz.func219,Tryz.ntmps219
 go_wp2_with fail
 go_loopw [8,12] (fun v i wr=>∃(k:Nat) (xs:List PRow) (M:Bs),k<=n/\i=.int .u64 k/\Hid (bL pRow k L=some (xs,M))/\aY wr w.heap.size v xs/\RR wr b M/\w.grownBy wr (some b)) (fun _ i _=>n-(intOf i).toNat)
 case atStart=>exact ⟨0,[],L,by omega,rfl,rfl,⟨br _ _,by simp⟩,HR.out.1,aj _ _⟩
 case round =>
  obtain ⟨k,xs,M,hk,rfl,hp,hown,hrr,hg⟩:=hrel
  obtain ⟨hlen,hxs⟩:=gW yi k L xs M hp.out
  have hf1:Blk wr f 275 #[.func (.func 206) #[] #[]]:=HR.out.2.grown hg (fun e=>hfb (by simpa using e.symm))
  by_cases hlt:k<n
  ·have i2:(k:Int)<(n:Int):=by omega
   have HO:Hid (aY wr w.heap.size u8 xs/\RR wr b M/\w.grownBy wr (some b)/\Blk wr f 275 #[.func (.func 206) #[] #[]]):=⟨hown,hrr,hg,hf1⟩
   have hzM:M.length<=140737488355328:=by omega
   clear hown hrr hg hf1
   go_wp2_with (go_at_call 215;refine (AU b f M _ hzM HO.out.2.1 HO.out.2.2.2).mono ?_)
   intro e w1 h
   rcases h.symm with ⟨hx,rfl,hg1⟩ | ⟨o,M1,v,hx,rfl,⟨u,rfl,k1,x1,rfl,ho⟩,hR,hg1⟩
   ·have F:Hid (bL pRow n L=none/\w.grownBy w1 (some b)):=⟨fU k n L xs M hp.out hx hlt,aa HO.out.2.2.1 hg1⟩
    clear hx hg1 h
    unfold Pan
    go_wp2_with fail
    exact ⟨rfl,.inr ⟨F.out.1,rfl,F.out.2⟩⟩
   clear h
   obtain ⟨s,hs⟩:=HO.out.2.1.blk
   have hown1:=HO.out.1.set hs (by decide) (by decide) hg1
   have HP:Hid (bL pRow (k+1) L=some (xs ++ [o],M1)):=by rw [fT k L xs M hp.out,hx];rfl
   obtain ⟨xa,na,ya,rfl⟩:=aB ho.key
   obtain ⟨xb,nb,yb,rfl⟩:=aB ho.value
   have HQ:Hid (aY w1 w.heap.size u8 xs/\RowOwn w1 w.heap.size (.slice xa na ya) (.slice xb nb yb) o/\RR w1 b M1/\w.grownBy w1 (some b)/\w.heap.size<=w1.heap.size):=⟨hown1,ho.mono HO.out.2.2.1.size,hR,aa HO.out.2.2.1 hg1,Nat.le_trans HO.out.2.2.1.size hg1.size⟩
   clear hx hg1 ho hR hown1 hs
   have HX:Hid (aY ((w1.alloc (.cells #[.slice xa na ya,.slice xb nb yb] 214)).alloc (.cells #[.slice xa na ya,.slice xb nb yb] 214)) w.heap.size u8 xs):=HQ.out.1.grown (aa gA_ gA_)
   have HY:Hid (RowOwn ((w1.alloc (.cells #[.slice xa na ya,.slice xb nb yb] 214)).alloc (.cells #[.slice xa na ya,.slice xb nb yb] 214)) w.heap.size (.slice xa na ya) (.slice xb nb yb) o):=HQ.out.2.1.grown (aa gA_ gA_)
   have HZ:Hid (Blk ((w1.alloc (.cells #[.slice xa na ya,.slice xb nb yb] 214)).alloc (.cells #[.slice xa na ya,.slice xb nb yb] 214)) (w1.heap.size+1) 214 #[.slice xa na ya,.slice xb nb yb]):=by
    have:=heap_alloc_new (w1.alloc (.cells #[.slice xa na ya,.slice xb nb yb] 214)) (.cells #[.slice xa na ya,.slice xb nb yb] 214)
    simpa [Blk,Hid] using this
   have HU:Hid (w.heap.size<=((w1.alloc (.cells #[.slice xa na ya,.slice xb nb yb] 214)).alloc (.cells #[.slice xa na ya,.slice xb nb yb] 214)).heap.size):=by have:=HQ.out.2.2.2.2;unfold Hid;simp;omega
   go_wp2_with (at_builtin;refine B5 _ rfl (.tmp 23) (.tmp 25) rfl w.heap.size u8 xs o _ _ _ rfl rfl HX.out HZ.out HY.out (by omega) HU.out ?_;intro g' cap' w3 o3 g3 l3)
   have S4:Hid (aY w3 w.heap.size (.slice (some ⟨g',0,none⟩) (xs.length+1) cap') (xs ++ [o])/\RR w3 b M1/\w.grownBy w3 (some b)):=by
    have q1:RR ((w1.alloc (.cells #[.slice xa na ya,.slice xb nb yb] 214)).alloc (.cells #[.slice xa na ya,.slice xb nb yb] 214)) b M1:=HQ.out.2.2.1.grown (aa gA_ gA_)
    have q2:=aa HQ.out.2.2.2.1 (aP (aa (World.grownBy_alloc w1 (.cells #[.slice xa na ya,.slice xb nb yb] 214) none) (World.grownBy_alloc _ (.cells #[.slice xa na ya,.slice xb nb yb] 214) none)) (some b))
    refine ⟨o3,?_,ai q2 g3 (fun y hy=>(HX.out.1.lt y hy).1)⟩
    cases hv:Value.ownBlock u8 with
    | none=>rw [hv] at g3;exact q1.grown g3
    | some y =>
     rw [hv] at g3
     obtain ⟨vs,hvs,_⟩:=HX.out.1
     obtain ⟨cur,hcur⟩:=bp hvs hv
     exact q1.set hcur g3 (by decide) (by decide)
   clear o3 g3 l3 HX HY HQ
   go_wp2_with fail
   go_roundw
   case rel=>exact ⟨k+1,xs ++ [o],M1,by omega,by go_num,HP.out,by have:=S4.out.1;rw [hxs] at this;exact this,S4.out.2.1,S4.out.2.2⟩
   case measure=>simp [intOf];omega
  ·have e:k=n:=by omega
   subst e
   have HO:Hid (aY wr w.heap.size u8 xs/\RR wr b M/\w.grownBy wr (some b)):=⟨hown,hrr,hg⟩
   clear hown hrr hg
   go_wp2_with fail
   go_ret2
   exact .inl ⟨xs,M,_,hp.out,rfl,⟨_,rfl,HO.out.1⟩,HO.out.2.1,HO.out.2.2⟩
abbrev iO (w:World)(l:List PRow)(v:Value)(w':World):Prop:=∃u,v=.tuple #[u,.int .i64 0]/\aY w' w.heap.size u l
def sj (b:Nat)(w:World)(r:Option (List PRow × Bs))(e:Ending)(w':World):Prop :=
 bj b w r (iO w) e w'\/(r=none/\(∃u er,e=.returned (.tuple #[u,.int .i64 er])/\(er != 0)=true)/\(∃s2,Blk w' b 220 #[.bool true,s2])/\w.grownBy w' (some b))
theorem yj (b m f g:Nat)(L:Bs)(most:Nat)(w:World)(hm:most<=100)(hz:L.length<=140737488355328)(hr:RR w b L)(hmc:w.cell? ⟨m,0,none⟩=some (.int .i64 most))(hgc:Blk w g 283 #[.func (.func 215) #[] #[.pointer (some ⟨f,0,none⟩)]])(hf:Blk w f 275 #[.func (.func 206) #[] #[]]) :
  Calls Tryz.prog 218 #[.pointer (some ⟨b,0,none⟩),.pointer (some ⟨m,0,none⟩),.pointer (some ⟨g,0,none⟩)] w (sj b w (aH pRow most L)):=by
 have HR:Hid (RR w b L/\Blk w f 275 #[.func (.func 206) #[] #[]]/\Blk w g 283 #[.func (.func 215) #[] #[.pointer (some ⟨f,0,none⟩)]]):=⟨hr,hf,hgc⟩
 have hfb:f≠b:=hr.ne hf (by decide)
 have hgb:g≠b:=hr.ne hgc (by decide)
 clear hr hf hgc
 go_enter Tryz.func218,Tryz.ntmps218
 go_wp2_with (go_at_call 173;refine (kG b L most _ (by omega) HR.out.1).mono ?_)
 rintro e w1 (⟨n,M,hx,rfl,hn,hR,hg⟩ | ⟨er,hx,her,rfl,hs2,hg⟩)
 ·have HF:Hid (Blk w1 f 275 #[.func (.func 206) #[] #[]]):=HR.out.2.1.grown hg (fun e=>hfb (by simpa using e.symm))
  have hgc:=(HR.out.2.2.grown hg (fun e=>hgb (by simpa using e.symm))).cell 0
  have HN:Hid (pNum most L=some (n,M)/\RR w1 b M/\w.grownBy w1 (some b)):=⟨hx,hR,hg⟩
  have hzM:=iK hx
  clear hx hR hg
  go_wp2_with (go_at_call 219;refine (si b f n M _ (by omega) (by omega) HN.out.2.1 HF.out).mono ?_)
  intro e w2 h
  rcases h.symm with ⟨hx,rfl,hg2⟩ | ⟨l,M2,v,hx,rfl,⟨u,rfl,ho⟩,hR2,hg2⟩
  ·have F:Hid (aH pRow most L=none/\w.grownBy w2 (some b)):=⟨by rw [jL HN.out.1,hx],aa HN.out.2.2 hg2⟩
   clear hx hg2 h
   unfold Pan
   go_wp2_with fail
   exact ⟨rfl,.inl (.inr ⟨F.out.1,rfl,F.out.2⟩)⟩
  clear h
  have F:Hid (aH pRow most L=some (l,M2)/\aY w2 w.heap.size u l/\RR w2 b M2/\w.grownBy w2 (some b)):=⟨by rw [jL HN.out.1,hx],ho.mono HN.out.2.2.size,hR2,aa HN.out.2.2 hg2⟩
  clear hx ho hR2 hg2
  go_wp2_with fail
  go_ret2
  exact .inl (.inl ⟨l,M2,_,F.out.1,rfl,⟨_,rfl,F.out.2.1⟩,F.out.2.2.1,F.out.2.2.2⟩)
 ·have F:Hid (aH pRow most L=none/\(er != 0)=true/\(∃s2,Blk w1 b 220 #[.bool true,s2])/\w.grownBy w1 (some b)):=⟨oq hx,her,hs2,hg⟩
  clear hx hs2 hg
  go_wp2_with fail
  go_ret2
  exact .inr ⟨F.out.1,⟨_,_,rfl,F.out.2.1⟩,F.out.2.2.1,F.out.2.2.2⟩
theorem uS (b m f g:Nat)(L:Bs)(most:Nat)(w:World)(hm:most<=100)(hz:L.length<=140737488355328)(hr:RR w b L)(hmc:w.cell? ⟨m,0,none⟩=some (.int .i64 most))(hgc:Blk w g 283 #[.func (.func 215) #[] #[.pointer (some ⟨f,0,none⟩)]])(hf:Blk w f 275 #[.func (.func 206) #[] #[]]) :
  Calls Tryz.prog 217 #[.pointer (some ⟨b,0,none⟩),.func (.func 218) #[] #[.pointer (some ⟨m,0,none⟩),.pointer (some ⟨g,0,none⟩)]] w fun e w'=>bj b w (aH pRow most L) (iO w) e w'\/(aH pRow most L=none/\(∃u er,e=.returned (.tuple #[u,.int .i64 er])/\(er != 0)=true)/\w.grownBy w' (some b)):=by
 have HR:Hid (RR w b L/\Blk w f 275 #[.func (.func 206) #[] #[]]/\Blk w g 283 #[.func (.func 215) #[] #[.pointer (some ⟨f,0,none⟩)]]/\w.cell? ⟨m,0,none⟩=some (.int .i64 most)):=⟨hr,hf,hgc,hmc⟩
 obtain ⟨s,hs,hseg,hk⟩:=hr
 obtain ⟨x0,y0,e0⟩:=hseg.shape
 obtain ⟨n0,hn0⟩:∃n,n=L.length:=⟨_,rfl⟩
 rw [<-hn0] at e0
 subst e0
 have c0:=hs.cell0
 have c1:=hs.cell1
 have hbl:b<w.heap.size:=hs.lt
 have HS:Hid (RdB w b true (.slice x0 n0 y0)):=hs
 clear hgc hf hmc hseg hk hn0
 go_enter Tryz.func217,Tryz.ntmps217
 go_wp2_with (first | (go_at_call 148;refine (Wire.cS b true _ _ HS.out).mono ?_;rintro e w1 ⟨rfl,hw1⟩;rw [hw1];clear hw1) | (go_at_call 218;refine (yj b m f g L most _ hm hz (HR.out.1.grown gA_) (ar gA_ HR.out.2.2.2) (HR.out.2.2.1.grown gA_ (by simp)) (HR.out.2.1.grown gA_ (by simp))).mono ?_))
 rintro e w1 (h | ⟨hx,⟨u,er,rfl,her⟩,⟨s2,hs2⟩,hg⟩)
 ·rcases h.symm with ⟨hx,rfl,hg⟩ | ⟨l,M,v,hx,rfl,⟨u,rfl,ho⟩,hR,hg⟩
  ·have F:Hid (aH pRow most L=none/\w.grownBy w1 (some b)):=⟨hx,aa (World.grownBy_alloc _ _ _) hg⟩
   clear hx hg h
   unfold Pan
   go_wp2_with fail
   exact ⟨rfl,.inl (.inr ⟨F.out.1,rfl,F.out.2⟩)⟩
  ·have F:Hid (aH pRow most L=some (l,M)/\aY w1 w.heap.size u l/\RR w1 b M/\w.grownBy w1 (some b)):=⟨hx,ho.mono (by simp),hR,aa (World.grownBy_alloc _ _ _) hg⟩
   clear hx ho hR hg h
   go_wp2_with fail
   go_ret2
   exact .inl (.inl ⟨l,M,_,F.out.1,rfl,⟨_,rfl,F.out.2.1⟩,F.out.2.2.1,F.out.2.2.2⟩)
 ·have F:Hid (aH pRow most L=none/\(er != 0)=true/\w.grownBy w1 (some b)):=⟨hx,her,aa (World.grownBy_alloc _ _ _) hg⟩
  have hw:Blk w1 w.heap.size 220 #[.bool true,.slice x0 n0 y0]:=Blk.grown (heap_alloc_new w _) hg (fun e=>by simp at e;omega)
  have d0:=hw.cell 0
  have d1:=hw.cell 1
  have b0:=hs2.cell 0
  have b1:=hs2.cell 1
  have z0:=hs2.free 0
  have z1:=hs2.free 1
  clear hx hg hw hs2
  go_wp2_with fail
  go_ret2
  exact .inr ⟨F.out.1,⟨_,_,rfl,F.out.2.1⟩,aa F.out.2.2 (aa (ae _ _ _ _) (ae _ _ _ _))⟩
theorem yk (b f:Nat)(L:Bs)(most:Nat)(w:World)(hm:most<=100)(hz:L.length<=140737488355328)(hr:RR w b L)(hf:Blk w f 275 #[.func (.func 206) #[] #[]]) :
  Calls Tryz.prog 214 #[.pointer (some ⟨b,0,none⟩),.int .i64 most,.func (.func 215) #[] #[.pointer (some ⟨f,0,none⟩)]] w fun e w'=>bj b w (aH pRow most L) (iO w) e w'\/(aH pRow most L=none/\(∃u er,e=.returned (.tuple #[u,.int .i64 er])/\(er != 0)=true)/\w.grownBy w' (some b)):=by
 have HR:Hid (RR w b L/\Blk w f 275 #[.func (.func 206) #[] #[]]):=⟨hr,hf⟩
 have q1:=AS
 have hmf:∀(fn:Fn) (first cap:Array Value) (w:World),(Instr.makeFunc fn first cap).run Tryz.prog w=.ok (.func fn first cap) w:=fun _ _ _ _=>rfl
 clear hr hf
 have HB:Hid (Blk ((w.alloc (.cells #[.int .i64 most] 3)).alloc (.cells #[.func (.func 215) #[] #[.pointer (some ⟨f,0,none⟩)]] 283)) (w.heap.size+1) 283 #[.func (.func 215) #[] #[.pointer (some ⟨f,0,none⟩)]]):=by
  have:=heap_alloc_new (w.alloc (.cells #[.int .i64 most] 3)) (.cells #[.func (.func 215) #[] #[.pointer (some ⟨f,0,none⟩)]] 283)
  simpa [Blk,Hid] using this
 go_enter Tryz.func214,Tryz.ntmps214
 go_wp2_with (go_at_call 217;refine (uS b w.heap.size f (w.heap.size+1) L most _ hm hz (HR.out.1.grown (aa gA_ gA_)) (by simp [go_sem]) HB.out (HR.out.2.grown (aa gA_ gA_) (by simp))).mono ?_)
 rintro e w1 (h | ⟨hx,⟨u,er,rfl,her⟩,hg⟩)
 ·rcases h.symm with ⟨hx,rfl,hg⟩ | ⟨l,M,v,hx,rfl,⟨u,rfl,ho⟩,hR,hg⟩
  ·have F:Hid (aH pRow most L=none/\w.grownBy w1 (some b)):=⟨hx,aa (aa (World.grownBy_alloc _ _ _) (World.grownBy_alloc _ _ _)) hg⟩
   clear hx hg h
   unfold Pan
   go_wp2_with fail
   exact ⟨rfl,.inl (.inr ⟨F.out.1,rfl,F.out.2⟩)⟩
  ·have F:Hid (aH pRow most L=some (l,M)/\aY w1 w.heap.size u l/\RR w1 b M/\w.grownBy w1 (some b)):=⟨hx,ho.mono (by simp;omega),hR,aa (aa (World.grownBy_alloc _ _ _) (World.grownBy_alloc _ _ _)) hg⟩
   clear hx ho hR hg h
   go_wp2_with fail
   go_ret2
   exact .inl (.inl ⟨l,M,_,F.out.1,rfl,⟨_,rfl,F.out.2.1⟩,F.out.2.2.1,F.out.2.2.2⟩)
 ·have F:Hid (aH pRow most L=none/\(er != 0)=true/\w.grownBy w1 (some b)):=⟨hx,her,aa (aa (World.grownBy_alloc _ _ _) (World.grownBy_alloc _ _ _)) hg⟩
  clear hx hg
  go_wp2_with fail
  go_ret2
  exact .inr ⟨F.out.1,⟨_,_,rfl,F.out.2.1⟩,F.out.2.2⟩
theorem yl (b m f:Nat)(L:Bs)(most:Nat)(w:World)(hm:most<=100)(hz:L.length<=140737488355328)(hr:RR w b L)(hmc:w.cell? ⟨m,0,none⟩=some (.int .i64 most))(hf:Blk w f 275 #[.func (.func 206) #[] #[]]) :
  Calls Tryz.prog 213 #[.pointer (some ⟨b,0,none⟩),.pointer (some ⟨m,0,none⟩),.pointer (some ⟨f,0,none⟩)] w fun e w'=>bj b w (aH pRow most L) (iO w) e w'\/(aH pRow most L=none/\(∃u er,e=.returned (.tuple #[u,.int .i64 er])/\(er != 0)=true)/\w.grownBy w' (some b)):=by
 have HR:Hid (RR w b L/\Blk w f 275 #[.func (.func 206) #[] #[]]):=⟨hr,hf⟩
 have hmf:∀(fn:Fn) (first cap:Array Value) (w:World),(Instr.makeFunc fn first cap).run Tryz.prog w=.ok (.func fn first cap) w:=fun _ _ _ _=>rfl
 clear hr hf
 go_enter Tryz.func213,Tryz.ntmps213
 go_wp2_with (go_at_call 214;refine (yk b f L most _ hm hz HR.out.1 HR.out.2).mono ?_)
 rintro e w1 (h | ⟨hx,⟨u,er,rfl,her⟩,hg⟩)
 ·rcases h.symm with ⟨hx,rfl,hg⟩ | ⟨l,M,v,hx,rfl,⟨u,rfl,ho⟩,hR,hg⟩
  ·have F:Hid (aH pRow most L=none/\w.grownBy w1 (some b)):=⟨hx,hg⟩
   clear hx hg h
   unfold Pan
   go_wp2_with fail
   exact ⟨rfl,.inl (.inr ⟨F.out.1,rfl,F.out.2⟩)⟩
  ·have F:Hid (aH pRow most L=some (l,M)/\aY w1 w.heap.size u l/\RR w1 b M/\w.grownBy w1 (some b)):=⟨hx,ho,hR,hg⟩
   clear hx ho hR hg h
   go_wp2_with fail
   go_ret2
   exact .inl (.inl ⟨l,M,_,F.out.1,rfl,⟨_,rfl,F.out.2.1⟩,F.out.2.2.1,F.out.2.2.2⟩)
 ·have F:Hid (aH pRow most L=none/\(er != 0)=true/\w.grownBy w1 (some b)):=⟨hx,her,hg⟩
  clear hx hg
  go_wp2_with fail
  go_ret2
  exact .inr ⟨F.out.1,⟨_,_,rfl,F.out.2.1⟩,F.out.2.2⟩
theorem ym (b m f:Nat)(L:Bs)(most:Nat)(w:World)(hm:most<=100)(hz:L.length<=140737488355328)(hr:RR w b L)(hmc:w.cell? ⟨m,0,none⟩=some (.int .i64 most))(hf:Blk w f 275 #[.func (.func 206) #[] #[]]) :
  Calls Tryz.prog 212 #[rdV b,.func (.func 213) #[] #[.pointer (some ⟨m,0,none⟩),.pointer (some ⟨f,0,none⟩)]] w (bj b w (aH pRow most L) (fun l v w'=>aY w' w.heap.size v l)):=by
 have HR:Hid (RR w b L/\Blk w f 275 #[.func (.func 206) #[] #[]]/\w.cell? ⟨m,0,none⟩=some (.int .i64 most)):=⟨hr,hf,hmc⟩
 clear hr hf hmc
 have e0:rdV b=.agg #[.pointer (some ⟨b,0,none⟩)]:=rfl
 rw [e0]
 go_enter Tryz.func212,Tryz.ntmps212
 go_wp2_with (go_at_call 213;refine (yl b m f L most _ hm hz (HR.out.1.grown gA_) (ar gA_ HR.out.2.2) (HR.out.2.1.grown gA_ (by simp))).mono ?_)
 rintro e w1 (h | ⟨hx,⟨u,er,rfl,her⟩,hg⟩)
 ·rcases h.symm with ⟨hx,rfl,hg⟩ | ⟨l,M,v,hx,rfl,⟨u,rfl,ho⟩,hR,hg⟩
  ·have F:Hid (aH pRow most L=none/\w.grownBy w1 (some b)):=⟨hx,aa (World.grownBy_alloc _ _ _) hg⟩
   clear hx hg h
   unfold Pan
   go_wp2_with fail
   exact ⟨rfl,.inr ⟨F.out.1,rfl,F.out.2⟩⟩
  ·have F:Hid (aH pRow most L=some (l,M)/\aY w1 w.heap.size u l/\RR w1 b M/\w.grownBy w1 (some b)):=⟨hx,ho.mono (by simp),hR,aa (World.grownBy_alloc _ _ _) hg⟩
   clear hx ho hR hg h
   go_wp2_with (go_at_call 110;refine (bq _ _).mono ?_;rintro e w2 ⟨rfl,hw2⟩;rw [hw2];clear hw2)
   go_ret
   exact .inl ⟨l,M,_,F.out.1,rfl,F.out.2.1,F.out.2.2.1,F.out.2.2.2⟩
 ·have F:Hid (aH pRow most L=none/\w.grownBy w1 (some b)):=⟨hx,aa (World.grownBy_alloc _ _ _) hg⟩
  have q:(er==0)=false:=by simpa using her
  clear hx hg her
  go_wp2_with (go_at_call 110;refine (cn _ _).mono ?_;rintro e w2 ⟨rfl,hw2⟩;rw [hw2];clear hw2;unfold Pan)
  exact ⟨rfl,.inr ⟨F.out.1,rfl,F.out.2⟩⟩
theorem yp (b:Nat)(L:Bs)(most:Nat)(w:World)(hm:most<=100)(hz:L.length<=140737488355328)(hr:RR w b L) :
  Calls Tryz.prog 205 #[rdV b,.int .i64 most,.func (.func 206) #[] #[]] w (bj b w (aH pRow most L) (fun l v w'=>aY w' w.heap.size v l)):=by
 have HR:Hid (RR w b L):=hr
 have hmf:∀(fn:Fn) (first cap:Array Value) (w:World),(Instr.makeFunc fn first cap).run Tryz.prog w=.ok (.func fn first cap) w:=fun _ _ _ _=>rfl
 clear hr
 have e0:rdV b=.agg #[.pointer (some ⟨b,0,none⟩)]:=rfl
 rw [e0]
 have HB:Hid (Blk (((w.alloc (.cells #[.pointer (some ⟨b,0,none⟩)] 149)).alloc (.cells #[.int .i64 most] 3)).alloc (.cells #[.func (.func 206) #[] #[]] 275)) (w.heap.size+1+1) 275 #[.func (.func 206) #[] #[]]):=by
  have:=heap_alloc_new ((w.alloc (.cells #[.pointer (some ⟨b,0,none⟩)] 149)).alloc (.cells #[.int .i64 most] 3)) (.cells #[.func (.func 206) #[] #[]] 275)
  simpa [Blk,Hid] using this
 go_enter Tryz.func205,Tryz.ntmps205
 go_wp2_with (go_at_call 212;refine (ym b (w.heap.size+1) (w.heap.size+1+1) L most _ hm hz (HR.out.grown (cw _ _ _ _)) (by simp [go_sem]) HB.out).mono ?_)
 intro e w1 h
 rcases h.symm with ⟨hx,rfl,hg⟩ | ⟨l,M,v,hx,rfl,ho,hR,hg⟩
 ·have F:Hid (aH pRow most L=none/\w.grownBy w1 (some b)):=⟨hx,aa (aP (cw _ _ _ _) _) hg⟩
  clear hx hg h
  unfold Pan
  go_wp2_with fail
  exact ⟨rfl,.inr ⟨F.out.1,rfl,F.out.2⟩⟩
 ·have F:Hid (aH pRow most L=some (l,M)/\aY w1 w.heap.size v l/\RR w1 b M/\w.grownBy w1 (some b)):=⟨hx,ho.mono (by simp;omega),hR,aa (aP (cw _ _ _ _) _) hg⟩
  clear hx ho hR hg h
  go_wp2_with fail
  go_ret
  exact .inl ⟨l,M,_,F.out.1,rfl,F.out.2.1,F.out.2.2.1,F.out.2.2.2⟩
theorem sm (v:Value)(l:List PRow)(w:World)(hv:Rws w v l):Calls Tryz.prog 207 #[v] w fun e w'=>e=.returned (.bool (fB l))/\w.grownBy w' none:=by
 obtain ⟨ao,n,cap,rfl,hn,hn2,HV⟩:=kw hv
 have HN:Hid (l.length=n):=hn
 clear hv hn
 go_enter Tryz.func207,Tryz.ntmps207
 go_wp2_with fail
 go_loopw [3] (fun i wr=>∃(k:Nat),1<=k/\(k<=n\/k=1)/\i=.int .i64 (k:Int)/\(∀j (h:j+1<l.length),j+1<k->Names.cmpL l[j].1 l[j+1].1<0)/\w.grownBy wr none) (fun i _=>n-(intOf i).toNat)
 case atStart=>exact ⟨1,Nat.le_refl _,.inr rfl,rfl,fun j _ h=>absurd h (by omega),aj _ _⟩
 case round =>
  obtain ⟨k,hk1,hk2,rfl,hall,hgr⟩:=hrel
  have HL:Hid ((∀j (h:j+1<l.length),j+1<k->Names.cmpL l[j].1 l[j+1].1<0)/\w.grownBy wr none):=⟨hall,hgr⟩
  clear hall hgr
  by_cases hlt:k<n
  ·obtain ⟨m,hm⟩:∃m,k=m+1:=⟨k-1,by omega⟩
   have ka:m<l.length:=by rw [HN.out];omega
   have kb:k<l.length:=by rw [HN.out];omega
   have kc:m+1<l.length:=by rw [HN.out];omega
   obtain ⟨b1,o1,x1,y1,rfl,h1⟩:=kz HV.out m ka
   obtain ⟨b2,o2,x2,y2,e2,h2⟩:=kz HV.out k kb
   simp at e2
   obtain ⟨rfl,rfl⟩:=e2
   obtain ⟨c,hc⟩:∃c,Names.cmpL l[m].1 l[k].1=c:=⟨_,rfl⟩
   have HC:Hid (Names.cmpL l[m].1 l[k].1=c/\Seg w x1 l[m].1/\Seg w x2 l[k].1):=⟨hc,h1.s0,h2.s0⟩
   have HC2:Hid (Names.cmpL l[m].1 l[m+1].1=c):=by subst hm;exact hc
   have HKM:Hid (k=m+1):=hm
   obtain ⟨ax,nx,cx,rfl,_,_,_⟩:=Names.ck h1.s0
   obtain ⟨ay,ny,cy,rfl,_,_,_⟩:=Names.ck h2.s0
   have HM:Hid (∀y:World,w.grownBy y none->y.cell? ⟨b1,o1+m*2,none⟩=some (.slice ax nx cx)/\y.cell? ⟨b1,o1+k*2,none⟩=some (.slice ay ny cy)):=fun y hy=>⟨hy.cell h1.c0 (by simp),hy.cell h2.c0 (by simp)⟩
   have hkm:(k:Int)-1=(m:Int):=by omega
   have i0:(0:Int)<=(m:Int):=by omega
   have i1:(m:Int)<(n:Int):=by omega
   have i2:(0:Int)<=(k:Int):=by omega
   have i3:(k:Int)<(n:Int):=by omega
   clear h1 h2 hc hm
   go_upto_region 4 with fail
   refine wp_region_noPanic ?_
   refine ag 1000 (fun y=>w.grownBy y none) (by kernel_rfl) ?_
   have G0:Hid (w.grownBy wr.drew none):=aa HL.out.2 (af _ _)
   generalize wr.drew=wd at G0 ⊢
   have J:Idx [0,1,6,7,8,9,10]:=trivial
   iterate 7 (refine tK J (G0.out) rfl rfl (fun wk hk=>by obtain ⟨z0,z1⟩:=HM.out wk hk;go_simp;try rfl) ?_;replace J:=J.tl;try simp only [pN])
   refine wO 2 rfl fun K hK=>?_
   go_wp2_with fail
   refine hK.out _ _ (fun _=>G0.out) ?_
   clear hK K
   try simp only [pN]
   have J:Idx [3,4,5]:=trivial
   iterate 3 (refine tK J (G0.out) rfl rfl (fun wk hk=>by obtain ⟨z0,z1⟩:=HM.out wk hk;go_simp;try rfl) ?_;replace J:=J.tl;try simp only [pN])
   refine wO 11 rfl fun K hK=>?_
   go_wp2_with fail
   refine (Names.Ci _ _ _ _ wd (HC.out.2.1.grown G0.out) (HC.out.2.2.grown G0.out)).mono ?_
   rintro e w1 ⟨rfl,q1,hw1⟩
   rw [HC.out.1]
   have G1:Hid (w.grownBy w1 none):=by rw [hw1];exact aa G0.out (aN _ _ _)
   clear hw1
   refine hK.out _ _ (fun _=>G1.out) ?_
   clear hK K
   try simp only [pN]
   refine tS 12 (G1.out) rfl rfl (fun wk hk=>by obtain ⟨z0,z1⟩:=HM.out wk hk;go_simp;try rfl) ?_
   try simp only [pN]
   refine wD ?_
   refine (‹∀(a:Act) (w:World),Code.wp Tryz.prog _ _ a w->_› _ _ ?_)
   by_cases hneg:c<0
   ·have q:¬(0:Int)<=c:=by omega
    go_wp2_with fail
    go_roundw
    case rel =>
     refine ⟨k+1,by omega,.inl (by omega),by go_num,fun j h hj=>?_,G1.out⟩
     by_cases hjk:j+1<k
     ·exact HL.out.1 j h hjk
     ·have hkm':=HKM.out
      have:j=m:=by omega
      subst this
      rw [HC2.out]
      exact hneg
    case measure=>simp [intOf];omega
   ·have q:(0:Int)<=c:=by omega
    go_wp2_with fail
    go_ret
    refine ⟨?_,G1.out⟩
    cases hr:fB l with
    | false=>rfl
    | true =>
     have:=(gy l).1 hr m kc
     rw [HC2.out] at this
     omega
  ·have i3:¬(k:Int)<(n:Int):=by omega
   go_wp2_with fail
   go_ret
   refine ⟨?_,HL.out.2⟩
   rw [(gy l).2 (fun j h=>HL.out.1 j h (by have:=HN.out;omega))]
   rfl
theorem ou (x:Int)(b:Nat)(L:Bs)(most:Nat)(hx:x=most)(w:World)(hm:most<=100)(hz:L.length<=140737488355328)(hr:RR w b L) :
  Calls Tryz.prog 205 #[rdV b,.int .i64 x,.func (.func 206) #[] #[]] w (bj b w (aH pRow most L) (fun l v w'=>aY w' w.heap.size v l)):=by subst hx;exact yp b L most w hm hz hr
def qY (w:World)(o:POut)(v:Value)(w':World):Prop:=∃k x,v=.agg #[.bool o.has,k,x]/\OutOwn w' w.heap.size k x o
theorem AV (b:Nat)(L:Bs)(w:World)(hz:L.length<=140737488355328)(hr:RR w b L):Calls Tryz.prog 187 #[rdV b] w (bj b w (pOut L) (qY w)):=by
 have HM0:Hid (MidG 212 #[.bool false,.slice none 0 0,.slice none 0 0] w _ b L #[.bool false,.slice none 0 0,.slice none 0 0]):=kK 212 #[.bool false,.slice none 0 0,.slice none 0 0] hr
 have hblt:b<w.heap.size:=by obtain ⟨s,hs⟩:=hr.blk;exact hs.lt
 clear hr
 have e0:rdV b=.agg #[.pointer (some ⟨b,0,none⟩)]:=rfl
 rw [e0]
 go_enter Tryz.func187,Tryz.ntmps187
 go_wp2_with (go_at_call 155;refine (qT b L _ HM0.out.rr).mono ?_)
 intro e w1 h
 rcases h.symm with ⟨hx,rfl,hg⟩ | ⟨fl,L1,v,hx,rfl,rfl,hR,hg⟩
 ·have F:Hid (pOut L=none/\w.grownBy w1 (some b)):=⟨by unfold pOut;rw [hx];rfl,aa HM0.out.grow hg⟩
  clear hx hg h
  unfold Pan
  go_wp2_with fail
  exact ⟨rfl,.inr ⟨F.out.1,rfl,F.out.2⟩⟩
 clear h
 have HF:Hid (dE L=some (fl,L1)):=hx
 have hz1:L1.length<=140737488355328:=Nat.le_trans (lQ hx) hz
 have HM1:Hid (MidG 212 #[.bool false,.slice none 0 0,.slice none 0 0] w w1 b L1 #[.bool false,.slice none 0 0,.slice none 0 0]):=HM0.out.call (by decide) hR hg
 clear hx hR hg HM0
 have c0:=HM1.out.op.cell 0
 have f0:=HM1.out.op.free 0
 have HM2:Hid (MidG 212 #[.bool false,.slice none 0 0,.slice none 0 0] w (w1.setCell ⟨w.heap.size+2,0,none⟩ (.bool fl)) b L1 #[.bool fl,.slice none 0 0,.slice none 0 0]):=HM1.out.store (by decide) (by decide) 0 _
 have kb:=HM2.out.box.cell 0
 go_wp2_with (go_at_call 154;refine (cI _ b L1 256 rfl _ (by decide) hz1 HM2.out.rr).mono ?_)
 intro e w2 h
 rcases h.symm with ⟨hx,rfl,hg⟩ | ⟨vy,L2,v2,hx,rfl,ho,hR,hg⟩
 ·have F:Hid (pOut L=none/\w.grownBy w2 (some b)):=⟨by unfold pOut;rw [HF.out];simp [hx],aa HM2.out.grow hg⟩
  clear hx hg h c0 f0 kb
  unfold Pan
  go_wp2_with fail
  exact ⟨rfl,.inr ⟨F.out.1,rfl,F.out.2⟩⟩
 clear h c0 f0 kb
 have HV:Hid (aZ 256 L1=some (vy,L2)):=hx
 have hz2:L2.length<=140737488355328:=Nat.le_trans (eS hx) hz1
 obtain ⟨x2,n2,y2,rfl⟩:=aB ho
 have HM3:Hid (MidG 212 #[.bool false,.slice none 0 0,.slice none 0 0] w w2 b L2 #[.bool fl,.slice none 0 0,.slice none 0 0]/\Own w2 w.heap.size (.slice x2 n2 y2) vy):=⟨HM2.out.call (by decide) hR hg,ho.mono HM2.out.grow.size⟩
 clear hx ho hR hg HM1 HM2
 have c1:=HM3.out.1.op.cell 1
 have f1:=HM3.out.1.op.free 1
 have HM4:Hid (MidG 212 #[.bool false,.slice none 0 0,.slice none 0 0] w (w2.setCell ⟨w.heap.size+2,1,none⟩ (.slice x2 n2 y2)) b L2 #[.bool fl,.slice x2 n2 y2,.slice none 0 0]/\Own (w2.setCell ⟨w.heap.size+2,1,none⟩ (.slice x2 n2 y2)) w.heap.size (.slice x2 n2 y2) vy):=⟨HM3.out.1.store (by decide) (by decide) 1 _,aO HM3.out.2 HM3.out.1.op (by decide) (ae _ _ _ _)⟩
 have kb:=HM4.out.1.box.cell 0
 go_wp2_with (go_at_call 205;refine (ou _ b L2 64 rfl _ (by decide) hz2 HM4.out.1.rr).mono ?_)
 intro e w3 h
 rcases h.symm with ⟨hx,rfl,hg⟩ | ⟨rs,L3,v3,hx,rfl,ho,hR,hg⟩
 ·have F:Hid (pOut L=none/\w.grownBy w3 (some b)):=⟨by unfold pOut;rw [HF.out];simp [HV.out,hx],aa HM4.out.1.grow hg⟩
  clear hx hg h c1 f1 kb
  unfold Pan
  go_wp2_with fail
  exact ⟨rfl,.inr ⟨F.out.1,rfl,F.out.2⟩⟩
 clear h c1 f1 kb
 have HX:Hid (aH pRow 64 L2=some (rs,L3)):=hx
 obtain ⟨x3,n3,y3,rfl,hn3⟩:=ho.slice
 clear hn3
 have HM5:Hid (MidG 212 #[.bool false,.slice none 0 0,.slice none 0 0] w w3 b L3 #[.bool fl,.slice x2 n2 y2,.slice none 0 0]/\Own w3 w.heap.size (.slice x2 n2 y2) vy/\aY w3 w.heap.size (.slice x3 n3 y3) rs):=⟨HM4.out.1.call (by decide) hR hg,HM4.out.1.keep hg _ _ _ HM4.out.2,ho.mono HM4.out.1.grow.size⟩
 clear hx ho hR hg HM3 HM4
 obtain ⟨w4,hw4⟩:∃W,w3.setCell ⟨w.heap.size+2,2,none⟩ (.slice x3 n3 y3)=W:=⟨_,rfl⟩
 have HM6:Hid (MidG 212 #[.bool false,.slice none 0 0,.slice none 0 0] w w4 b L3 #[.bool fl,.slice x2 n2 y2,.slice x3 n3 y3]/\OutOwn w4 w.heap.size (.slice x2 n2 y2) (.slice x3 n3 y3) ⟨fl,vy,rs⟩):=by
  rw [<-hw4]
  exact ⟨HM5.out.1.store (by decide) (by decide) 2 _,aO HM5.out.2.1 HM5.out.1.op (by decide) (ae _ _ _ _),HM5.out.2.2.set HM5.out.1.op (by decide) (by decide) (ae _ _ _ _)⟩
 have c2:=HM5.out.1.op.cell 2
 have f2:=HM5.out.1.op.free 2
 have d2:=HM6.out.1.op.cell 2
 go_wp2_with (go_at_call 207;refine (sm _ rs _ HM6.out.2.rows.rws).mono ?_)
 rintro e w5 ⟨rfl,g5⟩
 have HM7:Hid (MidG 212 #[.bool false,.slice none 0 0,.slice none 0 0] w w5 b L3 #[.bool fl,.slice x2 n2 y2,.slice x3 n3 y3]/\OutOwn w5 w.heap.size (.slice x2 n2 y2) (.slice x3 n3 y3) ⟨fl,vy,rs⟩):=⟨HM6.out.1.more g5,HM6.out.2.grown g5⟩
 clear HM5 HM6 c2 f2 d2 g5 hw4
 cases hrb:fB rs with
 | false =>
  have F:Hid (pOut L=none/\w.grownBy w5 (some b)):=⟨by unfold pOut;rw [HF.out];simp [HV.out,HX.out,hrb],HM7.out.1.grow⟩
  go_wp2_with (go_at_call 110;refine (cn _ _).mono ?_;rintro e w6 ⟨rfl,hw6⟩;rw [hw6];clear hw6;unfold Pan)
  exact ⟨rfl,.inr ⟨F.out.1,rfl,F.out.2⟩⟩
 | true =>
  have F:Hid (pOut L=some (⟨fl,vy,rs⟩,L3)):=by unfold pOut;rw [HF.out];simp [HV.out,HX.out,hrb,Hid]
  have d0:=HM7.out.1.op.cell 0
  have d1:=HM7.out.1.op.cell 1
  have d2:=HM7.out.1.op.cell 2
  have g0:=HM7.out.1.res.cell 0
  have g1:=HM7.out.1.res.cell 1
  have g2:=HM7.out.1.res.cell 2
  have j0:=HM7.out.1.res.free 0
  have j1:=HM7.out.1.res.free 1
  have j2:=HM7.out.1.res.free 2
  have HB:Hid _:=And.intro (((HM7.out.1.res.store 0 (.bool fl)).store 1 (.slice x2 n2 y2)).store 2 (.slice x3 n3 y3)) (aa (aa (ae w5 (w.heap.size+1) 0 (.bool fl)) (ae _ (w.heap.size+1) 1 (.slice x2 n2 y2))) (ae _ (w.heap.size+1) 2 (.slice x3 n3 y3)))
  go_wp2_with (go_at_call 110;refine (bq _ _).mono ?_;rintro e w6 ⟨rfl,hw6⟩;rw [hw6];clear hw6)
  refine bodyPost_ret (v:=_) (results_cell_row rfl _ _ (w.heap.size+1) 212 _ (0,0) _ rfl HB.out.1 Tryz.underlying212 rfl (by kernel_rfl)) rfl ?_
  exact .inl ⟨⟨fl,vy,rs⟩,L3,_,F.out,rfl,⟨_,_,rfl,HM7.out.2.set HM7.out.1.res (by decide) (by decide) HB.out.2⟩,HM7.out.1.rr.set HM7.out.1.res HB.out.2 (by decide) (by decide),ai HM7.out.1.grow HB.out.2 (fun y hy=>by simp at hy;omega)⟩
theorem AW (c:Value)(w:World):(binOp .eql 272 (.func (.func 204) #[] #[c]) .nilFunc).run Tryz.prog w=.ok (.bool false) w:=by kernel_rfl
theorem jM {most n:Nat}{L M:Bs}(h:pNum most L=some (n,M)):aH pOut most L=bL pOut n M:=by unfold aH;rw [h];rfl
theorem ow {most:Nat}{L:Bs}(h:pNum most L=none):aH pOut most L=none:=by unfold aH;rw [h];rfl
theorem yq (L:Bs)(x:POut)(M:Bs)(h:pOut L=some (x,M)):M.length<=L.length:=by rw [(nP h).2];simp
theorem AX (b f:Nat)(L:Bs)(w:World)(hz:L.length<=140737488355328)(hr:RR w b L)(hf:Blk w f 256 #[.func (.func 187) #[] #[]]) :
  Calls Tryz.prog 204 #[.pointer (some ⟨b,0,none⟩),.pointer (some ⟨f,0,none⟩)] w (bj b w (pOut L) (fun o v w'=>∃u,v=.tuple #[u,.int .i64 0]/\qY w o u w')):=by
 have HR:Hid (RR w b L):=hr
 have hb:b<w.heap.size:=by obtain ⟨s,hs⟩:=hr.blk;exact hs.lt
 have kf:=fun o=>ar (World.grownBy_alloc w o none) (hf.cell 0)
 clear hr
 go_enter Tryz.func204,Tryz.ntmps204
 go_wp2_with (go_at_call 187;refine (AV b L _ hz (HR.out.grown gA_)).mono ?_)
 intro e w1 h
 rcases h.symm with ⟨hx,rfl,hg⟩ | ⟨o,M,v,hx,rfl,ho,hR,hg⟩
 ·have F:Hid (pOut L=none/\w.grownBy w1 (some b)):=⟨hx,aa (World.grownBy_alloc _ _ _) hg⟩
  clear hx hg h
  unfold Pan
  go_wp2_with fail
  exact ⟨rfl,.inr ⟨F.out.1,rfl,F.out.2⟩⟩
 clear h
 have hres:Blk w1 w.heap.size 212 #[.bool false,.slice none 0 0,.slice none 0 0]:=Blk.grown (heap_alloc_new w _) hg (fun e=>by simp at e;omega)
 have HW:Hid (w.grownBy w1 (some b)/\RR w1 b M/\pOut L=some (o,M)):=⟨aa (World.grownBy_alloc _ _ _) hg,hR,hx⟩
 obtain ⟨k,x,rfl,ho⟩:=ho
 obtain ⟨xa,na,ya,rfl⟩:=aB ho.value
 obtain ⟨xb,nb,yb,rfl,hq_⟩:=ho.rows.slice
 clear hq_
 have r0:=hres.cell 0
 have z0:=hres.free 0
 have r1:=hres.cell 1
 have z1:=hres.free 1
 have r2:=hres.cell 2
 have z2:=hres.free 2
 have HB:Hid _:=And.intro (((hres.store 0 (.bool o.has)).store 1 (.slice xa na ya)).store 2 (.slice xb nb yb)) (aa (aa (ae w1 w.heap.size 0 (.bool o.has)) (ae _ w.heap.size 1 (.slice xa na ya))) (ae _ w.heap.size 2 (.slice xb nb yb)))
 have HO:Hid (OutOwn w1 w.heap.size (.slice xa na ya) (.slice xb nb yb) o/\Blk w1 w.heap.size 212 #[.bool false,.slice none 0 0,.slice none 0 0]):=⟨ho.mono (by simp),hres⟩
 clear ho hres hx hg hR
 go_wp2_with fail
 refine bodyPost_ret (v:=_) (aI rfl _ _ w.heap.size _ rfl (run_loadVar_row _ w.heap.size 212 212 _ (0,0) _ HB.out.1 Tryz.underlying212 rfl (by kernel_rfl))) rfl ?_
 exact .inl ⟨o,M,_,HW.out.2.2,rfl,⟨_,rfl,_,_,rfl,HO.out.1.set HO.out.2 (by decide) (by decide) HB.out.2⟩,HW.out.2.1.set HO.out.2 HB.out.2 (by decide) (by decide),ai HW.out.1 HB.out.2 (fun y hy=>by simp at hy;omega)⟩
theorem Tryz.info212:(Tryz.prog.info? 212).map (fun i=>(i.zero,i.size,i.bytes))=some (some (.agg #[.bool false,.slice none 0 0,.slice none 0 0]),3,56):=by kernel_rfl
theorem uT {o:Oper}{a:Act}{K:Act->World->Prop}{Q:Exit->Act->World->Prop}(w:World)(s x:Operand)
  (ho:o.op=.call { callee:=.builtin .append,args:=#[s,x],argTypes:=#[172,172] })
  (B:Nat) (v:Value) (l:List POut) (p:POut) (g:Nat) (k vl:Value) (hs:a.eval s=v) (hx:a.eval x=.slice (some ⟨g,0,none⟩) 1 1)
  (hrow:aQ w B v l) (hc:Blk w g 212 #[.bool p.has,k,vl]) (hp:OutOwn w B k vl p) (hb:l.length<=100000000) (hB:B<=w.heap.size)
  (h:∀g' cap' w',aQ w' B (.slice (some ⟨g',0,none⟩) (l.length+1) cap') (l ++ [p])->w.grownBy w' v.ownBlock->(v.ownBlock=some g'\/g'=w.heap.size)->K (a.put o.dst (.slice (some ⟨g',0,none⟩) (l.length+1) cap')) w'):o.wp Tryz.prog a w K Q:=by
 obtain ⟨i0,hi,hz0,hz1,hz2⟩:=info_parts Tryz.info212
 obtain ⟨⟨vs,h1,h2,h3,h4⟩,hl⟩:=hrow
 have q0:=hc.cell 0
 have q1:=hc.cell 1
 have q2:=hc.cell 2
 obtain ⟨xa,na,ya,rfl⟩:=aB hp.value
 obtain ⟨xb,nb,yb,rfl,hq_⟩:=hp.rows.slice
 clear hq_
 refine wp_append_lies w s x 172 ho B 212 i0 _ 3 56 Tryz.underlying172 hi hz0 hz1 hz2 rfl (by decide) v l.length vs.flatten hs h1 ⟨g,0,none⟩ 1 1 [.bool p.has,.slice xa na ya,.slice xb nb yb] hx rfl ?_ ?_ (by decide) (by unfold maxLen;omega) (by omega) hB w.heap.size rfl ?_
 ·intro j y hj
  rw [dD]
  match j,hj with
  | 0,hj=>simp at hj;subst hj;exact q0
  | 1,hj=>simp at hj;subst hj;exact q1
  | 2,hj=>simp at hj;subst hj;exact q2
  | j+3,hj=>simp at hj
 ·intro y hy
  simp at hy
  rcases hy with rfl | rfl | rfl <;> rfl
 ·intro g' cap' w' r2 r3 r4 _
  exact h g' cap' w' ⟨LRow.snoc (ju B) (by decide) h1 h2 h3 h4 rfl ⟨_,_,rfl,hp⟩ r3 r2,by simp;omega⟩ r3 r4
theorem zX {ops:Array Oper}{rest:List Oper}{o:Oper}{a:Act}{Q:Exit->Act->World->Prop}(w:World)(hw:Region.wanted o (yielded ops a.tmps)=true)(s x:Operand)
  (ho:o.op=.call { callee:=.builtin .append,args:=#[s,x],argTypes:=#[172,172] })
  (B:Nat) (v:Value) (l:List POut) (p:POut) (g:Nat) (k vl:Value) (hs:a.eval s=v) (hx:a.eval x=.slice (some ⟨g,0,none⟩) 1 1)
  (hrow:aQ w B v l) (hc:Blk w g 212 #[.bool p.has,k,vl]) (hp:OutOwn w B k vl p) (hb:l.length<=100000000) (hB:B<=w.heap.size)
  (h:∀g' cap' w',aQ w' B (.slice (some ⟨g',0,none⟩) (l.length+1) cap') (l ++ [p])->w.grownBy w' v.ownBlock->(v.ownBlock=some g'\/g'=w.heap.size)->wpList Tryz.prog ops Q rest (a.put o.dst (.slice (some ⟨g',0,none⟩) (l.length+1) cap')) w'):wpList Tryz.prog ops Q (o :: rest) a w :=
 BigFrame.wpList_want hw fun _ hK=>uT w s x ho B v l p g k vl hs hx hrow hc hp hb hB fun g' cap' w' h1 h2 h3=>hK _ _ (h g' cap' w' h1 h2 h3)
theorem sp (b f n:Nat)(L:Bs)(w:World)(hn:n<=100)(hz:L.length<=140737488355328)(hr:RR w b L)(hf:Blk w f 256 #[.func (.func 187) #[] #[]]) :
  Calls Tryz.prog 211 #[.pointer (some ⟨b,0,none⟩),.int .u64 n,.func (.func 204) #[] #[.pointer (some ⟨f,0,none⟩)]] w (bj b w (bL pOut n L) (fun l v w'=>∃u,v=.tuple #[u,.int .i64 0]/\aQ w' w.heap.size u l)):=by
 have HR:Hid (RR w b L/\Blk w f 256 #[.func (.func 187) #[] #[]]):=⟨hr,hf⟩
 have hblt:b<w.heap.size:=by obtain ⟨s,hs⟩:=hr.blk;exact hs.lt
 have hfb:f≠b:=hr.ne hf (by decide)
 clear hr hf
 go_enter Tryz.func211,Tryz.ntmps211
 go_wp2_with fail
 go_loopw [8,12] (fun v i wr=>∃(k:Nat) (xs:List POut) (M:Bs),k<=n/\i=.int .u64 k/\Hid (bL pOut k L=some (xs,M))/\aQ wr w.heap.size v xs/\RR wr b M/\w.grownBy wr (some b)) (fun _ i _=>n-(intOf i).toNat)
 case atStart=>exact ⟨0,[],L,by omega,rfl,rfl,⟨br _ _,by simp⟩,HR.out.1,aj _ _⟩
 case round =>
  obtain ⟨k,xs,M,hk,rfl,hp,hown,hrr,hg⟩:=hrel
  obtain ⟨hlen,hxs⟩:=gW yq k L xs M hp.out
  have hf1:Blk wr f 256 #[.func (.func 187) #[] #[]]:=HR.out.2.grown hg (fun e=>hfb (by simpa using e.symm))
  by_cases hlt:k<n
  ·have i2:(k:Int)<(n:Int):=by omega
   have HO:Hid (aQ wr w.heap.size u8 xs/\RR wr b M/\w.grownBy wr (some b)/\Blk wr f 256 #[.func (.func 187) #[] #[]]):=⟨hown,hrr,hg,hf1⟩
   have hzM:M.length<=140737488355328:=by omega
   clear hown hrr hg hf1
   go_wp2_with (go_at_call 204;refine (AX b f M _ hzM HO.out.2.1 HO.out.2.2.2).mono ?_)
   intro e w1 h
   rcases h.symm with ⟨hx,rfl,hg1⟩ | ⟨o,M1,v,hx,rfl,⟨u,rfl,k1,x1,rfl,ho⟩,hR,hg1⟩
   ·have F:Hid (bL pOut n L=none/\w.grownBy w1 (some b)):=⟨fU k n L xs M hp.out hx hlt,aa HO.out.2.2.1 hg1⟩
    clear hx hg1 h
    unfold Pan
    go_wp2_with fail
    exact ⟨rfl,.inr ⟨F.out.1,rfl,F.out.2⟩⟩
   clear h
   obtain ⟨s,hs⟩:=HO.out.2.1.blk
   have hown1:=HO.out.1.set hs (by decide) (by decide) (by decide) hg1
   have HP:Hid (bL pOut (k+1) L=some (xs ++ [o],M1)):=by rw [fT k L xs M hp.out,hx];rfl
   obtain ⟨xa,na,ya,rfl⟩:=aB ho.value
   obtain ⟨xb,nb,yb,rfl,hq_⟩:=ho.rows.slice
   clear hq_
   have HQ:Hid (aQ w1 w.heap.size u8 xs/\OutOwn w1 w.heap.size (.slice xa na ya) (.slice xb nb yb) o/\RR w1 b M1/\w.grownBy w1 (some b)/\w.heap.size<=w1.heap.size):=⟨hown1,ho.mono HO.out.2.2.1.size,hR,aa HO.out.2.2.1 hg1,Nat.le_trans HO.out.2.2.1.size hg1.size⟩
   clear hx hg1 ho hR hown1 hs
   have HX:Hid (aQ ((w1.alloc (.cells #[.bool o.has,.slice xa na ya,.slice xb nb yb] 212)).alloc (.cells #[.bool o.has,.slice xa na ya,.slice xb nb yb] 212)) w.heap.size u8 xs):=HQ.out.1.grown (aa gA_ gA_)
   have HY:Hid (OutOwn ((w1.alloc (.cells #[.bool o.has,.slice xa na ya,.slice xb nb yb] 212)).alloc (.cells #[.bool o.has,.slice xa na ya,.slice xb nb yb] 212)) w.heap.size (.slice xa na ya) (.slice xb nb yb) o):=HQ.out.2.1.grown (aa gA_ gA_)
   have HZ:Hid (Blk ((w1.alloc (.cells #[.bool o.has,.slice xa na ya,.slice xb nb yb] 212)).alloc (.cells #[.bool o.has,.slice xa na ya,.slice xb nb yb] 212)) (w1.heap.size+1) 212 #[.bool o.has,.slice xa na ya,.slice xb nb yb]):=by
    have:=heap_alloc_new (w1.alloc (.cells #[.bool o.has,.slice xa na ya,.slice xb nb yb] 212)) (.cells #[.bool o.has,.slice xa na ya,.slice xb nb yb] 212)
    simpa [Blk,Hid] using this
   have HU:Hid (w.heap.size<=((w1.alloc (.cells #[.bool o.has,.slice xa na ya,.slice xb nb yb] 212)).alloc (.cells #[.bool o.has,.slice xa na ya,.slice xb nb yb] 212)).heap.size):=by have:=HQ.out.2.2.2.2;unfold Hid;simp;omega
   go_wp2_with (at_builtin;refine zX _ rfl (.tmp 23) (.tmp 25) rfl w.heap.size u8 xs o _ _ _ rfl rfl HX.out HZ.out HY.out (by omega) HU.out ?_;intro g' cap' w3 o3 g3 l3)
   have S4:Hid (aQ w3 w.heap.size (.slice (some ⟨g',0,none⟩) (xs.length+1) cap') (xs ++ [o])/\RR w3 b M1/\w.grownBy w3 (some b)):=by
    have q1:RR ((w1.alloc (.cells #[.bool o.has,.slice xa na ya,.slice xb nb yb] 212)).alloc (.cells #[.bool o.has,.slice xa na ya,.slice xb nb yb] 212)) b M1:=HQ.out.2.2.1.grown (aa gA_ gA_)
    have q2:=aa HQ.out.2.2.2.1 (aP (aa (World.grownBy_alloc w1 (.cells #[.bool o.has,.slice xa na ya,.slice xb nb yb] 212) none) (World.grownBy_alloc _ (.cells #[.bool o.has,.slice xa na ya,.slice xb nb yb] 212) none)) (some b))
    refine ⟨o3,?_,ai q2 g3 (fun y hy=>(HX.out.1.lt y hy).1)⟩
    cases hv:Value.ownBlock u8 with
    | none=>rw [hv] at g3;exact q1.grown g3
    | some y =>
     rw [hv] at g3
     obtain ⟨vs,hvs,_⟩:=HX.out.1
     obtain ⟨cur,hcur⟩:=bp hvs hv
     exact q1.set hcur g3 (by decide) (by decide)
   clear o3 g3 l3 HX HY HQ
   go_wp2_with fail
   go_roundw
   case rel=>exact ⟨k+1,xs ++ [o],M1,by omega,by go_num,HP.out,by have:=S4.out.1;rw [hxs] at this;exact this,S4.out.2.1,S4.out.2.2⟩
   case measure=>simp [intOf];omega
  ·have e:k=n:=by omega
   subst e
   have HO:Hid (aQ wr w.heap.size u8 xs/\RR wr b M/\w.grownBy wr (some b)):=⟨hown,hrr,hg⟩
   clear hown hrr hg
   go_wp2_with fail
   go_ret2
   exact .inl ⟨xs,M,_,hp.out,rfl,⟨_,rfl,HO.out.1⟩,HO.out.2.1,HO.out.2.2⟩
abbrev iP (w:World)(l:List POut)(v:Value)(w':World):Prop:=∃u,v=.tuple #[u,.int .i64 0]/\aQ w' w.heap.size u l
def sq (b:Nat)(w:World)(r:Option (List POut × Bs))(e:Ending)(w':World):Prop :=
 bj b w r (iP w) e w'\/(r=none/\(∃u er,e=.returned (.tuple #[u,.int .i64 er])/\(er != 0)=true)/\(∃s2,Blk w' b 220 #[.bool true,s2])/\w.grownBy w' (some b))
theorem yt (b m f g:Nat)(L:Bs)(most:Nat)(w:World)(hm:most<=100)(hz:L.length<=140737488355328)(hr:RR w b L)(hmc:w.cell? ⟨m,0,none⟩=some (.int .i64 most))(hgc:Blk w g 272 #[.func (.func 204) #[] #[.pointer (some ⟨f,0,none⟩)]])(hf:Blk w f 256 #[.func (.func 187) #[] #[]]) :
  Calls Tryz.prog 210 #[.pointer (some ⟨b,0,none⟩),.pointer (some ⟨m,0,none⟩),.pointer (some ⟨g,0,none⟩)] w (sq b w (aH pOut most L)):=by
 have HR:Hid (RR w b L/\Blk w f 256 #[.func (.func 187) #[] #[]]/\Blk w g 272 #[.func (.func 204) #[] #[.pointer (some ⟨f,0,none⟩)]]):=⟨hr,hf,hgc⟩
 have hfb:f≠b:=hr.ne hf (by decide)
 have hgb:g≠b:=hr.ne hgc (by decide)
 clear hr hf hgc
 go_enter Tryz.func210,Tryz.ntmps210
 go_wp2_with (go_at_call 173;refine (kG b L most _ (by omega) HR.out.1).mono ?_)
 rintro e w1 (⟨n,M,hx,rfl,hn,hR,hg⟩ | ⟨er,hx,her,rfl,hs2,hg⟩)
 ·have HF:Hid (Blk w1 f 256 #[.func (.func 187) #[] #[]]):=HR.out.2.1.grown hg (fun e=>hfb (by simpa using e.symm))
  have hgc:=(HR.out.2.2.grown hg (fun e=>hgb (by simpa using e.symm))).cell 0
  have HN:Hid (pNum most L=some (n,M)/\RR w1 b M/\w.grownBy w1 (some b)):=⟨hx,hR,hg⟩
  have hzM:=iK hx
  clear hx hR hg
  go_wp2_with (go_at_call 211;refine (sp b f n M _ (by omega) (by omega) HN.out.2.1 HF.out).mono ?_)
  intro e w2 h
  rcases h.symm with ⟨hx,rfl,hg2⟩ | ⟨l,M2,v,hx,rfl,⟨u,rfl,ho⟩,hR2,hg2⟩
  ·have F:Hid (aH pOut most L=none/\w.grownBy w2 (some b)):=⟨by rw [jM HN.out.1,hx],aa HN.out.2.2 hg2⟩
   clear hx hg2 h
   unfold Pan
   go_wp2_with fail
   exact ⟨rfl,.inl (.inr ⟨F.out.1,rfl,F.out.2⟩)⟩
  clear h
  have F:Hid (aH pOut most L=some (l,M2)/\aQ w2 w.heap.size u l/\RR w2 b M2/\w.grownBy w2 (some b)):=⟨by rw [jM HN.out.1,hx],ho.mono HN.out.2.2.size,hR2,aa HN.out.2.2 hg2⟩
  clear hx ho hR2 hg2
  go_wp2_with fail
  go_ret2
  exact .inl (.inl ⟨l,M2,_,F.out.1,rfl,⟨_,rfl,F.out.2.1⟩,F.out.2.2.1,F.out.2.2.2⟩)
 ·have F:Hid (aH pOut most L=none/\(er != 0)=true/\(∃s2,Blk w1 b 220 #[.bool true,s2])/\w.grownBy w1 (some b)):=⟨ow hx,her,hs2,hg⟩
  clear hx hs2 hg
  go_wp2_with fail
  go_ret2
  exact .inr ⟨F.out.1,⟨_,_,rfl,F.out.2.1⟩,F.out.2.2.1,F.out.2.2.2⟩
theorem uU (b m f g:Nat)(L:Bs)(most:Nat)(w:World)(hm:most<=100)(hz:L.length<=140737488355328)(hr:RR w b L)(hmc:w.cell? ⟨m,0,none⟩=some (.int .i64 most))(hgc:Blk w g 272 #[.func (.func 204) #[] #[.pointer (some ⟨f,0,none⟩)]])(hf:Blk w f 256 #[.func (.func 187) #[] #[]]) :
  Calls Tryz.prog 209 #[.pointer (some ⟨b,0,none⟩),.func (.func 210) #[] #[.pointer (some ⟨m,0,none⟩),.pointer (some ⟨g,0,none⟩)]] w fun e w'=>bj b w (aH pOut most L) (iP w) e w'\/(aH pOut most L=none/\(∃u er,e=.returned (.tuple #[u,.int .i64 er])/\(er != 0)=true)/\w.grownBy w' (some b)):=by
 have HR:Hid (RR w b L/\Blk w f 256 #[.func (.func 187) #[] #[]]/\Blk w g 272 #[.func (.func 204) #[] #[.pointer (some ⟨f,0,none⟩)]]/\w.cell? ⟨m,0,none⟩=some (.int .i64 most)):=⟨hr,hf,hgc,hmc⟩
 obtain ⟨s,hs,hseg,hk⟩:=hr
 obtain ⟨x0,y0,e0⟩:=hseg.shape
 obtain ⟨n0,hn0⟩:∃n,n=L.length:=⟨_,rfl⟩
 rw [<-hn0] at e0
 subst e0
 have c0:=hs.cell0
 have c1:=hs.cell1
 have hbl:b<w.heap.size:=hs.lt
 have HS:Hid (RdB w b true (.slice x0 n0 y0)):=hs
 clear hgc hf hmc hseg hk hn0
 go_enter Tryz.func209,Tryz.ntmps209
 go_wp2_with (first | (go_at_call 148;refine (Wire.cS b true _ _ HS.out).mono ?_;rintro e w1 ⟨rfl,hw1⟩;rw [hw1];clear hw1) | (go_at_call 210;refine (yt b m f g L most _ hm hz (HR.out.1.grown gA_) (ar gA_ HR.out.2.2.2) (HR.out.2.2.1.grown gA_ (by simp)) (HR.out.2.1.grown gA_ (by simp))).mono ?_))
 rintro e w1 (h | ⟨hx,⟨u,er,rfl,her⟩,⟨s2,hs2⟩,hg⟩)
 ·rcases h.symm with ⟨hx,rfl,hg⟩ | ⟨l,M,v,hx,rfl,⟨u,rfl,ho⟩,hR,hg⟩
  ·have F:Hid (aH pOut most L=none/\w.grownBy w1 (some b)):=⟨hx,aa (World.grownBy_alloc _ _ _) hg⟩
   clear hx hg h
   unfold Pan
   go_wp2_with fail
   exact ⟨rfl,.inl (.inr ⟨F.out.1,rfl,F.out.2⟩)⟩
  ·have F:Hid (aH pOut most L=some (l,M)/\aQ w1 w.heap.size u l/\RR w1 b M/\w.grownBy w1 (some b)):=⟨hx,ho.mono (by simp),hR,aa (World.grownBy_alloc _ _ _) hg⟩
   clear hx ho hR hg h
   go_wp2_with fail
   go_ret2
   exact .inl (.inl ⟨l,M,_,F.out.1,rfl,⟨_,rfl,F.out.2.1⟩,F.out.2.2.1,F.out.2.2.2⟩)
 ·have F:Hid (aH pOut most L=none/\(er != 0)=true/\w.grownBy w1 (some b)):=⟨hx,her,aa (World.grownBy_alloc _ _ _) hg⟩
  have hw:Blk w1 w.heap.size 220 #[.bool true,.slice x0 n0 y0]:=Blk.grown (heap_alloc_new w _) hg (fun e=>by simp at e;omega)
  have d0:=hw.cell 0
  have d1:=hw.cell 1
  have b0:=hs2.cell 0
  have b1:=hs2.cell 1
  have z0:=hs2.free 0
  have z1:=hs2.free 1
  clear hx hg hw hs2
  go_wp2_with fail
  go_ret2
  exact .inr ⟨F.out.1,⟨_,_,rfl,F.out.2.1⟩,aa F.out.2.2 (aa (ae _ _ _ _) (ae _ _ _ _))⟩
theorem yu (b f:Nat)(L:Bs)(most:Nat)(w:World)(hm:most<=100)(hz:L.length<=140737488355328)(hr:RR w b L)(hf:Blk w f 256 #[.func (.func 187) #[] #[]]) :
  Calls Tryz.prog 203 #[.pointer (some ⟨b,0,none⟩),.int .i64 most,.func (.func 204) #[] #[.pointer (some ⟨f,0,none⟩)]] w fun e w'=>bj b w (aH pOut most L) (iP w) e w'\/(aH pOut most L=none/\(∃u er,e=.returned (.tuple #[u,.int .i64 er])/\(er != 0)=true)/\w.grownBy w' (some b)):=by
 have HR:Hid (RR w b L/\Blk w f 256 #[.func (.func 187) #[] #[]]):=⟨hr,hf⟩
 have q1:=AW
 have hmf:∀(fn:Fn) (first cap:Array Value) (w:World),(Instr.makeFunc fn first cap).run Tryz.prog w=.ok (.func fn first cap) w:=fun _ _ _ _=>rfl
 clear hr hf
 have HB:Hid (Blk ((w.alloc (.cells #[.int .i64 most] 3)).alloc (.cells #[.func (.func 204) #[] #[.pointer (some ⟨f,0,none⟩)]] 272)) (w.heap.size+1) 272 #[.func (.func 204) #[] #[.pointer (some ⟨f,0,none⟩)]]):=by
  have:=heap_alloc_new (w.alloc (.cells #[.int .i64 most] 3)) (.cells #[.func (.func 204) #[] #[.pointer (some ⟨f,0,none⟩)]] 272)
  simpa [Blk,Hid] using this
 go_enter Tryz.func203,Tryz.ntmps203
 go_wp2_with (go_at_call 209;refine (uU b w.heap.size f (w.heap.size+1) L most _ hm hz (HR.out.1.grown (aa gA_ gA_)) (by simp [go_sem]) HB.out (HR.out.2.grown (aa gA_ gA_) (by simp))).mono ?_)
 rintro e w1 (h | ⟨hx,⟨u,er,rfl,her⟩,hg⟩)
 ·rcases h.symm with ⟨hx,rfl,hg⟩ | ⟨l,M,v,hx,rfl,⟨u,rfl,ho⟩,hR,hg⟩
  ·have F:Hid (aH pOut most L=none/\w.grownBy w1 (some b)):=⟨hx,aa (aa (World.grownBy_alloc _ _ _) (World.grownBy_alloc _ _ _)) hg⟩
   clear hx hg h
   unfold Pan
   go_wp2_with fail
   exact ⟨rfl,.inl (.inr ⟨F.out.1,rfl,F.out.2⟩)⟩
  ·have F:Hid (aH pOut most L=some (l,M)/\aQ w1 w.heap.size u l/\RR w1 b M/\w.grownBy w1 (some b)):=⟨hx,ho.mono (by simp;omega),hR,aa (aa (World.grownBy_alloc _ _ _) (World.grownBy_alloc _ _ _)) hg⟩
   clear hx ho hR hg h
   go_wp2_with fail
   go_ret2
   exact .inl (.inl ⟨l,M,_,F.out.1,rfl,⟨_,rfl,F.out.2.1⟩,F.out.2.2.1,F.out.2.2.2⟩)
 ·have F:Hid (aH pOut most L=none/\(er != 0)=true/\w.grownBy w1 (some b)):=⟨hx,her,aa (aa (World.grownBy_alloc _ _ _) (World.grownBy_alloc _ _ _)) hg⟩
  clear hx hg
  go_wp2_with fail
  go_ret2
  exact .inr ⟨F.out.1,⟨_,_,rfl,F.out.2.1⟩,F.out.2.2⟩
theorem yv (b m f:Nat)(L:Bs)(most:Nat)(w:World)(hm:most<=100)(hz:L.length<=140737488355328)(hr:RR w b L)(hmc:w.cell? ⟨m,0,none⟩=some (.int .i64 most))(hf:Blk w f 256 #[.func (.func 187) #[] #[]]) :
  Calls Tryz.prog 202 #[.pointer (some ⟨b,0,none⟩),.pointer (some ⟨m,0,none⟩),.pointer (some ⟨f,0,none⟩)] w fun e w'=>bj b w (aH pOut most L) (iP w) e w'\/(aH pOut most L=none/\(∃u er,e=.returned (.tuple #[u,.int .i64 er])/\(er != 0)=true)/\w.grownBy w' (some b)):=by
 have HR:Hid (RR w b L/\Blk w f 256 #[.func (.func 187) #[] #[]]):=⟨hr,hf⟩
 have hmf:∀(fn:Fn) (first cap:Array Value) (w:World),(Instr.makeFunc fn first cap).run Tryz.prog w=.ok (.func fn first cap) w:=fun _ _ _ _=>rfl
 clear hr hf
 go_enter Tryz.func202,Tryz.ntmps202
 go_wp2_with (go_at_call 203;refine (yu b f L most _ hm hz HR.out.1 HR.out.2).mono ?_)
 rintro e w1 (h | ⟨hx,⟨u,er,rfl,her⟩,hg⟩)
 ·rcases h.symm with ⟨hx,rfl,hg⟩ | ⟨l,M,v,hx,rfl,⟨u,rfl,ho⟩,hR,hg⟩
  ·have F:Hid (aH pOut most L=none/\w.grownBy w1 (some b)):=⟨hx,hg⟩
   clear hx hg h
   unfold Pan
   go_wp2_with fail
   exact ⟨rfl,.inl (.inr ⟨F.out.1,rfl,F.out.2⟩)⟩
  ·have F:Hid (aH pOut most L=some (l,M)/\aQ w1 w.heap.size u l/\RR w1 b M/\w.grownBy w1 (some b)):=⟨hx,ho,hR,hg⟩
   clear hx ho hR hg h
   go_wp2_with fail
   go_ret2
   exact .inl (.inl ⟨l,M,_,F.out.1,rfl,⟨_,rfl,F.out.2.1⟩,F.out.2.2.1,F.out.2.2.2⟩)
 ·have F:Hid (aH pOut most L=none/\(er != 0)=true/\w.grownBy w1 (some b)):=⟨hx,her,hg⟩
  clear hx hg
  go_wp2_with fail
  go_ret2
  exact .inr ⟨F.out.1,⟨_,_,rfl,F.out.2.1⟩,F.out.2.2⟩
theorem yw (b m f:Nat)(L:Bs)(most:Nat)(w:World)(hm:most<=100)(hz:L.length<=140737488355328)(hr:RR w b L)(hmc:w.cell? ⟨m,0,none⟩=some (.int .i64 most))(hf:Blk w f 256 #[.func (.func 187) #[] #[]]) :
  Calls Tryz.prog 201 #[rdV b,.func (.func 202) #[] #[.pointer (some ⟨m,0,none⟩),.pointer (some ⟨f,0,none⟩)]] w (bj b w (aH pOut most L) (fun l v w'=>aQ w' w.heap.size v l)):=by
 have HR:Hid (RR w b L/\Blk w f 256 #[.func (.func 187) #[] #[]]/\w.cell? ⟨m,0,none⟩=some (.int .i64 most)):=⟨hr,hf,hmc⟩
 clear hr hf hmc
 have e0:rdV b=.agg #[.pointer (some ⟨b,0,none⟩)]:=rfl
 rw [e0]
 go_enter Tryz.func201,Tryz.ntmps201
 go_wp2_with (go_at_call 202;refine (yv b m f L most _ hm hz (HR.out.1.grown gA_) (ar gA_ HR.out.2.2) (HR.out.2.1.grown gA_ (by simp))).mono ?_)
 rintro e w1 (h | ⟨hx,⟨u,er,rfl,her⟩,hg⟩)
 ·rcases h.symm with ⟨hx,rfl,hg⟩ | ⟨l,M,v,hx,rfl,⟨u,rfl,ho⟩,hR,hg⟩
  ·have F:Hid (aH pOut most L=none/\w.grownBy w1 (some b)):=⟨hx,aa (World.grownBy_alloc _ _ _) hg⟩
   clear hx hg h
   unfold Pan
   go_wp2_with fail
   exact ⟨rfl,.inr ⟨F.out.1,rfl,F.out.2⟩⟩
  ·have F:Hid (aH pOut most L=some (l,M)/\aQ w1 w.heap.size u l/\RR w1 b M/\w.grownBy w1 (some b)):=⟨hx,ho.mono (by simp),hR,aa (World.grownBy_alloc _ _ _) hg⟩
   clear hx ho hR hg h
   go_wp2_with (go_at_call 110;refine (bq _ _).mono ?_;rintro e w2 ⟨rfl,hw2⟩;rw [hw2];clear hw2)
   go_ret
   exact .inl ⟨l,M,_,F.out.1,rfl,F.out.2.1,F.out.2.2.1,F.out.2.2.2⟩
 ·have F:Hid (aH pOut most L=none/\w.grownBy w1 (some b)):=⟨hx,aa (World.grownBy_alloc _ _ _) hg⟩
  have q:(er==0)=false:=by simpa using her
  clear hx hg her
  go_wp2_with (go_at_call 110;refine (cn _ _).mono ?_;rintro e w2 ⟨rfl,hw2⟩;rw [hw2];clear hw2;unfold Pan)
  exact ⟨rfl,.inr ⟨F.out.1,rfl,F.out.2⟩⟩
theorem yx (b:Nat)(L:Bs)(most:Nat)(w:World)(hm:most<=100)(hz:L.length<=140737488355328)(hr:RR w b L) :
  Calls Tryz.prog 186 #[rdV b,.int .i64 most,.func (.func 187) #[] #[]] w (bj b w (aH pOut most L) (fun l v w'=>aQ w' w.heap.size v l)):=by
 have HR:Hid (RR w b L):=hr
 have hmf:∀(fn:Fn) (first cap:Array Value) (w:World),(Instr.makeFunc fn first cap).run Tryz.prog w=.ok (.func fn first cap) w:=fun _ _ _ _=>rfl
 clear hr
 have e0:rdV b=.agg #[.pointer (some ⟨b,0,none⟩)]:=rfl
 rw [e0]
 have HB:Hid (Blk (((w.alloc (.cells #[.pointer (some ⟨b,0,none⟩)] 149)).alloc (.cells #[.int .i64 most] 3)).alloc (.cells #[.func (.func 187) #[] #[]] 256)) (w.heap.size+1+1) 256 #[.func (.func 187) #[] #[]]):=by
  have:=heap_alloc_new ((w.alloc (.cells #[.pointer (some ⟨b,0,none⟩)] 149)).alloc (.cells #[.int .i64 most] 3)) (.cells #[.func (.func 187) #[] #[]] 256)
  simpa [Blk,Hid] using this
 go_enter Tryz.func186,Tryz.ntmps186
 go_wp2_with (go_at_call 201;refine (yw b (w.heap.size+1) (w.heap.size+1+1) L most _ hm hz (HR.out.grown (cw _ _ _ _)) (by simp [go_sem]) HB.out).mono ?_)
 intro e w1 h
 rcases h.symm with ⟨hx,rfl,hg⟩ | ⟨l,M,v,hx,rfl,ho,hR,hg⟩
 ·have F:Hid (aH pOut most L=none/\w.grownBy w1 (some b)):=⟨hx,aa (aP (cw _ _ _ _) _) hg⟩
  clear hx hg h
  unfold Pan
  go_wp2_with fail
  exact ⟨rfl,.inr ⟨F.out.1,rfl,F.out.2⟩⟩
 ·have F:Hid (aH pOut most L=some (l,M)/\aQ w1 w.heap.size v l/\RR w1 b M/\w.grownBy w1 (some b)):=⟨hx,ho.mono (by simp;omega),hR,aa (aP (cw _ _ _ _) _) hg⟩
  clear hx ho hR hg h
  go_wp2_with fail
  go_ret
  exact .inl ⟨l,M,_,F.out.1,rfl,F.out.2.1,F.out.2.2.1,F.out.2.2.2⟩
end Go.Proofs.YtanoabliahcbeaaGreat.Calls
