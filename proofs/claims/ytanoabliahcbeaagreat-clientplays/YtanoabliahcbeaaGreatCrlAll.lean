import Derived.Test.YtanoabliahcbeaaGreatCnAll
import Derived.Test.YtanoabliahcbeaaGreatCallsAl
import Derived.Test.YtanoabliahcbeaaGreatCallsPe
set_option maxHeartbeats 8000000
set_option maxRecDepth 100000
namespace Go.Proofs.YtanoabliahcbeaaGreat.Calls
open Go.RowKit Disk
open Names (Str)
open Wire (RdB RdG)
structure RowOwn (w:World)(B:Nat)(k v:Value)(r:PRow):Prop where
 key:Own w B k r.1
 value:Own w B v r.2
theorem RowOwn.grown {w w':World}{B:Nat}{k v:Value}{r:PRow}(h:RowOwn w B k v r)(hg:w.grownBy w' none):RowOwn w' B k v r:=⟨h.key.grown hg,h.value.grown hg⟩
theorem RowOwn.mono {w:World}{B B':Nat}{k v:Value}{r:PRow}(h:RowOwn w B k v r)(hB:B'<=B):RowOwn w B' k v r:=⟨h.key.mono hB,h.value.mono hB⟩
theorem RowOwn.set {w w':World}{B x t':Nat}{c:Array Value}{k v:Value}{r:PRow}(h:RowOwn w B k v r)(hx:Blk w x t' c)(ht:t'≠5)(hg:w.grownBy w' (some x)):RowOwn w' B k v r:=⟨own_set h.key hx ht hg,own_set h.value hx ht hg⟩
def RowR (B:Nat)(w:World)(x:List Value)(r:PRow):Prop:=∃k v,x=[k,v]/\RowOwn w B k v r
theorem rowR_stab (B:Nat):Stab (fun t=>t=5) (RowR B):=by
 refine ⟨fun w w' vs x h hg=>?_,fun w w' vs x g t cur h hb ht hg=>?_⟩
 ·obtain ⟨k,v,e,h⟩:=h
  exact ⟨k,v,e,h.grown hg⟩
 ·obtain ⟨k,v,e,h⟩:=h
  exact ⟨k,v,e,h.set hb ht hg⟩
def RowsOwn (w:World)(B:Nat)(v:Value)(l:List PRow):Prop:=LRow 214 2 (RowR B) w B v l/\l.length<=1099511627776
theorem RowsOwn.rws {w:World}{B:Nat}{v:Value}{l:List PRow}(h:RowsOwn w B v l):Rws w v l:=by
 obtain ⟨h,hl⟩:=h
 obtain ⟨x,y,e⟩:=h.shape
 refine ⟨x,y,e,by omega,fun j hj=>?_⟩
 obtain ⟨g,cap,cs,e2,hlen,⟨k,v',rfl,ho⟩,_,_,hc⟩:=h.cell j hj
 rw [e] at e2
 simp at e2
 refine ⟨g,0,k,v',e2.1,?_⟩
 rw [Nat.zero_add]
 exact ⟨hc 0 (by omega),hc 1 (by omega),ho.key.seg,ho.value.seg⟩
theorem RowsOwn.grown {w w':World}{B:Nat}{v:Value}{l:List PRow}(h:RowsOwn w B v l)(hg:w.grownBy w' none):RowsOwn w' B v l:=⟨h.1.grown (rowR_stab B) hg,h.2⟩
theorem RowsOwn.set {w w':World}{B x t':Nat}{v:Value}{l:List PRow}{cc:Array Value}(h:RowsOwn w B v l)(hx:Blk w x t' cc)(h1:t'≠214)(h2:t'≠5)(hg:w.grownBy w' (some x)):RowsOwn w' B v l:=⟨h.1.set (rowR_stab B) hx h1 h2 hg,h.2⟩
theorem RowsOwn.mono {w:World}{B B':Nat}{v:Value}{l:List PRow}(h:RowsOwn w B v l)(hB:B'<=B):RowsOwn w B' v l:=by
 obtain ⟨⟨vs,h1,h2,h3,h4⟩,hl⟩:=h
 refine ⟨LRow.mono ⟨vs,h1,h2,h3,fun j hj hj'=>?_⟩ hB,hl⟩
 obtain ⟨k,v,e,ho⟩:=h4 j hj hj'
 exact ⟨k,v,e,ho.mono hB⟩
structure OutOwn (w:World)(B:Nat)(k v:Value)(o:POut):Prop where
 value:Own w B k o.value
 rows:RowsOwn w B v o.rows
theorem OutOwn.grown {w w':World}{B:Nat}{k v:Value}{o:POut}(h:OutOwn w B k v o)(hg:w.grownBy w' none):OutOwn w' B k v o:=⟨h.value.grown hg,h.rows.grown hg⟩
theorem OutOwn.mono {w:World}{B B':Nat}{k v:Value}{o:POut}(h:OutOwn w B k v o)(hB:B'<=B):OutOwn w B' k v o:=⟨h.value.mono hB,h.rows.mono hB⟩
theorem OutOwn.set {w w':World}{B x t':Nat}{c:Array Value}{k v:Value}{o:POut}(h:OutOwn w B k v o)(hx:Blk w x t' c)(h1:t'≠214)(h2:t'≠5)(hg:w.grownBy w' (some x)):OutOwn w' B k v o:=⟨own_set h.value hx h2 hg,h.rows.set hx h1 h2 hg⟩
def OutR (B:Nat)(w:World)(x:List Value)(o:POut):Prop:=∃k v,x=[.bool o.has,k,v]/\OutOwn w B k v o
theorem outR_stab (B:Nat):Stab (fun t=>t=214\/t=5) (OutR B):=by
 refine ⟨fun w w' vs x h hg=>?_,fun w w' vs x g t cur h hb ht hg=>?_⟩
 ·obtain ⟨k,v,e,h⟩:=h
  exact ⟨k,v,e,h.grown hg⟩
 ·obtain ⟨k,v,e,h⟩:=h
  exact ⟨k,v,e,h.set hb (fun e=>ht (.inl e)) (fun e=>ht (.inr e)) hg⟩
def OutsOwn (w:World)(B:Nat)(v:Value)(l:List POut):Prop:=LRow 212 3 (OutR B) w B v l/\l.length<=1099511627776
theorem OutsOwn.outs {w:World}{B:Nat}{v:Value}{l:List POut}(h:OutsOwn w B v l):Outs w v l:=by
 obtain ⟨h,hl⟩:=h
 obtain ⟨x,y,e⟩:=h.shape
 refine ⟨x,y,e,by omega,fun j hj=>?_⟩
 obtain ⟨g,cap,cs,e2,hlen,⟨k,v',rfl,ho⟩,_,_,hc⟩:=h.cell j hj
 rw [e] at e2
 simp at e2
 refine ⟨g,0,k,v',e2.1,?_,ho.value.seg,ho.rows.rws⟩
 rw [Nat.zero_add]
 exact ⟨hc 0 (by omega),hc 1 (by omega),hc 2 (by omega)⟩
theorem OutsOwn.grown {w w':World}{B:Nat}{v:Value}{l:List POut}(h:OutsOwn w B v l)(hg:w.grownBy w' none):OutsOwn w' B v l:=⟨h.1.grown (outR_stab B) hg,h.2⟩
theorem OutsOwn.set {w w':World}{B x t':Nat}{v:Value}{l:List POut}{cc:Array Value}(h:OutsOwn w B v l)(hx:Blk w x t' cc)(h0:t'≠212)(h1:t'≠214)(h2:t'≠5)(hg:w.grownBy w' (some x)):OutsOwn w' B v l:=⟨h.1.set (outR_stab B) hx h0 (fun e=>e.elim h1 h2) hg,h.2⟩
theorem OutsOwn.mono {w:World}{B B':Nat}{v:Value}{l:List POut}(h:OutsOwn w B v l)(hB:B'<=B):OutsOwn w B' v l:=by
 obtain ⟨⟨vs,h1,h2,h3,h4⟩,hl⟩:=h
 refine ⟨LRow.mono ⟨vs,h1,h2,h3,fun j hj hj'=>?_⟩ hB,hl⟩
 obtain ⟨k,v,e,ho⟩:=h4 j hj hj'
 exact ⟨k,v,e,ho.mono hB⟩
theorem RowsOwn.slice {w:World}{B:Nat}{v:Value}{l:List PRow}(h:RowsOwn w B v l):∃x n y,v=.slice x n y/\n=l.length:=by obtain ⟨x,y,e⟩:=h.1.shape;exact ⟨x,_,y,e,rfl⟩
theorem OutsOwn.slice {w:World}{B:Nat}{v:Value}{l:List POut}(h:OutsOwn w B v l):∃x n y,v=.slice x n y/\n=l.length:=by obtain ⟨x,y,e⟩:=h.1.shape;exact ⟨x,_,y,e,rfl⟩
structure MidG (t:Nat)(z:Array Value)(w w1:World)(b:Nat)(L:Bs)(cs:Array Value):Prop where
 rr:RR w1 b L
 box:Blk w1 w.heap.size 149 #[.pointer (some ⟨b,0,none⟩)]
 res:Blk w1 (w.heap.size+1) t z
 op:Blk w1 (w.heap.size+2) t cs
 grow:w.grownBy w1 (some b)
section
variable {t:Nat} {z:Array Value} {w w1 w2:World} {b:Nat} {L M:Bs} {cs:Array Value}
theorem midG_start (t:Nat)(z:Array Value)(hr:RR w b L):MidG t z w (((w.alloc (.cells #[.pointer (some ⟨b,0,none⟩)] 149)).alloc (.cells z t)).alloc (.cells z t)) b L z:=by
 refine ⟨hr.grown (grown3 _ _ _ _),?_,?_,?_,grown_weak (grown3 _ _ _ _) _⟩
 ·exact Blk.grown (Blk.grown (heap_alloc_new w _) (World.grownBy_alloc _ _ none) (by simp)) (World.grownBy_alloc _ _ none) (by simp)
 ·have:=Blk.grown (heap_alloc_new (w.alloc (.cells #[.pointer (some ⟨b,0,none⟩)] 149)) (.cells z t)) (World.grownBy_alloc _ (.cells z t) none) (by simp)
  simpa using this
 ·have:=heap_alloc_new ((w.alloc (.cells #[.pointer (some ⟨b,0,none⟩)] 149)).alloc (.cells z t)) (.cells z t)
  simpa [Blk] using this
theorem MidG.call (h:MidG t z w w1 b L cs)(ht:t≠220)(hr:RR w2 b M)(hg:w1.grownBy w2 (some b)):MidG t z w w2 b M cs :=
 ⟨hr,h.box.grown hg (fun e=>h.rr.ne h.box (by decide) (by simpa using e.symm)),h.res.grown hg (fun e=>h.rr.ne h.res ht (by simpa using e.symm)),h.op.grown hg (fun e=>h.rr.ne h.op ht (by simpa using e.symm)),grown_trans h.grow hg⟩
theorem MidG.keep (h:MidG t z w w1 b L cs)(hg:w1.grownBy w2 (some b)):Keep w1 w2:=by
 obtain ⟨s,hs⟩:=h.rr.blk
 exact keep_set hs (by decide) hg
theorem MidG.store (h:MidG t z w w1 b L cs)(h1:t≠220)(h5:t≠5)(i:Nat)(v:Value):MidG t z w (w1.setCell ⟨w.heap.size+2,i,none⟩ v) b L (cs.setIfInBounds i v) :=
 have hg:=grown_setCell w1 (w.heap.size+2) i v
 ⟨h.rr.set h.op hg h1 h5,h.box.grown hg (by simp),h.res.grown hg (by simp),h.op.store i v,grown_new h.grow hg (fun y hy=>by simp at hy;omega)⟩
theorem MidG.more (h:MidG t z w w1 b L cs)(hg:w1.grownBy w2 none):MidG t z w w2 b L cs:=⟨h.rr.grown hg,h.box.grown hg (by simp),h.res.grown hg (by simp),h.op.grown hg (by simp),grown_trans h.grow (grown_weak hg _)⟩
end
def RowTold (w:World)(r:PRow)(v:Value)(w':World):Prop:=∃k x,v=.agg #[k,x]/\RowOwn w' w.heap.size k x r
theorem row159 (b:Nat)(L:Bs)(w:World)(hz:L.length<=140737488355328)(hr:RR w b L):Calls Tryz.prog 206 #[rdV b] w (RdPost b w (pRow L) (RowTold w)):=by
 have HM0:Hid (MidG 214 #[.slice none 0 0,.slice none 0 0] w _ b L #[.slice none 0 0,.slice none 0 0]):=midG_start 214 #[.slice none 0 0,.slice none 0 0] hr
 have hblt:b<w.heap.size:=by obtain ⟨s,hs⟩:=hr.blk;exact hs.lt
 clear hr
 have e0:rdV b=.agg #[.pointer (some ⟨b,0,none⟩)]:=rfl
 rw [e0]
 go_enter Tryz.func206,Tryz.ntmps206
 go_wp2_with (go_at_call 154;refine (bytes135_int _ b L 64 rfl _ (by decide) hz HM0.out.rr).mono ?_)
 intro e w1 h
 rcases h.symm with ⟨hx,rfl,hg⟩ | ⟨ky,L1,v,hx,rfl,ho,hR,hg⟩
 ·have F:Hid (pRow L=none/\w.grownBy w1 (some b)):=⟨by unfold pRow;rw [hx];rfl,grown_trans HM0.out.grow hg⟩
  clear hx hg h
  unfold Pan
  go_wp2_with fail
  exact ⟨rfl,.inr ⟨F.out.1,rfl,F.out.2⟩⟩
 clear h
 have HK:Hid (pBytes 64 L=some (ky,L1)):=hx
 have hz1:L1.length<=140737488355328:=Nat.le_trans (pBytes_len hx) hz
 obtain ⟨x1,n1,y1,rfl⟩:=slice_of ho
 have HM1:Hid (MidG 214 #[.slice none 0 0,.slice none 0 0] w w1 b L1 #[.slice none 0 0,.slice none 0 0]/\Own w1 w.heap.size (.slice x1 n1 y1) ky):=⟨HM0.out.call (by decide) hR hg,ho.mono (by simp;omega)⟩
 clear hx ho hR hg HM0
 have c0:=HM1.out.1.op.cell 0
 have f0:=HM1.out.1.op.free 0
 have kb:=(HM1.out.1.store (by decide) (by decide) 0 (.slice x1 n1 y1)).box.cell 0
 go_wp2_with (go_at_call 154;refine (bytes135_int _ b L1 256 rfl _ (by decide) hz1 (HM1.out.1.store (by decide) (by decide) 0 (.slice x1 n1 y1)).rr).mono ?_)
 intro e w2 h
 have HM2:Hid (MidG 214 #[.slice none 0 0,.slice none 0 0] w (w1.setCell ⟨w.heap.size+2,0,none⟩ (.slice x1 n1 y1)) b L1 #[.slice x1 n1 y1,.slice none 0 0]/\Own (w1.setCell ⟨w.heap.size+2,0,none⟩ (.slice x1 n1 y1)) w.heap.size (.slice x1 n1 y1) ky):=⟨HM1.out.1.store (by decide) (by decide) 0 _,own_set HM1.out.2 HM1.out.1.op (by decide) (grown_setCell _ _ _ _)⟩
 rcases h.symm with ⟨hx,rfl,hg⟩ | ⟨vy,L2,v2,hx,rfl,ho,hR,hg⟩
 ·have F:Hid (pRow L=none/\w.grownBy w2 (some b)):=⟨by unfold pRow;rw [HK.out];simp [hx],grown_trans HM2.out.1.grow hg⟩
  clear hx hg h c0 f0 kb
  unfold Pan
  go_wp2_with fail
  exact ⟨rfl,.inr ⟨F.out.1,rfl,F.out.2⟩⟩
 clear h c0 f0 kb
 have HV:Hid (pBytes 256 L1=some (vy,L2)):=hx
 obtain ⟨x2,n2,y2,rfl⟩:=slice_of ho
 have HM3:Hid (MidG 214 #[.slice none 0 0,.slice none 0 0] w w2 b L2 #[.slice x1 n1 y1,.slice none 0 0]/\Own w2 w.heap.size (.slice x1 n1 y1) ky/\Own w2 w.heap.size (.slice x2 n2 y2) vy):=⟨HM2.out.1.call (by decide) hR hg,HM2.out.1.keep hg _ _ _ HM2.out.2,ho.mono HM2.out.1.grow.size⟩
 clear hx ho hR hg HM1 HM2
 obtain ⟨w3,hw3⟩:∃W,w2.setCell ⟨w.heap.size+2,1,none⟩ (.slice x2 n2 y2)=W:=⟨_,rfl⟩
 have HM4:Hid (MidG 214 #[.slice none 0 0,.slice none 0 0] w w3 b L2 #[.slice x1 n1 y1,.slice x2 n2 y2]/\RowOwn w3 w.heap.size (.slice x1 n1 y1) (.slice x2 n2 y2) (ky,vy)):=by
  rw [<-hw3]
  exact ⟨HM3.out.1.store (by decide) (by decide) 1 _,own_set HM3.out.2.1 HM3.out.1.op (by decide) (grown_setCell _ _ _ _),own_set HM3.out.2.2 HM3.out.1.op (by decide) (grown_setCell _ _ _ _)⟩
 have c1:=HM3.out.1.op.cell 1
 have f1:=HM3.out.1.op.free 1
 have d0:=HM4.out.1.op.cell 0
 have d1:=HM4.out.1.op.cell 1
 cases hkb:Names.keyB ky with
 | false =>
  have F:Hid (pRow L=none/\w.grownBy w3 (some b)):=⟨by unfold pRow;rw [HK.out];simp [HV.out,hkb],HM4.out.1.grow⟩
  go_wp2_with (first | (go_at_call 166;refine (Names.key11 _ ky _ HM4.out.2.key.seg).mono ?_;rintro e w4 ⟨rfl,hw4⟩;rw [hw4,hkb];clear hw4) | (go_at_call 110;refine (sure_no _ _).mono ?_;rintro e w5 ⟨rfl,hw5⟩;rw [hw5];clear hw5;unfold Pan))
  exact ⟨rfl,.inr ⟨F.out.1,rfl,F.out.2⟩⟩
 | true =>
  have F:Hid (pRow L=some ((ky,vy),L2)):=by unfold pRow;rw [HK.out];simp [HV.out,hkb,Hid]
  have g0:=HM4.out.1.res.cell 0
  have g1:=HM4.out.1.res.cell 1
  have j0:=HM4.out.1.res.free 0
  have j1:=HM4.out.1.res.free 1
  have HB:Hid _:=And.intro ((HM4.out.1.res.store 0 (.slice x1 n1 y1)).store 1 (.slice x2 n2 y2)) (grown_trans (grown_setCell w3 (w.heap.size+1) 0 (.slice x1 n1 y1)) (grown_setCell _ (w.heap.size+1) 1 (.slice x2 n2 y2)))
  go_wp2_with (first | (go_at_call 166;refine (Names.key11 _ ky _ HM4.out.2.key.seg).mono ?_;rintro e w4 ⟨rfl,hw4⟩;rw [hw4,hkb];clear hw4) | (go_at_call 110;refine (sure_yes _ _).mono ?_;rintro e w5 ⟨rfl,hw5⟩;rw [hw5];clear hw5))
  refine bodyPost_ret (v:=_) (results_cell_row rfl _ _ (w.heap.size+1) 214 _ (0,0) _ rfl HB.out.1 Tryz.underlying214 rfl (by kernel_rfl)) rfl ?_
  exact .inl ⟨(ky,vy),L2,_,F.out,rfl,⟨_,_,rfl,HM4.out.2.set HM4.out.1.res (by decide) HB.out.2⟩,HM4.out.1.rr.set HM4.out.1.res HB.out.2 (by decide) (by decide),grown_new HM4.out.1.grow HB.out.2 (fun y hy=>by simp at hy;omega)⟩
theorem ne_Row (c:Value)(w:World):(binOp .eql 283 (.func (.func 215) #[] #[c]) .nilFunc).run Tryz.prog w=.ok (.bool false) w:=by kernel_rfl
theorem pMany_leRow {most n:Nat}{L M:Bs}(h:pNum most L=some (n,M)):pList pRow most L=pMany pRow n M:=by unfold pList;rw [h];rfl
theorem pList_noRow {most:Nat}{L:Bs}(h:pNum most L=none):pList pRow most L=none:=by unfold pList;rw [h];rfl
theorem pRow_le (L:Bs)(x:PRow)(M:Bs)(h:pRow L=some (x,M)):M.length<=L.length:=by rw [(pRow_inv h).2];simp
theorem one198 (b f:Nat)(L:Bs)(w:World)(hz:L.length<=140737488355328)(hr:RR w b L)(hf:Blk w f 275 #[.func (.func 206) #[] #[]]) :
  Calls Tryz.prog 215 #[.pointer (some ⟨b,0,none⟩),.pointer (some ⟨f,0,none⟩)] w (RdPost b w (pRow L) (fun o v w'=>∃u,v=.tuple #[u,.int .i64 0]/\RowTold w o u w')):=by
 have HR:Hid (RR w b L):=hr
 have hb:b<w.heap.size:=by obtain ⟨s,hs⟩:=hr.blk;exact hs.lt
 have kf:=fun o=>grown_fun (World.grownBy_alloc w o none) (hf.cell 0)
 clear hr
 go_enter Tryz.func215,Tryz.ntmps215
 go_wp2_with (go_at_call 206;refine (row159 b L _ hz (HR.out.grown (World.grownBy_alloc _ _ none))).mono ?_)
 intro e w1 h
 rcases h.symm with ⟨hx,rfl,hg⟩ | ⟨o,M,v,hx,rfl,ho,hR,hg⟩
 ·have F:Hid (pRow L=none/\w.grownBy w1 (some b)):=⟨hx,grown_trans (World.grownBy_alloc _ _ _) hg⟩
  clear hx hg h
  unfold Pan
  go_wp2_with fail
  exact ⟨rfl,.inr ⟨F.out.1,rfl,F.out.2⟩⟩
 clear h
 have hres:Blk w1 w.heap.size 214 #[.slice none 0 0,.slice none 0 0]:=Blk.grown (heap_alloc_new w _) hg (fun e=>by simp at e;omega)
 have HW:Hid (w.grownBy w1 (some b)/\RR w1 b M/\pRow L=some (o,M)):=⟨grown_trans (World.grownBy_alloc _ _ _) hg,hR,hx⟩
 obtain ⟨k,x,rfl,ho⟩:=ho
 obtain ⟨xa,na,ya,rfl⟩:=slice_of ho.key
 obtain ⟨xb,nb,yb,rfl⟩:=slice_of ho.value
 have r0:=hres.cell 0
 have z0:=hres.free 0
 have r1:=hres.cell 1
 have z1:=hres.free 1
 have HB:Hid _:=And.intro ((hres.store 0 (.slice xa na ya)).store 1 (.slice xb nb yb)) (grown_trans (grown_setCell w1 w.heap.size 0 (.slice xa na ya)) (grown_setCell _ w.heap.size 1 (.slice xb nb yb)))
 have HO:Hid (RowOwn w1 w.heap.size (.slice xa na ya) (.slice xb nb yb) o/\Blk w1 w.heap.size 214 #[.slice none 0 0,.slice none 0 0]):=⟨ho.mono (by simp),hres⟩
 clear ho hres hx hg hR
 go_wp2_with fail
 refine bodyPost_ret (v:=_) (results_row_tmp rfl _ _ w.heap.size _ rfl (run_loadVar_row _ w.heap.size 214 214 _ (0,0) _ HB.out.1 Tryz.underlying214 rfl (by kernel_rfl))) rfl ?_
 exact .inl ⟨o,M,_,HW.out.2.2,rfl,⟨_,rfl,_,_,rfl,HO.out.1.set HO.out.2 (by decide) HB.out.2⟩,HW.out.2.1.set HO.out.2 HB.out.2 (by decide) (by decide),grown_new HW.out.1 HB.out.2 (fun y hy=>by simp at hy;omega)⟩
theorem Tryz.info214:(Tryz.prog.info? 214).map (fun i=>(i.zero,i.size,i.bytes))=some (some (.agg #[.slice none 0 0,.slice none 0 0]),2,48):=by kernel_rfl
theorem app56_wp {o:Oper}{a:Act}{K:Act->World->Prop}{Q:Exit->Act->World->Prop}(w:World)(s x:Operand)
  (ho:o.op=.call { callee:=.builtin .append,args:=#[s,x],argTypes:=#[210,210] })
  (B:Nat) (v:Value) (l:List PRow) (p:PRow) (g:Nat) (k vl:Value) (hs:a.eval s=v) (hx:a.eval x=.slice (some ⟨g,0,none⟩) 1 1)
  (hrow:RowsOwn w B v l) (hc:Blk w g 214 #[k,vl]) (hp:RowOwn w B k vl p) (hb:l.length<=100000000) (hB:B<=w.heap.size)
  (h:∀g' cap' w',RowsOwn w' B (.slice (some ⟨g',0,none⟩) (l.length+1) cap') (l ++ [p])->w.grownBy w' v.ownBlock->(v.ownBlock=some g'\/g'=w.heap.size)->K (a.put o.dst (.slice (some ⟨g',0,none⟩) (l.length+1) cap')) w'):o.wp Tryz.prog a w K Q:=by
 obtain ⟨i0,hi,hz0,hz1,hz2⟩:=info_parts Tryz.info214
 obtain ⟨⟨vs,h1,h2,h3,h4⟩,hl⟩:=hrow
 have q0:=hc.cell 0
 have q1:=hc.cell 1
 obtain ⟨xa,na,ya,rfl⟩:=slice_of hp.key
 obtain ⟨xb,nb,yb,rfl⟩:=slice_of hp.value
 refine wp_append_lies w s x 210 ho B 214 i0 _ 2 48 Tryz.underlying210 hi hz0 hz1 hz2 rfl (by decide) v l.length vs.flatten hs h1 ⟨g,0,none⟩ 1 1 [.slice xa na ya,.slice xb nb yb] hx rfl ?_ ?_ (by decide) (by unfold maxLen;omega) (by omega) hB w.heap.size rfl ?_
 ·intro j y hj
  rw [add_addr]
  match j,hj with
  | 0,hj=>simp at hj;subst hj;exact q0
  | 1,hj=>simp at hj;subst hj;exact q1
  | j+2,hj=>simp at hj
 ·intro y hy
  simp at hy
  rcases hy with rfl | rfl <;> rfl
 ·intro g' cap' w' r2 r3 r4 _
  exact h g' cap' w' ⟨LRow.snoc (rowR_stab B) (by decide) h1 h2 h3 h4 rfl ⟨_,_,rfl,hp⟩ r3 r2,by simp;omega⟩ r3 r4
theorem app56 {ops:Array Oper}{rest:List Oper}{o:Oper}{a:Act}{Q:Exit->Act->World->Prop}(w:World)(hw:Region.wanted o (yielded ops a.tmps)=true)(s x:Operand)
  (ho:o.op=.call { callee:=.builtin .append,args:=#[s,x],argTypes:=#[210,210] })
  (B:Nat) (v:Value) (l:List PRow) (p:PRow) (g:Nat) (k vl:Value) (hs:a.eval s=v) (hx:a.eval x=.slice (some ⟨g,0,none⟩) 1 1)
  (hrow:RowsOwn w B v l) (hc:Blk w g 214 #[k,vl]) (hp:RowOwn w B k vl p) (hb:l.length<=100000000) (hB:B<=w.heap.size)
  (h:∀g' cap' w',RowsOwn w' B (.slice (some ⟨g',0,none⟩) (l.length+1) cap') (l ++ [p])->w.grownBy w' v.ownBlock->(v.ownBlock=some g'\/g'=w.heap.size)->wpList Tryz.prog ops Q rest (a.put o.dst (.slice (some ⟨g',0,none⟩) (l.length+1) cap')) w'):wpList Tryz.prog ops Q (o :: rest) a w :=
 BigFrame.wpList_want hw fun _ hK=>app56_wp w s x ho B v l p g k vl hs hx hrow hc hp hb hB fun g' cap' w' h1 h2 h3=>hK _ _ (h g' cap' w' h1 h2 h3)
theorem things222 (b f n:Nat)(L:Bs)(w:World)(hn:n<=100)(hz:L.length<=140737488355328)(hr:RR w b L)(hf:Blk w f 275 #[.func (.func 206) #[] #[]]) :
  Calls Tryz.prog 219 #[.pointer (some ⟨b,0,none⟩),.int .u64 n,.func (.func 215) #[] #[.pointer (some ⟨f,0,none⟩)]] w (RdPost b w (pMany pRow n L) (fun l v w'=>∃u,v=.tuple #[u,.int .i64 0]/\RowsOwn w' w.heap.size u l)):=by
 have HR:Hid (RR w b L/\Blk w f 275 #[.func (.func 206) #[] #[]]):=⟨hr,hf⟩
 have hblt:b<w.heap.size:=by obtain ⟨s,hs⟩:=hr.blk;exact hs.lt
 have hfb:f≠b:=hr.ne hf (by decide)
 clear hr hf
 go_enter Tryz.func219,Tryz.ntmps219
 go_wp2_with fail
 go_loopw [8,12] (fun v i wr=>∃(k:Nat) (xs:List PRow) (M:Bs),k<=n/\i=.int .u64 k/\Hid (pMany pRow k L=some (xs,M))/\RowsOwn wr w.heap.size v xs/\RR wr b M/\w.grownBy wr (some b)) (fun _ i _=>n-(intOf i).toNat)
 case atStart=>exact ⟨0,[],L,by omega,rfl,rfl,⟨lrow_nil _ _,by simp⟩,HR.out.1,grown_refl _ _⟩
 case round =>
  obtain ⟨k,xs,M,hk,rfl,hp,hown,hrr,hg⟩:=hrel
  obtain ⟨hlen,hxs⟩:=pMany_len pRow_le k L xs M hp.out
  have hf1:Blk wr f 275 #[.func (.func 206) #[] #[]]:=HR.out.2.grown hg (fun e=>hfb (by simpa using e.symm))
  by_cases hlt:k<n
  ·have i2:(k:Int)<(n:Int):=by omega
   have HO:Hid (RowsOwn wr w.heap.size u8 xs/\RR wr b M/\w.grownBy wr (some b)/\Blk wr f 275 #[.func (.func 206) #[] #[]]):=⟨hown,hrr,hg,hf1⟩
   have hzM:M.length<=140737488355328:=by omega
   clear hown hrr hg hf1
   go_wp2_with (go_at_call 215;refine (one198 b f M _ hzM HO.out.2.1 HO.out.2.2.2).mono ?_)
   intro e w1 h
   rcases h.symm with ⟨hx,rfl,hg1⟩ | ⟨o,M1,v,hx,rfl,⟨u,rfl,k1,x1,rfl,ho⟩,hR,hg1⟩
   ·have F:Hid (pMany pRow n L=none/\w.grownBy w1 (some b)):=⟨pMany_none k n L xs M hp.out hx hlt,grown_trans HO.out.2.2.1 hg1⟩
    clear hx hg1 h
    unfold Pan
    go_wp2_with fail
    exact ⟨rfl,.inr ⟨F.out.1,rfl,F.out.2⟩⟩
   clear h
   obtain ⟨s,hs⟩:=HO.out.2.1.blk
   have hown1:=HO.out.1.set hs (by decide) (by decide) hg1
   have HP:Hid (pMany pRow (k+1) L=some (xs ++ [o],M1)):=by rw [pMany_snoc k L xs M hp.out,hx];rfl
   obtain ⟨xa,na,ya,rfl⟩:=slice_of ho.key
   obtain ⟨xb,nb,yb,rfl⟩:=slice_of ho.value
   have HQ:Hid (RowsOwn w1 w.heap.size u8 xs/\RowOwn w1 w.heap.size (.slice xa na ya) (.slice xb nb yb) o/\RR w1 b M1/\w.grownBy w1 (some b)/\w.heap.size<=w1.heap.size):=⟨hown1,ho.mono HO.out.2.2.1.size,hR,grown_trans HO.out.2.2.1 hg1,Nat.le_trans HO.out.2.2.1.size hg1.size⟩
   clear hx hg1 ho hR hown1 hs
   have HX:Hid (RowsOwn ((w1.alloc (.cells #[.slice xa na ya,.slice xb nb yb] 214)).alloc (.cells #[.slice xa na ya,.slice xb nb yb] 214)) w.heap.size u8 xs):=HQ.out.1.grown (grown_trans (World.grownBy_alloc _ _ none) (World.grownBy_alloc _ _ none))
   have HY:Hid (RowOwn ((w1.alloc (.cells #[.slice xa na ya,.slice xb nb yb] 214)).alloc (.cells #[.slice xa na ya,.slice xb nb yb] 214)) w.heap.size (.slice xa na ya) (.slice xb nb yb) o):=HQ.out.2.1.grown (grown_trans (World.grownBy_alloc _ _ none) (World.grownBy_alloc _ _ none))
   have HZ:Hid (Blk ((w1.alloc (.cells #[.slice xa na ya,.slice xb nb yb] 214)).alloc (.cells #[.slice xa na ya,.slice xb nb yb] 214)) (w1.heap.size+1) 214 #[.slice xa na ya,.slice xb nb yb]):=by
    have:=heap_alloc_new (w1.alloc (.cells #[.slice xa na ya,.slice xb nb yb] 214)) (.cells #[.slice xa na ya,.slice xb nb yb] 214)
    simpa [Blk,Hid] using this
   have HU:Hid (w.heap.size<=((w1.alloc (.cells #[.slice xa na ya,.slice xb nb yb] 214)).alloc (.cells #[.slice xa na ya,.slice xb nb yb] 214)).heap.size):=by have:=HQ.out.2.2.2.2;unfold Hid;simp;omega
   go_wp2_with (at_builtin;refine app56 _ rfl (.tmp 23) (.tmp 25) rfl w.heap.size u8 xs o _ _ _ rfl rfl HX.out HZ.out HY.out (by omega) HU.out ?_;intro g' cap' w3 o3 g3 l3)
   have S4:Hid (RowsOwn w3 w.heap.size (.slice (some ⟨g',0,none⟩) (xs.length+1) cap') (xs ++ [o])/\RR w3 b M1/\w.grownBy w3 (some b)):=by
    have q1:RR ((w1.alloc (.cells #[.slice xa na ya,.slice xb nb yb] 214)).alloc (.cells #[.slice xa na ya,.slice xb nb yb] 214)) b M1:=HQ.out.2.2.1.grown (grown_trans (World.grownBy_alloc _ _ none) (World.grownBy_alloc _ _ none))
    have q2:=grown_trans HQ.out.2.2.2.1 (grown_weak (grown_trans (World.grownBy_alloc w1 (.cells #[.slice xa na ya,.slice xb nb yb] 214) none) (World.grownBy_alloc _ (.cells #[.slice xa na ya,.slice xb nb yb] 214) none)) (some b))
    refine ⟨o3,?_,grown_new q2 g3 (fun y hy=>(HX.out.1.lt y hy).1)⟩
    cases hv:Value.ownBlock u8 with
    | none=>rw [hv] at g3;exact q1.grown g3
    | some y =>
     rw [hv] at g3
     obtain ⟨vs,hvs,_⟩:=HX.out.1
     obtain ⟨cur,hcur⟩:=owns_blk hvs hv
     exact q1.set hcur g3 (by decide) (by decide)
   clear o3 g3 l3 HX HY HQ
   go_wp2_with fail
   go_roundw
   case rel=>exact ⟨k+1,xs ++ [o],M1,by omega,by go_num,HP.out,by have:=S4.out.1;rw [hxs] at this;exact this,S4.out.2.1,S4.out.2.2⟩
   case measure=>simp [intOf];omega
  ·have e:k=n:=by omega
   subst e
   have HO:Hid (RowsOwn wr w.heap.size u8 xs/\RR wr b M/\w.grownBy wr (some b)):=⟨hown,hrr,hg⟩
   clear hown hrr hg
   go_wp2_with fail
   go_ret2
   exact .inl ⟨xs,M,_,hp.out,rfl,⟨_,rfl,HO.out.1⟩,HO.out.2.1,HO.out.2.2⟩
abbrev RowsTold (w:World)(l:List PRow)(v:Value)(w':World):Prop:=∃u,v=.tuple #[u,.int .i64 0]/\RowsOwn w' w.heap.size u l
def TkRowPost (b:Nat)(w:World)(r:Option (List PRow × Bs))(e:Ending)(w':World):Prop :=
 RdPost b w r (RowsTold w) e w'\/(r=none/\(∃u er,e=.returned (.tuple #[u,.int .i64 er])/\(er != 0)=true)/\(∃s2,Blk w' b 220 #[.bool true,s2])/\w.grownBy w' (some b))
theorem take221 (b m f g:Nat)(L:Bs)(most:Nat)(w:World)(hm:most<=100)(hz:L.length<=140737488355328)(hr:RR w b L)(hmc:w.cell? ⟨m,0,none⟩=some (.int .i64 most))(hgc:Blk w g 283 #[.func (.func 215) #[] #[.pointer (some ⟨f,0,none⟩)]])(hf:Blk w f 275 #[.func (.func 206) #[] #[]]) :
  Calls Tryz.prog 218 #[.pointer (some ⟨b,0,none⟩),.pointer (some ⟨m,0,none⟩),.pointer (some ⟨g,0,none⟩)] w (TkRowPost b w (pList pRow most L)):=by
 have HR:Hid (RR w b L/\Blk w f 275 #[.func (.func 206) #[] #[]]/\Blk w g 283 #[.func (.func 215) #[] #[.pointer (some ⟨f,0,none⟩)]]):=⟨hr,hf,hgc⟩
 have hfb:f≠b:=hr.ne hf (by decide)
 have hgb:g≠b:=hr.ne hgc (by decide)
 clear hr hf hgc
 go_enter Tryz.func218,Tryz.ntmps218
 go_wp2_with (go_at_call 173;refine (count169 b L most _ (by omega) HR.out.1).mono ?_)
 rintro e w1 (⟨n,M,hx,rfl,hn,hR,hg⟩ | ⟨er,hx,her,rfl,hs2,hg⟩)
 ·have HF:Hid (Blk w1 f 275 #[.func (.func 206) #[] #[]]):=HR.out.2.1.grown hg (fun e=>hfb (by simpa using e.symm))
  have hgc:=(HR.out.2.2.grown hg (fun e=>hgb (by simpa using e.symm))).cell 0
  have HN:Hid (pNum most L=some (n,M)/\RR w1 b M/\w.grownBy w1 (some b)):=⟨hx,hR,hg⟩
  have hzM:=pOp_len hx
  clear hx hR hg
  go_wp2_with (go_at_call 219;refine (things222 b f n M _ (by omega) (by omega) HN.out.2.1 HF.out).mono ?_)
  intro e w2 h
  rcases h.symm with ⟨hx,rfl,hg2⟩ | ⟨l,M2,v,hx,rfl,⟨u,rfl,ho⟩,hR2,hg2⟩
  ·have F:Hid (pList pRow most L=none/\w.grownBy w2 (some b)):=⟨by rw [pMany_leRow HN.out.1,hx],grown_trans HN.out.2.2 hg2⟩
   clear hx hg2 h
   unfold Pan
   go_wp2_with fail
   exact ⟨rfl,.inl (.inr ⟨F.out.1,rfl,F.out.2⟩)⟩
  clear h
  have F:Hid (pList pRow most L=some (l,M2)/\RowsOwn w2 w.heap.size u l/\RR w2 b M2/\w.grownBy w2 (some b)):=⟨by rw [pMany_leRow HN.out.1,hx],ho.mono HN.out.2.2.size,hR2,grown_trans HN.out.2.2 hg2⟩
  clear hx ho hR2 hg2
  go_wp2_with fail
  go_ret2
  exact .inl (.inl ⟨l,M2,_,F.out.1,rfl,⟨_,rfl,F.out.2.1⟩,F.out.2.2.1,F.out.2.2.2⟩)
 ·have F:Hid (pList pRow most L=none/\(er != 0)=true/\(∃s2,Blk w1 b 220 #[.bool true,s2])/\w.grownBy w1 (some b)):=⟨pList_noRow hx,her,hs2,hg⟩
  clear hx hs2 hg
  go_wp2_with fail
  go_ret2
  exact .inr ⟨F.out.1,⟨_,_,rfl,F.out.2.1⟩,F.out.2.2.1,F.out.2.2.2⟩
theorem whole220 (b m f g:Nat)(L:Bs)(most:Nat)(w:World)(hm:most<=100)(hz:L.length<=140737488355328)(hr:RR w b L)(hmc:w.cell? ⟨m,0,none⟩=some (.int .i64 most))(hgc:Blk w g 283 #[.func (.func 215) #[] #[.pointer (some ⟨f,0,none⟩)]])(hf:Blk w f 275 #[.func (.func 206) #[] #[]]) :
  Calls Tryz.prog 217 #[.pointer (some ⟨b,0,none⟩),.func (.func 218) #[] #[.pointer (some ⟨m,0,none⟩),.pointer (some ⟨g,0,none⟩)]] w fun e w'=>RdPost b w (pList pRow most L) (RowsTold w) e w'\/(pList pRow most L=none/\(∃u er,e=.returned (.tuple #[u,.int .i64 er])/\(er != 0)=true)/\w.grownBy w' (some b)):=by
 have HR:Hid (RR w b L/\Blk w f 275 #[.func (.func 206) #[] #[]]/\Blk w g 283 #[.func (.func 215) #[] #[.pointer (some ⟨f,0,none⟩)]]/\w.cell? ⟨m,0,none⟩=some (.int .i64 most)):=⟨hr,hf,hgc,hmc⟩
 obtain ⟨s,hs,hseg,hk⟩:=hr
 obtain ⟨x0,y0,e0⟩:=hseg.shape
 obtain ⟨n0,hn0⟩:∃n,n=L.length:=⟨_,rfl⟩
 rw [<-hn0] at e0
 subst e0
 have c0:=hs.cell0
 have c1:=hs.cell1
 have hbl:b<w.heap.size:=hs.lt
 have HS:Hid (RdB w b true (.slice x0 n0 y0)):=hs
 clear hgc hf hmc hseg hk hn0
 go_enter Tryz.func217,Tryz.ntmps217
 go_wp2_with (first | (go_at_call 148;refine (Wire.there_some b true _ _ HS.out).mono ?_;rintro e w1 ⟨rfl,hw1⟩;rw [hw1];clear hw1) | (go_at_call 218;refine (take221 b m f g L most _ hm hz (HR.out.1.grown (World.grownBy_alloc _ _ none)) (grown_fun (World.grownBy_alloc _ _ none) HR.out.2.2.2) (HR.out.2.2.1.grown (World.grownBy_alloc _ _ none) (by simp)) (HR.out.2.1.grown (World.grownBy_alloc _ _ none) (by simp))).mono ?_))
 rintro e w1 (h | ⟨hx,⟨u,er,rfl,her⟩,⟨s2,hs2⟩,hg⟩)
 ·rcases h.symm with ⟨hx,rfl,hg⟩ | ⟨l,M,v,hx,rfl,⟨u,rfl,ho⟩,hR,hg⟩
  ·have F:Hid (pList pRow most L=none/\w.grownBy w1 (some b)):=⟨hx,grown_trans (World.grownBy_alloc _ _ _) hg⟩
   clear hx hg h
   unfold Pan
   go_wp2_with fail
   exact ⟨rfl,.inl (.inr ⟨F.out.1,rfl,F.out.2⟩)⟩
  ·have F:Hid (pList pRow most L=some (l,M)/\RowsOwn w1 w.heap.size u l/\RR w1 b M/\w.grownBy w1 (some b)):=⟨hx,ho.mono (by simp),hR,grown_trans (World.grownBy_alloc _ _ _) hg⟩
   clear hx ho hR hg h
   go_wp2_with fail
   go_ret2
   exact .inl (.inl ⟨l,M,_,F.out.1,rfl,⟨_,rfl,F.out.2.1⟩,F.out.2.2.1,F.out.2.2.2⟩)
 ·have F:Hid (pList pRow most L=none/\(er != 0)=true/\w.grownBy w1 (some b)):=⟨hx,her,grown_trans (World.grownBy_alloc _ _ _) hg⟩
  have hw:Blk w1 w.heap.size 220 #[.bool true,.slice x0 n0 y0]:=Blk.grown (heap_alloc_new w _) hg (fun e=>by simp at e;omega)
  have d0:=hw.cell 0
  have d1:=hw.cell 1
  have b0:=hs2.cell 0
  have b1:=hs2.cell 1
  have z0:=hs2.free 0
  have z1:=hs2.free 1
  clear hx hg hw hs2
  go_wp2_with fail
  go_ret2
  exact .inr ⟨F.out.1,⟨_,_,rfl,F.out.2.1⟩,grown_trans F.out.2.2 (grown_trans (grown_setCell _ _ _ _) (grown_setCell _ _ _ _))⟩
theorem take197 (b f:Nat)(L:Bs)(most:Nat)(w:World)(hm:most<=100)(hz:L.length<=140737488355328)(hr:RR w b L)(hf:Blk w f 275 #[.func (.func 206) #[] #[]]) :
  Calls Tryz.prog 214 #[.pointer (some ⟨b,0,none⟩),.int .i64 most,.func (.func 215) #[] #[.pointer (some ⟨f,0,none⟩)]] w fun e w'=>RdPost b w (pList pRow most L) (RowsTold w) e w'\/(pList pRow most L=none/\(∃u er,e=.returned (.tuple #[u,.int .i64 er])/\(er != 0)=true)/\w.grownBy w' (some b)):=by
 have HR:Hid (RR w b L/\Blk w f 275 #[.func (.func 206) #[] #[]]):=⟨hr,hf⟩
 have q1:=ne_Row
 have hmf:∀(fn:Fn) (first cap:Array Value) (w:World),(Instr.makeFunc fn first cap).run Tryz.prog w=.ok (.func fn first cap) w:=fun _ _ _ _=>rfl
 clear hr hf
 have HB:Hid (Blk ((w.alloc (.cells #[.int .i64 most] 3)).alloc (.cells #[.func (.func 215) #[] #[.pointer (some ⟨f,0,none⟩)]] 283)) (w.heap.size+1) 283 #[.func (.func 215) #[] #[.pointer (some ⟨f,0,none⟩)]]):=by
  have:=heap_alloc_new (w.alloc (.cells #[.int .i64 most] 3)) (.cells #[.func (.func 215) #[] #[.pointer (some ⟨f,0,none⟩)]] 283)
  simpa [Blk,Hid] using this
 go_enter Tryz.func214,Tryz.ntmps214
 go_wp2_with (go_at_call 217;refine (whole220 b w.heap.size f (w.heap.size+1) L most _ hm hz (HR.out.1.grown (grown_trans (World.grownBy_alloc _ _ none) (World.grownBy_alloc _ _ none))) (by simp [go_sem]) HB.out (HR.out.2.grown (grown_trans (World.grownBy_alloc _ _ none) (World.grownBy_alloc _ _ none)) (by simp))).mono ?_)
 rintro e w1 (h | ⟨hx,⟨u,er,rfl,her⟩,hg⟩)
 ·rcases h.symm with ⟨hx,rfl,hg⟩ | ⟨l,M,v,hx,rfl,⟨u,rfl,ho⟩,hR,hg⟩
  ·have F:Hid (pList pRow most L=none/\w.grownBy w1 (some b)):=⟨hx,grown_trans (grown_trans (World.grownBy_alloc _ _ _) (World.grownBy_alloc _ _ _)) hg⟩
   clear hx hg h
   unfold Pan
   go_wp2_with fail
   exact ⟨rfl,.inl (.inr ⟨F.out.1,rfl,F.out.2⟩)⟩
  ·have F:Hid (pList pRow most L=some (l,M)/\RowsOwn w1 w.heap.size u l/\RR w1 b M/\w.grownBy w1 (some b)):=⟨hx,ho.mono (by simp;omega),hR,grown_trans (grown_trans (World.grownBy_alloc _ _ _) (World.grownBy_alloc _ _ _)) hg⟩
   clear hx ho hR hg h
   go_wp2_with fail
   go_ret2
   exact .inl (.inl ⟨l,M,_,F.out.1,rfl,⟨_,rfl,F.out.2.1⟩,F.out.2.2.1,F.out.2.2.2⟩)
 ·have F:Hid (pList pRow most L=none/\(er != 0)=true/\w.grownBy w1 (some b)):=⟨hx,her,grown_trans (grown_trans (World.grownBy_alloc _ _ _) (World.grownBy_alloc _ _ _)) hg⟩
  clear hx hg
  go_wp2_with fail
  go_ret2
  exact .inr ⟨F.out.1,⟨_,_,rfl,F.out.2.1⟩,F.out.2.2⟩
theorem list196 (b m f:Nat)(L:Bs)(most:Nat)(w:World)(hm:most<=100)(hz:L.length<=140737488355328)(hr:RR w b L)(hmc:w.cell? ⟨m,0,none⟩=some (.int .i64 most))(hf:Blk w f 275 #[.func (.func 206) #[] #[]]) :
  Calls Tryz.prog 213 #[.pointer (some ⟨b,0,none⟩),.pointer (some ⟨m,0,none⟩),.pointer (some ⟨f,0,none⟩)] w fun e w'=>RdPost b w (pList pRow most L) (RowsTold w) e w'\/(pList pRow most L=none/\(∃u er,e=.returned (.tuple #[u,.int .i64 er])/\(er != 0)=true)/\w.grownBy w' (some b)):=by
 have HR:Hid (RR w b L/\Blk w f 275 #[.func (.func 206) #[] #[]]):=⟨hr,hf⟩
 have hmf:∀(fn:Fn) (first cap:Array Value) (w:World),(Instr.makeFunc fn first cap).run Tryz.prog w=.ok (.func fn first cap) w:=fun _ _ _ _=>rfl
 clear hr hf
 go_enter Tryz.func213,Tryz.ntmps213
 go_wp2_with (go_at_call 214;refine (take197 b f L most _ hm hz HR.out.1 HR.out.2).mono ?_)
 rintro e w1 (h | ⟨hx,⟨u,er,rfl,her⟩,hg⟩)
 ·rcases h.symm with ⟨hx,rfl,hg⟩ | ⟨l,M,v,hx,rfl,⟨u,rfl,ho⟩,hR,hg⟩
  ·have F:Hid (pList pRow most L=none/\w.grownBy w1 (some b)):=⟨hx,hg⟩
   clear hx hg h
   unfold Pan
   go_wp2_with fail
   exact ⟨rfl,.inl (.inr ⟨F.out.1,rfl,F.out.2⟩)⟩
  ·have F:Hid (pList pRow most L=some (l,M)/\RowsOwn w1 w.heap.size u l/\RR w1 b M/\w.grownBy w1 (some b)):=⟨hx,ho,hR,hg⟩
   clear hx ho hR hg h
   go_wp2_with fail
   go_ret2
   exact .inl (.inl ⟨l,M,_,F.out.1,rfl,⟨_,rfl,F.out.2.1⟩,F.out.2.2.1,F.out.2.2.2⟩)
 ·have F:Hid (pList pRow most L=none/\(er != 0)=true/\w.grownBy w1 (some b)):=⟨hx,her,hg⟩
  clear hx hg
  go_wp2_with fail
  go_ret2
  exact .inr ⟨F.out.1,⟨_,_,rfl,F.out.2.1⟩,F.out.2.2⟩
theorem next195 (b m f:Nat)(L:Bs)(most:Nat)(w:World)(hm:most<=100)(hz:L.length<=140737488355328)(hr:RR w b L)(hmc:w.cell? ⟨m,0,none⟩=some (.int .i64 most))(hf:Blk w f 275 #[.func (.func 206) #[] #[]]) :
  Calls Tryz.prog 212 #[rdV b,.func (.func 213) #[] #[.pointer (some ⟨m,0,none⟩),.pointer (some ⟨f,0,none⟩)]] w (RdPost b w (pList pRow most L) (fun l v w'=>RowsOwn w' w.heap.size v l)):=by
 have HR:Hid (RR w b L/\Blk w f 275 #[.func (.func 206) #[] #[]]/\w.cell? ⟨m,0,none⟩=some (.int .i64 most)):=⟨hr,hf,hmc⟩
 clear hr hf hmc
 have e0:rdV b=.agg #[.pointer (some ⟨b,0,none⟩)]:=rfl
 rw [e0]
 go_enter Tryz.func212,Tryz.ntmps212
 go_wp2_with (go_at_call 213;refine (list196 b m f L most _ hm hz (HR.out.1.grown (World.grownBy_alloc _ _ none)) (grown_fun (World.grownBy_alloc _ _ none) HR.out.2.2) (HR.out.2.1.grown (World.grownBy_alloc _ _ none) (by simp))).mono ?_)
 rintro e w1 (h | ⟨hx,⟨u,er,rfl,her⟩,hg⟩)
 ·rcases h.symm with ⟨hx,rfl,hg⟩ | ⟨l,M,v,hx,rfl,⟨u,rfl,ho⟩,hR,hg⟩
  ·have F:Hid (pList pRow most L=none/\w.grownBy w1 (some b)):=⟨hx,grown_trans (World.grownBy_alloc _ _ _) hg⟩
   clear hx hg h
   unfold Pan
   go_wp2_with fail
   exact ⟨rfl,.inr ⟨F.out.1,rfl,F.out.2⟩⟩
  ·have F:Hid (pList pRow most L=some (l,M)/\RowsOwn w1 w.heap.size u l/\RR w1 b M/\w.grownBy w1 (some b)):=⟨hx,ho.mono (by simp),hR,grown_trans (World.grownBy_alloc _ _ _) hg⟩
   clear hx ho hR hg h
   go_wp2_with (go_at_call 110;refine (sure_yes _ _).mono ?_;rintro e w2 ⟨rfl,hw2⟩;rw [hw2];clear hw2)
   go_ret
   exact .inl ⟨l,M,_,F.out.1,rfl,F.out.2.1,F.out.2.2.1,F.out.2.2.2⟩
 ·have F:Hid (pList pRow most L=none/\w.grownBy w1 (some b)):=⟨hx,grown_trans (World.grownBy_alloc _ _ _) hg⟩
  have q:(er==0)=false:=by simpa using her
  clear hx hg her
  go_wp2_with (go_at_call 110;refine (sure_no _ _).mono ?_;rintro e w2 ⟨rfl,hw2⟩;rw [hw2];clear hw2;unfold Pan)
  exact ⟨rfl,.inr ⟨F.out.1,rfl,F.out.2⟩⟩
theorem list158 (b:Nat)(L:Bs)(most:Nat)(w:World)(hm:most<=100)(hz:L.length<=140737488355328)(hr:RR w b L) :
  Calls Tryz.prog 205 #[rdV b,.int .i64 most,.func (.func 206) #[] #[]] w (RdPost b w (pList pRow most L) (fun l v w'=>RowsOwn w' w.heap.size v l)):=by
 have HR:Hid (RR w b L):=hr
 have hmf:∀(fn:Fn) (first cap:Array Value) (w:World),(Instr.makeFunc fn first cap).run Tryz.prog w=.ok (.func fn first cap) w:=fun _ _ _ _=>rfl
 clear hr
 have e0:rdV b=.agg #[.pointer (some ⟨b,0,none⟩)]:=rfl
 rw [e0]
 have HB:Hid (Blk (((w.alloc (.cells #[.pointer (some ⟨b,0,none⟩)] 149)).alloc (.cells #[.int .i64 most] 3)).alloc (.cells #[.func (.func 206) #[] #[]] 275)) (w.heap.size+1+1) 275 #[.func (.func 206) #[] #[]]):=by
  have:=heap_alloc_new ((w.alloc (.cells #[.pointer (some ⟨b,0,none⟩)] 149)).alloc (.cells #[.int .i64 most] 3)) (.cells #[.func (.func 206) #[] #[]] 275)
  simpa [Blk,Hid] using this
 go_enter Tryz.func205,Tryz.ntmps205
 go_wp2_with (go_at_call 212;refine (next195 b (w.heap.size+1) (w.heap.size+1+1) L most _ hm hz (HR.out.grown (grown3 _ _ _ _)) (by simp [go_sem]) HB.out).mono ?_)
 intro e w1 h
 rcases h.symm with ⟨hx,rfl,hg⟩ | ⟨l,M,v,hx,rfl,ho,hR,hg⟩
 ·have F:Hid (pList pRow most L=none/\w.grownBy w1 (some b)):=⟨hx,grown_trans (grown_weak (grown3 _ _ _ _) _) hg⟩
  clear hx hg h
  unfold Pan
  go_wp2_with fail
  exact ⟨rfl,.inr ⟨F.out.1,rfl,F.out.2⟩⟩
 ·have F:Hid (pList pRow most L=some (l,M)/\RowsOwn w1 w.heap.size v l/\RR w1 b M/\w.grownBy w1 (some b)):=⟨hx,ho.mono (by simp;omega),hR,grown_trans (grown_weak (grown3 _ _ _ _) _) hg⟩
  clear hx ho hR hg h
  go_wp2_with fail
  go_ret
  exact .inl ⟨l,M,_,F.out.1,rfl,F.out.2.1,F.out.2.2.1,F.out.2.2.2⟩
theorem rising148 (v:Value)(l:List PRow)(w:World)(hv:Rws w v l):Calls Tryz.prog 207 #[v] w fun e w'=>e=.returned (.bool (riseB l))/\w.grownBy w' none:=by
 obtain ⟨ao,n,cap,rfl,hn,hn2,HV⟩:=rws_open hv
 have HN:Hid (l.length=n):=hn
 clear hv hn
 go_enter Tryz.func207,Tryz.ntmps207
 go_wp2_with fail
 go_loopw [3] (fun i wr=>∃(k:Nat),1<=k/\(k<=n\/k=1)/\i=.int .i64 (k:Int)/\(∀j (h:j+1<l.length),j+1<k->Names.cmpL l[j].1 l[j+1].1<0)/\w.grownBy wr none) (fun i _=>n-(intOf i).toNat)
 case atStart=>exact ⟨1,Nat.le_refl _,.inr rfl,rfl,fun j _ h=>absurd h (by omega),grown_refl _ _⟩
 case round =>
  obtain ⟨k,hk1,hk2,rfl,hall,hgr⟩:=hrel
  have HL:Hid ((∀j (h:j+1<l.length),j+1<k->Names.cmpL l[j].1 l[j+1].1<0)/\w.grownBy wr none):=⟨hall,hgr⟩
  clear hall hgr
  by_cases hlt:k<n
  ·obtain ⟨m,hm⟩:∃m,k=m+1:=⟨k-1,by omega⟩
   have ka:m<l.length:=by rw [HN.out];omega
   have kb:k<l.length:=by rw [HN.out];omega
   have kc:m+1<l.length:=by rw [HN.out];omega
   obtain ⟨b1,o1,x1,y1,rfl,h1⟩:=rws_at HV.out m ka
   obtain ⟨b2,o2,x2,y2,e2,h2⟩:=rws_at HV.out k kb
   simp at e2
   obtain ⟨rfl,rfl⟩:=e2
   obtain ⟨c,hc⟩:∃c,Names.cmpL l[m].1 l[k].1=c:=⟨_,rfl⟩
   have HC:Hid (Names.cmpL l[m].1 l[k].1=c/\Seg w x1 l[m].1/\Seg w x2 l[k].1):=⟨hc,h1.s0,h2.s0⟩
   have HC2:Hid (Names.cmpL l[m].1 l[m+1].1=c):=by subst hm;exact hc
   have HKM:Hid (k=m+1):=hm
   obtain ⟨ax,nx,cx,rfl,_,_,_⟩:=Names.seg_open h1.s0
   obtain ⟨ay,ny,cy,rfl,_,_,_⟩:=Names.seg_open h2.s0
   have HM:Hid (∀y:World,w.grownBy y none->y.cell? ⟨b1,o1+m*2,none⟩=some (.slice ax nx cx)/\y.cell? ⟨b1,o1+k*2,none⟩=some (.slice ay ny cy)):=fun y hy=>⟨hy.cell h1.c0 (by simp),hy.cell h2.c0 (by simp)⟩
   have hkm:(k:Int)-1=(m:Int):=by omega
   have i0:(0:Int)<=(m:Int):=by omega
   have i1:(m:Int)<(n:Int):=by omega
   have i2:(0:Int)<=(k:Int):=by omega
   have i3:(k:Int)<(n:Int):=by omega
   clear h1 h2 hc hm
   go_upto_region 4 with fail
   refine wp_region_noPanic ?_
   refine wp_region_hold 1000 (fun y=>w.grownBy y none) (by kernel_rfl) ?_
   have G0:Hid (w.grownBy wr.drew none):=grown_trans HL.out.2 (grown_drew _ _)
   generalize wr.drew=wd at G0 ⊢
   have J:Idx [0,1,6,7,8,9,10]:=trivial
   iterate 7 (refine tK J (G0.out) rfl rfl (fun wk hk=>by obtain ⟨z0,z1⟩:=HM.out wk hk;go_simp;try rfl) ?_;replace J:=J.tl;try simp only [pN])
   clear J
   refine wpHold_one (i:=2) rfl (by kernel_rfl) (by rfl) (fun K hK=>?_)
   go_wp2_with fail
   refine hK.out _ _ (fun _=>G0.out) ?_
   clear hK K
   try simp only [pN]
   have J:Idx [3,4,5]:=trivial
   iterate 3 (refine tK J (G0.out) rfl rfl (fun wk hk=>by obtain ⟨z0,z1⟩:=HM.out wk hk;go_simp;try rfl) ?_;replace J:=J.tl;try simp only [pN])
   clear J
   refine wpHold_one (i:=11) rfl (by kernel_rfl) (by rfl) (fun K hK=>?_)
   go_wp2_with fail
   refine (Names.cmp26 _ _ _ _ wd (HC.out.2.1.grown G0.out) (HC.out.2.2.grown G0.out)).mono ?_
   rintro e w1 ⟨rfl,q1,hw1⟩
   rw [HC.out.1]
   have G1:Hid (w.grownBy w1 none):=by rw [hw1];exact grown_trans G0.out (grown_drewN _ _ _)
   clear hw1
   refine hK.out _ _ (fun _=>G1.out) ?_
   clear hK K
   try simp only [pN]
   refine tK (i:=12) (l':=[]) trivial (G1.out) rfl rfl (fun wk hk=>by obtain ⟨z0,z1⟩:=HM.out wk hk;go_simp;try rfl) ?_
   try simp only [pN]
   refine wpHold_done (by kernel_rfl) ?_
   refine (‹∀(a:Act) (w:World),Code.wp Tryz.prog _ _ a w->_› _ _ ?_)
   by_cases hneg:c<0
   ·have q:¬(0:Int)<=c:=by omega
    go_wp2_with fail
    go_roundw
    case rel =>
     refine ⟨k+1,by omega,.inl (by omega),by go_num,fun j h hj=>?_,G1.out⟩
     by_cases hjk:j+1<k
     ·exact HL.out.1 j h hjk
     ·have hkm':=HKM.out
      have:j=m:=by omega
      subst this
      rw [HC2.out]
      exact hneg
    case measure=>simp [intOf];omega
   ·have q:(0:Int)<=c:=by omega
    go_wp2_with fail
    go_ret
    refine ⟨?_,G1.out⟩
    cases hr:riseB l with
    | false=>rfl
    | true =>
     have:=(rise_iff l).1 hr m kc
     rw [HC2.out] at this
     omega
  ·have i3:¬(k:Int)<(n:Int):=by omega
   go_wp2_with fail
   go_ret
   refine ⟨?_,HL.out.2⟩
   rw [(rise_iff l).2 (fun j h=>HL.out.1 j h (by have:=HN.out;omega))]
   rfl
theorem list158_int (x:Int)(b:Nat)(L:Bs)(most:Nat)(hx:x=most)(w:World)(hm:most<=100)(hz:L.length<=140737488355328)(hr:RR w b L) :
  Calls Tryz.prog 205 #[rdV b,.int .i64 x,.func (.func 206) #[] #[]] w (RdPost b w (pList pRow most L) (fun l v w'=>RowsOwn w' w.heap.size v l)):=by subst hx;exact list158 b L most w hm hz hr
def OutTold (w:World)(o:POut)(v:Value)(w':World):Prop:=∃k x,v=.agg #[.bool o.has,k,x]/\OutOwn w' w.heap.size k x o
theorem out111 (b:Nat)(L:Bs)(w:World)(hz:L.length<=140737488355328)(hr:RR w b L):Calls Tryz.prog 187 #[rdV b] w (RdPost b w (pOut L) (OutTold w)):=by
 have HM0:Hid (MidG 212 #[.bool false,.slice none 0 0,.slice none 0 0] w _ b L #[.bool false,.slice none 0 0,.slice none 0 0]):=midG_start 212 #[.bool false,.slice none 0 0,.slice none 0 0] hr
 have hblt:b<w.heap.size:=by obtain ⟨s,hs⟩:=hr.blk;exact hs.lt
 clear hr
 have e0:rdV b=.agg #[.pointer (some ⟨b,0,none⟩)]:=rfl
 rw [e0]
 go_enter Tryz.func187,Tryz.ntmps187
 go_wp2_with (go_at_call 155;refine (flag136 b L _ HM0.out.rr).mono ?_)
 intro e w1 h
 rcases h.symm with ⟨hx,rfl,hg⟩ | ⟨fl,L1,v,hx,rfl,rfl,hR,hg⟩
 ·have F:Hid (pOut L=none/\w.grownBy w1 (some b)):=⟨by unfold pOut;rw [hx];rfl,grown_trans HM0.out.grow hg⟩
  clear hx hg h
  unfold Pan
  go_wp2_with fail
  exact ⟨rfl,.inr ⟨F.out.1,rfl,F.out.2⟩⟩
 clear h
 have HF:Hid (pFlag L=some (fl,L1)):=hx
 have hz1:L1.length<=140737488355328:=Nat.le_trans (pFlag_len hx) hz
 have HM1:Hid (MidG 212 #[.bool false,.slice none 0 0,.slice none 0 0] w w1 b L1 #[.bool false,.slice none 0 0,.slice none 0 0]):=HM0.out.call (by decide) hR hg
 clear hx hR hg HM0
 have c0:=HM1.out.op.cell 0
 have f0:=HM1.out.op.free 0
 have HM2:Hid (MidG 212 #[.bool false,.slice none 0 0,.slice none 0 0] w (w1.setCell ⟨w.heap.size+2,0,none⟩ (.bool fl)) b L1 #[.bool fl,.slice none 0 0,.slice none 0 0]):=HM1.out.store (by decide) (by decide) 0 _
 have kb:=HM2.out.box.cell 0
 go_wp2_with (go_at_call 154;refine (bytes135_int _ b L1 256 rfl _ (by decide) hz1 HM2.out.rr).mono ?_)
 intro e w2 h
 rcases h.symm with ⟨hx,rfl,hg⟩ | ⟨vy,L2,v2,hx,rfl,ho,hR,hg⟩
 ·have F:Hid (pOut L=none/\w.grownBy w2 (some b)):=⟨by unfold pOut;rw [HF.out];simp [hx],grown_trans HM2.out.grow hg⟩
  clear hx hg h c0 f0 kb
  unfold Pan
  go_wp2_with fail
  exact ⟨rfl,.inr ⟨F.out.1,rfl,F.out.2⟩⟩
 clear h c0 f0 kb
 have HV:Hid (pBytes 256 L1=some (vy,L2)):=hx
 have hz2:L2.length<=140737488355328:=Nat.le_trans (pBytes_len hx) hz1
 obtain ⟨x2,n2,y2,rfl⟩:=slice_of ho
 have HM3:Hid (MidG 212 #[.bool false,.slice none 0 0,.slice none 0 0] w w2 b L2 #[.bool fl,.slice none 0 0,.slice none 0 0]/\Own w2 w.heap.size (.slice x2 n2 y2) vy):=⟨HM2.out.call (by decide) hR hg,ho.mono HM2.out.grow.size⟩
 clear hx ho hR hg HM1 HM2
 have c1:=HM3.out.1.op.cell 1
 have f1:=HM3.out.1.op.free 1
 have HM4:Hid (MidG 212 #[.bool false,.slice none 0 0,.slice none 0 0] w (w2.setCell ⟨w.heap.size+2,1,none⟩ (.slice x2 n2 y2)) b L2 #[.bool fl,.slice x2 n2 y2,.slice none 0 0]/\Own (w2.setCell ⟨w.heap.size+2,1,none⟩ (.slice x2 n2 y2)) w.heap.size (.slice x2 n2 y2) vy):=⟨HM3.out.1.store (by decide) (by decide) 1 _,own_set HM3.out.2 HM3.out.1.op (by decide) (grown_setCell _ _ _ _)⟩
 have kb:=HM4.out.1.box.cell 0
 go_wp2_with (go_at_call 205;refine (list158_int _ b L2 64 rfl _ (by decide) hz2 HM4.out.1.rr).mono ?_)
 intro e w3 h
 rcases h.symm with ⟨hx,rfl,hg⟩ | ⟨rs,L3,v3,hx,rfl,ho,hR,hg⟩
 ·have F:Hid (pOut L=none/\w.grownBy w3 (some b)):=⟨by unfold pOut;rw [HF.out];simp [HV.out,hx],grown_trans HM4.out.1.grow hg⟩
  clear hx hg h c1 f1 kb
  unfold Pan
  go_wp2_with fail
  exact ⟨rfl,.inr ⟨F.out.1,rfl,F.out.2⟩⟩
 clear h c1 f1 kb
 have HX:Hid (pList pRow 64 L2=some (rs,L3)):=hx
 obtain ⟨x3,n3,y3,rfl,hn3⟩:=ho.slice
 clear hn3
 have HM5:Hid (MidG 212 #[.bool false,.slice none 0 0,.slice none 0 0] w w3 b L3 #[.bool fl,.slice x2 n2 y2,.slice none 0 0]/\Own w3 w.heap.size (.slice x2 n2 y2) vy/\RowsOwn w3 w.heap.size (.slice x3 n3 y3) rs):=⟨HM4.out.1.call (by decide) hR hg,HM4.out.1.keep hg _ _ _ HM4.out.2,ho.mono HM4.out.1.grow.size⟩
 clear hx ho hR hg HM3 HM4
 obtain ⟨w4,hw4⟩:∃W,w3.setCell ⟨w.heap.size+2,2,none⟩ (.slice x3 n3 y3)=W:=⟨_,rfl⟩
 have HM6:Hid (MidG 212 #[.bool false,.slice none 0 0,.slice none 0 0] w w4 b L3 #[.bool fl,.slice x2 n2 y2,.slice x3 n3 y3]/\OutOwn w4 w.heap.size (.slice x2 n2 y2) (.slice x3 n3 y3) ⟨fl,vy,rs⟩):=by
  rw [<-hw4]
  exact ⟨HM5.out.1.store (by decide) (by decide) 2 _,own_set HM5.out.2.1 HM5.out.1.op (by decide) (grown_setCell _ _ _ _),HM5.out.2.2.set HM5.out.1.op (by decide) (by decide) (grown_setCell _ _ _ _)⟩
 have c2:=HM5.out.1.op.cell 2
 have f2:=HM5.out.1.op.free 2
 have d2:=HM6.out.1.op.cell 2
 go_wp2_with (go_at_call 207;refine (rising148 _ rs _ HM6.out.2.rows.rws).mono ?_)
 rintro e w5 ⟨rfl,g5⟩
 have HM7:Hid (MidG 212 #[.bool false,.slice none 0 0,.slice none 0 0] w w5 b L3 #[.bool fl,.slice x2 n2 y2,.slice x3 n3 y3]/\OutOwn w5 w.heap.size (.slice x2 n2 y2) (.slice x3 n3 y3) ⟨fl,vy,rs⟩):=⟨HM6.out.1.more g5,HM6.out.2.grown g5⟩
 clear HM5 HM6 c2 f2 d2 g5 hw4
 cases hrb:riseB rs with
 | false =>
  have F:Hid (pOut L=none/\w.grownBy w5 (some b)):=⟨by unfold pOut;rw [HF.out];simp [HV.out,HX.out,hrb],HM7.out.1.grow⟩
  go_wp2_with (go_at_call 110;refine (sure_no _ _).mono ?_;rintro e w6 ⟨rfl,hw6⟩;rw [hw6];clear hw6;unfold Pan)
  exact ⟨rfl,.inr ⟨F.out.1,rfl,F.out.2⟩⟩
 | true =>
  have F:Hid (pOut L=some (⟨fl,vy,rs⟩,L3)):=by unfold pOut;rw [HF.out];simp [HV.out,HX.out,hrb,Hid]
  have d0:=HM7.out.1.op.cell 0
  have d1:=HM7.out.1.op.cell 1
  have d2:=HM7.out.1.op.cell 2
  have g0:=HM7.out.1.res.cell 0
  have g1:=HM7.out.1.res.cell 1
  have g2:=HM7.out.1.res.cell 2
  have j0:=HM7.out.1.res.free 0
  have j1:=HM7.out.1.res.free 1
  have j2:=HM7.out.1.res.free 2
  have HB:Hid _:=And.intro (((HM7.out.1.res.store 0 (.bool fl)).store 1 (.slice x2 n2 y2)).store 2 (.slice x3 n3 y3)) (grown_trans (grown_trans (grown_setCell w5 (w.heap.size+1) 0 (.bool fl)) (grown_setCell _ (w.heap.size+1) 1 (.slice x2 n2 y2))) (grown_setCell _ (w.heap.size+1) 2 (.slice x3 n3 y3)))
  go_wp2_with (go_at_call 110;refine (sure_yes _ _).mono ?_;rintro e w6 ⟨rfl,hw6⟩;rw [hw6];clear hw6)
  refine bodyPost_ret (v:=_) (results_cell_row rfl _ _ (w.heap.size+1) 212 _ (0,0) _ rfl HB.out.1 Tryz.underlying212 rfl (by kernel_rfl)) rfl ?_
  exact .inl ⟨⟨fl,vy,rs⟩,L3,_,F.out,rfl,⟨_,_,rfl,HM7.out.2.set HM7.out.1.res (by decide) (by decide) HB.out.2⟩,HM7.out.1.rr.set HM7.out.1.res HB.out.2 (by decide) (by decide),grown_new HM7.out.1.grow HB.out.2 (fun y hy=>by simp at hy;omega)⟩
theorem ne_Out (c:Value)(w:World):(binOp .eql 272 (.func (.func 204) #[] #[c]) .nilFunc).run Tryz.prog w=.ok (.bool false) w:=by kernel_rfl
theorem pMany_leOut {most n:Nat}{L M:Bs}(h:pNum most L=some (n,M)):pList pOut most L=pMany pOut n M:=by unfold pList;rw [h];rfl
theorem pList_noOut {most:Nat}{L:Bs}(h:pNum most L=none):pList pOut most L=none:=by unfold pList;rw [h];rfl
theorem pOut_le (L:Bs)(x:POut)(M:Bs)(h:pOut L=some (x,M)):M.length<=L.length:=by rw [(pOut_inv h).2];simp
theorem one157 (b f:Nat)(L:Bs)(w:World)(hz:L.length<=140737488355328)(hr:RR w b L)(hf:Blk w f 256 #[.func (.func 187) #[] #[]]) :
  Calls Tryz.prog 204 #[.pointer (some ⟨b,0,none⟩),.pointer (some ⟨f,0,none⟩)] w (RdPost b w (pOut L) (fun o v w'=>∃u,v=.tuple #[u,.int .i64 0]/\OutTold w o u w')):=by
 have HR:Hid (RR w b L):=hr
 have hb:b<w.heap.size:=by obtain ⟨s,hs⟩:=hr.blk;exact hs.lt
 have kf:=fun o=>grown_fun (World.grownBy_alloc w o none) (hf.cell 0)
 clear hr
 go_enter Tryz.func204,Tryz.ntmps204
 go_wp2_with (go_at_call 187;refine (out111 b L _ hz (HR.out.grown (World.grownBy_alloc _ _ none))).mono ?_)
 intro e w1 h
 rcases h.symm with ⟨hx,rfl,hg⟩ | ⟨o,M,v,hx,rfl,ho,hR,hg⟩
 ·have F:Hid (pOut L=none/\w.grownBy w1 (some b)):=⟨hx,grown_trans (World.grownBy_alloc _ _ _) hg⟩
  clear hx hg h
  unfold Pan
  go_wp2_with fail
  exact ⟨rfl,.inr ⟨F.out.1,rfl,F.out.2⟩⟩
 clear h
 have hres:Blk w1 w.heap.size 212 #[.bool false,.slice none 0 0,.slice none 0 0]:=Blk.grown (heap_alloc_new w _) hg (fun e=>by simp at e;omega)
 have HW:Hid (w.grownBy w1 (some b)/\RR w1 b M/\pOut L=some (o,M)):=⟨grown_trans (World.grownBy_alloc _ _ _) hg,hR,hx⟩
 obtain ⟨k,x,rfl,ho⟩:=ho
 obtain ⟨xa,na,ya,rfl⟩:=slice_of ho.value
 obtain ⟨xb,nb,yb,rfl,hq_⟩:=ho.rows.slice
 clear hq_
 have r0:=hres.cell 0
 have z0:=hres.free 0
 have r1:=hres.cell 1
 have z1:=hres.free 1
 have r2:=hres.cell 2
 have z2:=hres.free 2
 have HB:Hid _:=And.intro (((hres.store 0 (.bool o.has)).store 1 (.slice xa na ya)).store 2 (.slice xb nb yb)) (grown_trans (grown_trans (grown_setCell w1 w.heap.size 0 (.bool o.has)) (grown_setCell _ w.heap.size 1 (.slice xa na ya))) (grown_setCell _ w.heap.size 2 (.slice xb nb yb)))
 have HO:Hid (OutOwn w1 w.heap.size (.slice xa na ya) (.slice xb nb yb) o/\Blk w1 w.heap.size 212 #[.bool false,.slice none 0 0,.slice none 0 0]):=⟨ho.mono (by simp),hres⟩
 clear ho hres hx hg hR
 go_wp2_with fail
 refine bodyPost_ret (v:=_) (results_row_tmp rfl _ _ w.heap.size _ rfl (run_loadVar_row _ w.heap.size 212 212 _ (0,0) _ HB.out.1 Tryz.underlying212 rfl (by kernel_rfl))) rfl ?_
 exact .inl ⟨o,M,_,HW.out.2.2,rfl,⟨_,rfl,_,_,rfl,HO.out.1.set HO.out.2 (by decide) (by decide) HB.out.2⟩,HW.out.2.1.set HO.out.2 HB.out.2 (by decide) (by decide),grown_new HW.out.1 HB.out.2 (fun y hy=>by simp at hy;omega)⟩
theorem Tryz.info212:(Tryz.prog.info? 212).map (fun i=>(i.zero,i.size,i.bytes))=some (some (.agg #[.bool false,.slice none 0 0,.slice none 0 0]),3,56):=by kernel_rfl
theorem app54_wp {o:Oper}{a:Act}{K:Act->World->Prop}{Q:Exit->Act->World->Prop}(w:World)(s x:Operand)
  (ho:o.op=.call { callee:=.builtin .append,args:=#[s,x],argTypes:=#[172,172] })
  (B:Nat) (v:Value) (l:List POut) (p:POut) (g:Nat) (k vl:Value) (hs:a.eval s=v) (hx:a.eval x=.slice (some ⟨g,0,none⟩) 1 1)
  (hrow:OutsOwn w B v l) (hc:Blk w g 212 #[.bool p.has,k,vl]) (hp:OutOwn w B k vl p) (hb:l.length<=100000000) (hB:B<=w.heap.size)
  (h:∀g' cap' w',OutsOwn w' B (.slice (some ⟨g',0,none⟩) (l.length+1) cap') (l ++ [p])->w.grownBy w' v.ownBlock->(v.ownBlock=some g'\/g'=w.heap.size)->K (a.put o.dst (.slice (some ⟨g',0,none⟩) (l.length+1) cap')) w'):o.wp Tryz.prog a w K Q:=by
 obtain ⟨i0,hi,hz0,hz1,hz2⟩:=info_parts Tryz.info212
 obtain ⟨⟨vs,h1,h2,h3,h4⟩,hl⟩:=hrow
 have q0:=hc.cell 0
 have q1:=hc.cell 1
 have q2:=hc.cell 2
 obtain ⟨xa,na,ya,rfl⟩:=slice_of hp.value
 obtain ⟨xb,nb,yb,rfl,hq_⟩:=hp.rows.slice
 clear hq_
 refine wp_append_lies w s x 172 ho B 212 i0 _ 3 56 Tryz.underlying172 hi hz0 hz1 hz2 rfl (by decide) v l.length vs.flatten hs h1 ⟨g,0,none⟩ 1 1 [.bool p.has,.slice xa na ya,.slice xb nb yb] hx rfl ?_ ?_ (by decide) (by unfold maxLen;omega) (by omega) hB w.heap.size rfl ?_
 ·intro j y hj
  rw [add_addr]
  match j,hj with
  | 0,hj=>simp at hj;subst hj;exact q0
  | 1,hj=>simp at hj;subst hj;exact q1
  | 2,hj=>simp at hj;subst hj;exact q2
  | j+3,hj=>simp at hj
 ·intro y hy
  simp at hy
  rcases hy with rfl | rfl | rfl <;> rfl
 ·intro g' cap' w' r2 r3 r4 _
  exact h g' cap' w' ⟨LRow.snoc (outR_stab B) (by decide) h1 h2 h3 h4 rfl ⟨_,_,rfl,hp⟩ r3 r2,by simp;omega⟩ r3 r4
theorem app54 {ops:Array Oper}{rest:List Oper}{o:Oper}{a:Act}{Q:Exit->Act->World->Prop}(w:World)(hw:Region.wanted o (yielded ops a.tmps)=true)(s x:Operand)
  (ho:o.op=.call { callee:=.builtin .append,args:=#[s,x],argTypes:=#[172,172] })
  (B:Nat) (v:Value) (l:List POut) (p:POut) (g:Nat) (k vl:Value) (hs:a.eval s=v) (hx:a.eval x=.slice (some ⟨g,0,none⟩) 1 1)
  (hrow:OutsOwn w B v l) (hc:Blk w g 212 #[.bool p.has,k,vl]) (hp:OutOwn w B k vl p) (hb:l.length<=100000000) (hB:B<=w.heap.size)
  (h:∀g' cap' w',OutsOwn w' B (.slice (some ⟨g',0,none⟩) (l.length+1) cap') (l ++ [p])->w.grownBy w' v.ownBlock->(v.ownBlock=some g'\/g'=w.heap.size)->wpList Tryz.prog ops Q rest (a.put o.dst (.slice (some ⟨g',0,none⟩) (l.length+1) cap')) w'):wpList Tryz.prog ops Q (o :: rest) a w :=
 BigFrame.wpList_want hw fun _ hK=>app54_wp w s x ho B v l p g k vl hs hx hrow hc hp hb hB fun g' cap' w' h1 h2 h3=>hK _ _ (h g' cap' w' h1 h2 h3)
theorem things194 (b f n:Nat)(L:Bs)(w:World)(hn:n<=100)(hz:L.length<=140737488355328)(hr:RR w b L)(hf:Blk w f 256 #[.func (.func 187) #[] #[]]) :
  Calls Tryz.prog 211 #[.pointer (some ⟨b,0,none⟩),.int .u64 n,.func (.func 204) #[] #[.pointer (some ⟨f,0,none⟩)]] w (RdPost b w (pMany pOut n L) (fun l v w'=>∃u,v=.tuple #[u,.int .i64 0]/\OutsOwn w' w.heap.size u l)):=by
 have HR:Hid (RR w b L/\Blk w f 256 #[.func (.func 187) #[] #[]]):=⟨hr,hf⟩
 have hblt:b<w.heap.size:=by obtain ⟨s,hs⟩:=hr.blk;exact hs.lt
 have hfb:f≠b:=hr.ne hf (by decide)
 clear hr hf
 go_enter Tryz.func211,Tryz.ntmps211
 go_wp2_with fail
 go_loopw [8,12] (fun v i wr=>∃(k:Nat) (xs:List POut) (M:Bs),k<=n/\i=.int .u64 k/\Hid (pMany pOut k L=some (xs,M))/\OutsOwn wr w.heap.size v xs/\RR wr b M/\w.grownBy wr (some b)) (fun _ i _=>n-(intOf i).toNat)
 case atStart=>exact ⟨0,[],L,by omega,rfl,rfl,⟨lrow_nil _ _,by simp⟩,HR.out.1,grown_refl _ _⟩
 case round =>
  obtain ⟨k,xs,M,hk,rfl,hp,hown,hrr,hg⟩:=hrel
  obtain ⟨hlen,hxs⟩:=pMany_len pOut_le k L xs M hp.out
  have hf1:Blk wr f 256 #[.func (.func 187) #[] #[]]:=HR.out.2.grown hg (fun e=>hfb (by simpa using e.symm))
  by_cases hlt:k<n
  ·have i2:(k:Int)<(n:Int):=by omega
   have HO:Hid (OutsOwn wr w.heap.size u8 xs/\RR wr b M/\w.grownBy wr (some b)/\Blk wr f 256 #[.func (.func 187) #[] #[]]):=⟨hown,hrr,hg,hf1⟩
   have hzM:M.length<=140737488355328:=by omega
   clear hown hrr hg hf1
   go_wp2_with (go_at_call 204;refine (one157 b f M _ hzM HO.out.2.1 HO.out.2.2.2).mono ?_)
   intro e w1 h
   rcases h.symm with ⟨hx,rfl,hg1⟩ | ⟨o,M1,v,hx,rfl,⟨u,rfl,k1,x1,rfl,ho⟩,hR,hg1⟩
   ·have F:Hid (pMany pOut n L=none/\w.grownBy w1 (some b)):=⟨pMany_none k n L xs M hp.out hx hlt,grown_trans HO.out.2.2.1 hg1⟩
    clear hx hg1 h
    unfold Pan
    go_wp2_with fail
    exact ⟨rfl,.inr ⟨F.out.1,rfl,F.out.2⟩⟩
   clear h
   obtain ⟨s,hs⟩:=HO.out.2.1.blk
   have hown1:=HO.out.1.set hs (by decide) (by decide) (by decide) hg1
   have HP:Hid (pMany pOut (k+1) L=some (xs ++ [o],M1)):=by rw [pMany_snoc k L xs M hp.out,hx];rfl
   obtain ⟨xa,na,ya,rfl⟩:=slice_of ho.value
   obtain ⟨xb,nb,yb,rfl,hq_⟩:=ho.rows.slice
   clear hq_
   have HQ:Hid (OutsOwn w1 w.heap.size u8 xs/\OutOwn w1 w.heap.size (.slice xa na ya) (.slice xb nb yb) o/\RR w1 b M1/\w.grownBy w1 (some b)/\w.heap.size<=w1.heap.size):=⟨hown1,ho.mono HO.out.2.2.1.size,hR,grown_trans HO.out.2.2.1 hg1,Nat.le_trans HO.out.2.2.1.size hg1.size⟩
   clear hx hg1 ho hR hown1 hs
   have HX:Hid (OutsOwn ((w1.alloc (.cells #[.bool o.has,.slice xa na ya,.slice xb nb yb] 212)).alloc (.cells #[.bool o.has,.slice xa na ya,.slice xb nb yb] 212)) w.heap.size u8 xs):=HQ.out.1.grown (grown_trans (World.grownBy_alloc _ _ none) (World.grownBy_alloc _ _ none))
   have HY:Hid (OutOwn ((w1.alloc (.cells #[.bool o.has,.slice xa na ya,.slice xb nb yb] 212)).alloc (.cells #[.bool o.has,.slice xa na ya,.slice xb nb yb] 212)) w.heap.size (.slice xa na ya) (.slice xb nb yb) o):=HQ.out.2.1.grown (grown_trans (World.grownBy_alloc _ _ none) (World.grownBy_alloc _ _ none))
   have HZ:Hid (Blk ((w1.alloc (.cells #[.bool o.has,.slice xa na ya,.slice xb nb yb] 212)).alloc (.cells #[.bool o.has,.slice xa na ya,.slice xb nb yb] 212)) (w1.heap.size+1) 212 #[.bool o.has,.slice xa na ya,.slice xb nb yb]):=by
    have:=heap_alloc_new (w1.alloc (.cells #[.bool o.has,.slice xa na ya,.slice xb nb yb] 212)) (.cells #[.bool o.has,.slice xa na ya,.slice xb nb yb] 212)
    simpa [Blk,Hid] using this
   have HU:Hid (w.heap.size<=((w1.alloc (.cells #[.bool o.has,.slice xa na ya,.slice xb nb yb] 212)).alloc (.cells #[.bool o.has,.slice xa na ya,.slice xb nb yb] 212)).heap.size):=by have:=HQ.out.2.2.2.2;unfold Hid;simp;omega
   go_wp2_with (at_builtin;refine app54 _ rfl (.tmp 23) (.tmp 25) rfl w.heap.size u8 xs o _ _ _ rfl rfl HX.out HZ.out HY.out (by omega) HU.out ?_;intro g' cap' w3 o3 g3 l3)
   have S4:Hid (OutsOwn w3 w.heap.size (.slice (some ⟨g',0,none⟩) (xs.length+1) cap') (xs ++ [o])/\RR w3 b M1/\w.grownBy w3 (some b)):=by
    have q1:RR ((w1.alloc (.cells #[.bool o.has,.slice xa na ya,.slice xb nb yb] 212)).alloc (.cells #[.bool o.has,.slice xa na ya,.slice xb nb yb] 212)) b M1:=HQ.out.2.2.1.grown (grown_trans (World.grownBy_alloc _ _ none) (World.grownBy_alloc _ _ none))
    have q2:=grown_trans HQ.out.2.2.2.1 (grown_weak (grown_trans (World.grownBy_alloc w1 (.cells #[.bool o.has,.slice xa na ya,.slice xb nb yb] 212) none) (World.grownBy_alloc _ (.cells #[.bool o.has,.slice xa na ya,.slice xb nb yb] 212) none)) (some b))
    refine ⟨o3,?_,grown_new q2 g3 (fun y hy=>(HX.out.1.lt y hy).1)⟩
    cases hv:Value.ownBlock u8 with
    | none=>rw [hv] at g3;exact q1.grown g3
    | some y =>
     rw [hv] at g3
     obtain ⟨vs,hvs,_⟩:=HX.out.1
     obtain ⟨cur,hcur⟩:=owns_blk hvs hv
     exact q1.set hcur g3 (by decide) (by decide)
   clear o3 g3 l3 HX HY HQ
   go_wp2_with fail
   go_roundw
   case rel=>exact ⟨k+1,xs ++ [o],M1,by omega,by go_num,HP.out,by have:=S4.out.1;rw [hxs] at this;exact this,S4.out.2.1,S4.out.2.2⟩
   case measure=>simp [intOf];omega
  ·have e:k=n:=by omega
   subst e
   have HO:Hid (OutsOwn wr w.heap.size u8 xs/\RR wr b M/\w.grownBy wr (some b)):=⟨hown,hrr,hg⟩
   clear hown hrr hg
   go_wp2_with fail
   go_ret2
   exact .inl ⟨xs,M,_,hp.out,rfl,⟨_,rfl,HO.out.1⟩,HO.out.2.1,HO.out.2.2⟩
abbrev OutsTold (w:World)(l:List POut)(v:Value)(w':World):Prop:=∃u,v=.tuple #[u,.int .i64 0]/\OutsOwn w' w.heap.size u l
def TkOutPost (b:Nat)(w:World)(r:Option (List POut × Bs))(e:Ending)(w':World):Prop :=
 RdPost b w r (OutsTold w) e w'\/(r=none/\(∃u er,e=.returned (.tuple #[u,.int .i64 er])/\(er != 0)=true)/\(∃s2,Blk w' b 220 #[.bool true,s2])/\w.grownBy w' (some b))
theorem take193 (b m f g:Nat)(L:Bs)(most:Nat)(w:World)(hm:most<=100)(hz:L.length<=140737488355328)(hr:RR w b L)(hmc:w.cell? ⟨m,0,none⟩=some (.int .i64 most))(hgc:Blk w g 272 #[.func (.func 204) #[] #[.pointer (some ⟨f,0,none⟩)]])(hf:Blk w f 256 #[.func (.func 187) #[] #[]]) :
  Calls Tryz.prog 210 #[.pointer (some ⟨b,0,none⟩),.pointer (some ⟨m,0,none⟩),.pointer (some ⟨g,0,none⟩)] w (TkOutPost b w (pList pOut most L)):=by
 have HR:Hid (RR w b L/\Blk w f 256 #[.func (.func 187) #[] #[]]/\Blk w g 272 #[.func (.func 204) #[] #[.pointer (some ⟨f,0,none⟩)]]):=⟨hr,hf,hgc⟩
 have hfb:f≠b:=hr.ne hf (by decide)
 have hgb:g≠b:=hr.ne hgc (by decide)
 clear hr hf hgc
 go_enter Tryz.func210,Tryz.ntmps210
 go_wp2_with (go_at_call 173;refine (count169 b L most _ (by omega) HR.out.1).mono ?_)
 rintro e w1 (⟨n,M,hx,rfl,hn,hR,hg⟩ | ⟨er,hx,her,rfl,hs2,hg⟩)
 ·have HF:Hid (Blk w1 f 256 #[.func (.func 187) #[] #[]]):=HR.out.2.1.grown hg (fun e=>hfb (by simpa using e.symm))
  have hgc:=(HR.out.2.2.grown hg (fun e=>hgb (by simpa using e.symm))).cell 0
  have HN:Hid (pNum most L=some (n,M)/\RR w1 b M/\w.grownBy w1 (some b)):=⟨hx,hR,hg⟩
  have hzM:=pOp_len hx
  clear hx hR hg
  go_wp2_with (go_at_call 211;refine (things194 b f n M _ (by omega) (by omega) HN.out.2.1 HF.out).mono ?_)
  intro e w2 h
  rcases h.symm with ⟨hx,rfl,hg2⟩ | ⟨l,M2,v,hx,rfl,⟨u,rfl,ho⟩,hR2,hg2⟩
  ·have F:Hid (pList pOut most L=none/\w.grownBy w2 (some b)):=⟨by rw [pMany_leOut HN.out.1,hx],grown_trans HN.out.2.2 hg2⟩
   clear hx hg2 h
   unfold Pan
   go_wp2_with fail
   exact ⟨rfl,.inl (.inr ⟨F.out.1,rfl,F.out.2⟩)⟩
  clear h
  have F:Hid (pList pOut most L=some (l,M2)/\OutsOwn w2 w.heap.size u l/\RR w2 b M2/\w.grownBy w2 (some b)):=⟨by rw [pMany_leOut HN.out.1,hx],ho.mono HN.out.2.2.size,hR2,grown_trans HN.out.2.2 hg2⟩
  clear hx ho hR2 hg2
  go_wp2_with fail
  go_ret2
  exact .inl (.inl ⟨l,M2,_,F.out.1,rfl,⟨_,rfl,F.out.2.1⟩,F.out.2.2.1,F.out.2.2.2⟩)
 ·have F:Hid (pList pOut most L=none/\(er != 0)=true/\(∃s2,Blk w1 b 220 #[.bool true,s2])/\w.grownBy w1 (some b)):=⟨pList_noOut hx,her,hs2,hg⟩
  clear hx hs2 hg
  go_wp2_with fail
  go_ret2
  exact .inr ⟨F.out.1,⟨_,_,rfl,F.out.2.1⟩,F.out.2.2.1,F.out.2.2.2⟩
theorem whole192 (b m f g:Nat)(L:Bs)(most:Nat)(w:World)(hm:most<=100)(hz:L.length<=140737488355328)(hr:RR w b L)(hmc:w.cell? ⟨m,0,none⟩=some (.int .i64 most))(hgc:Blk w g 272 #[.func (.func 204) #[] #[.pointer (some ⟨f,0,none⟩)]])(hf:Blk w f 256 #[.func (.func 187) #[] #[]]) :
  Calls Tryz.prog 209 #[.pointer (some ⟨b,0,none⟩),.func (.func 210) #[] #[.pointer (some ⟨m,0,none⟩),.pointer (some ⟨g,0,none⟩)]] w fun e w'=>RdPost b w (pList pOut most L) (OutsTold w) e w'\/(pList pOut most L=none/\(∃u er,e=.returned (.tuple #[u,.int .i64 er])/\(er != 0)=true)/\w.grownBy w' (some b)):=by
 have HR:Hid (RR w b L/\Blk w f 256 #[.func (.func 187) #[] #[]]/\Blk w g 272 #[.func (.func 204) #[] #[.pointer (some ⟨f,0,none⟩)]]/\w.cell? ⟨m,0,none⟩=some (.int .i64 most)):=⟨hr,hf,hgc,hmc⟩
 obtain ⟨s,hs,hseg,hk⟩:=hr
 obtain ⟨x0,y0,e0⟩:=hseg.shape
 obtain ⟨n0,hn0⟩:∃n,n=L.length:=⟨_,rfl⟩
 rw [<-hn0] at e0
 subst e0
 have c0:=hs.cell0
 have c1:=hs.cell1
 have hbl:b<w.heap.size:=hs.lt
 have HS:Hid (RdB w b true (.slice x0 n0 y0)):=hs
 clear hgc hf hmc hseg hk hn0
 go_enter Tryz.func209,Tryz.ntmps209
 go_wp2_with (first | (go_at_call 148;refine (Wire.there_some b true _ _ HS.out).mono ?_;rintro e w1 ⟨rfl,hw1⟩;rw [hw1];clear hw1) | (go_at_call 210;refine (take193 b m f g L most _ hm hz (HR.out.1.grown (World.grownBy_alloc _ _ none)) (grown_fun (World.grownBy_alloc _ _ none) HR.out.2.2.2) (HR.out.2.2.1.grown (World.grownBy_alloc _ _ none) (by simp)) (HR.out.2.1.grown (World.grownBy_alloc _ _ none) (by simp))).mono ?_))
 rintro e w1 (h | ⟨hx,⟨u,er,rfl,her⟩,⟨s2,hs2⟩,hg⟩)
 ·rcases h.symm with ⟨hx,rfl,hg⟩ | ⟨l,M,v,hx,rfl,⟨u,rfl,ho⟩,hR,hg⟩
  ·have F:Hid (pList pOut most L=none/\w.grownBy w1 (some b)):=⟨hx,grown_trans (World.grownBy_alloc _ _ _) hg⟩
   clear hx hg h
   unfold Pan
   go_wp2_with fail
   exact ⟨rfl,.inl (.inr ⟨F.out.1,rfl,F.out.2⟩)⟩
  ·have F:Hid (pList pOut most L=some (l,M)/\OutsOwn w1 w.heap.size u l/\RR w1 b M/\w.grownBy w1 (some b)):=⟨hx,ho.mono (by simp),hR,grown_trans (World.grownBy_alloc _ _ _) hg⟩
   clear hx ho hR hg h
   go_wp2_with fail
   go_ret2
   exact .inl (.inl ⟨l,M,_,F.out.1,rfl,⟨_,rfl,F.out.2.1⟩,F.out.2.2.1,F.out.2.2.2⟩)
 ·have F:Hid (pList pOut most L=none/\(er != 0)=true/\w.grownBy w1 (some b)):=⟨hx,her,grown_trans (World.grownBy_alloc _ _ _) hg⟩
  have hw:Blk w1 w.heap.size 220 #[.bool true,.slice x0 n0 y0]:=Blk.grown (heap_alloc_new w _) hg (fun e=>by simp at e;omega)
  have d0:=hw.cell 0
  have d1:=hw.cell 1
  have b0:=hs2.cell 0
  have b1:=hs2.cell 1
  have z0:=hs2.free 0
  have z1:=hs2.free 1
  clear hx hg hw hs2
  go_wp2_with fail
  go_ret2
  exact .inr ⟨F.out.1,⟨_,_,rfl,F.out.2.1⟩,grown_trans F.out.2.2 (grown_trans (grown_setCell _ _ _ _) (grown_setCell _ _ _ _))⟩
theorem take156 (b f:Nat)(L:Bs)(most:Nat)(w:World)(hm:most<=100)(hz:L.length<=140737488355328)(hr:RR w b L)(hf:Blk w f 256 #[.func (.func 187) #[] #[]]) :
  Calls Tryz.prog 203 #[.pointer (some ⟨b,0,none⟩),.int .i64 most,.func (.func 204) #[] #[.pointer (some ⟨f,0,none⟩)]] w fun e w'=>RdPost b w (pList pOut most L) (OutsTold w) e w'\/(pList pOut most L=none/\(∃u er,e=.returned (.tuple #[u,.int .i64 er])/\(er != 0)=true)/\w.grownBy w' (some b)):=by
 have HR:Hid (RR w b L/\Blk w f 256 #[.func (.func 187) #[] #[]]):=⟨hr,hf⟩
 have q1:=ne_Out
 have hmf:∀(fn:Fn) (first cap:Array Value) (w:World),(Instr.makeFunc fn first cap).run Tryz.prog w=.ok (.func fn first cap) w:=fun _ _ _ _=>rfl
 clear hr hf
 have HB:Hid (Blk ((w.alloc (.cells #[.int .i64 most] 3)).alloc (.cells #[.func (.func 204) #[] #[.pointer (some ⟨f,0,none⟩)]] 272)) (w.heap.size+1) 272 #[.func (.func 204) #[] #[.pointer (some ⟨f,0,none⟩)]]):=by
  have:=heap_alloc_new (w.alloc (.cells #[.int .i64 most] 3)) (.cells #[.func (.func 204) #[] #[.pointer (some ⟨f,0,none⟩)]] 272)
  simpa [Blk,Hid] using this
 go_enter Tryz.func203,Tryz.ntmps203
 go_wp2_with (go_at_call 209;refine (whole192 b w.heap.size f (w.heap.size+1) L most _ hm hz (HR.out.1.grown (grown_trans (World.grownBy_alloc _ _ none) (World.grownBy_alloc _ _ none))) (by simp [go_sem]) HB.out (HR.out.2.grown (grown_trans (World.grownBy_alloc _ _ none) (World.grownBy_alloc _ _ none)) (by simp))).mono ?_)
 rintro e w1 (h | ⟨hx,⟨u,er,rfl,her⟩,hg⟩)
 ·rcases h.symm with ⟨hx,rfl,hg⟩ | ⟨l,M,v,hx,rfl,⟨u,rfl,ho⟩,hR,hg⟩
  ·have F:Hid (pList pOut most L=none/\w.grownBy w1 (some b)):=⟨hx,grown_trans (grown_trans (World.grownBy_alloc _ _ _) (World.grownBy_alloc _ _ _)) hg⟩
   clear hx hg h
   unfold Pan
   go_wp2_with fail
   exact ⟨rfl,.inl (.inr ⟨F.out.1,rfl,F.out.2⟩)⟩
  ·have F:Hid (pList pOut most L=some (l,M)/\OutsOwn w1 w.heap.size u l/\RR w1 b M/\w.grownBy w1 (some b)):=⟨hx,ho.mono (by simp;omega),hR,grown_trans (grown_trans (World.grownBy_alloc _ _ _) (World.grownBy_alloc _ _ _)) hg⟩
   clear hx ho hR hg h
   go_wp2_with fail
   go_ret2
   exact .inl (.inl ⟨l,M,_,F.out.1,rfl,⟨_,rfl,F.out.2.1⟩,F.out.2.2.1,F.out.2.2.2⟩)
 ·have F:Hid (pList pOut most L=none/\(er != 0)=true/\w.grownBy w1 (some b)):=⟨hx,her,grown_trans (grown_trans (World.grownBy_alloc _ _ _) (World.grownBy_alloc _ _ _)) hg⟩
  clear hx hg
  go_wp2_with fail
  go_ret2
  exact .inr ⟨F.out.1,⟨_,_,rfl,F.out.2.1⟩,F.out.2.2⟩
theorem list155 (b m f:Nat)(L:Bs)(most:Nat)(w:World)(hm:most<=100)(hz:L.length<=140737488355328)(hr:RR w b L)(hmc:w.cell? ⟨m,0,none⟩=some (.int .i64 most))(hf:Blk w f 256 #[.func (.func 187) #[] #[]]) :
  Calls Tryz.prog 202 #[.pointer (some ⟨b,0,none⟩),.pointer (some ⟨m,0,none⟩),.pointer (some ⟨f,0,none⟩)] w fun e w'=>RdPost b w (pList pOut most L) (OutsTold w) e w'\/(pList pOut most L=none/\(∃u er,e=.returned (.tuple #[u,.int .i64 er])/\(er != 0)=true)/\w.grownBy w' (some b)):=by
 have HR:Hid (RR w b L/\Blk w f 256 #[.func (.func 187) #[] #[]]):=⟨hr,hf⟩
 have hmf:∀(fn:Fn) (first cap:Array Value) (w:World),(Instr.makeFunc fn first cap).run Tryz.prog w=.ok (.func fn first cap) w:=fun _ _ _ _=>rfl
 clear hr hf
 go_enter Tryz.func202,Tryz.ntmps202
 go_wp2_with (go_at_call 203;refine (take156 b f L most _ hm hz HR.out.1 HR.out.2).mono ?_)
 rintro e w1 (h | ⟨hx,⟨u,er,rfl,her⟩,hg⟩)
 ·rcases h.symm with ⟨hx,rfl,hg⟩ | ⟨l,M,v,hx,rfl,⟨u,rfl,ho⟩,hR,hg⟩
  ·have F:Hid (pList pOut most L=none/\w.grownBy w1 (some b)):=⟨hx,hg⟩
   clear hx hg h
   unfold Pan
   go_wp2_with fail
   exact ⟨rfl,.inl (.inr ⟨F.out.1,rfl,F.out.2⟩)⟩
  ·have F:Hid (pList pOut most L=some (l,M)/\OutsOwn w1 w.heap.size u l/\RR w1 b M/\w.grownBy w1 (some b)):=⟨hx,ho,hR,hg⟩
   clear hx ho hR hg h
   go_wp2_with fail
   go_ret2
   exact .inl (.inl ⟨l,M,_,F.out.1,rfl,⟨_,rfl,F.out.2.1⟩,F.out.2.2.1,F.out.2.2.2⟩)
 ·have F:Hid (pList pOut most L=none/\(er != 0)=true/\w.grownBy w1 (some b)):=⟨hx,her,hg⟩
  clear hx hg
  go_wp2_with fail
  go_ret2
  exact .inr ⟨F.out.1,⟨_,_,rfl,F.out.2.1⟩,F.out.2.2⟩
theorem next154 (b m f:Nat)(L:Bs)(most:Nat)(w:World)(hm:most<=100)(hz:L.length<=140737488355328)(hr:RR w b L)(hmc:w.cell? ⟨m,0,none⟩=some (.int .i64 most))(hf:Blk w f 256 #[.func (.func 187) #[] #[]]) :
  Calls Tryz.prog 201 #[rdV b,.func (.func 202) #[] #[.pointer (some ⟨m,0,none⟩),.pointer (some ⟨f,0,none⟩)]] w (RdPost b w (pList pOut most L) (fun l v w'=>OutsOwn w' w.heap.size v l)):=by
 have HR:Hid (RR w b L/\Blk w f 256 #[.func (.func 187) #[] #[]]/\w.cell? ⟨m,0,none⟩=some (.int .i64 most)):=⟨hr,hf,hmc⟩
 clear hr hf hmc
 have e0:rdV b=.agg #[.pointer (some ⟨b,0,none⟩)]:=rfl
 rw [e0]
 go_enter Tryz.func201,Tryz.ntmps201
 go_wp2_with (go_at_call 202;refine (list155 b m f L most _ hm hz (HR.out.1.grown (World.grownBy_alloc _ _ none)) (grown_fun (World.grownBy_alloc _ _ none) HR.out.2.2) (HR.out.2.1.grown (World.grownBy_alloc _ _ none) (by simp))).mono ?_)
 rintro e w1 (h | ⟨hx,⟨u,er,rfl,her⟩,hg⟩)
 ·rcases h.symm with ⟨hx,rfl,hg⟩ | ⟨l,M,v,hx,rfl,⟨u,rfl,ho⟩,hR,hg⟩
  ·have F:Hid (pList pOut most L=none/\w.grownBy w1 (some b)):=⟨hx,grown_trans (World.grownBy_alloc _ _ _) hg⟩
   clear hx hg h
   unfold Pan
   go_wp2_with fail
   exact ⟨rfl,.inr ⟨F.out.1,rfl,F.out.2⟩⟩
  ·have F:Hid (pList pOut most L=some (l,M)/\OutsOwn w1 w.heap.size u l/\RR w1 b M/\w.grownBy w1 (some b)):=⟨hx,ho.mono (by simp),hR,grown_trans (World.grownBy_alloc _ _ _) hg⟩
   clear hx ho hR hg h
   go_wp2_with (go_at_call 110;refine (sure_yes _ _).mono ?_;rintro e w2 ⟨rfl,hw2⟩;rw [hw2];clear hw2)
   go_ret
   exact .inl ⟨l,M,_,F.out.1,rfl,F.out.2.1,F.out.2.2.1,F.out.2.2.2⟩
 ·have F:Hid (pList pOut most L=none/\w.grownBy w1 (some b)):=⟨hx,grown_trans (World.grownBy_alloc _ _ _) hg⟩
  have q:(er==0)=false:=by simpa using her
  clear hx hg her
  go_wp2_with (go_at_call 110;refine (sure_no _ _).mono ?_;rintro e w2 ⟨rfl,hw2⟩;rw [hw2];clear hw2;unfold Pan)
  exact ⟨rfl,.inr ⟨F.out.1,rfl,F.out.2⟩⟩
theorem list110 (b:Nat)(L:Bs)(most:Nat)(w:World)(hm:most<=100)(hz:L.length<=140737488355328)(hr:RR w b L) :
  Calls Tryz.prog 186 #[rdV b,.int .i64 most,.func (.func 187) #[] #[]] w (RdPost b w (pList pOut most L) (fun l v w'=>OutsOwn w' w.heap.size v l)):=by
 have HR:Hid (RR w b L):=hr
 have hmf:∀(fn:Fn) (first cap:Array Value) (w:World),(Instr.makeFunc fn first cap).run Tryz.prog w=.ok (.func fn first cap) w:=fun _ _ _ _=>rfl
 clear hr
 have e0:rdV b=.agg #[.pointer (some ⟨b,0,none⟩)]:=rfl
 rw [e0]
 have HB:Hid (Blk (((w.alloc (.cells #[.pointer (some ⟨b,0,none⟩)] 149)).alloc (.cells #[.int .i64 most] 3)).alloc (.cells #[.func (.func 187) #[] #[]] 256)) (w.heap.size+1+1) 256 #[.func (.func 187) #[] #[]]):=by
  have:=heap_alloc_new ((w.alloc (.cells #[.pointer (some ⟨b,0,none⟩)] 149)).alloc (.cells #[.int .i64 most] 3)) (.cells #[.func (.func 187) #[] #[]] 256)
  simpa [Blk,Hid] using this
 go_enter Tryz.func186,Tryz.ntmps186
 go_wp2_with (go_at_call 201;refine (next154 b (w.heap.size+1) (w.heap.size+1+1) L most _ hm hz (HR.out.grown (grown3 _ _ _ _)) (by simp [go_sem]) HB.out).mono ?_)
 intro e w1 h
 rcases h.symm with ⟨hx,rfl,hg⟩ | ⟨l,M,v,hx,rfl,ho,hR,hg⟩
 ·have F:Hid (pList pOut most L=none/\w.grownBy w1 (some b)):=⟨hx,grown_trans (grown_weak (grown3 _ _ _ _) _) hg⟩
  clear hx hg h
  unfold Pan
  go_wp2_with fail
  exact ⟨rfl,.inr ⟨F.out.1,rfl,F.out.2⟩⟩
 ·have F:Hid (pList pOut most L=some (l,M)/\OutsOwn w1 w.heap.size v l/\RR w1 b M/\w.grownBy w1 (some b)):=⟨hx,ho.mono (by simp;omega),hR,grown_trans (grown_weak (grown3 _ _ _ _) _) hg⟩
  clear hx ho hR hg h
  go_wp2_with fail
  go_ret
  exact .inl ⟨l,M,_,F.out.1,rfl,F.out.2.1,F.out.2.2.1,F.out.2.2.2⟩
end Go.Proofs.YtanoabliahcbeaaGreat.Calls
