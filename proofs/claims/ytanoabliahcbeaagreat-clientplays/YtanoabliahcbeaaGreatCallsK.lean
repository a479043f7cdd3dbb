import Derived.Test.YtanoabliahcbeaaGreatChiAll
set_option maxHeartbeats 8000000
set_option maxRecDepth 100000
namespace Go.Proofs.YtanoabliahcbeaaGreat.Calls
open Go.RowKit Disk
open Names (Str)
open Wire (RdB RdG)
def Keep (w w':World):Prop:=∀B v L,Own w B v L->Own w' B v L
theorem Keep.trans {a b c:World}(h:Keep a b)(k:Keep b c):Keep a c:=fun B v L x=>k B v L (h B v L x)
theorem keep_grown {w w':World}(hg:w.grownBy w' none):Keep w w':=fun _ _ _ h=>h.grown hg
theorem keep_set {w w':World}{x t:Nat}{c:Array Value}(hx:Blk w x t c)(ht:t≠5)(hg:w.grownBy w' (some x)):Keep w w':=fun _ _ _ h=>own_set h hx ht hg
theorem number109_int (x:Int)(b:Nat)(L:Bs)(most:Nat)(hx:x=most)(w:World)(hm:most<=9223372036854775807)(hr:RR w b L) :
  Calls Tryz.prog 153 #[rdV b,.int .i64 x] w (RdPost b w (pNum most L) (fun n v _=>v=.int .i64 n/\n<=most)):=by subst hx;exact number109 b L most w hm hr
theorem bytes135_int (x:Int)(b:Nat)(L:Bs)(most:Nat)(hx:x=most)(w:World)(hm:most<=9223372036854775807)(hz:L.length<=140737488355328)(hr:RR w b L) :
  Calls Tryz.prog 154 #[rdV b,.int .i64 x] w (RdPost b w (pBytes most L) (fun x v w'=>Own w' w.heap.size v x)):=by subst hx;exact bytes135 b L most w hm hz hr
structure Mid (w w1:World)(b x:Nat)(L:Bs)(cs:Array Value):Prop where
 rr:RR w1 b L
 box:Blk w1 w.heap.size 149 #[.pointer (some ⟨b,0,none⟩)]
 res:Blk w1 (w.heap.size+1) 109 #[.int .i64 0,.string ⟨#[]⟩,.slice none 0 0,.slice none 0 0,.bool false,.slice none 0 0,.slice none 0 0,.int .i64 0]
 op:Blk w1 x 109 cs
 grow:w.grownBy w1 (some b)
 far:w.heap.size+1<x
theorem Mid.call {w w1 w2:World}{b x:Nat}{L M:Bs}{cs:Array Value}(h:Mid w w1 b x L cs)(hr:RR w2 b M)(hg:w1.grownBy w2 (some b)):Mid w w2 b x M cs :=
 ⟨hr,h.box.grown hg (fun e=>h.rr.ne h.box (by decide) (by simpa using e.symm)),h.res.grown hg (fun e=>h.rr.ne h.res (by decide) (by simpa using e.symm)),h.op.grown hg (fun e=>h.rr.ne h.op (by decide) (by simpa using e.symm)),grown_trans h.grow hg,h.far⟩
theorem Mid.keep {w w1 w2:World}{b x:Nat}{L:Bs}{cs:Array Value}(h:Mid w w1 b x L cs)(hg:w1.grownBy w2 (some b)):Keep w1 w2:=by
 obtain ⟨s,hs⟩:=h.rr.blk
 exact keep_set hs (by decide) hg
theorem Mid.store {w w1:World}{b x:Nat}{L:Bs}{cs:Array Value}(h:Mid w w1 b x L cs)(i:Nat)(v:Value):Mid w (w1.setCell ⟨x,i,none⟩ v) b x L (cs.setIfInBounds i v) :=
 have hg:=grown_setCell w1 x i v
 ⟨h.rr.set h.op hg (by decide) (by decide),h.box.grown hg (fun e=>by have:=h.far;simp at e;omega),h.res.grown hg (fun e=>by have:=h.far;simp at e;omega),h.op.store i v,grown_new h.grow hg (fun y hy=>by simp at hy;have:=h.far;omega),h.far⟩
theorem Mid.skeep {w w1:World}{b x:Nat}{L:Bs}{cs:Array Value}(h:Mid w w1 b x L cs)(i:Nat)(v:Value):Keep w1 (w1.setCell ⟨x,i,none⟩ v):=keep_set h.op (by decide) (grown_setCell _ _ _ _)
def OpTold (w:World)(o:POp)(v:Value)(w':World):Prop:=∃k x ol t,v=opV k x ol t o/\OpOwn w' w.heap.size k x ol t o
theorem pOp_len {L M:Bs}{k:Nat}{most:Nat}(h:pNum most L=some (k,M)):M.length<=L.length:=by
 obtain ⟨e,_⟩:=pNum_inv h
 rw [e];simp
theorem pBytes_len {L M x:Bs}{most:Nat}(h:pBytes most L=some (x,M)):M.length<=L.length:=by
 obtain ⟨e,_⟩:=pBytes_inv h
 rw [e];simp
theorem pFlag_len {L M:Bs}{f:Bool}(h:pFlag L=some (f,M)):M.length<=L.length:=by
 rw [pFlag_inv h];simp
theorem cells8 {w:World}{b t:Nat}{a0 a1 a2 a3 a4 a5 a6 a7:Value}(h:Blk w b t #[a0,a1,a2,a3,a4,a5,a6,a7]):w.cell? ⟨b,0,none⟩=some a0/\w.cell? ⟨b,1,none⟩=some a1/\w.cell? ⟨b,2,none⟩=some a2/\w.cell? ⟨b,3,none⟩=some a3/\w.cell? ⟨b,4,none⟩=some a4/\w.cell? ⟨b,5,none⟩=some a5/\w.cell? ⟨b,6,none⟩=some a6/\w.cell? ⟨b,7,none⟩=some a7 :=
 ⟨h.cell 0,h.cell 1,h.cell 2,h.cell 3,h.cell 4,h.cell 5,h.cell 6,h.cell 7⟩
theorem frees8 {w:World}{b t:Nat}{c:Array Value}(h:Blk w b t c):w.frozen? ⟨b,0,none⟩=false/\w.frozen? ⟨b,1,none⟩=false/\w.frozen? ⟨b,2,none⟩=false/\w.frozen? ⟨b,3,none⟩=false/\w.frozen? ⟨b,4,none⟩=false/\w.frozen? ⟨b,5,none⟩=false/\w.frozen? ⟨b,6,none⟩=false/\w.frozen? ⟨b,7,none⟩=false :=
 ⟨h.free 0,h.free 1,h.free 2,h.free 3,h.free 4,h.free 5,h.free 6,h.free 7⟩
theorem grown8 (w:World)(b:Nat)(a0 a1 a2 a3 a4 a5 a6 a7:Value):w.grownBy ((((((((w.setCell ⟨b,0,none⟩ a0).setCell ⟨b,1,none⟩ a1).setCell ⟨b,2,none⟩ a2).setCell ⟨b,3,none⟩ a3).setCell ⟨b,4,none⟩ a4).setCell ⟨b,5,none⟩ a5).setCell ⟨b,6,none⟩ a6).setCell ⟨b,7,none⟩ a7) (some b) :=
 grown_trans (grown_trans (grown_trans (grown_trans (grown_trans (grown_trans (grown_trans (grown_setCell _ _ _ _) (grown_setCell _ _ _ _)) (grown_setCell _ _ _ _)) (grown_setCell _ _ _ _)) (grown_setCell _ _ _ _)) (grown_setCell _ _ _ _)) (grown_setCell _ _ _ _)) (grown_setCell _ _ _ _)
theorem pRest2 {t key L v M:Bs}(h:pBytes 256 L=some (v,M)):pRest 2 t key L=some (⟨2,t,key,v,false,[],[],0⟩,M):=by unfold pRest;simp [h]
theorem pRest4 {t key L o v M M1 M2:Bs}{f:Bool}(h:pFlag L=some (f,M1))(h1:pBytes 256 M1=some (o,M2))(h2:pBytes 256 M2=some (v,M)):pRest 4 t key L=some (⟨4,t,key,v,f,o,[],0⟩,M):=by unfold pRest;simp [h,h1,h2]
theorem pRest5 {t key L x M M1:Bs}{m:Nat}(h:pBytes 64 L=some (x,M1))(h1:pNum 64 M1=some (m,M)):pRest 5 t key L=some (⟨5,t,key,[],false,[],x,m⟩,M):=by unfold pRest;simp [h,h1]
theorem pRest0 {n:Nat}{t key L:Bs}(h2:n≠2)(h4:n≠4)(h5:n≠5):pRest n t key L=some (⟨n,t,key,[],false,[],[],0⟩,L):=by unfold pRest;simp [h2,h4,h5]
theorem pOp_of {L L1 L2 L3 M t key:Bs}{n:Nat}{o:POp}(h1:pNum 5 L=some (n,L1))(h2:pBytes 16 L1=some (t,L2))(h3:pBytes 64 L2=some (key,L3))(h4:pRest n t key L3=some (o,M)):pOp L=if mayOp o=true then some (o,M) else none:=by unfold pOp;simp [h1,h2,h3,h4]
theorem pOp_no {L L1 L2 L3 t key:Bs}{n:Nat}(h1:pNum 5 L=some (n,L1))(h2:pBytes 16 L1=some (t,L2))(h3:pBytes 64 L2=some (key,L3))(h4:pRest n t key L3=none):pOp L=none:=by unfold pOp;simp [h1,h2,h3,h4]
theorem op89 (b:Nat)(L:Bs)(w:World)(hz:L.length<=140737488355328)(hr:RR w b L) :
  Calls Tryz.prog 118 #[rdV b] w (RdPost b w (pOp L) (OpTold w)):=by
 have HR0:Hid (RR w b L):=hr
 have hblt:b<w.heap.size:=by obtain ⟨s,hs⟩:=hr.blk;exact hs.lt
 clear hr
 have e0:rdV b=.agg #[.pointer (some ⟨b,0,none⟩)]:=rfl
 rw [e0]
 go_enter Tryz.func118,Tryz.ntmps118
 go_wp2_with (go_at_call 153;refine (number109_int _ b L 5 rfl _ (by decide) (HR0.out.grown (grown_trans (World.grownBy_alloc _ _ none) (World.grownBy_alloc _ _ none)))).mono ?_)
 intro e w1 h
 rcases h.symm with ⟨hx,rfl,hg⟩ | ⟨n,L1,v,hx,rfl,⟨rfl,hn⟩,hR,hg⟩
 ·have F:Hid (pOp L=none/\w.grownBy w1 (some b)):=⟨by unfold pOp;rw [hx];rfl,grown_trans (grown_trans (World.grownBy_alloc _ _ _) (World.grownBy_alloc _ _ _)) hg⟩
  clear hx hg h
  unfold Pan
  go_wp2_with fail
  exact ⟨rfl,.inr ⟨F.out.1,rfl,F.out.2⟩⟩
 clear h
 obtain ⟨X,hX⟩:∃X,X=w1.heap.size:=⟨_,rfl⟩
 have HM:Hid (Mid w (w1.alloc (.cells #[.int .i64 n,.string ⟨#[]⟩,.slice none 0 0,.slice none 0 0,.bool false,.slice none 0 0,.slice none 0 0,.int .i64 0] 109)) b X L1 #[.int .i64 n,.string ⟨#[]⟩,.slice none 0 0,.slice none 0 0,.bool false,.slice none 0 0,.slice none 0 0,.int .i64 0]):=by
  have hA:Blk w1 w.heap.size 149 #[.pointer (some ⟨b,0,none⟩)]:=Blk.grown (Blk.grown (heap_alloc_new w _) (World.grownBy_alloc _ _ none) (by simp)) hg (fun e=>by simp at e;omega)
  have hB:Blk w1 (w.heap.size+1) 109 #[.int .i64 0,.string ⟨#[]⟩,.slice none 0 0,.slice none 0 0,.bool false,.slice none 0 0,.slice none 0 0,.int .i64 0]:=by
   have:=Blk.grown (heap_alloc_new (w.alloc (.cells #[.pointer (some ⟨b,0,none⟩)] 149)) (.cells #[.int .i64 0,.string ⟨#[]⟩,.slice none 0 0,.slice none 0 0,.bool false,.slice none 0 0,.slice none 0 0,.int .i64 0] 109)) hg (fun e=>by simp at e;omega)
   simpa using this
  refine ⟨hR.grown (World.grownBy_alloc _ _ none),hA.grown (World.grownBy_alloc _ _ none) (by simp),hB.grown (World.grownBy_alloc _ _ none) (by simp),by rw [hX];exact heap_alloc_new w1 _,grown_trans (grown_trans (grown_trans (World.grownBy_alloc _ _ _) (World.grownBy_alloc _ _ _)) hg) (World.grownBy_alloc _ _ _),?_⟩
  have:=hg.size
  simp at this
  omega
 have HN:Hid (pNum 5 L=some (n,L1)/\n<=5):=⟨hx,hn⟩
 have hz1:L1.length<=140737488355328:=Nat.le_trans (pOp_len hx) hz
 clear hx hR hg hn
 have kb:=HM.out.box.cell 0
 go_wp2_with (go_at_call 154;refine (bytes135_int _ b L1 16 rfl _ (by decide) hz1 HM.out.rr).mono ?_)
 rw [<-hX]
 generalize (w1.alloc (.cells #[.int .i64 n,.string ⟨#[]⟩,.slice none 0 0,.slice none 0 0,.bool false,.slice none 0 0,.slice none 0 0,.int .i64 0] 109))=W1 at HM kb ⊢
 clear hX kb
 intro e w2 h
 rcases h.symm with ⟨hx,rfl,hg⟩ | ⟨tb,L2,v2,hx,rfl,ho,hR,hg⟩
 ·have F:Hid (pOp L=none/\w.grownBy w2 (some b)):=⟨by unfold pOp;rw [HN.out.1];simp [hx],grown_trans HM.out.grow hg⟩
  clear hx hg h
  unfold Pan
  go_wp2_with fail
  exact ⟨rfl,.inr ⟨F.out.1,rfl,F.out.2⟩⟩
 clear h
 have HT:Hid (pBytes 16 L1=some (tb,L2)/\tb.length<=16):=⟨hx,(pBytes_inv hx).2⟩
 have hz2:L2.length<=140737488355328:=Nat.le_trans (pBytes_len hx) hz1
 have cv:=seg_str ho.seg
 have HM2:=HM.out.call hR hg
 have kb:=HM2.box.cell 0
 have k1:=HM2.op.cell 1
 have z1:=HM2.op.free 1
 have HM3:=HM2.store 1 (.string ⟨tb.toArray⟩)
 have kb3:=HM3.box.cell 0
 have HM:Hid (Mid w (w2.setCell ⟨X,1,none⟩ (.string ⟨tb.toArray⟩)) b X L2 #[.int .i64 n,.string ⟨tb.toArray⟩,.slice none 0 0,.slice none 0 0,.bool false,.slice none 0 0,.slice none 0 0,.int .i64 0]):=HM3
 clear hx ho hR hg HM2 HM3
 go_wp2_with (go_at_call 154;refine (bytes135_int _ b L2 64 rfl _ (by decide) hz2 HM.out.rr).mono ?_)
 clear kb k1 z1 cv kb3
 generalize (w2.setCell ⟨X,1,none⟩ (.string ⟨tb.toArray⟩))=W2 at HM ⊢
 intro e w3 h
 rcases h.symm with ⟨hx,rfl,hg⟩ | ⟨ky,L3,v3,hx,rfl,ho,hR,hg⟩
 ·have F:Hid (pOp L=none/\w.grownBy w3 (some b)):=⟨by unfold pOp;rw [HN.out.1];simp [HT.out.1,hx],grown_trans HM.out.grow hg⟩
  clear hx hg h
  unfold Pan
  go_wp2_with fail
  exact ⟨rfl,.inr ⟨F.out.1,rfl,F.out.2⟩⟩
 clear h
 have HY:Hid (pBytes 64 L2=some (ky,L3)):=hx
 have hz3:L3.length<=140737488355328:=Nat.le_trans (pBytes_len hx) hz2
 obtain ⟨x3,n3,y3,rfl⟩:=slice_of ho
 have HM2:=HM.out.call hR hg
 have k2:=HM2.op.cell 2
 have z2:=HM2.op.free 2
 have hw:=HM.out.grow.size
 have HM3:=HM2.store 2 (.slice x3 n3 y3)
 have ho2:=HM2.skeep 2 (.slice x3 n3 y3) _ _ _ (ho.mono hw)
 have kb:=HM3.box.cell 0
 have kn:=HM3.op.cell 0
 have HM:Hid (Mid w (w3.setCell ⟨X,2,none⟩ (.slice x3 n3 y3)) b X L3 #[.int .i64 n,.string ⟨tb.toArray⟩,.slice x3 n3 y3,.slice none 0 0,.bool false,.slice none 0 0,.slice none 0 0,.int .i64 0]/\Own (w3.setCell ⟨X,2,none⟩ (.slice x3 n3 y3)) w.heap.size (.slice x3 n3 y3) ky):=⟨HM3,ho2⟩
 clear hx ho hR hg HM2 HM3 ho2 hw
 by_cases h2:n=2
 ·subst h2
  go_wp2_with (go_at_call 154;refine (bytes135_int _ b L3 256 rfl _ (by decide) hz3 HM.out.1.rr).mono ?_)
  clear kb k2 z2 kn
  generalize (w3.setCell ⟨X,2,none⟩ (.slice x3 n3 y3))=W3 at HM ⊢
  intro e w4 h
  rcases h.symm with ⟨hx,rfl,hg⟩ | ⟨vl,M9,v4,hx,rfl,ho,hR,hg⟩
  ·have F:Hid (pOp L=none/\w.grownBy w4 (some b)):=⟨pOp_no HN.out.1 HT.out.1 HY.out (by unfold pRest;simp [hx]),grown_trans HM.out.1.grow hg⟩
   clear hx hg h
   unfold Pan
   go_wp2_with fail
   exact ⟨rfl,.inr ⟨F.out.1,rfl,F.out.2⟩⟩
  clear h
  obtain ⟨x4,n4,y4,rfl⟩:=slice_of ho
  have HR:Hid (pOp L=if mayOp ⟨2,tb,ky,vl,false,[],[],0⟩=true then some (⟨2,tb,ky,vl,false,[],[],0⟩,M9) else none):=pOp_of HN.out.1 HT.out.1 HY.out (pRest2 hx)
  have HM2:=HM.out.1.call hR hg
  have k3:=HM2.op.cell 3
  have z3:=HM2.op.free 3
  have hw:=HM.out.1.grow.size
  have HM3:=HM2.store 3 (.slice x4 n4 y4)
  have ho2:=HM2.skeep 3 (.slice x4 n4 y4) _ _ _ (ho.mono hw)
  have ho3:=HM2.skeep 3 (.slice x4 n4 y4) _ _ _ (HM.out.1.keep hg _ _ _ HM.out.2)
  have HP:Hid (OpOwn (w4.setCell ⟨X,3,none⟩ (.slice x4 n4 y4)) w.heap.size (.slice x3 n3 y3) (.slice x4 n4 y4) (.slice none 0 0) (.slice none 0 0) ⟨2,tb,ky,vl,false,[],[],0⟩):=⟨.inl ho3,.inl ho2,.inl (Own.nil _ _),.inl (Own.nil _ _),⟨by simp,by simp,by simp,by simp,by have:=HT.out.2;simp;omega⟩⟩
  have HM:Hid (Mid w (w4.setCell ⟨X,3,none⟩ (.slice x4 n4 y4)) b X M9 #[.int .i64 2,.string ⟨tb.toArray⟩,.slice x3 n3 y3,.slice x4 n4 y4,.bool false,.slice none 0 0,.slice none 0 0,.int .i64 0]):=HM3
  clear hx ho hR hg HM2 HM3 ho2 ho3 hw
  obtain ⟨k0,k1,k2,k3,k4,k5,k6,k7⟩:=cells8 HM.out.op
  go_wp2_with (go_at_call 144;refine (may120_of _ _ _ _ _ (⟨2,tb,ky,vl,false,[],[],0⟩:POp) _ rfl HP.out.seg).mono ?_)
  rintro e w9 ⟨rfl,hg9⟩
  have HM9:Hid (Mid w w9 b X M9 _):=⟨HM.out.rr.grown hg9,HM.out.box.grown hg9 (by simp),HM.out.res.grown hg9 (by simp),HM.out.op.grown hg9 (by simp),grown_trans HM.out.grow (grown_weak hg9 _),HM.out.far⟩
  have HP9:Hid (OpOwn w9 w.heap.size (.slice x3 n3 y3) (.slice x4 n4 y4) (.slice none 0 0) (.slice none 0 0) (⟨2,tb,ky,vl,false,[],[],0⟩:POp)):=HP.out.grown hg9
  clear hg9 k0 k1 k2 k3 k4 k5 k6 k7
  cases hmay:mayOp (⟨2,tb,ky,vl,false,[],[],0⟩:POp) with
  | true =>
   have HQ:Hid (pOp L=some ((⟨2,tb,ky,vl,false,[],[],0⟩:POp),M9)):=by rw [HR.out];simp [hmay,Hid]
   clear hmay
   obtain ⟨k0,k1,k2,k3,k4,k5,k6,k7⟩:=cells8 HM9.out.op
   obtain ⟨r0,r1,r2,r3,r4,r5,r6,r7⟩:=cells8 HM9.out.res
   obtain ⟨z0,z1,z2,z3,z4,z5,z6,z7⟩:=frees8 HM9.out.res
   go_wp2_with (go_at_call 110;refine (sure_yes _ _).mono ?_;rintro e w2 ⟨rfl,hw2⟩;rw [hw2];clear hw2)
   have hb:=(((((((HM9.out.res.store 0 (.int .i64 2)).store 1 (.string ⟨tb.toArray⟩)).store 2 (.slice x3 n3 y3)).store 3 (.slice x4 n4 y4)).store 4 (.bool false)).store 5 (.slice none 0 0)).store 6 (.slice none 0 0)).store 7 (.int .i64 0)
   refine bodyPost_ret (v:=_) (results_cell_row rfl _ _ (w.heap.size+1) 109 _ (0,0) _ rfl hb Tryz.underlying109 rfl (by kernel_rfl)) rfl ?_
   have hg:=grown8 w9 (w.heap.size+1) (.int .i64 2) (.string ⟨tb.toArray⟩) (.slice x3 n3 y3) (.slice x4 n4 y4) (.bool false) (.slice none 0 0) (.slice none 0 0) (.int .i64 0)
   exact .inl ⟨_,M9,_,HQ.out,rfl,⟨_,_,_,_,rfl,HP9.out.set HM9.out.res (by decide) hg⟩,HM9.out.rr.set HM9.out.res hg (by decide) (by decide),grown_new HM9.out.grow hg (fun y hy=>by simp at hy;omega)⟩
  | false =>
   have HQ:Hid (pOp L=none):=by rw [HR.out];simp [hmay,Hid]
   clear hmay
   go_wp2_with (go_at_call 110;refine (sure_no _ _).mono ?_;rintro e w2 ⟨rfl,hw2⟩;rw [hw2];clear hw2;unfold Pan)
   exact ⟨rfl,.inr ⟨HQ.out,rfl,HM9.out.grow⟩⟩
 by_cases h4:n=4
 ·subst h4
  go_wp2_with (go_at_call 155;refine (flag136 b L3 _ HM.out.1.rr).mono ?_)
  clear kb k2 z2 kn
  generalize (w3.setCell ⟨X,2,none⟩ (.slice x3 n3 y3))=W3 at HM ⊢
  intro e w4 h
  rcases h.symm with ⟨hx,rfl,hg⟩ | ⟨fl,L4,v4,hx,rfl,rfl,hR,hg⟩
  ·have F:Hid (pOp L=none/\w.grownBy w4 (some b)):=⟨pOp_no HN.out.1 HT.out.1 HY.out (by unfold pRest;simp [hx]),grown_trans HM.out.1.grow hg⟩
   clear hx hg h
   unfold Pan
   go_wp2_with fail
   exact ⟨rfl,.inr ⟨F.out.1,rfl,F.out.2⟩⟩
  clear h
  have HL:Hid (pFlag L3=some (fl,L4)):=hx
  have hz4:L4.length<=140737488355328:=Nat.le_trans (pFlag_len hx) hz3
  have HM2:=HM.out.1.call hR hg
  have k4:=HM2.op.cell 4
  have z4:=HM2.op.free 4
  have HM3:=HM2.store 4 (.bool fl)
  have ho3:=HM2.skeep 4 (.bool fl) _ _ _ (HM.out.1.keep hg _ _ _ HM.out.2)
  have kb:=HM3.box.cell 0
  have HM:Hid (Mid w (w4.setCell ⟨X,4,none⟩ (.bool fl)) b X L4 #[.int .i64 4,.string ⟨tb.toArray⟩,.slice x3 n3 y3,.slice none 0 0,.bool fl,.slice none 0 0,.slice none 0 0,.int .i64 0]/\Own (w4.setCell ⟨X,4,none⟩ (.bool fl)) w.heap.size (.slice x3 n3 y3) ky):=⟨HM3,ho3⟩
  clear hx hR hg HM2 HM3 ho3
  go_wp2_with (go_at_call 154;refine (bytes135_int _ b L4 256 rfl _ (by decide) hz4 HM.out.1.rr).mono ?_)
  clear kb k4 z4
  generalize (w4.setCell ⟨X,4,none⟩ (.bool fl))=W4 at HM ⊢
  intro e w5 h
  rcases h.symm with ⟨hx,rfl,hg⟩ | ⟨od,L5,v5,hx,rfl,ho,hR,hg⟩
  ·have F:Hid (pOp L=none/\w.grownBy w5 (some b)):=⟨pOp_no HN.out.1 HT.out.1 HY.out (by unfold pRest;simp [HL.out,hx]),grown_trans HM.out.1.grow hg⟩
   clear hx hg h
   unfold Pan
   go_wp2_with fail
   exact ⟨rfl,.inr ⟨F.out.1,rfl,F.out.2⟩⟩
  clear h
  have HD:Hid (pBytes 256 L4=some (od,L5)):=hx
  have hz5:L5.length<=140737488355328:=Nat.le_trans (pBytes_len hx) hz4
  obtain ⟨x5,n5,y5,rfl⟩:=slice_of ho
  have HM2:=HM.out.1.call hR hg
  have k5:=HM2.op.cell 5
  have z5:=HM2.op.free 5
  have hw:=HM.out.1.grow.size
  have HM3:=HM2.store 5 (.slice x5 n5 y5)
  have ho2:=HM2.skeep 5 (.slice x5 n5 y5) _ _ _ (ho.mono hw)
  have ho3:=HM2.skeep 5 (.slice x5 n5 y5) _ _ _ (HM.out.1.keep hg _ _ _ HM.out.2)
  have kb:=HM3.box.cell 0
  have HM:Hid (Mid w (w5.setCell ⟨X,5,none⟩ (.slice x5 n5 y5)) b X L5 #[.int .i64 4,.string ⟨tb.toArray⟩,.slice x3 n3 y3,.slice none 0 0,.bool fl,.slice x5 n5 y5,.slice none 0 0,.int .i64 0]/\Own (w5.setCell ⟨X,5,none⟩ (.slice x5 n5 y5)) w.heap.size (.slice x3 n3 y3) ky/\Own (w5.setCell ⟨X,5,none⟩ (.slice x5 n5 y5)) w.heap.size (.slice x5 n5 y5) od):=⟨HM3,ho3,ho2⟩
  clear hx ho hR hg HM2 HM3 ho2 ho3 hw
  go_wp2_with (go_at_call 154;refine (bytes135_int _ b L5 256 rfl _ (by decide) hz5 HM.out.1.rr).mono ?_)
  clear kb k5 z5
  generalize (w5.setCell ⟨X,5,none⟩ (.slice x5 n5 y5))=W5 at HM ⊢
  intro e w6 h
  rcases h.symm with ⟨hx,rfl,hg⟩ | ⟨vl,M9,v6,hx,rfl,ho,hR,hg⟩
  ·have F:Hid (pOp L=none/\w.grownBy w6 (some b)):=⟨pOp_no HN.out.1 HT.out.1 HY.out (by unfold pRest;simp [HL.out,HD.out,hx]),grown_trans HM.out.1.grow hg⟩
   clear hx hg h
   unfold Pan
   go_wp2_with fail
   exact ⟨rfl,.inr ⟨F.out.1,rfl,F.out.2⟩⟩
  clear h
  obtain ⟨x6,n6,y6,rfl⟩:=slice_of ho
  have HR:Hid (pOp L=if mayOp ⟨4,tb,ky,vl,fl,od,[],0⟩=true then some (⟨4,tb,ky,vl,fl,od,[],0⟩,M9) else none):=pOp_of HN.out.1 HT.out.1 HY.out (pRest4 HL.out HD.out hx)
  have HM2:=HM.out.1.call hR hg
  have k3:=HM2.op.cell 3
  have z3:=HM2.op.free 3
  have hw:=HM.out.1.grow.size
  have HM3:=HM2.store 3 (.slice x6 n6 y6)
  have ho2:=HM2.skeep 3 (.slice x6 n6 y6) _ _ _ (ho.mono hw)
  have ho3:=HM2.skeep 3 (.slice x6 n6 y6) _ _ _ (HM.out.1.keep hg _ _ _ HM.out.2.1)
  have ho4:=HM2.skeep 3 (.slice x6 n6 y6) _ _ _ (HM.out.1.keep hg _ _ _ HM.out.2.2)
  have HP:Hid (OpOwn (w6.setCell ⟨X,3,none⟩ (.slice x6 n6 y6)) w.heap.size (.slice x3 n3 y3) (.slice x6 n6 y6) (.slice x5 n5 y5) (.slice none 0 0) ⟨4,tb,ky,vl,fl,od,[],0⟩):=⟨.inl ho3,.inl ho2,.inl ho4,.inl (Own.nil _ _),⟨by simp,by simp,by simp,by simp,by have:=HT.out.2;simp;omega⟩⟩
  have HM:Hid (Mid w (w6.setCell ⟨X,3,none⟩ (.slice x6 n6 y6)) b X M9 #[.int .i64 4,.string ⟨tb.toArray⟩,.slice x3 n3 y3,.slice x6 n6 y6,.bool fl,.slice x5 n5 y5,.slice none 0 0,.int .i64 0]):=HM3
  clear hx ho hR hg HM2 HM3 ho2 ho3 ho4 hw
  obtain ⟨k0,k1,k2,k3,k4,k5,k6,k7⟩:=cells8 HM.out.op
  go_wp2_with (go_at_call 144;refine (may120_of _ _ _ _ _ (⟨4,tb,ky,vl,fl,od,[],0⟩:POp) _ rfl HP.out.seg).mono ?_)
  rintro e w9 ⟨rfl,hg9⟩
  have HM9:Hid (Mid w w9 b X M9 _):=⟨HM.out.rr.grown hg9,HM.out.box.grown hg9 (by simp),HM.out.res.grown hg9 (by simp),HM.out.op.grown hg9 (by simp),grown_trans HM.out.grow (grown_weak hg9 _),HM.out.far⟩
  have HP9:Hid (OpOwn w9 w.heap.size (.slice x3 n3 y3) (.slice x6 n6 y6) (.slice x5 n5 y5) (.slice none 0 0) (⟨4,tb,ky,vl,fl,od,[],0⟩:POp)):=HP.out.grown hg9
  clear hg9 k0 k1 k2 k3 k4 k5 k6 k7
  cases hmay:mayOp (⟨4,tb,ky,vl,fl,od,[],0⟩:POp) with
  | true =>
   have HQ:Hid (pOp L=some ((⟨4,tb,ky,vl,fl,od,[],0⟩:POp),M9)):=by rw [HR.out];simp [hmay,Hid]
   clear hmay
   obtain ⟨k0,k1,k2,k3,k4,k5,k6,k7⟩:=cells8 HM9.out.op
   obtain ⟨r0,r1,r2,r3,r4,r5,r6,r7⟩:=cells8 HM9.out.res
   obtain ⟨z0,z1,z2,z3,z4,z5,z6,z7⟩:=frees8 HM9.out.res
   go_wp2_with (go_at_call 110;refine (sure_yes _ _).mono ?_;rintro e w2 ⟨rfl,hw2⟩;rw [hw2];clear hw2)
   have hb:=(((((((HM9.out.res.store 0 (.int .i64 4)).store 1 (.string ⟨tb.toArray⟩)).store 2 (.slice x3 n3 y3)).store 3 (.slice x6 n6 y6)).store 4 (.bool fl)).store 5 (.slice x5 n5 y5)).store 6 (.slice none 0 0)).store 7 (.int .i64 0)
   refine bodyPost_ret (v:=_) (results_cell_row rfl _ _ (w.heap.size+1) 109 _ (0,0) _ rfl hb Tryz.underlying109 rfl (by kernel_rfl)) rfl ?_
   have hg:=grown8 w9 (w.heap.size+1) (.int .i64 4) (.string ⟨tb.toArray⟩) (.slice x3 n3 y3) (.slice x6 n6 y6) (.bool fl) (.slice x5 n5 y5) (.slice none 0 0) (.int .i64 0)
   exact .inl ⟨_,M9,_,HQ.out,rfl,⟨_,_,_,_,rfl,HP9.out.set HM9.out.res (by decide) hg⟩,HM9.out.rr.set HM9.out.res hg (by decide) (by decide),grown_new HM9.out.grow hg (fun y hy=>by simp at hy;omega)⟩
  | false =>
   have HQ:Hid (pOp L=none):=by rw [HR.out];simp [hmay,Hid]
   clear hmay
   go_wp2_with (go_at_call 110;refine (sure_no _ _).mono ?_;rintro e w2 ⟨rfl,hw2⟩;rw [hw2];clear hw2;unfold Pan)
   exact ⟨rfl,.inr ⟨HQ.out,rfl,HM9.out.grow⟩⟩
 by_cases h5:n=5
 ·subst h5
  go_wp2_with (go_at_call 154;refine (bytes135_int _ b L3 64 rfl _ (by decide) hz3 HM.out.1.rr).mono ?_)
  clear kb k2 z2 kn
  generalize (w3.setCell ⟨X,2,none⟩ (.slice x3 n3 y3))=W3 at HM ⊢
  intro e w4 h
  rcases h.symm with ⟨hx,rfl,hg⟩ | ⟨tt,L4,v4,hx,rfl,ho,hR,hg⟩
  ·have F:Hid (pOp L=none/\w.grownBy w4 (some b)):=⟨pOp_no HN.out.1 HT.out.1 HY.out (by unfold pRest;simp [hx]),grown_trans HM.out.1.grow hg⟩
   clear hx hg h
   unfold Pan
   go_wp2_with fail
   exact ⟨rfl,.inr ⟨F.out.1,rfl,F.out.2⟩⟩
  clear h
  have HD:Hid (pBytes 64 L3=some (tt,L4)):=hx
  obtain ⟨x4,n4,y4,rfl⟩:=slice_of ho
  have HM2:=HM.out.1.call hR hg
  have k6:=HM2.op.cell 6
  have z6:=HM2.op.free 6
  have hw:=HM.out.1.grow.size
  have HM3:=HM2.store 6 (.slice x4 n4 y4)
  have ho2:=HM2.skeep 6 (.slice x4 n4 y4) _ _ _ (ho.mono hw)
  have ho3:=HM2.skeep 6 (.slice x4 n4 y4) _ _ _ (HM.out.1.keep hg _ _ _ HM.out.2)
  have kb:=HM3.box.cell 0
  have HM:Hid (Mid w (w4.setCell ⟨X,6,none⟩ (.slice x4 n4 y4)) b X L4 #[.int .i64 5,.string ⟨tb.toArray⟩,.slice x3 n3 y3,.slice none 0 0,.bool false,.slice none 0 0,.slice x4 n4 y4,.int .i64 0]/\Own (w4.setCell ⟨X,6,none⟩ (.slice x4 n4 y4)) w.heap.size (.slice x3 n3 y3) ky/\Own (w4.setCell ⟨X,6,none⟩ (.slice x4 n4 y4)) w.heap.size (.slice x4 n4 y4) tt):=⟨HM3,ho3,ho2⟩
  clear hx ho hR hg HM2 HM3 ho2 ho3 hw
  go_wp2_with (go_at_call 153;refine (number109_int _ b L4 64 rfl _ (by decide) HM.out.1.rr).mono ?_)
  clear kb k6 z6
  generalize (w4.setCell ⟨X,6,none⟩ (.slice x4 n4 y4))=W4 at HM ⊢
  intro e w5 h
  rcases h.symm with ⟨hx,rfl,hg⟩ | ⟨ms,M9,v5,hx,rfl,⟨rfl,hn⟩,hR,hg⟩
  ·have F:Hid (pOp L=none/\w.grownBy w5 (some b)):=⟨pOp_no HN.out.1 HT.out.1 HY.out (by unfold pRest;simp [HD.out,hx]),grown_trans HM.out.1.grow hg⟩
   clear hx hg h
   unfold Pan
   go_wp2_with fail
   exact ⟨rfl,.inr ⟨F.out.1,rfl,F.out.2⟩⟩
  clear h
  have HR:Hid (pOp L=if mayOp ⟨5,tb,ky,[],false,[],tt,ms⟩=true then some (⟨5,tb,ky,[],false,[],tt,ms⟩,M9) else none):=pOp_of HN.out.1 HT.out.1 HY.out (pRest5 HD.out hx)
  have HM2:=HM.out.1.call hR hg
  have k7:=HM2.op.cell 7
  have z7:=HM2.op.free 7
  have HM3:=HM2.store 7 (.int .i64 ms)
  have ho3:=HM2.skeep 7 (.int .i64 ms) _ _ _ (HM.out.1.keep hg _ _ _ HM.out.2.1)
  have ho4:=HM2.skeep 7 (.int .i64 ms) _ _ _ (HM.out.1.keep hg _ _ _ HM.out.2.2)
  have HP:Hid (OpOwn (w5.setCell ⟨X,7,none⟩ (.int .i64 ms)) w.heap.size (.slice x3 n3 y3) (.slice none 0 0) (.slice none 0 0) (.slice x4 n4 y4) ⟨5,tb,ky,[],false,[],tt,ms⟩):=⟨.inl ho3,.inl (Own.nil _ _),.inl (Own.nil _ _),.inl ho4,⟨by simp,by simp,by simp <;> omega,by simp <;> omega,by have:=HT.out.2;simp;omega⟩⟩
  have HM:Hid (Mid w (w5.setCell ⟨X,7,none⟩ (.int .i64 ms)) b X M9 #[.int .i64 5,.string ⟨tb.toArray⟩,.slice x3 n3 y3,.slice none 0 0,.bool false,.slice none 0 0,.slice x4 n4 y4,.int .i64 ms]):=HM3
  clear hx hR hg HM2 HM3 ho3 ho4 hn
  obtain ⟨k0,k1,k2,k3,k4,k5,k6,k7⟩:=cells8 HM.out.op
  go_wp2_with (go_at_call 144;refine (may120_of _ _ _ _ _ (⟨5,tb,ky,[],false,[],tt,ms⟩:POp) _ rfl HP.out.seg).mono ?_)
  rintro e w9 ⟨rfl,hg9⟩
  have HM9:Hid (Mid w w9 b X M9 _):=⟨HM.out.rr.grown hg9,HM.out.box.grown hg9 (by simp),HM.out.res.grown hg9 (by simp),HM.out.op.grown hg9 (by simp),grown_trans HM.out.grow (grown_weak hg9 _),HM.out.far⟩
  have HP9:Hid (OpOwn w9 w.heap.size (.slice x3 n3 y3) (.slice none 0 0) (.slice none 0 0) (.slice x4 n4 y4) (⟨5,tb,ky,[],false,[],tt,ms⟩:POp)):=HP.out.grown hg9
  clear hg9 k0 k1 k2 k3 k4 k5 k6 k7
  cases hmay:mayOp (⟨5,tb,ky,[],false,[],tt,ms⟩:POp) with
  | true =>
   have HQ:Hid (pOp L=some ((⟨5,tb,ky,[],false,[],tt,ms⟩:POp),M9)):=by rw [HR.out];simp [hmay,Hid]
   clear hmay
   obtain ⟨k0,k1,k2,k3,k4,k5,k6,k7⟩:=cells8 HM9.out.op
   obtain ⟨r0,r1,r2,r3,r4,r5,r6,r7⟩:=cells8 HM9.out.res
   obtain ⟨z0,z1,z2,z3,z4,z5,z6,z7⟩:=frees8 HM9.out.res
   go_wp2_with (go_at_call 110;refine (sure_yes _ _).mono ?_;rintro e w2 ⟨rfl,hw2⟩;rw [hw2];clear hw2)
   have hb:=(((((((HM9.out.res.store 0 (.int .i64 5)).store 1 (.string ⟨tb.toArray⟩)).store 2 (.slice x3 n3 y3)).store 3 (.slice none 0 0)).store 4 (.bool false)).store 5 (.slice none 0 0)).store 6 (.slice x4 n4 y4)).store 7 (.int .i64 ms)
   refine bodyPost_ret (v:=_) (results_cell_row rfl _ _ (w.heap.size+1) 109 _ (0,0) _ rfl hb Tryz.underlying109 rfl (by kernel_rfl)) rfl ?_
   have hg:=grown8 w9 (w.heap.size+1) (.int .i64 5) (.string ⟨tb.toArray⟩) (.slice x3 n3 y3) (.slice none 0 0) (.bool false) (.slice none 0 0) (.slice x4 n4 y4) (.int .i64 ms)
   exact .inl ⟨_,M9,_,HQ.out,rfl,⟨_,_,_,_,rfl,HP9.out.set HM9.out.res (by decide) hg⟩,HM9.out.rr.set HM9.out.res hg (by decide) (by decide),grown_new HM9.out.grow hg (fun y hy=>by simp at hy;omega)⟩
  | false =>
   have HQ:Hid (pOp L=none):=by rw [HR.out];simp [hmay,Hid]
   clear hmay
   go_wp2_with (go_at_call 110;refine (sure_no _ _).mono ?_;rintro e w2 ⟨rfl,hw2⟩;rw [hw2];clear hw2;unfold Pan)
   exact ⟨rfl,.inr ⟨HQ.out,rfl,HM9.out.grow⟩⟩
 ·have q2:((n:Int)==2)=false:=by simp;omega
  have q4:((n:Int)==4)=false:=by simp;omega
  have q5:((n:Int)==5)=false:=by simp;omega
  obtain ⟨M9,hM9⟩:∃M9,M9=L3:=⟨_,rfl⟩
  have HR:Hid (pOp L=if mayOp ⟨n,tb,ky,[],false,[],[],0⟩=true then some (⟨n,tb,ky,[],false,[],[],0⟩,M9) else none):=by rw [hM9];exact pOp_of HN.out.1 HT.out.1 HY.out (pRest0 h2 h4 h5)
  rw [<-hM9] at HM
  have HP:Hid (OpOwn (w3.setCell ⟨X,2,none⟩ (.slice x3 n3 y3)) w.heap.size (.slice x3 n3 y3) (.slice none 0 0) (.slice none 0 0) (.slice none 0 0) ⟨n,tb,ky,[],false,[],[],0⟩):=⟨.inl HM.out.2,.inl (Own.nil _ _),.inl (Own.nil _ _),.inl (Own.nil _ _),⟨by simp <;> omega,by have:=HN.out.2;simp <;> omega,by simp,by simp,by have:=HT.out.2;simp;omega⟩⟩
  have HM:Hid (Mid w (w3.setCell ⟨X,2,none⟩ (.slice x3 n3 y3)) b X M9 #[.int .i64 n,.string ⟨tb.toArray⟩,.slice x3 n3 y3,.slice none 0 0,.bool false,.slice none 0 0,.slice none 0 0,.int .i64 0]):=HM.out.1
  clear hM9 hz3
  obtain ⟨k0,k1,k2,k3,k4,k5,k6,k7⟩:=cells8 HM.out.op
  go_wp2_with (go_at_call 144;refine (may120_of _ _ _ _ _ (⟨n,tb,ky,[],false,[],[],0⟩:POp) _ rfl HP.out.seg).mono ?_)
  rintro e w9 ⟨rfl,hg9⟩
  have HM9:Hid (Mid w w9 b X M9 _):=⟨HM.out.rr.grown hg9,HM.out.box.grown hg9 (by simp),HM.out.res.grown hg9 (by simp),HM.out.op.grown hg9 (by simp),grown_trans HM.out.grow (grown_weak hg9 _),HM.out.far⟩
  have HP9:Hid (OpOwn w9 w.heap.size (.slice x3 n3 y3) (.slice none 0 0) (.slice none 0 0) (.slice none 0 0) (⟨n,tb,ky,[],false,[],[],0⟩:POp)):=HP.out.grown hg9
  clear hg9 k0 k1 k2 k3 k4 k5 k6 k7
  cases hmay:mayOp (⟨n,tb,ky,[],false,[],[],0⟩:POp) with
  | true =>
   have HQ:Hid (pOp L=some ((⟨n,tb,ky,[],false,[],[],0⟩:POp),M9)):=by rw [HR.out];simp [hmay,Hid]
   clear hmay
   obtain ⟨k0,k1,k2,k3,k4,k5,k6,k7⟩:=cells8 HM9.out.op
   obtain ⟨r0,r1,r2,r3,r4,r5,r6,r7⟩:=cells8 HM9.out.res
   obtain ⟨z0,z1,z2,z3,z4,z5,z6,z7⟩:=frees8 HM9.out.res
   go_wp2_with (go_at_call 110;refine (sure_yes _ _).mono ?_;rintro e w2 ⟨rfl,hw2⟩;rw [hw2];clear hw2)
   have hb:=(((((((HM9.out.res.store 0 (.int .i64 n)).store 1 (.string ⟨tb.toArray⟩)).store 2 (.slice x3 n3 y3)).store 3 (.slice none 0 0)).store 4 (.bool false)).store 5 (.slice none 0 0)).store 6 (.slice none 0 0)).store 7 (.int .i64 0)
   refine bodyPost_ret (v:=_) (results_cell_row rfl _ _ (w.heap.size+1) 109 _ (0,0) _ rfl hb Tryz.underlying109 rfl (by kernel_rfl)) rfl ?_
   have hg:=grown8 w9 (w.heap.size+1) (.int .i64 n) (.string ⟨tb.toArray⟩) (.slice x3 n3 y3) (.slice none 0 0) (.bool false) (.slice none 0 0) (.slice none 0 0) (.int .i64 0)
   exact .inl ⟨_,M9,_,HQ.out,rfl,⟨_,_,_,_,rfl,HP9.out.set HM9.out.res (by decide) hg⟩,HM9.out.rr.set HM9.out.res hg (by decide) (by decide),grown_new HM9.out.grow hg (fun y hy=>by simp at hy;omega)⟩
  | false =>
   have HQ:Hid (pOp L=none):=by rw [HR.out];simp [hmay,Hid]
   clear hmay
   go_wp2_with (go_at_call 110;refine (sure_no _ _).mono ?_;rintro e w2 ⟨rfl,hw2⟩;rw [hw2];clear hw2;unfold Pan)
   exact ⟨rfl,.inr ⟨HQ.out,rfl,HM9.out.grow⟩⟩
end Go.Proofs.YtanoabliahcbeaaGreat.Calls
