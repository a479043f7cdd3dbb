import Derived.Test.YtanoabliahcbeaaGreatCrlAll
set_option maxHeartbeats 4000000
set_option maxRecDepth 100000
namespace Go.Proofs.YtanoabliahcbeaaGreat.Calls
open Go.RowKit Disk
open Names (Str)
open Wire (RdB RdG)
theorem list110_int (x:Int)(b:Nat)(L:Bs)(most:Nat)(hx:x=most)(w:World)(hm:most<=100)(hz:L.length<=140737488355328)(hr:RR w b L) :
  Calls Tryz.prog 186 #[rdV b,.int .i64 x,.func (.func 187) #[] #[]] w (RdPost b w (pList pOut most L) (fun l v w'=>OutsOwn w' w.heap.size v l)):=by subst hx;exact list110 b L most w hm hz hr
def ResTold (w:World)(r:PRes)(v:Value)(w':World):Prop:=∃x,v=.agg #[.int .i64 r.abort,.int .i64 r.place,x]/\OutsOwn w' w.heap.size x r.outs
theorem blk3 {w:World}{R t:Nat}{a b c x y z:Value}(h:Blk w R t #[a,b,c]):Blk (((w.setCell ⟨R,0,none⟩ x).setCell ⟨R,1,none⟩ y).setCell ⟨R,2,none⟩ z) R t #[x,y,z]:=((h.store 0 x).store 1 y).store 2 z
theorem grow3 (w:World)(R:Nat)(x y z:Value):w.grownBy (((w.setCell ⟨R,0,none⟩ x).setCell ⟨R,1,none⟩ y).setCell ⟨R,2,none⟩ z) (some R):=grown_trans (grown_trans (grown_setCell _ _ _ _) (grown_setCell _ _ _ _)) (grown_setCell _ _ _ _)
theorem result61 (b:Nat)(L:Bs)(w:World)(hz:L.length<=140737488355328)(hr:RR w b L):Calls Tryz.prog 160 #[rdV b] w (RdPost b w (pRes0 L) (ResTold w)):=by
 have HR:Hid (RR w b L):=hr
 have hbl:b<w.heap.size:=by obtain ⟨s,hs⟩:=hr.blk;exact hs.lt
 clear hr
 have e0:rdV b=.agg #[.pointer (some ⟨b,0,none⟩)]:=rfl
 rw [e0]
 go_enter Tryz.func160,Tryz.ntmps160
 go_wp2_with (go_at_call 153;refine (number109_int _ b L 3 rfl _ (by decide) (HR.out.grown (grown_trans (World.grownBy_alloc _ _ none) (World.grownBy_alloc _ _ none)))).mono ?_)
 intro e w1 h
 rcases h.symm with ⟨hx,rfl,hg⟩ | ⟨n,L1,v,hx,rfl,⟨rfl,hn⟩,hR,hg⟩
 ·have F:Hid (pRes0 L=none/\w.grownBy w1 (some b)):=⟨by unfold pRes0;rw [hx];rfl,grown_trans (grown_trans (World.grownBy_alloc _ _ _) (World.grownBy_alloc _ _ _)) hg⟩
  clear hx hg h
  unfold Pan
  go_wp2_with fail
  exact ⟨rfl,.inr ⟨F.out.1,rfl,F.out.2⟩⟩
 clear h
 have hz1:L1.length<=140737488355328:=Nat.le_trans (pOp_len hx) hz
 have hA:Blk w1 w.heap.size 149 #[.pointer (some ⟨b,0,none⟩)]:=Blk.grown (Blk.grown (heap_alloc_new w _) (World.grownBy_alloc _ _ none) (by simp)) hg (fun e=>by simp at e;omega)
 have hB:Blk w1 (w.heap.size+1) 174 #[.int .i64 0,.int .i64 0,.slice none 0 0]:=by
  have:=Blk.grown (heap_alloc_new (w.alloc (.cells #[.pointer (some ⟨b,0,none⟩)] 149)) (.cells #[.int .i64 0,.int .i64 0,.slice none 0 0] 174)) hg (fun e=>by simp at e;omega)
  simpa using this
 have H1:Hid (pNum 3 L=some (n,L1)/\RR w1 b L1/\w.grownBy w1 (some b)/\Blk w1 (w.heap.size+1) 174 #[.int .i64 0,.int .i64 0,.slice none 0 0]):=⟨hx,hR,grown_trans (grown_trans (World.grownBy_alloc _ _ _) (World.grownBy_alloc _ _ _)) hg,hB⟩
 have kb:=hA.cell 0
 clear hx hR hg hA hB
 by_cases h0:n=0
 ·subst h0
  go_wp2_with (go_at_call 186;refine (list110_int _ b L1 16 rfl _ (by decide) hz1 H1.out.2.1).mono ?_)
  intro e w2 h
  rcases h.symm with ⟨hx,rfl,hg⟩ | ⟨l,M,v,hx,rfl,ho,hR,hg⟩
  ·have F:Hid (pRes0 L=none/\w.grownBy w2 (some b)):=⟨by unfold pRes0;rw [H1.out.1];simp [hx],grown_trans H1.out.2.2.1 hg⟩
   clear hx hg h kb
   unfold Pan
   go_wp2_with fail
   exact ⟨rfl,.inr ⟨F.out.1,rfl,F.out.2⟩⟩
  clear h kb
  obtain ⟨x,n,y,rfl,hn2⟩:=ho.slice
  have hB:=H1.out.2.2.2.grown hg (fun e=>H1.out.2.1.ne H1.out.2.2.2 (by decide) (by simpa using e.symm))
  have F:Hid (pList pOut 16 L1=some (l,M)/\OutsOwn w2 w.heap.size (.slice x n y) l/\RR w2 b M/\w.grownBy w2 (some b)/\n=l.length/\Blk w2 (w.heap.size+1) 174 #[.int .i64 0,.int .i64 0,.slice none 0 0]):=⟨hx,ho.mono H1.out.2.2.1.size,hR,grown_trans H1.out.2.2.1 hg,hn2,hB⟩
  have hn3:n<=1099511627776:=by rw [hn2];exact ho.2
  clear hx ho hR hg hB hn2
  by_cases hz0:n=0
  ·have HQ:Hid (pRes0 L=none):=by unfold pRes0;rw [H1.out.1];simp [F.out.1];exact List.eq_nil_of_length_eq_zero (by rw [<-F.out.2.2.2.2.1];exact hz0)
   subst hz0
   go_wp2_with (go_at_call 110;refine (sure_no _ _).mono ?_;rintro e w3 ⟨rfl,hw3⟩;rw [hw3];clear hw3;unfold Pan)
   exact ⟨rfl,.inr ⟨HQ.out,rfl,F.out.2.2.2.1⟩⟩
  ·have i0:(0:Int)<(n:Int):=by omega
   have i1:0<n:=by omega
   have HQ:Hid (pRes0 L=some (⟨0,0,l⟩,M)):=by unfold pRes0;rw [H1.out.1];simp [F.out.1];exact fun e=>hz0 (by rw [F.out.2.2.2.2.1,e];rfl)
   have c0:=F.out.2.2.2.2.2.cell 0
   have c1:=F.out.2.2.2.2.2.cell 1
   have c2:=F.out.2.2.2.2.2.cell 2
   have z0:=F.out.2.2.2.2.2.free 0
   have z1:=F.out.2.2.2.2.2.free 1
   have z2:=F.out.2.2.2.2.2.free 2
   go_wp2_with (go_at_call 110;refine (sure_yes _ _).mono ?_;rintro e w3 ⟨rfl,hw3⟩;rw [hw3];clear hw3)
   refine bodyPost_ret (v:=_) (results_cell_row rfl _ _ (w.heap.size+1) 174 _ (0,0) _ rfl (blk3 F.out.2.2.2.2.2) Tryz.underlying174 rfl (by kernel_rfl)) rfl ?_
   exact .inl ⟨⟨0,0,l⟩,M,_,HQ.out,rfl,⟨_,rfl,F.out.2.1.set F.out.2.2.2.2.2 (by decide) (by decide) (by decide) (grow3 _ _ _ _ _)⟩,F.out.2.2.1.set F.out.2.2.2.2.2 (grow3 _ _ _ _ _) (by decide) (by decide),grown_new F.out.2.2.2.1 (grow3 _ _ _ _ _) (fun y hy=>by simp at hy;omega)⟩
 ·have i0:¬(n:Int)=0:=by omega
  go_wp2_with (go_at_call 153;refine (number109_int _ b L1 15 rfl _ (by decide) H1.out.2.1).mono ?_)
  intro e w2 h
  rcases h.symm with ⟨hx,rfl,hg⟩ | ⟨p,M,v,hx,rfl,⟨rfl,hp⟩,hR,hg⟩
  ·have F:Hid (pRes0 L=none/\w.grownBy w2 (some b)):=⟨by unfold pRes0;rw [H1.out.1];simp [h0,hx],grown_trans H1.out.2.2.1 hg⟩
   clear hx hg h kb
   unfold Pan
   go_wp2_with fail
   exact ⟨rfl,.inr ⟨F.out.1,rfl,F.out.2⟩⟩
  clear h kb
  have hB:=H1.out.2.2.2.grown hg (fun e=>H1.out.2.1.ne H1.out.2.2.2 (by decide) (by simpa using e.symm))
  have F:Hid (pRes0 L=some (⟨n,p,[]⟩,M)/\RR w2 b M/\w.grownBy w2 (some b)/\Blk w2 (w.heap.size+1) 174 #[.int .i64 0,.int .i64 0,.slice none 0 0]):=⟨by unfold pRes0;rw [H1.out.1];simp [h0,hx],hR,grown_trans H1.out.2.2.1 hg,hB⟩
  have c0:=F.out.2.2.2.cell 0
  have c1:=F.out.2.2.2.cell 1
  have c2:=F.out.2.2.2.cell 2
  have z0:=F.out.2.2.2.free 0
  have z1:=F.out.2.2.2.free 1
  have z2:=F.out.2.2.2.free 2
  clear hx hR hg hB
  go_wp2_with fail
  refine bodyPost_ret (v:=_) (results_cell_row rfl _ _ (w.heap.size+1) 174 _ (0,0) _ rfl (blk3 F.out.2.2.2) Tryz.underlying174 rfl (by kernel_rfl)) rfl ?_
  exact .inl ⟨⟨n,p,[]⟩,M,_,F.out.1,rfl,⟨_,rfl,lrow_nil _ _,by simp⟩,F.out.2.1.set F.out.2.2.2 (grow3 _ _ _ _ _) (by decide) (by decide),grown_new F.out.2.2.1 (grow3 _ _ _ _ _) (fun y hy=>by simp at hy;omega)⟩
theorem whole108 (p q:Nat)(v:Value)(L:Bs)(w:World)(hz:L.length<=140737488355328)(hp:w.cell? ⟨p,0,none⟩=some v)(hq:w.cell? ⟨q,0,none⟩=some (.func (.func 160) #[] #[]))(hs:Seg w v L) :
  Calls Tryz.prog 185 #[.pointer (some ⟨p,0,none⟩),.pointer (some ⟨q,0,none⟩)] w (Within w (fun u w'=>∃r x,pRes L=some r/\u=.agg #[.int .i64 r.abort,.int .i64 r.place,x]/\OutsOwn w' w.heap.size x r.outs) (fun c _=>pRes L=none/\c=4)):=by
 have HS:Hid (Seg w v L):=hs
 obtain ⟨x0,y0,e0⟩:=hs.shape
 obtain ⟨n0,hn0⟩:∃n,n=L.length:=⟨_,rfl⟩
 rw [<-hn0] at e0
 subst e0
 have kp:=fun o=>grown_fun (World.grownBy_alloc w o none) hp
 have HQ:Hid (w.cell? ⟨q,0,none⟩=some (.func (.func 160) #[] #[])):=hq
 clear hs hp hq hn0
 go_enter Tryz.func185,Tryz.ntmps185
 go_wp2_with (go_at_call 115;refine (open86 _ L _ (HS.out.grown (World.grownBy_alloc _ _ none)) hz).mono ?_)
 rintro e w1 ⟨b,rfl,hb,hR,hg⟩
 have hres:Blk w1 w.heap.size 174 #[.int .i64 0,.int .i64 0,.slice none 0 0]:=Blk.grown (heap_alloc_new w _) hg (by simp)
 have kq:=fun o=>grown_fun (World.grownBy_alloc w1 o none) (grown_fun (grown_trans (World.grownBy_alloc _ _ none) hg) HQ.out)
 have H1:Hid (RR (w1.alloc (.cells #[.pointer (some ⟨b,0,none⟩)] 149)) b L/\w.grownBy (w1.alloc (.cells #[.pointer (some ⟨b,0,none⟩)] 149)) none/\Blk (w1.alloc (.cells #[.pointer (some ⟨b,0,none⟩)] 149)) w.heap.size 174 #[.int .i64 0,.int .i64 0,.slice none 0 0]/\Blk (w1.alloc (.cells #[.pointer (some ⟨b,0,none⟩)] 149)) w1.heap.size 149 #[.pointer (some ⟨b,0,none⟩)]/\w.heap.size<b/\w.heap.size<w1.heap.size):=⟨hR.grown (World.grownBy_alloc _ _ none),grown_trans (grown_trans (World.grownBy_alloc _ _ none) hg) (World.grownBy_alloc _ _ none),hres.grown (World.grownBy_alloc _ _ none) (by simp),heap_alloc_new _ _,by simp at hb;omega,by have:=hg.size;simp at this;omega⟩
 clear hR hres hg kp hb
 go_wp2_with (go_at_call 160;refine (result61 b L _ hz H1.out.1).mono ?_)
 generalize (w1.alloc (.cells #[.pointer (some ⟨b,0,none⟩)] 149))=W1 at H1 ⊢
 intro e w2 h
 rcases h.symm with ⟨hx,rfl,hg⟩ | ⟨r,M,v,hx,rfl,⟨u,rfl,ho⟩,hR,hg⟩
 ·have F:Hid (pRes L=none/\w.grownBy w2 none):=⟨by unfold pRes;rw [hx];rfl,grown_new H1.out.2.1 hg (fun y hy=>by simp at hy;have:=H1.out.2.2.2.2.1;omega)⟩
  clear hx hg h
  unfold Pan
  go_wp2_with fail
  exact ⟨rfl,.inr ⟨4,rfl,⟨F.out.1,rfl⟩,F.out.2⟩⟩
 clear h
 obtain ⟨x,n,y,rfl,hn⟩:=ho.slice
 have hr2:Blk w2 w.heap.size 174 #[.int .i64 0,.int .i64 0,.slice none 0 0]:=H1.out.2.2.1.grown hg (fun e=>by simp at e;have:=H1.out.2.2.2.2.1;omega)
 have hx2:Blk w2 w1.heap.size 149 #[.pointer (some ⟨b,0,none⟩)]:=H1.out.2.2.2.1.grown hg (fun e=>by
  simp at e
  exact H1.out.1.ne H1.out.2.2.2.1 (by decide) e.symm)
 have F:Hid (pRes0 L=some (r,M)/\OutsOwn w2 w.heap.size (.slice x n y) r.outs/\RR w2 b M/\w.grownBy w2 none/\Blk w2 w.heap.size 174 #[.int .i64 0,.int .i64 0,.slice none 0 0]):=⟨hx,ho.mono H1.out.2.1.size,hR,grown_new H1.out.2.1 hg (fun y hy=>by simp at hy;have:=H1.out.2.2.2.2.1;omega),hr2⟩
 have kx:=fun o=>grown_fun (World.grownBy_alloc w2 o none) (hx2.cell 0)
 have c0:=fun o=>grown_fun (World.grownBy_alloc w2 o none) (hr2.cell 0)
 have c1:=fun o=>grown_fun (World.grownBy_alloc w2 o none) (hr2.cell 1)
 have c2:=fun o=>grown_fun (World.grownBy_alloc w2 o none) (hr2.cell 2)
 have z0:=fun o=>(hr2.grown (World.grownBy_alloc w2 o none) (by simp)).free 0
 have z1:=fun o=>(hr2.grown (World.grownBy_alloc w2 o none) (by simp)).free 1
 have z2:=fun o=>(hr2.grown (World.grownBy_alloc w2 o none) (by simp)).free 2
 have HRR:=fun o=>F.out.2.2.1.grown (World.grownBy_alloc w2 o none)
 have HR2:Hid _:=HRR
 clear hx ho hR hg hn hr2 hx2 HRR
 by_cases hM:M=[]
 ·have HC:Hid (pRes L=some r):=by unfold pRes;rw [F.out.1];simp [hM,Hid]
  go_wp2_with (first | (go_at_call 116;refine (end87 b M _ (HR2.out _)).mono ?_;rintro e w3 ⟨rfl,hw3⟩;rw [hw3,if_pos hM];clear hw3) | (go_at_call 110;refine (sure_yes _ _).mono ?_;rintro e w3 ⟨rfl,hw3⟩;rw [hw3];clear hw3))
  have hb:=F.out.2.2.2.2.grown (World.grownBy_alloc w2 (.cells #[.int .i64 r.abort,.int .i64 r.place,.slice x n y] 174) none) (by simp)
  refine bodyPost_ret (v:=_) (results_cell_row rfl _ _ w.heap.size 174 _ (0,0) _ rfl (blk3 hb) Tryz.underlying174 rfl (by kernel_rfl)) rfl ?_
  exact .inl ⟨_,rfl,⟨r,_,HC.out,rfl,(F.out.2.1.grown (World.grownBy_alloc _ _ none)).set hb (by decide) (by decide) (by decide) (grow3 _ _ _ _ _)⟩,grown_new (grown_trans F.out.2.2.2.1 (World.grownBy_alloc _ _ none)) (grow3 _ _ _ _ _) (fun y hy=>by simp at hy;omega)⟩
 ·have HC:Hid (pRes L=none):=by unfold pRes;rw [F.out.1];simp [hM,Hid]
  go_wp2_with (first | (go_at_call 116;refine (end87 b M _ (HR2.out _)).mono ?_;rintro e w3 ⟨rfl,hw3⟩;rw [hw3,if_neg hM];clear hw3) | (go_at_call 110;refine (sure_no _ _).mono ?_;rintro e w3 ⟨rfl,hw3⟩;rw [hw3];clear hw3;unfold Pan))
  exact ⟨rfl,.inr ⟨4,rfl,⟨HC.out,rfl⟩,grown_trans F.out.2.2.2.1 (World.grownBy_alloc _ _ none)⟩⟩
def ReadRPost (w:World)(r:PRes × Int)(e:Ending)(w':World):Prop:=∃u,e=.returned (.tuple #[.agg #[.int .i64 r.1.abort,.int .i64 r.1.place,u],.int .i64 r.2])/\OutsOwn w' w.heap.size u r.1.outs/\w.grownBy w' none
theorem whole60 (v:Value)(L:Bs)(w:World)(hz:L.length<=140737488355328)(hs:Seg w v L) :
  Calls Tryz.prog 159 #[v,.func (.func 160) #[] #[]] w (ReadRPost w (readR L)):=by
 have HS:Hid (Seg w v L):=hs
 obtain ⟨x0,y0,e0⟩:=hs.shape
 obtain ⟨n0,hn0⟩:∃n,n=L.length:=⟨_,rfl⟩
 rw [<-hn0] at e0
 subst e0
 have hmf:∀(fn:Fn) (first cap:Array Value) (w:World),(Instr.makeFunc fn first cap).run Tryz.prog w=.ok (.func fn first cap) w:=fun _ _ _ _=>rfl
 clear hs hn0
 obtain ⟨W,hW⟩:∃W,W=((w.alloc (.cells #[.slice x0 n0 y0] 41)).alloc (.cells #[.func (.func 160) #[] #[]] 230)).alloc (.cells #[.int .i64 0,.int .i64 0,.slice none 0 0] 174):=⟨_,rfl⟩
 have hgW:w.grownBy W none:=by rw [hW];exact grown3 _ _ _ _
 have k1:W.cell? ⟨w.heap.size,0,none⟩=some (.slice x0 n0 y0):=by rw [hW];simp [go_sem]
 have k2:W.cell? ⟨w.heap.size+1,0,none⟩=some (.func (.func 160) #[] #[]):=by rw [hW];simp [go_sem]
 have k3:Blk W (w.heap.size+1+1) 174 #[.int .i64 0,.int .i64 0,.slice none 0 0]:=by
  have:=heap_alloc_new ((w.alloc (.cells #[.slice x0 n0 y0] 41)).alloc (.cells #[.func (.func 160) #[] #[]] 230)) (.cells #[.int .i64 0,.int .i64 0,.slice none 0 0] 174)
  rw [hW]
  simpa [Blk] using this
 have hin:=whole108 w.heap.size (w.heap.size+1) (.slice x0 n0 y0) L ((W.alloc (.cells #[.int .i64 0,.int .i64 0,.slice none 0 0] 174)).alloc (.cells #[.int .i64 0] 28)) hz (grown_fun (grown_trans (World.grownBy_alloc _ _ none) (World.grownBy_alloc _ _ none)) k1) (grown_fun (grown_trans (World.grownBy_alloc _ _ none) (World.grownBy_alloc _ _ none)) k2) (HS.out.grown (grown_trans hgW (grown_trans (World.grownBy_alloc _ _ none) (World.grownBy_alloc _ _ none))))
 have HF:Hid _:=face107_108 _ _ W _ _ (by
  rintro u w1 ⟨r,x,_,rfl,ho⟩
  obtain ⟨a,n,c,rfl,_⟩:=ho.slice
  exact ⟨_,_,a,n,c,rfl⟩) (by
  rintro u w1 w2 b t c ⟨r,x,h1,h2,ho⟩ hb ht hg
  refine ⟨r,x,h1,h2,ho.set hb ?_ ?_ ?_ hg⟩ <;> omega) hin
 have HG:Hid (w.grownBy W none/\Blk W (w.heap.size+1+1) 174 #[.int .i64 0,.int .i64 0,.slice none 0 0]):=⟨hgW,k3⟩
 clear hin hgW k1 k2 k3
 go_enter Tryz.func159,Tryz.ntmps159
 go_wp2_with (go_at_call 184;rw [<-hW];refine Calls.mono HF.out ?_)
 rintro e w1 ⟨(⟨u,rfl,r,x,hx,rfl,ho⟩ | ⟨c,w2,rfl,hx,rfl⟩),hg⟩
 ·obtain ⟨a,n,y,rfl,hn⟩:=ho.slice
  have hb:Blk w1 (w.heap.size+1+1) 174 #[.int .i64 0,.int .i64 0,.slice none 0 0]:=HG.out.2.grown hg (by simp)
  have c0:=hb.cell 0
  have z0:=hb.free 0
  have c1:=hb.cell 1
  have z1:=hb.free 1
  have c2:=hb.cell 2
  have z2:=hb.free 2
  have F:Hid (readR L=(r,0)/\OutsOwn w1 w.heap.size (.slice a n y) r.outs/\w.grownBy w1 none/\Blk w1 (w.heap.size+1+1) 174 #[.int .i64 0,.int .i64 0,.slice none 0 0]):=⟨by unfold readR;rw [hx],ho.mono (by have:=HG.out.1.size;simp;omega),grown_trans HG.out.1 hg,hb⟩
  clear hx ho hg hb HF hW hn
  go_wp2_with fail
  refine bodyPost_ret (v:=_) (results_row_tmp rfl _ _ (w.heap.size+1+1) _ rfl (run_loadVar_row _ (w.heap.size+1+1) 174 174 _ (0,0) _ (blk3 F.out.2.2.2) Tryz.underlying174 rfl (by kernel_rfl))) rfl ?_
  exact ⟨_,by rw [F.out.1];rfl,by rw [F.out.1];exact F.out.2.1.set F.out.2.2.2 (by decide) (by decide) (by decide) (grow3 _ _ _ _ _),grown_new F.out.2.2.1 (grow3 _ _ _ _ _) (fun y hy=>by simp at hy;omega)⟩
 ·have hb:Blk w1 (w.heap.size+1+1) 174 #[.int .i64 0,.int .i64 0,.slice none 0 0]:=HG.out.2.grown hg (by simp)
  have c0:=hb.cell 0
  have z0:=hb.free 0
  have c1:=hb.cell 1
  have z1:=hb.free 1
  have c2:=hb.cell 2
  have z2:=hb.free 2
  have F:Hid (readR L=(⟨0,0,[]⟩,4)/\w.grownBy w1 none/\Blk w1 (w.heap.size+1+1) 174 #[.int .i64 0,.int .i64 0,.slice none 0 0]):=⟨by unfold readR;rw [hx],grown_trans HG.out.1 hg,hb⟩
  clear hx hg hb HF hW
  go_wp2_with fail
  refine bodyPost_ret (v:=_) (results_row_tmp rfl _ _ (w.heap.size+1+1) _ rfl (run_loadVar_row _ (w.heap.size+1+1) 174 174 _ (0,0) _ (blk3 F.out.2.2) Tryz.underlying174 rfl (by kernel_rfl))) rfl ?_
  exact ⟨_,by rw [F.out.1];rfl,by rw [F.out.1];exact ⟨lrow_nil _ _,by simp⟩,grown_new F.out.2.1 (grow3 _ _ _ _ _) (fun y hy=>by simp at hy;omega)⟩
theorem read28 (v:Value)(L:Bs)(w:World)(hz:L.length<=140737488355328)(hs:Seg w v L) :
  Calls Tryz.prog 130 #[v] w (ReadRPost w (readR L)):=by
 have HS:Hid (Seg w v L):=hs
 obtain ⟨x0,y0,e0⟩:=hs.shape
 obtain ⟨n0,hn0⟩:∃n,n=L.length:=⟨_,rfl⟩
 rw [<-hn0] at e0
 subst e0
 clear hs hn0
 go_enter Tryz.func130,Tryz.ntmps130
 go_wp2_with (go_at_call 159;refine (whole60 _ L _ hz (HS.out.grown (World.grownBy_alloc _ _ none))).mono ?_)
 rintro e w1 ⟨u,rfl,ho,hg⟩
 obtain ⟨a,n,y,rfl,hn⟩:=ho.slice
 have hb:Blk w1 w.heap.size 174 #[.int .i64 0,.int .i64 0,.slice none 0 0]:=Blk.grown (heap_alloc_new w _) hg (by simp)
 have c0:=hb.cell 0
 have z0:=hb.free 0
 have c1:=hb.cell 1
 have z1:=hb.free 1
 have c2:=hb.cell 2
 have z2:=hb.free 2
 have F:Hid (OutsOwn w1 w.heap.size (.slice a n y) (readR L).1.outs/\w.grownBy w1 none/\Blk w1 w.heap.size 174 #[.int .i64 0,.int .i64 0,.slice none 0 0]):=⟨ho.mono (by simp),grown_trans (World.grownBy_alloc _ _ none) hg,hb⟩
 clear ho hg hb hn
 go_wp2_with fail
 refine bodyPost_ret (v:=_) (results_row_tmp rfl _ _ w.heap.size _ rfl (run_loadVar_row _ w.heap.size 174 174 _ (0,0) _ (blk3 F.out.2.2) Tryz.underlying174 rfl (by kernel_rfl))) rfl ?_
 exact ⟨_,rfl,F.out.1.set F.out.2.2 (by decide) (by decide) (by decide) (grow3 _ _ _ _ _),grown_new F.out.2.1 (grow3 _ _ _ _ _) (fun y hy=>by simp at hy;omega)⟩
end Go.Proofs.YtanoabliahcbeaaGreat.Calls
