import Derived.Test.YtncbdhdfemidlaaGreatQloAll
set_option maxHeartbeats 8000000
set_option maxRecDepth 100000
namespace Go.Proofs.YtncbdhdfemidlaaGreat
open Go.RowKit Disk Table L5
open _root_.Go.Proofs.YtncbdhdfemidlaaGreat.Calls _root_.Go.Proofs.YtncbdhdfemidlaaGreat.Command
theorem round5 (H1:Goes1)(p:Nat)(hp:p<2)(a:Act)(W:World)(w:World)(x0:Nat)(v:Value)(q:Int)(l:List PMsg)(x8:Nat)(wq:Value)(eb Z E:Nat)(vn:Value)(v7:Value)(z:Nat)(ms:List Nat)(hS:S6 a (.pointer (some ⟨x0,0,none⟩)) (.pointer (some ⟨x0+1,0,none⟩)) (.pointer (some ⟨x0+2,0,none⟩)) v7 (.pointer (some ⟨x8,0,none⟩)) (.func (.func 69) #[] #[.pointer (some ⟨eb,0,none⟩)]) (.pointer (some ⟨z,0,none⟩)) (ms.map mk))(hI:GI w W x0 v q l x8 wq eb Z E vn)(hz:Blk W z 3 #[.int .i64 (p:Int)])(hE:E<=z)(hM:Mks W E ms)(hG:∀m ∈ l,GoodM m)
  (Q:Exit->Act->World->Prop) (hk:∀a W z s,S6 a (.pointer (some ⟨x0,0,none⟩)) (.pointer (some ⟨x0+1,0,none⟩)) (.pointer (some ⟨x0+2,0,none⟩)) v7 (.pointer (some ⟨x8,0,none⟩)) (.func (.func 69) #[] #[.pointer (some ⟨eb,0,none⟩)]) (.pointer (some ⟨z,0,none⟩)) ((s :: ms).map mk)->GI w W x0 v q l x8 wq eb Z E vn->Blk W z 3 #[.int .i64 ((p+1:Nat):Int)]->E<=z->Mks W E (s :: ms)->Q .normal a W):rnd5.wp Tryz.prog Q a W:=by
 have HI:Hid (GI w W x0 v q l x8 wq eb Z E vn/\Blk W z 3 #[.int .i64 (p:Int)]/\E<=z/\Mks W E ms/\S6 a (.pointer (some ⟨x0,0,none⟩)) (.pointer (some ⟨x0+1,0,none⟩)) (.pointer (some ⟨x0+2,0,none⟩)) v7 (.pointer (some ⟨x8,0,none⟩)) (.func (.func 69) #[] #[.pointer (some ⟨eb,0,none⟩)]) (.pointer (some ⟨z,0,none⟩)) (ms.map mk)):=⟨hI,hz,hE,hM,hS⟩
 have H1':Hid (Goes1/\∀m ∈ l,GoodM m):=⟨H1,hG⟩
 have HK:Hid (∀a W z s,S6 a (.pointer (some ⟨x0,0,none⟩)) (.pointer (some ⟨x0+1,0,none⟩)) (.pointer (some ⟨x0+2,0,none⟩)) v7 (.pointer (some ⟨x8,0,none⟩)) (.func (.func 69) #[] #[.pointer (some ⟨eb,0,none⟩)]) (.pointer (some ⟨z,0,none⟩)) ((s :: ms).map mk)->GI w W x0 v q l x8 wq eb Z E vn->Blk W z 3 #[.int .i64 ((p+1:Nat):Int)]->E<=z->Mks W E (s :: ms)->Q .normal a W):=hk
 obtain ⟨t,ha⟩:=hS.eq
 obtain ⟨x1,hx1⟩:∃x,x0+1=x:=⟨_,rfl⟩
 obtain ⟨x2,hx2⟩:∃x,x0+2=x:=⟨_,rfl⟩
 have HX:Hid (x0+1=x1/\x0+2=x2):=⟨hx1,hx2⟩
 have c0:=hz.cell 0
 simp at c0
 have i1:(p:Int)<2:=by omega
 clear hI hz hE hM hG hk H1 hS
 subst ha
 rw [hx1,hx2]
 clear hx1 hx2
 rw [rnd5_eq]
 unfold rnd5 r25 r20 r17 r9 b5
 dsimp only [Tryz.f5,Option.getD,L5.cL,L5.cR,L5.cB,L5.cW]
 go_wp2_with fail
 refine Code.wp_mono ?_ (H1'.out.1 p _ W w x0 v q l x8 wq eb Z E vn v7 z ms (by omega) ⟨rfl,rfl,rfl,by rw [HX.out.1];rfl,by rw [HX.out.2];rfl,rfl,rfl,rfl,rfl⟩ HI.out.1 HI.out.2.1 HI.out.2.2.1 HI.out.2.2.2.1 H1'.out.2)
 rintro e a2 W2 h2
 cases e with
 | normal =>
  obtain ⟨s,hS,hI2,hz2,hM2⟩:=h2
  have H2:Hid (GI w W2 x0 v q l x8 wq eb Z E vn/\Blk W2 z 3 #[.int .i64 (p:Int)]/\Mks W2 E (s :: ms)):=⟨hI2,hz2,hM2⟩
  obtain ⟨t2,rfl⟩:=hS.eq
  rw [HX.out.1,HX.out.2]
  clear c0
  have c0:=hz2.cell 0
  simp at c0
  clear hS hI2 hz2 hM2
  simp only [Exit.inBlock,Exit.then]
  refine (‹∀(a:Act) (w:World),Code.wp Tryz.prog _ Q a w->_› _ _ ?_)
  obtain ⟨w3,hw3,H3⟩:=al1 W2 #[.int .i64 (p:Int)] 3
  obtain ⟨z3,hz3⟩:∃x,W2.heap.size=x:=⟨_,rfl⟩
  rw [hz3] at H3
  have HW:Hid (W2.alloc (.cells #[.int .i64 (p:Int)] 3)=w3/\W2.heap.size=z3):=⟨hw3,hz3⟩
  clear hw3 hz3
  go_upto_region 27 with fail
  rw [HW.out.1,HW.out.2]
  clear c0
  have c0:=H3.out.1.cell 0
  have f0:=H3.out.1.free 0
  simp at c0
  have wp:IntKind.i64.wrap ((p:Int)+1)=((p+1:Nat):Int):=by rw [IntKind.wrap_i64];push_cast;omega
  go_wp2_with fail
  have gs:w3.grownBy (w3.setCell ⟨z3,0,none⟩ (.int .i64 ((p+1:Nat):Int))) (some z3):=grown_setCell _ _ _ _
  have hz3:E<=z3:=by have h1:=H2.out.1.st.1;have h2:=HW.out.2;omega
  refine HK.out _ _ z3 s ⟨rfl,rfl,rfl,by rw [HX.out.1];rfl,by rw [HX.out.2];rfl,rfl,rfl,rfl,rfl⟩ ((H2.out.1.grown H3.out.2.1).late gs fun k hk=>?_) (by simpa using H3.out.1.store 0 (.int .i64 ((p+1:Nat):Int))) hz3 ((H2.out.2.2.late H3.out.2.1 (by simp)).late gs fun k hk=>?_)
  ·simp at hk
   subst hk
   exact hz3
  ·simp at hk
   subst hk
   exact ⟨_,_,H3.out.1⟩
 | _=>exact h2.elim
theorem end5 (w W:World)(a:Act)(x2 s0 s1 E:Nat)(hd:a.defers=[mk s1,mk s0])(hM:Mks W E [s1,s0])(h4:sl a.tmps 4=.pointer (some ⟨x2,0,none⟩))(hx:Blk W x2 4 #[.bool true])(hg:w.grownBy W none)(hE:w.heap.size<=E) :
  bodyPostM Fence.wide 0 Tryz.prog Tryz.f5 (fun e w'=>e=.returned (.bool true)/\w.grownBy w' none) .ret a W:=by
 obtain ⟨t,d⟩:=a
 dsimp only at hd h4
 subst hd
 have m1:=hM.2 s1 (by simp)
 have m0:=hM.2 s0 (by simp)
 have hlt:s0<s1:=by
  have:=hM.1
  simp at this
  exact this
 have m0':=(World.putObj_heap_other (w:=W) (o:=.deferred none) (show s0≠s1 by omega)).trans m0.2
 refine ⟨by simp,.inl ⟨_,_,rfl,run_takeDeferred m1.2,?_⟩⟩
 refine ⟨by simp,.inl ⟨_,_,rfl,run_takeDeferred m0',?_⟩⟩
 have t1:=Tx.putD (n0:=E) (.deferred none) m1.2 m1.1
 have t2:=t1.trans (Tx.putD (n0:=E) (.deferred none) m0' m0.1)
 have z4:=(t2.blk hx (.inl (by decide))).cell 0
 simp at z4
 unfold sl at h4
 rw [Array.getD_eq_getD_getElem?] at h4
 exact ⟨.bool true,by simp [results,Tryz.results5,go_sem,z4,h4],rfl,⟨t2.os.trans hg.os,t2.tape.trans hg.tape,t2.output.trans hg.output,Nat.le_trans hg.size t2.size,fun i hi _=>(t2.block i (Nat.lt_of_lt_of_le hi hg.size) (.inl (by omega))).trans (hg.block i hi (by simp))⟩⟩
theorem goes_of (HG:ReadGood)(H1:Goes1):Goes:=by
 rintro a w W x0 v q l ⟨x8,wq,v7,zz,eb,Z,E,vn,hS,hD⟩
 have HI:Hid (GI w W x0 v q l x8 wq eb Z E vn/\ReadGood/\Goes1/\∀m ∈ l,GoodM m):=⟨hD.over,HG,H1,hD.bx.good⟩
 obtain ⟨t,rfl⟩:=hS.eq
 obtain ⟨R,hR⟩:∃R,bodyPostM Fence.wide 0 Tryz.prog Tryz.f5 (fun e w'=>e=.returned (.bool true)/\w.grownBy w' none)=R:=⟨_,rfl⟩
 have HR:Hid (bodyPostM Fence.wide 0 Tryz.prog Tryz.f5 (fun e w'=>e=.returned (.bool true)/\w.grownBy w' none)=R):=hR
 rw [hR]
 obtain ⟨x1,hx1⟩:∃x,x0+1=x:=⟨_,rfl⟩
 obtain ⟨x2,hx2⟩:∃x,x0+2=x:=⟨_,rfl⟩
 have HX:Hid (x0+1=x1/\x0+2=x2):=⟨hx1,hx2⟩
 rw [hx1,hx2]
 obtain ⟨w1,hw1,H1'⟩:=al1 W #[.int .i64 0] 3
 obtain ⟨z0,hz0⟩:∃x,W.heap.size=x:=⟨_,rfl⟩
 rw [hz0] at H1'
 have HW:Hid (W.alloc (.cells #[.int .i64 0] 3)=w1/\W.heap.size=z0):=⟨hw1,hz0⟩
 clear hS hD HG H1 hR hx1 hx2 hw1 hz0
 rw [r25_eq]
 unfold r25 r20 r17 r9 b5
 dsimp only [Tryz.f5,Option.getD,L5.cL,L5.cR,L5.cB,L5.cW]
 go_wp2_with fail
 rw [HW.out.1,HW.out.2]
 refine wp_loop_rounds 3 ?_
 rw [rounds_succ]
 refine round5 HI.out.2.2.1 0 (by omega) _ w1 w x0 v q l x8 wq eb Z E vn v7 z0 [] ⟨rfl,rfl,rfl,by rw [HX.out.1];rfl,by rw [HX.out.2];rfl,rfl,rfl,rfl,rfl⟩ (HI.out.1.grown H1'.out.2.1) H1'.out.1 (by have h1:=HI.out.1.st.1;have h2:=HW.out.2;omega) ⟨List.Pairwise.nil,fun s hs=>(List.not_mem_nil hs).elim⟩ HI.out.2.2.2 _ ?_
 intro a1 W1 z1 s0 hS1 hI1 hz1 hE1 hM1
 show Code.rounds Tryz.prog rnd5 _ 2 a1 W1
 rw [rounds_succ]
 refine round5 HI.out.2.2.1 1 (by omega) a1 W1 w x0 v q l x8 wq eb Z E vn v7 z1 [s0] hS1 hI1 hz1 hE1 hM1 HI.out.2.2.2 _ ?_
 intro a2 W2 z2 s1 hS2 hI2 hz2 hE2 hM2
 show Code.rounds Tryz.prog rnd5 _ 1 a2 W2
 rw [rounds_succ]
 have H2:Hid (GI w W2 x0 v q l x8 wq eb Z E vn/\Mks W2 E [s1,s0]):=⟨hI2,hM2⟩
 obtain ⟨t2,rfl⟩:=hS2.eq
 rw [HX.out.1,HX.out.2]
 have c0:=hz2.cell 0
 simp at c0
 clear hS1 hI1 hz1 hE1 hM1 hS2 hI2 hz2 hE2 hM2
 rw [rnd5_eq]
 unfold rnd5 r25 r20 r17 r9 b5
 dsimp only [Tryz.f5,Option.getD,L5.cL,L5.cR,L5.cB,L5.cW]
 go_wp2_with fail
 refine (known17 HI.out.2.1 W2).mono ?_
 rintro e W3 ⟨rfl,hg3⟩
 have H3:Hid (GI w W3 x0 v q l x8 wq eb Z E vn/\Mks W3 E [s1,s0]):=⟨H2.out.1.grown hg3,H2.out.2.late hg3 (by simp)⟩
 clear hg3 c0
 have r0:=H3.out.1.bx.b2.cell 0
 have r1:=H3.out.1.bx.b2.free 0
 rw [HX.out.2] at r0 r1
 simp at r0
 go_wp2_with fail
 have gs:W3.grownBy (W3.setCell ⟨x2,0,none⟩ (.bool true)) (some x2):=grown_setCell _ _ _ _
 have hb:=H3.out.1.bx.b2
 rw [HX.out.2] at hb
 have hlo:=H3.out.1.bx.lo
 have hx:=HX.out
 have hze:=H3.out.1.ze
 rw [<-HR.out]
 refine end5 w _ _ x2 s0 s1 E rfl (H3.out.2.late gs fun k hk=>?_) rfl (by simpa using hb.store 0 (.bool true)) (grown_new H3.out.1.bx.gr gs fun x hx'=>?_) (by omega)
 ·simp at hk
  subst hk
  exact ⟨_,_,hb⟩
 ·simp at hx'
  omega
end Go.Proofs.YtncbdhdfemidlaaGreat
