import Derived.Test.YtncbdhdfemidlaaGreatNg
set_option maxHeartbeats 8000000
set_option maxRecDepth 100000
namespace Go.Proofs.YtncbdhdfemidlaaGreat
open Go.RowKit Disk
open _root_.Go.Proofs.YtncbdhdfemidlaaGreat.Calls _root_.Go.Proofs.YtncbdhdfemidlaaGreat.Command
theorem readM_no {k0 c0 s0:UInt8}{M:Bs}(h1:k0.toNat≠1)(h2:k0.toNat≠2):readM (k0 :: c0 :: s0 :: M)=(zeroM,4):=by
 rcases readM_cases (k0 :: c0 :: s0 :: M) with ⟨h,hok,hL,_⟩ | h
 ·exfalso
  have hk:=(ok_said hok).1
  unfold formM headM at hL
  simp only [List.cons_append,List.nil_append,List.cons.injEq] at hL
  have h3:=congrArg UInt8.toNat hL.1
  rcases hk with hk | hk
  ·rw [hk] at h3;exact h1 h3
  ·rw [hk] at h3;exact h2 h3
 ·exact h
theorem readM_short {L:Bs}(h:L.length<3):readM L=(zeroM,4):=by
 match L,h with
 | [],_=>rfl
 | [_],_=>rfl
 | [_,_],_=>rfl
theorem read20_no (v:Value)(k0 c0 s0:UInt8)(M:Bs)(w:World)(hs:Seg w v (k0 :: c0 :: s0 :: M))(hz:(k0 :: c0 :: s0 :: M).length<=140737488354304)(hk1:k0.toNat≠1)(hk2:k0.toNat≠2):Calls Tryz.prog 20 #[v] w (ReadMP (k0 :: c0 :: s0 :: M) w):=by
 have HS:Hid (Seg w v (k0 :: c0 :: s0 :: M)):=hs
 obtain ⟨lo,lc,rfl,_,_,_,hcs⟩:=hs
 obtain ⟨lb,off,rfl,x0⟩:=hcs 0 (by simp)
 obtain ⟨_,_,e1,x1⟩:=hcs 1 (by simp)
 obtain ⟨_,_,e2,x2⟩:=hcs 2 (by simp)
 simp only [Option.some.injEq,Addr.mk.injEq] at e1 e2
 obtain ⟨rfl,rfl,_⟩:=e1
 obtain ⟨rfl,rfl,_⟩:=e2
 simp only [List.getElem_cons_zero,List.getElem_cons_succ,Nat.add_zero] at x0 x1 x2
 have hk256:=k0.toNat_lt
 have hc256:=c0.toNat_lt
 have hs256:=s0.toNat_lt
 have wk0:IntKind.i64.wrap (k0.toNat:Int)=(k0.toNat:Int):=by rw [IntKind.wrap_i64];omega
 have wc0:IntKind.i64.wrap (c0.toNat:Int)=(c0.toNat:Int):=by rw [IntKind.wrap_i64];omega
 have ws0:IntKind.i64.wrap (s0.toNat:Int)=(s0.toNat:Int):=by rw [IntKind.wrap_i64];omega
 obtain ⟨ln,hln⟩:∃y,(k0 :: c0 :: s0 :: M).length=y:=⟨_,rfl⟩
 have HLN:Hid ((k0 :: c0 :: s0 :: M).length=ln/\ln<=140737488354304):=⟨hln,by omega⟩
 have l3:3<=ln:=by rw [<-hln];simp
 have l1:((ln:Int)<3)=False:=eq_false (by omega)
 have l2:(ln<3)=False:=eq_false (by omega)
 have HX:Hid (∀y,w.grownBy y none->y.cell? ⟨lb,off,none⟩=some (.int .u8 (k0.toNat:Int))/\y.cell? ⟨lb,off+1,none⟩=some (.int .u8 (c0.toNat:Int))/\y.cell? ⟨lb,off+2,none⟩=some (.int .u8 (s0.toNat:Int))):=fun y hy=>⟨hy.cell x0 (by simp),hy.cell x1 (by simp),hy.cell x2 (by simp)⟩
 clear hcs hz x0 x1 x2
 have HE:Hid (readM (k0 :: c0 :: s0 :: M)=(zeroM,4)):=readM_no hk1 hk2
 have j1:((k0.toNat:Int)==1)=false:=by simp;omega
 have j2:((k0.toNat:Int)==2)=false:=by simp;omega
 clear hk1 hk2
 rw [hln] at HS ⊢
 clear hln
 go_enter Tryz.func20,Tryz.ntmps20
 go_upto_region 3 with fail
 obtain ⟨W1,hW1,H1⟩:=al1' w #[.int .i64 0,.int .i64 0,.int .i64 0,.int .i64 0,.int .i64 0,.int .i64 0,.int .i64 0,.slice none 0 0,.int .i64 0,.int .i64 0,.int .i64 0,.int .i64 0,.slice none 0 0] 34
 rw [hW1]
 clear hW1
 obtain ⟨x0,x1,x2⟩:=HX.out W1 H1.out.2.1
 go_upto_region 4 with fail
 obtain ⟨W2,hW2,H2⟩:=al1' W1 #[.int .i64 0,.int .i64 (c0.toNat:Int),.int .i64 0,.int .i64 0,.int .i64 0,.int .i64 0,.int .i64 0,.slice none 0 0,.int .i64 0,.int .i64 0,.int .i64 0,.int .i64 0,.slice none 0 0] 34
 rw [hW2]
 obtain ⟨X,hX⟩:∃y,W1.heap.size=y:=⟨_,rfl⟩
 rw [hX] at H2 ⊢
 have H2':Hid (Room W2 w.heap.size/\MB W2 X (.slice none 0 0) (.slice none 0 0) ⟨0,(c0.toNat:Int),zeroC,zeroR⟩/\w.grownBy W2 none/\w.heap.size<X):=⟨(room_lit H1.out.1).grown H2.out.2.1,H2.out.1,grown_trans H1.out.2.1 H2.out.2.1,by have:=H1.out.2.2;omega⟩
 clear hW2 hX x0 x1 x2 H1 H2
 have HSG:Hid (Seg W2 (.slice (some ⟨lb,off,none⟩) ln lc) (k0 :: c0 :: s0 :: M)):=HS.out.grown H2'.out.2.2.1
 go_wp2_with (at_builtin;refine app22 W2 rfl _ _ rfl W2.heap.size _ [] _ (k0 :: c0 :: s0 :: M) rfl rfl (Own.nil _ _) HSG.out ?c0 (Nat.le_refl _) ?_)
 case c0=>have:=HLN.out;simp at this ⊢;omega
 intro v3 w3 hv hg _
 try rw [List.nil_append] at hv
 obtain ⟨ao',cap,hvs⟩:=hv.seg.shape
 rw [HLN.out.1] at hvs
 subst hvs
 have hg3:W2.grownBy w3 none:=hg
 have H3:Hid (Room w3 w.heap.size/\MB w3 X (.slice none 0 0) (.slice none 0 0) ⟨0,(c0.toNat:Int),zeroC,zeroR⟩/\w.grownBy w3 none/\w.heap.size<X/\Own w3 W2.heap.size (.slice ao' ln cap) (k0 :: c0 :: s0 :: M)):=⟨H2'.out.1.grown hg3,H2'.out.2.1.grown hg3,grown_trans H2'.out.2.2.1 hg3,H2'.out.2.2.2,hv⟩
 clear hv hg hg3 H2' HSG
 go_upto_region 5 with fail
 obtain ⟨W4,hW4,H4⟩:=al1' w3 #[.slice ao' ln cap,.int .i64 3] 79
 rw [hW4]
 obtain ⟨d,hd⟩:∃y,w3.heap.size=y:=⟨_,rfl⟩
 rw [hd] at H4 ⊢
 clear hW4
 go_upto_region 7 with fail
 obtain ⟨W5,hW5,H5⟩:=al1' W4 #[.bool true] 4
 rw [hW5]
 obtain ⟨ob,hob⟩:∃y,W4.heap.size=y:=⟨_,rfl⟩
 rw [hob] at H5 ⊢
 clear hW5
 have HD0:Hid (DS w W5 X d ob ao' cap (k0 :: c0 :: s0 :: M) 3 true (.slice none 0 0) (.slice none 0 0) ⟨0,(c0.toNat:Int),zeroC,zeroR⟩):=by
  have g:=grown_trans H4.out.2.1 H5.out.2.1
  have s1:=H3.out.2.2.1.size
  have s2:=H4.out.2.1.size
  refine ⟨H3.out.1.grown g,H3.out.2.1.grown g,opsOwn_nil _ _,Own.nil _ _,⟨?_,?_,H5.out.1,by simp,by have:=HLN.out;omega⟩,grown_trans H3.out.2.2.1 g,H3.out.2.2.2.1,by omega,by omega⟩
  ·rw [HLN.out.1];exact (H3.out.2.2.2.2.grown g).seg
  ·rw [HLN.out.1];exact H4.out.1.grown H5.out.2.1 (by simp)
 clear H3 H4 H5 hd hob HS
 obtain ⟨x0,x1,x2⟩:=HX.out W5 HD0.out.gr
 go_upto_region 43 with fail
 clear x0 x1 x2
 obtain ⟨t0,t1,t2,t3⟩:=HD0.out.cells
 go_wp2_with fail
 refine (Wire.left22 d ao' cap 3 (k0 :: c0 :: s0 :: M) W5 HD0.out.rk.rf HD0.out.rk.le (by have:=HD0.out.rk.zz;omega)).mono ?_
 rintro e w8 ⟨rfl,q8,hq8⟩
 have HD:Hid (DS w w8 X d ob ao' cap (k0 :: c0 :: s0 :: M) 3 true (.slice none 0 0) (.slice none 0 0) ⟨0,(c0.toNat:Int),zeroC,zeroR⟩):=by rw [hq8];exact HD0.out.grown (grown_drewN _ _ _)
 clear hq8 HD0 t0 t1 t2 t3
 obtain ⟨lf,hlf⟩:∃y,(k0 :: c0 :: s0 :: M).length-3=y:=⟨_,rfl⟩
 rw [hlf]
 by_cases hl0:lf=0
 ·subst hl0
  clear hlf
  obtain ⟨m0,m1,m2,m3,m4,m5,m6,m7,m8,m9,m10,m11,m12⟩:=HD.out.mb.cells
  go_wp2_with fail
  refine (may13 (.slice none 0 0) (.slice none 0 0) ⟨0,(c0.toNat:Int),zeroC,zeroR⟩ w8 (ops_nil _) (seg_nil _) (by simp [zeroR])).mono ?_
  rintro e w9 ⟨rfl,g9⟩
  rw [show okM ⟨0,(c0.toNat:Int),zeroC,zeroR⟩=false by simp [okM]]
  have H9:Hid (DS w w9 X d ob ao' cap (k0 :: c0 :: s0 :: M) 3 true (.slice none 0 0) (.slice none 0 0) ⟨0,(c0.toNat:Int),zeroC,zeroR⟩):=HD.out.grown g9
  clear g9 HD m0 m1 m2 m3 m4 m5 m6 m7 m8 m9 m10 m11 m12
  obtain ⟨r0,r1,r2,r3,r4,r5,r6,r7,r8,r9,r10,r11,r12,u0,u1,u2,u3,u4,u5,u6,u7,u8,u9,u10,u11,u12⟩:=H9.out.room.cells
  obtain ⟨z0,z1,z2,z3,z4,z5,z6,z7,z8,z9,z10,z11,z12⟩:=H9.out.room.frees
  go_wp2_with fail
  obtain ⟨W6,hW6,H6⟩:=setM H9.out.room (.slice none 0 0) (.slice none 0 0) zeroM
  unfold zeroM zeroC zeroR at hW6
  dsimp only at hW6
  rw [hW6]
  clear hW6
  refine bodyPost_ret (v:=_) (results_row_tmp rfl _ _ w.heap.size _ rfl (loadM H6.out.1 isSl_nil isSl_nil)) rfl ?_
  exact ⟨(.slice none 0 0),(.slice none 0 0),by rw [HE.out];rfl,by rw [HE.out];exact opsOwn_nil _ _,by rw [HE.out];exact Own.nil _ _,grown_new H9.out.gr H6.out.2 (by intro x hx;simp at hx;omega)⟩
 ·have i1:((lf:Int) > 0)=True:=eq_true (by omega)
  have i2:((0:Int)<(lf:Int))=True:=eq_true (by omega)
  have i3:(0<lf)=True:=eq_true (by omega)
  have i4:(lf=0)=False:=eq_false hl0
  clear hlf hl0
  obtain ⟨r0,r1,r2,r3,r4,r5,r6,r7,r8,r9,r10,r11,r12,u0,u1,u2,u3,u4,u5,u6,u7,u8,u9,u10,u11,u12⟩:=HD.out.room.cells
  obtain ⟨z0,z1,z2,z3,z4,z5,z6,z7,z8,z9,z10,z11,z12⟩:=HD.out.room.frees
  go_wp2_with fail
  obtain ⟨W6,hW6,H6⟩:=setM HD.out.room (.slice none 0 0) (.slice none 0 0) zeroM
  unfold zeroM zeroC zeroR at hW6
  dsimp only at hW6
  rw [hW6]
  clear hW6
  refine bodyPost_ret (v:=_) (results_row_tmp rfl _ _ w.heap.size _ rfl (loadM H6.out.1 isSl_nil isSl_nil)) rfl ?_
  exact ⟨(.slice none 0 0),(.slice none 0 0),by rw [HE.out];rfl,by rw [HE.out];exact opsOwn_nil _ _,by rw [HE.out];exact Own.nil _ _,grown_new HD.out.gr H6.out.2 (by intro x hx;simp at hx;omega)⟩
theorem read20_short (v:Value)(L:Bs)(w:World)(hs:Seg w v L)(hl:L.length<3):Calls Tryz.prog 20 #[v] w (ReadMP L w):=by
 have HE:Hid (readM L=(zeroM,4)):=readM_short hl
 obtain ⟨lo,lc,rfl⟩:=hs.shape
 obtain ⟨ln,hln⟩:∃y,L.length=y:=⟨_,rfl⟩
 rw [hln] at hl ⊢
 have l1:((ln:Int)<3)=True:=eq_true (by omega)
 have l2:(ln<3)=True:=eq_true hl
 clear hs hln hl
 go_enter Tryz.func20,Tryz.ntmps20
 go_upto_region 1 with fail
 obtain ⟨W1,hW1,H1⟩:=al1' w #[.int .i64 0,.int .i64 0,.int .i64 0,.int .i64 0,.int .i64 0,.int .i64 0,.int .i64 0,.slice none 0 0,.int .i64 0,.int .i64 0,.int .i64 0,.int .i64 0,.slice none 0 0] 34
 rw [hW1]
 clear hW1
 have HRM:Hid (Room W1 w.heap.size):=room_lit H1.out.1
 obtain ⟨r0,r1,r2,r3,r4,r5,r6,r7,r8,r9,r10,r11,r12,u0,u1,u2,u3,u4,u5,u6,u7,u8,u9,u10,u11,u12⟩:=HRM.out.cells
 obtain ⟨z0,z1,z2,z3,z4,z5,z6,z7,z8,z9,z10,z11,z12⟩:=HRM.out.frees
 go_wp2_with fail
 obtain ⟨W6,hW6,H6⟩:=setM HRM.out (.slice none 0 0) (.slice none 0 0) zeroM
 unfold zeroM zeroC zeroR at hW6
 dsimp only at hW6
 rw [hW6]
 clear hW6
 refine bodyPost_ret (v:=_) (results_row_tmp rfl _ _ w.heap.size _ rfl (loadM H6.out.1 isSl_nil isSl_nil)) rfl ?_
 exact ⟨(.slice none 0 0),(.slice none 0 0),by rw [HE.out];rfl,by rw [HE.out];exact opsOwn_nil _ _,by rw [HE.out];exact Own.nil _ _,grown_new H1.out.2.1 H6.out.2 (by intro x hx;simp at hx;omega)⟩
theorem read20 (v:Value)(L:Bs)(w:World)(hs:Seg w v L)(hz:L.length<=140737488354304):Calls Tryz.prog 20 #[v] w (ReadMP L w):=by
 by_cases hl:L.length<3
 ·exact read20_short v L w hs hl
 match L,hs,hz,hl with
 | k0 :: c0 :: s0 :: M,hs,hz,_ =>
  by_cases h1:k0.toNat=1
  ·exact read20_ask v k0 c0 s0 M w hs hz (by rw [h1];rfl)
  by_cases h2:k0.toNat=2
  ·exact read20_tell v k0 c0 s0 M w hs hz (by rw [h2];rfl)
  exact read20_no v k0 c0 s0 M w hs hz h1 h2
 | [],_,_,hl=>exact absurd (by simp) hl
 | [_],_,_,hl=>exact absurd (by simp) hl
 | [_,_],_,_,hl=>exact absurd (by simp) hl
end Go.Proofs.YtncbdhdfemidlaaGreat
