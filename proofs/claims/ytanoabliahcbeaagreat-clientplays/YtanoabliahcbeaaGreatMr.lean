import Derived.Test.YtanoabliahcbeaaGreatNcdAll
set_option maxHeartbeats 8000000
set_option maxRecDepth 100000
namespace Go.Proofs.YtanoabliahcbeaaGreat
open Go.RowKit Disk
open _root_.Go.Proofs.YtanoabliahcbeaaGreat.Calls _root_.Go.Proofs.YtanoabliahcbeaaGreat.Command
theorem readNums_ops:∀(l:List (Nat × Int)) (s r:PMsg) (L M:Bs),readNums l s L=some (r,M)->r.ask.ops=s.ask.ops
 | [],s,r,L,M,h=>by
  simp [readNums] at h
  rw [h.1]
 | f :: l,s,r,L,M,h=>by
  rw [readNums] at h
  cases hx:pNum 9223372036854775807 L with
  | none=>rw [hx] at h;cases h
  | some x =>
   rw [hx] at h
   simp only [Option.bind_some] at h
   rw [readNums_ops l _ r _ M h]
   exact (setV_kinds s f.1 (x.1:Int)).2.2.2.2.1
theorem read38_short (v:Value)(L:Bs)(w:World)(hs:Seg w v L)(hl:L.length<3):Calls Tryz.prog 165 #[v] w (RdInP L w):=by
 have HE:Hid (pMsg L=none):=by
  match L,hl with
  | [],_=>rfl
  | [_],_=>rfl
  | [_,_],_=>rfl
 obtain ⟨lo,lc,rfl⟩:=hs.shape
 obtain ⟨ln,hln⟩:∃y,L.length=y:=⟨_,rfl⟩
 rw [hln] at hl ⊢
 have l1:((ln:Int)<3)=True:=eq_true (by omega)
 have l2:(ln<3)=True:=eq_true hl
 clear hs hln hl
 go_enter Tryz.func165,Tryz.ntmps165
 go_upto_region 1 with fail
 obtain ⟨W1,hW1,H1⟩:=al1' w #[.int .i64 0,.int .i64 0,.int .i64 0,.int .i64 0,.int .i64 0,.int .i64 0,.int .i64 0,.slice none 0 0,.int .i64 0,.int .i64 0,.int .i64 0,.int .i64 0,.slice none 0 0] 45
 rw [hW1]
 clear hW1
 have HRM:Hid (Room W1 w.heap.size):=room_lit H1.out.1
 obtain ⟨r0,r1,r2,r3,r4,r5,r6,r7,r8,r9,r10,r11,r12,u0,u1,u2,u3,u4,u5,u6,u7,u8,u9,u10,u11,u12⟩:=HRM.out.cells
 obtain ⟨z0,z1,z2,z3,z4,z5,z6,z7,z8,z9,z10,z11,z12⟩:=HRM.out.frees
 go_wp2_with fail
 obtain ⟨W6,hW6,H6⟩:=setM HRM.out (.slice none 0 0) (.slice none 0 0) zeroM
 unfold zeroM zeroC zeroR at hW6
 dsimp only at hW6
 rw [hW6]
 clear hW6
 refine bodyPost_ret (v:=_) (results_row_tmp rfl _ _ w.heap.size _ rfl (loadM H6.out.1 isSl_nil isSl_nil)) rfl ?_
 exact ⟨4,(.slice none 0 0),(.slice none 0 0),zeroM,rfl,opsOwn_nil _ _,Own.nil _ _,grown_new H1.out.2.1 H6.out.2 (by intro x hx;simp at hx;omega),.inr ⟨rfl,HE.out⟩⟩
theorem read38_long (v:Value)(k0 c0 s0:UInt8)(M:Bs)(w:World)(hs:Seg w v (k0 :: c0 :: s0 :: M))(hz:(k0 :: c0 :: s0 :: M).length<=140737488355328):Calls Tryz.prog 165 #[v] w (RdInP (k0 :: c0 :: s0 :: M) w):=by
 have HS:Hid (Seg w v (k0 :: c0 :: s0 :: M)):=hs
 obtain ⟨lo,lc,rfl,_,_,_,hcs⟩:=hs
 obtain ⟨lb,off,rfl,x0⟩:=hcs 0 (by simp)
 obtain ⟨_,_,e1,x1⟩:=hcs 1 (by simp)
 obtain ⟨_,_,e2,x2⟩:=hcs 2 (by simp)
 simp only [Option.some.injEq,Addr.mk.injEq] at e1 e2
 obtain ⟨rfl,rfl,_⟩:=e1
 obtain ⟨rfl,rfl,_⟩:=e2
 simp only [List.getElem_cons_zero,List.getElem_cons_succ,Nat.add_zero] at x0 x1 x2
 have hk256:=k0.toNat_lt
 have hc256:=c0.toNat_lt
 have hs256:=s0.toNat_lt
 have wk0:IntKind.i64.wrap (k0.toNat:Int)=(k0.toNat:Int):=by rw [IntKind.wrap_i64];omega
 have wc0:IntKind.i64.wrap (c0.toNat:Int)=(c0.toNat:Int):=by rw [IntKind.wrap_i64];omega
 have ws0:IntKind.i64.wrap (s0.toNat:Int)=(s0.toNat:Int):=by rw [IntKind.wrap_i64];omega
 obtain ⟨ln,hln⟩:∃y,(k0 :: c0 :: s0 :: M).length=y:=⟨_,rfl⟩
 have HLN:Hid ((k0 :: c0 :: s0 :: M).length=ln/\ln<=140737488355328):=⟨hln,by omega⟩
 have l3:3<=ln:=by rw [<-hln];simp
 have l1:((ln:Int)<3)=False:=eq_false (by omega)
 have l2:(ln<3)=False:=eq_false (by omega)
 have n0:(0<ln)=True:=eq_true (by omega)
 have n1:(1<ln)=True:=eq_true (by omega)
 have n2:(2<ln)=True:=eq_true (by omega)
 have n3:((0:Int)<(ln:Int))=True:=eq_true (by omega)
 have n4:((1:Int)<(ln:Int))=True:=eq_true (by omega)
 have n5:((2:Int)<(ln:Int))=True:=eq_true (by omega)
 have HX:Hid (∀y,w.grownBy y none->y.cell? ⟨lb,off,none⟩=some (.int .u8 (k0.toNat:Int))/\y.cell? ⟨lb,off+1,none⟩=some (.int .u8 (c0.toNat:Int))/\y.cell? ⟨lb,off+2,none⟩=some (.int .u8 (s0.toNat:Int))):=fun y hy=>⟨hy.cell x0 (by simp),hy.cell x1 (by simp),hy.cell x2 (by simp)⟩
 clear hcs hz x0 x1 x2
 rw [hln] at HS ⊢
 clear hln
 obtain ⟨so,sn,sc,hsv⟩:∃so sn sc,sliced (some ⟨lb,off,none⟩) 3 ln lc 1=.slice so sn sc:=⟨_,_,_,rfl⟩
 have hsl:∀wk,(Instr.slice 41 (.slice (some ⟨lb,off,none⟩) ln lc) (some (.int .i64 3)) none none).run Tryz.prog wk=.ok (.slice so sn sc) wk:=fun wk=>by rw [<-hsv];exact run_rest30 (some ⟨lb,off,none⟩) ln lc 3 l3 wk
 have HSG:Hid (Seg w (.slice so sn sc) M):=by
  have h2:=seg_rest HLN.out.1 3 (by simp) HS.out
  rw [hsv] at h2
  exact h2
 have HSN:Hid (M.length=sn):=by obtain ⟨_,_,h⟩:=HSG.out.shape;simp at h;exact h.2.1.symm
 clear hsv
 go_enter Tryz.func165,Tryz.ntmps165
 go_upto_region 3 with fail
 obtain ⟨W,hW,HW⟩:=al1' w #[.int .i64 0,.int .i64 0,.int .i64 0,.int .i64 0,.int .i64 0,.int .i64 0,.int .i64 0,.slice none 0 0,.int .i64 0,.int .i64 0,.int .i64 0,.int .i64 0,.slice none 0 0] 45
 rw [hW]
 clear hW
 go_cut [4] (fun x wc=>∃Q,x=.pointer (some ⟨Q,0,none⟩)/\W.heap.size<=Q/\MB wc Q (.slice none 0 0) (.slice none 0 0) (beginM (k0.toNat:Int) (c0.toNat:Int) (s0.toNat:Int))/\W.grownBy wc none)
 case first =>
  refine wp_region_noPanic ?_
  refine wp_region_hold 1000 (fun y=>W.grownBy y none) (by kernel_rfl) ?_
  have G0:Hid (W.grownBy W.drew none):=grown_drew _ _
  generalize W.drew=wd at G0 ⊢
  have J:Idx [0,1,2,3,4,5,6,7,8,9,10,11]:=trivial
  iterate 12 (refine tK J (G0.out) rfl rfl (fun wk hk=>by obtain ⟨x0,x1,x2⟩:=HX.out wk (grown_trans HW.out.2.1 hk);go_simp;try rfl) ?_;replace J:=J.tl;try simp only [pN])
  clear J
  refine wpHold_two (i:=12) (j:=13) rfl rfl (by kernel_rfl) (by rfl) (by rfl) (fun K hK=>?_) (fun K hK=>?_)
  ·go_wp2_with fail
   refine (begun59 (k0.toNat:Int) (c0.toNat:Int) (s0.toNat:Int) wd).mono ?_
   rintro e wd ⟨rfl,gg⟩
   try replace HU:Hid (Room wd ub):=HU.out.grown gg
   replace G0:Hid (W.grownBy wd none):=grown_trans G0.out gg
   clear gg
   go_wp2_with fail
   refine hK.out _ _ (fun _=>G0.out) ?_
   clear hK K
   try simp only [pN]
   refine wpHold_one (i:=13) rfl (by kernel_rfl) (by rfl) (fun K hK=>?_)
   go_wp2_with fail
   obtain ⟨ub,hub⟩:∃x,wd.heap.size=x:=⟨_,rfl⟩
   have HUB:Hid (W.heap.size<=ub):=by rw [<-hub];exact G0.out.size
   obtain ⟨wd,hwn,HA⟩:=al1' wd #[.int .i64 0,.int .i64 0,.int .i64 0,.int .i64 0,.int .i64 0,.int .i64 0,.int .i64 0,.slice none 0 0,.int .i64 0,.int .i64 0,.int .i64 0,.int .i64 0,.slice none 0 0] 45
   rw [hwn,hub]
   rw [hub] at HA
   have HU:Hid (Room wd ub):=room_lit HA.out.1
   replace G0:Hid (W.grownBy wd none):=grown_trans G0.out HA.out.2.1
   clear hwn hub HA
   refine hK.out _ _ (fun _=>G0.out) ?_
   clear hK K
   try simp only [pN]
   refine wpHold_one (i:=14) rfl (by kernel_rfl) (by rfl) (fun K hK=>?_)
   obtain ⟨r0,r1,r2,r3,r4,r5,r6,r7,r8,r9,r10,r11,r12,u0,u1,u2,u3,u4,u5,u6,u7,u8,u9,u10,u11,u12⟩:=HU.out.cells
   obtain ⟨z0,z1,z2,z3,z4,z5,z6,z7,z8,z9,z10,z11,z12⟩:=HU.out.frees
   unfold msgV
   go_wp2_with fail
   obtain ⟨wz,hwz,HZ⟩:=setM HU.out (.slice none 0 0) (.slice none 0 0) (beginM (k0.toNat:Int) (c0.toNat:Int) (s0.toNat:Int))
   rw [hwz]
   clear hwz
   clear r0 r1 r2 r3 r4 r5 r6 r7 r8 r9 r10 r11 r12 u0 u1 u2 u3 u4 u5 u6 u7 u8 u9 u10 u11 u12 z0 z1 z2 z3 z4 z5 z6 z7 z8 z9 z10 z11 z12
   have GZ:Hid (W.grownBy wz none):=grown_new G0.out HZ.out.2 (by intro x hx;simp at hx;have:=HUB.out;omega)
   refine hK.out _ _ (fun _=>GZ.out) ?_
   clear hK K
   try simp only [pN]
   refine wpHold_done (by kernel_rfl) ?_
   refine (‹∀(a:Act) (w:World),Met _ a w->_› _ _ ?_)
   go_meet
   case rel=>exact ⟨ub,rfl,HUB.out,HZ.out.1,GZ.out⟩
  ·go_wp2_with fail
   obtain ⟨ub,hub⟩:∃x,wd.heap.size=x:=⟨_,rfl⟩
   have HUB:Hid (W.heap.size<=ub):=by rw [<-hub];exact G0.out.size
   obtain ⟨wd,hwn,HA⟩:=al1' wd #[.int .i64 0,.int .i64 0,.int .i64 0,.int .i64 0,.int .i64 0,.int .i64 0,.int .i64 0,.slice none 0 0,.int .i64 0,.int .i64 0,.int .i64 0,.int .i64 0,.slice none 0 0] 45
   rw [hwn,hub]
   rw [hub] at HA
   have HU:Hid (Room wd ub):=room_lit HA.out.1
   replace G0:Hid (W.grownBy wd none):=grown_trans G0.out HA.out.2.1
   clear hwn hub HA
   refine hK.out _ _ (fun _=>G0.out) ?_
   clear hK K
   try simp only [pN]
   refine wpHold_one (i:=12) rfl (by kernel_rfl) (by rfl) (fun K hK=>?_)
   go_wp2_with fail
   refine (begun59 (k0.toNat:Int) (c0.toNat:Int) (s0.toNat:Int) wd).mono ?_
   rintro e wd ⟨rfl,gg⟩
   try replace HU:Hid (Room wd ub):=HU.out.grown gg
   replace G0:Hid (W.grownBy wd none):=grown_trans G0.out gg
   clear gg
   go_wp2_with fail
   refine hK.out _ _ (fun _=>G0.out) ?_
   clear hK K
   try simp only [pN]
   refine wpHold_one (i:=14) rfl (by kernel_rfl) (by rfl) (fun K hK=>?_)
   obtain ⟨r0,r1,r2,r3,r4,r5,r6,r7,r8,r9,r10,r11,r12,u0,u1,u2,u3,u4,u5,u6,u7,u8,u9,u10,u11,u12⟩:=HU.out.cells
   obtain ⟨z0,z1,z2,z3,z4,z5,z6,z7,z8,z9,z10,z11,z12⟩:=HU.out.frees
   unfold msgV
   go_wp2_with fail
   obtain ⟨wz,hwz,HZ⟩:=setM HU.out (.slice none 0 0) (.slice none 0 0) (beginM (k0.toNat:Int) (c0.toNat:Int) (s0.toNat:Int))
   rw [hwz]
   clear hwz
   clear r0 r1 r2 r3 r4 r5 r6 r7 r8 r9 r10 r11 r12 u0 u1 u2 u3 u4 u5 u6 u7 u8 u9 u10 u11 u12 z0 z1 z2 z3 z4 z5 z6 z7 z8 z9 z10 z11 z12
   have GZ:Hid (W.grownBy wz none):=grown_new G0.out HZ.out.2 (by intro x hx;simp at hx;have:=HUB.out;omega)
   refine hK.out _ _ (fun _=>GZ.out) ?_
   clear hK K
   try simp only [pN]
   refine wpHold_done (by kernel_rfl) ?_
   refine (‹∀(a:Act) (w:World),Met _ a w->_› _ _ ?_)
   go_meet
   case rel=>exact ⟨ub,rfl,HUB.out,HZ.out.1,GZ.out⟩
 case rest =>
  obtain ⟨X,rfl,hQ,hmb,hg⟩:=hcut
  obtain ⟨W1,hW1⟩:∃y:World,y=wc:=⟨_,rfl⟩
  subst hW1
  have H1:Hid (Room W1 w.heap.size/\MB W1 X (.slice none 0 0) (.slice none 0 0) (beginM (k0.toNat:Int) (c0.toNat:Int) (s0.toNat:Int))/\w.grownBy W1 none/\w.heap.size<X):=⟨(room_lit HW.out.1).grown hg,hmb,grown_trans HW.out.2.1 hg,by have:=HW.out.2.2;omega⟩
  clear hmb hg hQ HW
  go_upto_region 4 with fail
  go_cut [5] (fun x wc=>∃Rb b,x=.pointer (some ⟨Rb,0,none⟩)/\W1.heap.size<=Rb/\W1.heap.size<=b/\Blk wc Rb 259 #[.pointer (some ⟨b,0,none⟩),.slice so sn sc]/\RR wc b M/\W1.grownBy wc none)
  case first =>
   refine wp_region_noPanic ?_
   refine wp_region_hold 1000 (fun y=>W1.grownBy y none) (by kernel_rfl) ?_
   have G0:Hid (W1.grownBy W1.drew none):=grown_drew _ _
   generalize W1.drew=wd at G0 ⊢
   have J:Idx [0,1,3,4]:=trivial
   iterate 4 (refine tK J (G0.out) rfl rfl (fun wk hk=>by skip;go_simp;try rfl) ?_;replace J:=J.tl;try simp only [pN])
   clear J
   refine wpHold_two (i:=2) (j:=6) rfl rfl (by kernel_rfl) (by rfl) (by rfl) (fun K hK=>?_) (fun K hK=>?_)
   ·go_wp2_with fail
    refine (open86 (.slice so sn sc) M wd (HSG.out.grown (grown_trans H1.out.2.2.1 G0.out)) (by have h1:=HLN.out;have h2:=h1.1;simp at h2;omega)).mono ?_
    rintro e wd ⟨b,rfl,hbb,hrr,gg⟩
    have HRR:Hid (RR wd b M/\W1.heap.size<=b):=⟨hrr,Nat.le_trans G0.out.size hbb⟩
    try replace HU:Hid (Blk wd ub 259 #[.pointer none,.slice none 0 0]):=HU.out.grown gg (by simp)
    replace G0:Hid (W1.grownBy wd none):=grown_trans G0.out gg
    clear gg hbb hrr
    go_wp2_with fail
    refine hK.out _ _ (fun _=>G0.out) ?_
    clear hK K
    try simp only [pN]
    have J:Idx [5]:=trivial
    iterate 1 (refine tK J (G0.out) rfl rfl (fun wk hk=>by skip;go_simp;try rfl) ?_;replace J:=J.tl;try simp only [pN])
    clear J
    refine wpHold_one (i:=6) rfl (by kernel_rfl) (by rfl) (fun K hK=>?_)
    go_wp2_with fail
    obtain ⟨ub,hub⟩:∃x,wd.heap.size=x:=⟨_,rfl⟩
    have HUB:Hid (W1.heap.size<=ub):=by rw [<-hub];exact G0.out.size
    obtain ⟨wd,hwn,HA⟩:=al1' wd #[.pointer none,.slice none 0 0] 259
    rw [hwn,hub]
    rw [hub] at HA
    have HU:Hid (Blk wd ub 259 #[.pointer none,.slice none 0 0]):=HA.out.1
    try replace HRR:Hid (RR wd b M/\W1.heap.size<=b):=⟨HRR.out.1.grown HA.out.2.1,HRR.out.2⟩
    replace G0:Hid (W1.grownBy wd none):=grown_trans G0.out HA.out.2.1
    clear hwn hub HA
    refine hK.out _ _ (fun _=>G0.out) ?_
    clear hK K
    try simp only [pN]
    refine wpHold_one (i:=7) rfl (by kernel_rfl) (by rfl) (fun K hK=>?_)
    have y0:=HU.out.cell 0
    have y1:=HU.out.cell 1
    have z0:=HU.out.free 0
    have z1:=HU.out.free 1
    simp at y0 y1
    go_wp2_with fail
    have HZ:Hid (Blk ((wd.setCell ⟨ub,0,none⟩ (.pointer (some ⟨b,0,none⟩))).setCell ⟨ub,1,none⟩ (.slice so sn sc)) ub 259 #[.pointer (some ⟨b,0,none⟩),.slice so sn sc]/\RR ((wd.setCell ⟨ub,0,none⟩ (.pointer (some ⟨b,0,none⟩))).setCell ⟨ub,1,none⟩ (.slice so sn sc)) b M/\W1.grownBy ((wd.setCell ⟨ub,0,none⟩ (.pointer (some ⟨b,0,none⟩))).setCell ⟨ub,1,none⟩ (.slice so sn sc)) none):=by
     have s:=grown_trans (grown_setCell wd ub 0 (.pointer (some ⟨b,0,none⟩))) (grown_setCell (wd.setCell ⟨ub,0,none⟩ (.pointer (some ⟨b,0,none⟩))) ub 1 (.slice so sn sc))
     exact ⟨(HU.out.store 0 _).store 1 _,HRR.out.1.set HU.out s (by decide) (by decide),grown_new G0.out s (by intro x hx;simp at hx;have:=HUB.out;omega)⟩
    generalize (wd.setCell ⟨ub,0,none⟩ (.pointer (some ⟨b,0,none⟩))).setCell ⟨ub,1,none⟩ (.slice so sn sc)=wz at HZ ⊢
    clear y0 y1 z0 z1
    refine hK.out _ _ (fun _=>HZ.out.2.2) ?_
    clear hK K
    try simp only [pN]
    refine wpHold_done (by kernel_rfl) ?_
    refine (‹∀(a:Act) (w:World),Met _ a w->_› _ _ ?_)
    go_meet
    case rel=>exact ⟨ub,b,rfl,HUB.out,HRR.out.2,HZ.out⟩
   ·go_wp2_with fail
    obtain ⟨ub,hub⟩:∃x,wd.heap.size=x:=⟨_,rfl⟩
    have HUB:Hid (W1.heap.size<=ub):=by rw [<-hub];exact G0.out.size
    obtain ⟨wd,hwn,HA⟩:=al1' wd #[.pointer none,.slice none 0 0] 259
    rw [hwn,hub]
    rw [hub] at HA
    have HU:Hid (Blk wd ub 259 #[.pointer none,.slice none 0 0]):=HA.out.1
    try replace HRR:Hid (RR wd b M/\W1.heap.size<=b):=⟨HRR.out.1.grown HA.out.2.1,HRR.out.2⟩
    replace G0:Hid (W1.grownBy wd none):=grown_trans G0.out HA.out.2.1
    clear hwn hub HA
    refine hK.out _ _ (fun _=>G0.out) ?_
    clear hK K
    try simp only [pN]
    refine wpHold_one (i:=2) rfl (by kernel_rfl) (by rfl) (fun K hK=>?_)
    go_wp2_with fail
    refine (open86 (.slice so sn sc) M wd (HSG.out.grown (grown_trans H1.out.2.2.1 G0.out)) (by have h1:=HLN.out;have h2:=h1.1;simp at h2;omega)).mono ?_
    rintro e wd ⟨b,rfl,hbb,hrr,gg⟩
    have HRR:Hid (RR wd b M/\W1.heap.size<=b):=⟨hrr,Nat.le_trans G0.out.size hbb⟩
    try replace HU:Hid (Blk wd ub 259 #[.pointer none,.slice none 0 0]):=HU.out.grown gg (by simp)
    replace G0:Hid (W1.grownBy wd none):=grown_trans G0.out gg
    clear gg hbb hrr
    go_wp2_with fail
    refine hK.out _ _ (fun _=>G0.out) ?_
    clear hK K
    try simp only [pN]
    have J:Idx [5]:=trivial
    iterate 1 (refine tK J (G0.out) rfl rfl (fun wk hk=>by skip;go_simp;try rfl) ?_;replace J:=J.tl;try simp only [pN])
    clear J
    refine wpHold_one (i:=7) rfl (by kernel_rfl) (by rfl) (fun K hK=>?_)
    have y0:=HU.out.cell 0
    have y1:=HU.out.cell 1
    have z0:=HU.out.free 0
    have z1:=HU.out.free 1
    simp at y0 y1
    go_wp2_with fail
    have HZ:Hid (Blk ((wd.setCell ⟨ub,0,none⟩ (.pointer (some ⟨b,0,none⟩))).setCell ⟨ub,1,none⟩ (.slice so sn sc)) ub 259 #[.pointer (some ⟨b,0,none⟩),.slice so sn sc]/\RR ((wd.setCell ⟨ub,0,none⟩ (.pointer (some ⟨b,0,none⟩))).setCell ⟨ub,1,none⟩ (.slice so sn sc)) b M/\W1.grownBy ((wd.setCell ⟨ub,0,none⟩ (.pointer (some ⟨b,0,none⟩))).setCell ⟨ub,1,none⟩ (.slice so sn sc)) none):=by
     have s:=grown_trans (grown_setCell wd ub 0 (.pointer (some ⟨b,0,none⟩))) (grown_setCell (wd.setCell ⟨ub,0,none⟩ (.pointer (some ⟨b,0,none⟩))) ub 1 (.slice so sn sc))
     exact ⟨(HU.out.store 0 _).store 1 _,HRR.out.1.set HU.out s (by decide) (by decide),grown_new G0.out s (by intro x hx;simp at hx;have:=HUB.out;omega)⟩
    generalize (wd.setCell ⟨ub,0,none⟩ (.pointer (some ⟨b,0,none⟩))).setCell ⟨ub,1,none⟩ (.slice so sn sc)=wz at HZ ⊢
    clear y0 y1 z0 z1
    refine hK.out _ _ (fun _=>HZ.out.2.2) ?_
    clear hK K
    try simp only [pN]
    refine wpHold_done (by kernel_rfl) ?_
    refine (‹∀(a:Act) (w:World),Met _ a w->_› _ _ ?_)
    go_meet
    case rel=>exact ⟨ub,b,rfl,HUB.out,HRR.out.2,HZ.out⟩
  case rest =>
   obtain ⟨Rb,b,rfl,hR1,hR2,hblk,hrr,hg⟩:=hcut
   obtain ⟨W2,hW2⟩:∃y:World,y=wc:=⟨_,rfl⟩
   subst hW2
   have H2:Hid (Room W2 w.heap.size/\MB W2 X (.slice none 0 0) (.slice none 0 0) (beginM (k0.toNat:Int) (c0.toNat:Int) (s0.toNat:Int))/\w.grownBy W2 none/\w.heap.size<X/\w.heap.size<=b/\w.heap.size<Rb/\X<Rb/\RR W2 b M/\Blk W2 Rb 259 #[.pointer (some ⟨b,0,none⟩),.slice so sn sc]/\Rb≠b):=by
    have a1:=H1.out.2.1.lt
    have a2:=H1.out.2.2.2
    refine ⟨H1.out.1.grown hg,H1.out.2.1.grown hg,grown_trans H1.out.2.2.1 hg,a2,by omega,by omega,by omega,hrr,hblk,hrr.ne hblk (by decide)⟩
   clear hblk hrr hg hR1 hR2 H1 hsl
   have d0:=H2.out.2.2.2.2.2.2.2.2.1.cell 0
   have d1:=H2.out.2.2.2.2.2.2.2.2.1.cell 1
   simp at d0 d1
   go_wp2_with fail
   refine (fill61 X b so sn sc none 0 0 none 0 0 (beginM (k0.toNat:Int) (c0.toNat:Int) (s0.toNat:Int)) M W2 H2.out.2.1 H2.out.2.2.2.2.2.2.2.1).mono ?_
   rintro e w3 hh
   rcases hh with ⟨hrn,rfl,hfr⟩ | ⟨r,N,hrn,rfl,hm3,hr3,hfr⟩
   ·have H3:Hid (Room w3 w.heap.size/\w.grownBy w3 none):=by
     have a2:=H2.out.2.2.2.1
     have a3:=H2.out.2.2.2.2.1
     refine ⟨?_,fr_grown H2.out.2.2.1 hfr (by omega) (by omega)⟩
     obtain ⟨g0,g1,g2,g3,g4,g5,g6,g7,g8,g9,g10,g11,g12,hrm⟩:=H2.out.1
     refine room_lit (hrm.same (hfr.block _ hrm.lt (fun e=>?_)))
     rcases e with e | e
     ·omega
     ·obtain ⟨s,hsb⟩:=H2.out.2.2.2.2.2.2.2.1.blk
      rw [e] at hrm
      exact absurd (blk_type hrm hsb) (by decide)
    have HE:Hid (pMsg (k0 :: c0 :: s0 :: M)=none):=by simp only [Hid,pMsg,restM,hrn];rfl
    clear hrn hfr H2 d0 d1
    obtain ⟨r0,r1,r2,r3,r4,r5,r6,r7,r8,r9,r10,r11,r12,u0,u1,u2,u3,u4,u5,u6,u7,u8,u9,u10,u11,u12⟩:=H3.out.1.cells
    obtain ⟨z0,z1,z2,z3,z4,z5,z6,z7,z8,z9,z10,z11,z12⟩:=H3.out.1.frees
    go_wp2_with fail
    obtain ⟨W6,hW6,H6⟩:=setM H3.out.1 (.slice none 0 0) (.slice none 0 0) zeroM
    unfold zeroM zeroC zeroR at hW6
    dsimp only at hW6
    rw [hW6]
    clear hW6
    refine bodyPost_ret (v:=_) (results_row_tmp rfl _ _ w.heap.size _ rfl (loadM H6.out.1 isSl_nil isSl_nil)) rfl ?_
    exact ⟨4,(.slice none 0 0),(.slice none 0 0),zeroM,rfl,opsOwn_nil _ _,Own.nil _ _,grown_new H3.out.2 H6.out.2 (by intro x hx;simp at hx;omega),.inr ⟨rfl,HE.out⟩⟩
   ·have H3:Hid (Room w3 w.heap.size/\w.grownBy w3 none/\MB w3 X (.slice none 0 0) (.slice none 0 0) r/\RR w3 b N/\Blk w3 Rb 259 #[.pointer (some ⟨b,0,none⟩),.slice so sn sc]/\w.heap.size<X):=by
     have a2:=H2.out.2.2.2.1
     have a3:=H2.out.2.2.2.2.1
     have a4:=H2.out.2.2.2.2.2.2.1
     have a5:=H2.out.2.2.2.2.2.2.2.2.2
     refine ⟨?_,fr_grown H2.out.2.2.1 hfr (by omega) (by omega),hm3,hr3,H2.out.2.2.2.2.2.2.2.2.1.same (hfr.block _ H2.out.2.2.2.2.2.2.2.2.1.lt (fun e=>by rcases e with e | e <;> omega)),a2⟩
     obtain ⟨g0,g1,g2,g3,g4,g5,g6,g7,g8,g9,g10,g11,g12,hrm⟩:=H2.out.1
     refine room_lit (hrm.same (hfr.block _ hrm.lt (fun e=>?_)))
     rcases e with e | e
     ·omega
     ·obtain ⟨s,hsb⟩:=H2.out.2.2.2.2.2.2.2.1.blk
      rw [e] at hrm
      exact absurd (blk_type hrm hsb) (by decide)
    have HP:Hid (pMsg (k0 :: c0 :: s0 :: M)=lastOf r N):=by simp only [Hid,pMsg,restM,hrn];rfl
    have HMN:Hid (N.length<=M.length/\M.drop (M.length-N.length)=N/\r.ask.ops=[]/\r.tell.answer=[]):=by
     obtain ⟨h1,_⟩:=readNums_inv _ _ r M N (fun f hf=>(fld_off _ f hf).1) (fld_distinct _) (begin_in k0 c0 s0) hrn
     refine ⟨by rw [h1,List.length_append];omega,?_,readNums_ops _ _ _ _ _ hrn,readNums_ans _ _ _ _ _ hrn⟩
     conv=>lhs;rw [h1]
     rw [List.length_append,Nat.add_sub_cancel,List.drop_left]
    have HML:Hid (M.length<=140737488355328):=by have h1:=HLN.out;have h2:=h1.1;simp at h2;unfold Hid;omega
    have HLS:Hid (∀y,w3.grownBy y none->Calls Tryz.prog 191 #[.agg #[.pointer (some ⟨b,0,none⟩),.slice so sn sc],.pointer (some ⟨X,0,none⟩)] y (LastP X r N y)):=fun y hy=>last63 X b so sn sc r M N y (H3.out.2.2.1.grown hy) HMN.out.2.2.1 HMN.out.2.2.2 (H3.out.2.2.2.1.grown hy) (HSG.out.grown (grown_trans H3.out.2.1 hy)) HSN.out HMN.out.1 HMN.out.2.1 HML.out
    clear hrn hfr hm3 hr3 H2 d0 d1
    have HXR:Hid (Room w3 w.heap.size/\MB w3 X (.slice none 0 0) (.slice none 0 0) r/\w.grownBy w3 none/\w.heap.size<X):=⟨H3.out.1,H3.out.2.2.1,H3.out.2.1,H3.out.2.2.2.2.2⟩
    have d0:=H3.out.2.2.2.2.1.cell 0
    have d1:=H3.out.2.2.2.2.1.cell 1
    simp at d0 d1
    clear H3
    go_wp2_with fail
    refine (HLS.out w3 (grown_refl _ _)).mono ?_
    rintro e w4 ⟨er,ov,av,q,rfl,g4,hm4,ho4,ha4,hd⟩
    clear HLS d0 d1
    have H4:Hid (Room w4 w.heap.size/\MB w4 X ov av q/\OpsOwn w4 w.heap.size ov q.ask.ops/\Own w4 w.heap.size av q.tell.answer/\w.grownBy w4 none):=by
     have a2:=HXR.out.2.2.2
     have a3:=HXR.out.2.2.1.size
     exact ⟨HXR.out.1.but g4 (by omega),hm4,ho4.mono a3,ha4.mono a3,grown_new HXR.out.2.2.1 g4 (by intro x hx;simp at hx;omega)⟩
    obtain ⟨ao,n,ca,rfl⟩:=isSl_ow ho4
    obtain ⟨bo,p,cb,rfl⟩:=isSl_on ha4
    clear g4 hm4 ho4 ha4 HXR
    obtain ⟨r0,r1,r2,r3,r4,r5,r6,r7,r8,r9,r10,r11,r12,u0,u1,u2,u3,u4,u5,u6,u7,u8,u9,u10,u11,u12⟩:=H4.out.1.cells
    obtain ⟨z0,z1,z2,z3,z4,z5,z6,z7,z8,z9,z10,z11,z12⟩:=H4.out.1.frees
    rcases hd with ⟨rfl,hl⟩ | ⟨he,hl⟩
    rotate_left
    ·have q1:(er != 0)=true:=by simp at he ⊢;exact he
     have HE:Hid ((er==0)=false/\pMsg (k0 :: c0 :: s0 :: M)=none):=⟨he,HP.out.trans hl⟩
     clear he hl
     go_wp2_with fail
     obtain ⟨W6,hW6,H6⟩:=setM H4.out.1 (.slice none 0 0) (.slice none 0 0) zeroM
     unfold zeroM zeroC zeroR at hW6
     dsimp only at hW6
     rw [hW6]
     clear hW6
     refine bodyPost_ret (v:=_) (results_row_tmp rfl _ _ w.heap.size _ rfl (loadM H6.out.1 isSl_nil isSl_nil)) rfl ?_
     exact ⟨er,(.slice none 0 0),(.slice none 0 0),zeroM,rfl,opsOwn_nil _ _,Own.nil _ _,grown_new H4.out.2.2.2.2 H6.out.2 (by intro x hx;simp at hx;omega),.inr HE.out⟩
    ·have HE:Hid (pMsg (k0 :: c0 :: s0 :: M)=some q):=HP.out.trans hl
     clear hl
     obtain ⟨c0,c1,c2,c3,c4,c5,c6,c7,c8,c9,c10,c11,c12⟩:=H4.out.2.1.cells
     go_wp2_with fail
     obtain ⟨W6,hW6,H6⟩:=setM H4.out.1 (.slice ao n ca) (.slice bo p cb) q
     rw [hW6]
     clear hW6
     refine bodyPost_ret (v:=_) (results_row_tmp rfl _ _ w.heap.size _ rfl (loadM H6.out.1 ⟨_,_,_,rfl⟩ ⟨_,_,_,rfl⟩)) rfl ?_
     obtain ⟨k0,k1,k2,k3,k4,k5,k6,k7,k8,k9,k10,k11,k12,HRB⟩:=H4.out.1
     exact ⟨0,(.slice ao n ca),(.slice bo p cb),q,rfl,H4.out.2.2.1.set HRB (by decide) (by decide) H6.out.2,own_set H4.out.2.2.2.1 HRB (by decide) H6.out.2,grown_new H4.out.2.2.2.2 H6.out.2 (by intro x hx;simp at hx;omega),.inl ⟨rfl,HE.out⟩⟩
theorem read_good:ReadGood:=fun v L w hs hz=>by
 by_cases hl:L.length<3
 ·exact read38_short v L w hs hl
 ·match L,hs,hz,hl with
  | k0 :: c0 :: s0 :: M,hs,hz,_=>exact read38_long v k0 c0 s0 M w hs hz
  | [],_,_,hl=>exact absurd (by simp) hl
  | [_],_,_,hl=>exact absurd (by simp) hl
  | [_,_],_,_,hl=>exact absurd (by simp) hl
end Go.Proofs.YtanoabliahcbeaaGreat
