import Derived.Test.YtanoabliahcbeaaGreatKacAll
set_option maxHeartbeats 4000000
set_option maxRecDepth 100000
namespace Go.Proofs.YtanoabliahcbeaaGreat.Wn
open Go.RowKit Disk
open _root_.Go.Proofs.YtanoabliahcbeaaGreat.Calls _root_.Go.Proofs.YtanoabliahcbeaaGreat.Command
variable {Q F:Nat->Prop} {w w':World} {b:Nat} {oa wo:Option Addr} {wc:Nat} {s:CS}
theorem ops_none (w:World):Ops w (.slice none 0 0) []:=OpsOwn.ops (opsOwn_nil w 0)
theorem ok_open (h:Okc s):okM (msgOpen s)=true/\InC (msgOpen s).ask:=by
 have h1:=h.num
 have h2:=h.tok
 have h3:((s.num:Nat):Int)<8:=by omega
 have h4:1<=s.tok:=by omega
 refine ⟨?_,?_⟩
 ·simp [okM,msgOpen,okC,fitC,idOk,idC,markOk,namedC,h3,h4]
 ·constructor <;> dsimp only [msgOpen] <;> omega
theorem ok_close (h:Okc s)(h0:1<=s.ses):okM (msgClose s)=true/\InC (msgClose s).ask:=by
 have h1:=h.num
 have h2:=h.ses
 have h3:((s.num:Nat):Int)<8:=by omega
 refine ⟨?_,?_⟩
 ·simp [okM,msgClose,okC,fitC,idOk,idC,markOk,namedC,h3,h0]
 ·constructor <;> dsimp only [msgClose] <;> omega
theorem ok_call (h:Okc s)(h0:1<=s.ses){k:Nat}{c:Cr}(hk:lead s.L<=k)(hl:s.L[k]? = some (some c)):okM (msgCall s k c)=true/\InC (msgCall s k c).ask:=by
 have h1:=h.num
 have h2:=h.ses
 have h4:=h.last
 have h5:=(List.getElem?_eq_some_iff.1 hl).1
 have h6:=h.call c (.inl (List.mem_iff_getElem?.2 ⟨k,hl⟩))
 have h3:((s.num:Nat):Int)<8:=by omega
 have h7:((lead s.L:Nat):Int)<(k:Int)+1:=by omega
 have h8:chk c.ops=0:=by unfold chk;rw [if_pos h6.1,if_pos h6.2.1]
 refine ⟨?_,?_⟩
 ·simp [okM,msgCall,okC,fitC,idOk,idC,markOk,namedC,h3,h0,h7,h8]
 ·constructor <;> dsimp only [msgCall] <;> omega
theorem msgs_one {w:World}{B g:Nat}{ov av:Value}{m:PMsg}(hb:MB w g ov av m)(hB:B<=g)(h1:OpsOwn w B ov m.ask.ops)(h2:Disk.Own w B av m.tell.answer):MsgsOwn w B (.slice (some ⟨g,0,none⟩) 1 1) [m]:=by
 refine ⟨⟨[[.int .i64 m.kind,.int .i64 m.client,.int .i64 m.ask.kind,.int .i64 m.ask.token,.int .i64 m.ask.session,.int .i64 m.ask.number,.int .i64 m.ask.mark,ov,.int .i64 m.tell.kind,.int .i64 m.tell.token,.int .i64 m.tell.session,.int .i64 m.tell.number,av]],⟨rfl,.inr ⟨g,1,_,rfl,hB,hb,Nat.le_refl _,by decide,rfl,rfl⟩⟩,rfl,by simp,fun j hj hj'=>?_⟩,by simp⟩
 have:j=0:=by simp at hj;omega
 subst this
 exact ⟨ov,av,rfl,h1,h2⟩
def AskP (num:Nat)(c:PCmd)(w:World)(e:Ending)(w':World):Prop:=∃ov av,e=.returned (msgV ov av ⟨1,num,c,zeroR⟩)/\OpsOwn w' w.heap.size ov c.ops/\Disk.Own w' w.heap.size av []/\w.grownBy w' none
theorem ask43 (b:Nat)(num:Nat)(ov:Value)(c:PCmd)(w:World)(hb:w.cell? ⟨b,0,none⟩=some (.int .i64 num))(ho:Ops w ov c.ops)(hi:InC c)(hn:num<=7)(hok:okM ⟨1,num,c,zeroR⟩=true):Calls Tryz.prog 43 #[.pointer (some ⟨b,0,none⟩),cmdV ov c] w (AskP num c w):=by
 obtain ⟨ao,n,ca,rfl⟩:=isSl_ops ho
 have HS:Hid (Ops w (.slice ao n ca) c.ops/\InC c/\num<=7):=⟨ho,hi,hn⟩
 have HM:Hid (anewM ⟨1,num,c,zeroR⟩=⟨1,num,c,zeroR⟩/\errM ⟨1,num,c,zeroR⟩=0):=⟨by unfold anewM;rw [hok];rfl,by unfold errM;rw [hok];rfl⟩
 clear ho hi hn hok
 unfold cmdV
 go_enter Tryz.func43,Tryz.ntmps43
 go_upto_region 1 with fail
 obtain ⟨W,hW,HW⟩:=al2 w #[.int .i64 c.kind,.int .i64 c.token,.int .i64 c.session,.int .i64 c.number,.int .i64 c.mark,.slice ao n ca] #[.int .i64 0,.int .i64 0,.int .i64 0,.int .i64 0,.int .i64 0,.int .i64 0,.int .i64 0,.slice none 0 0,.int .i64 0,.int .i64 0,.int .i64 0,.int .i64 0,.slice none 0 0] 39 45
 rw [hW]
 clear hW
 have HM1:Hid (Room W (w.heap.size+1)/\w.grownBy W none):=⟨room_lit HW.out.2.1,HW.out.2.2.1⟩
 have c0:=HW.out.2.2.1.cell hb (by simp)
 have d:=HW.out.1.cell
 have d0:=d 0
 have d1:=d 1
 have d2:=d 2
 have d3:=d 3
 have d4:=d 4
 have d5:=d 5
 simp at d0 d1 d2 d3 d4 d5
 clear d HW hb
 refine wp_region_hold 1000 (fun y=>W.grownBy y none) (by kernel_rfl) ?_
 have HD:Hid (W.grownBy W.drew none):=grown_drew _ _
 generalize W.drew=wd at HD ⊢
 have J:Idx [0,1,2,3,4]:=trivial
 iterate 5 (refine tK J (HD.out) rfl rfl (fun wk hk=>by have k0:=hk.cell c0 (by simp);have j0:=hk.cell d0 (by simp);have j1:=hk.cell d1 (by simp);have j2:=hk.cell d2 (by simp);have j3:=hk.cell d3 (by simp);have j4:=hk.cell d4 (by simp);have j5:=hk.cell d5 (by simp);go_simp;try rfl) ?_;replace J:=J.tl;try simp only [pN])
 clear J
 refine wpHold_two (i:=5) (j:=9) rfl rfl (by kernel_rfl) (by rfl) (by rfl) (fun K hK=>?_) (fun K hK=>?_)
 ·go_wp2_with fail
  refine (ask10 read_good (num:Int) (.slice ao n ca) c wd (HS.out.1.grown (grown_trans HM1.out.2 HD.out)) HS.out.2.1 (by omega) (by have:=HS.out.2.2;omega)).mono ?_
  rintro e w5 ⟨ov',av',he,ho,ha,hg⟩
  rw [HM.out.1,HM.out.2] at he
  rw [HM.out.1] at ho ha
  subst he
  unfold msgV zeroR
  dsimp only
  have H5:Hid (Room w5 (w.heap.size+1)/\w.grownBy w5 none/\W.grownBy w5 none/\OpsOwn w5 w.heap.size ov' c.ops/\Disk.Own w5 w.heap.size av' []):=⟨HM1.out.1.grown (grown_trans HD.out hg),grown_trans HM1.out.2 (grown_trans HD.out hg),grown_trans HD.out hg,ho.mono (Nat.le_trans HM1.out.2.size HD.out.size),ha.mono (Nat.le_trans HM1.out.2.size HD.out.size)⟩
  obtain ⟨uo,un,uc,rfl⟩:=isSl_ow ho
  obtain ⟨vo,vn,vc,rfl⟩:=isSl_on ha
  clear ho ha hg
  go_wp2_with fail
  refine hK.out _ _ (fun _=>H5.out.2.2.1) ?_
  clear hK K
  try simp only [pN]
  have J:Idx [6,7,8]:=trivial
  iterate 3 (refine tK J (H5.out.2.2.1) rfl rfl (fun wk hk=>by have k0:=hk.cell c0 (by simp);have j0:=hk.cell d0 (by simp);have j1:=hk.cell d1 (by simp);have j2:=hk.cell d2 (by simp);have j3:=hk.cell d3 (by simp);have j4:=hk.cell d4 (by simp);have j5:=hk.cell d5 (by simp);go_simp;try rfl) ?_;replace J:=J.tl;try simp only [pN])
  clear J
  refine wpHold_one (i:=9) rfl (by kernel_rfl) (by rfl) (fun K hK=>?_)
  obtain ⟨w6,hw6,H6⟩:=al1 w5 #[.int .i64 0,.int .i64 0,.int .i64 0,.int .i64 0,.int .i64 0,.int .i64 0,.int .i64 0,.slice none 0 0,.int .i64 0,.int .i64 0,.int .i64 0,.int .i64 0,.slice none 0 0] 45
  obtain ⟨p,hp⟩:∃x,w5.heap.size=x:=⟨_,rfl⟩
  rw [hp] at H6
  have HW6:Hid (w5.alloc (.cells #[.int .i64 0,.int .i64 0,.int .i64 0,.int .i64 0,.int .i64 0,.int .i64 0,.int .i64 0,.slice none 0 0,.int .i64 0,.int .i64 0,.int .i64 0,.int .i64 0,.slice none 0 0] 45)=w6/\w5.heap.size=p):=⟨hw6,hp⟩
  clear hw6 hp
  go_wp2_with fail
  rw [HW6.out.1,HW6.out.2]
  have H7:Hid (Room w6 p/\Room w6 (w.heap.size+1)/\w.grownBy w6 none/\W.grownBy w6 none/\OpsOwn w6 w.heap.size (.slice uo un uc) c.ops/\Disk.Own w6 w.heap.size (.slice vo vn vc) []/\w.heap.size+1<p/\W.heap.size<=p):=⟨room_lit H6.out.1,H5.out.1.grown H6.out.2.1,grown_trans H5.out.2.1 H6.out.2.1,grown_trans H5.out.2.2.1 H6.out.2.1,H5.out.2.2.2.1.grown H6.out.2.1,H5.out.2.2.2.2.grown H6.out.2.1,by have:=H5.out.1.lt;have:=HW6.out.2;omega,by have:=H5.out.2.2.1.size;have:=HW6.out.2;omega⟩
  clear HW6 H6
  refine hK.out _ _ (fun _=>H7.out.2.2.2.1) ?_
  clear hK K
  try simp only [pN]
  refine wpHold_one (i:=10) rfl (by kernel_rfl) (by rfl) (fun K hK=>?_)
  obtain ⟨r0,r1,r2,r3,r4,r5,r6,r7,r8,r9,r10,r11,r12,u0,u1,u2,u3,u4,u5,u6,u7,u8,u9,u10,u11,u12⟩:=H7.out.1.cells
  obtain ⟨z0,z1,z2,z3,z4,z5,z6,z7,z8,z9,z10,z11,z12⟩:=H7.out.1.frees
  go_wp2_with fail
  obtain ⟨W8,hW8,H8⟩:=setM H7.out.1 (.slice uo un uc) (.slice vo vn vc) ⟨1,num,c,zeroR⟩
  unfold zeroR at hW8
  dsimp only at hW8
  rw [hW8]
  clear hW8 u0 u1 u2 u3 u4 u5 u6 u7 u8 u9 u10 u11 u12 z0 z1 z2 z3 z4 z5 z6 z7 z8 z9 z10 z11 z12
  have H9:Hid (MB W8 p (.slice uo un uc) (.slice vo vn vc) ⟨1,num,c,zeroR⟩/\Room W8 (w.heap.size+1)/\w.grownBy W8 none/\W.grownBy W8 none/\OpsOwn W8 w.heap.size (.slice uo un uc) c.ops/\Disk.Own W8 w.heap.size (.slice vo vn vc) []):=by
   obtain ⟨k0,k1,k2,k3,k4,k5,k6,k7,k8,k9,k10,k11,k12,HRB⟩:=H7.out.1
   have h:=H7.out
   exact ⟨H8.out.1,h.2.1.but H8.out.2 (by omega),grown_new h.2.2.1 H8.out.2 (by intro x hx;simp at hx;omega),grown_new h.2.2.2.1 H8.out.2 (by intro x hx;simp at hx;omega),h.2.2.2.2.1.set HRB (by decide) (by decide) H8.out.2,own_set h.2.2.2.2.2.1 HRB (by decide) H8.out.2⟩
  clear H8
  refine hK.out _ _ (fun _=>H9.out.2.2.2.1) ?_
  clear hK K
  try simp only [pN]
  have J:Idx [11]:=trivial
  iterate 1 (refine tK J (H9.out.2.2.2.1) rfl rfl (fun wk hk=>by have k0:=hk.cell c0 (by simp);have j0:=hk.cell d0 (by simp);have j1:=hk.cell d1 (by simp);have j2:=hk.cell d2 (by simp);have j3:=hk.cell d3 (by simp);have j4:=hk.cell d4 (by simp);have j5:=hk.cell d5 (by simp);go_simp;try rfl) ?_;replace J:=J.tl;try simp only [pN])
  clear J
  refine wpHold_done (by kernel_rfl) ?_
  refine (‹∀(a:Act) (w:World),Code.wp Tryz.prog _ _ a w->_› _ _ ?_)
  clear c0 d0 d1 d2 d3 d4 d5
  obtain ⟨r0,r1,r2,r3,r4,r5,r6,r7,r8,r9,r10,r11,r12,u0,u1,u2,u3,u4,u5,u6,u7,u8,u9,u10,u11,u12⟩:=H9.out.2.1.cells
  obtain ⟨z0,z1,z2,z3,z4,z5,z6,z7,z8,z9,z10,z11,z12⟩:=H9.out.2.1.frees
  obtain ⟨c0,c1,c2,c3,c4,c5,c6,c7,c8,c9,c10,c11,c12⟩:=H9.out.1.cells
  dsimp only [zeroR] at c0 c1 c2 c3 c4 c5 c6 c7 c8 c9 c10 c11 c12
  go_wp2_with fail
  obtain ⟨W6,hW6,H6⟩:=setM H9.out.2.1 (.slice uo un uc) (.slice vo vn vc) ⟨1,num,c,zeroR⟩
  unfold zeroR at hW6
  dsimp only at hW6
  rw [hW6]
  clear hW6
  refine bodyPost_ret (v:=_) (results_cell_row rfl _ _ (w.heap.size+1) 45 _ (0,0) _ rfl H6.out.1 Tryz.underlying45 rfl (by kernel_rfl)) rfl ?_
  obtain ⟨k0,k1,k2,k3,k4,k5,k6,k7,k8,k9,k10,k11,k12,HRB⟩:=H9.out.2.1
  exact ⟨(.slice uo un uc),(.slice vo vn vc),rfl,H9.out.2.2.2.2.1.set HRB (by decide) (by decide) H6.out.2,own_set H9.out.2.2.2.2.2 HRB (by decide) H6.out.2,grown_new H9.out.2.2.1 H6.out.2 (by intro x hx;simp at hx;omega)⟩
 ·obtain ⟨w5,hw6,H6⟩:=al1 wd #[.int .i64 0,.int .i64 0,.int .i64 0,.int .i64 0,.int .i64 0,.int .i64 0,.int .i64 0,.slice none 0 0,.int .i64 0,.int .i64 0,.int .i64 0,.int .i64 0,.slice none 0 0] 45
  obtain ⟨p,hp⟩:∃x,wd.heap.size=x:=⟨_,rfl⟩
  rw [hp] at H6
  have HW6:Hid (wd.alloc (.cells #[.int .i64 0,.int .i64 0,.int .i64 0,.int .i64 0,.int .i64 0,.int .i64 0,.int .i64 0,.slice none 0 0,.int .i64 0,.int .i64 0,.int .i64 0,.int .i64 0,.slice none 0 0] 45)=w5/\wd.heap.size=p):=⟨hw6,hp⟩
  clear hw6 hp
  go_wp2_with fail
  rw [HW6.out.1,HW6.out.2]
  have H5:Hid (Room w5 p/\Room w5 (w.heap.size+1)/\w.grownBy w5 none/\W.grownBy w5 none/\w.heap.size+1<p/\W.heap.size<=p):=⟨room_lit H6.out.1,HM1.out.1.grown (grown_trans HD.out H6.out.2.1),grown_trans HM1.out.2 (grown_trans HD.out H6.out.2.1),grown_trans HD.out H6.out.2.1,by have:=HM1.out.1.lt;have:=HW6.out.2;have:=HD.out.size;omega,by have:=HD.out.size;have:=HW6.out.2;omega⟩
  clear HW6 H6
  refine hK.out _ _ (fun _=>H5.out.2.2.2.1) ?_
  clear hK K
  try simp only [pN]
  refine wpHold_one (i:=5) rfl (by kernel_rfl) (by rfl) (fun K hK=>?_)
  go_wp2_with fail
  refine (ask10 read_good (num:Int) (.slice ao n ca) c w5 (HS.out.1.grown H5.out.2.2.1) HS.out.2.1 (by omega) (by have:=HS.out.2.2;omega)).mono ?_
  rintro e w6 ⟨ov',av',he,ho,ha,hg⟩
  rw [HM.out.1,HM.out.2] at he
  rw [HM.out.1] at ho ha
  subst he
  unfold msgV zeroR
  dsimp only
  have H7:Hid (Room w6 p/\Room w6 (w.heap.size+1)/\w.grownBy w6 none/\W.grownBy w6 none/\OpsOwn w6 w.heap.size ov' c.ops/\Disk.Own w6 w.heap.size av' []/\w.heap.size+1<p/\W.heap.size<=p):=⟨H5.out.1.grown hg,H5.out.2.1.grown hg,grown_trans H5.out.2.2.1 hg,grown_trans H5.out.2.2.2.1 hg,ho.mono H5.out.2.2.1.size,ha.mono H5.out.2.2.1.size,H5.out.2.2.2.2⟩
  obtain ⟨uo,un,uc,rfl⟩:=isSl_ow ho
  obtain ⟨vo,vn,vc,rfl⟩:=isSl_on ha
  clear ho ha hg
  go_wp2_with fail
  refine hK.out _ _ (fun _=>H7.out.2.2.2.1) ?_
  clear hK K
  try simp only [pN]
  have J:Idx [6,7,8]:=trivial
  iterate 3 (refine tK J (H7.out.2.2.2.1) rfl rfl (fun wk hk=>by have k0:=hk.cell c0 (by simp);have j0:=hk.cell d0 (by simp);have j1:=hk.cell d1 (by simp);have j2:=hk.cell d2 (by simp);have j3:=hk.cell d3 (by simp);have j4:=hk.cell d4 (by simp);have j5:=hk.cell d5 (by simp);go_simp;try rfl) ?_;replace J:=J.tl;try simp only [pN])
  clear J
  refine wpHold_one (i:=10) rfl (by kernel_rfl) (by rfl) (fun K hK=>?_)
  obtain ⟨r0,r1,r2,r3,r4,r5,r6,r7,r8,r9,r10,r11,r12,u0,u1,u2,u3,u4,u5,u6,u7,u8,u9,u10,u11,u12⟩:=H7.out.1.cells
  obtain ⟨z0,z1,z2,z3,z4,z5,z6,z7,z8,z9,z10,z11,z12⟩:=H7.out.1.frees
  go_wp2_with fail
  obtain ⟨W8,hW8,H8⟩:=setM H7.out.1 (.slice uo un uc) (.slice vo vn vc) ⟨1,num,c,zeroR⟩
  unfold zeroR at hW8
  dsimp only at hW8
  rw [hW8]
  clear hW8 u0 u1 u2 u3 u4 u5 u6 u7 u8 u9 u10 u11 u12 z0 z1 z2 z3 z4 z5 z6 z7 z8 z9 z10 z11 z12
  have H9:Hid (MB W8 p (.slice uo un uc) (.slice vo vn vc) ⟨1,num,c,zeroR⟩/\Room W8 (w.heap.size+1)/\w.grownBy W8 none/\W.grownBy W8 none/\OpsOwn W8 w.heap.size (.slice uo un uc) c.ops/\Disk.Own W8 w.heap.size (.slice vo vn vc) []):=by
   obtain ⟨k0,k1,k2,k3,k4,k5,k6,k7,k8,k9,k10,k11,k12,HRB⟩:=H7.out.1
   have h:=H7.out
   exact ⟨H8.out.1,h.2.1.but H8.out.2 (by omega),grown_new h.2.2.1 H8.out.2 (by intro x hx;simp at hx;omega),grown_new h.2.2.2.1 H8.out.2 (by intro x hx;simp at hx;omega),h.2.2.2.2.1.set HRB (by decide) (by decide) H8.out.2,own_set h.2.2.2.2.2.1 HRB (by decide) H8.out.2⟩
  clear H8
  refine hK.out _ _ (fun _=>H9.out.2.2.2.1) ?_
  clear hK K
  try simp only [pN]
  have J:Idx [11]:=trivial
  iterate 1 (refine tK J (H9.out.2.2.2.1) rfl rfl (fun wk hk=>by have k0:=hk.cell c0 (by simp);have j0:=hk.cell d0 (by simp);have j1:=hk.cell d1 (by simp);have j2:=hk.cell d2 (by simp);have j3:=hk.cell d3 (by simp);have j4:=hk.cell d4 (by simp);have j5:=hk.cell d5 (by simp);go_simp;try rfl) ?_;replace J:=J.tl;try simp only [pN])
  clear J
  refine wpHold_done (by kernel_rfl) ?_
  refine (‹∀(a:Act) (w:World),Code.wp Tryz.prog _ _ a w->_› _ _ ?_)
  clear c0 d0 d1 d2 d3 d4 d5
  obtain ⟨r0,r1,r2,r3,r4,r5,r6,r7,r8,r9,r10,r11,r12,u0,u1,u2,u3,u4,u5,u6,u7,u8,u9,u10,u11,u12⟩:=H9.out.2.1.cells
  obtain ⟨z0,z1,z2,z3,z4,z5,z6,z7,z8,z9,z10,z11,z12⟩:=H9.out.2.1.frees
  obtain ⟨c0,c1,c2,c3,c4,c5,c6,c7,c8,c9,c10,c11,c12⟩:=H9.out.1.cells
  dsimp only [zeroR] at c0 c1 c2 c3 c4 c5 c6 c7 c8 c9 c10 c11 c12
  go_wp2_with fail
  obtain ⟨W6,hW6,H6⟩:=setM H9.out.2.1 (.slice uo un uc) (.slice vo vn vc) ⟨1,num,c,zeroR⟩
  unfold zeroR at hW6
  dsimp only at hW6
  rw [hW6]
  clear hW6
  refine bodyPost_ret (v:=_) (results_cell_row rfl _ _ (w.heap.size+1) 45 _ (0,0) _ rfl H6.out.1 Tryz.underlying45 rfl (by kernel_rfl)) rfl ?_
  obtain ⟨k0,k1,k2,k3,k4,k5,k6,k7,k8,k9,k10,k11,k12,HRB⟩:=H9.out.2.1
  exact ⟨(.slice uo un uc),(.slice vo vn vc),rfl,H9.out.2.2.2.2.1.set HRB (by decide) (by decide) H6.out.2,own_set H9.out.2.2.2.2.2 HRB (by decide) H6.out.2,grown_new H9.out.2.2.1 H6.out.2 (by intro x hx;simp at hx;omega)⟩
def CS.asks (s:CS):Bool:=decide (s.wt≠[]) && due s.asked s.askAt s.now s.tmo
def enterMsgs (s:CS):List PMsg:=if s.asks=true then [msgOpen s] else []
def enterS (s:CS):CS:=if s.asks=true then s.ask else s
def EnterP (Q F:Nat->Prop)(b:Nat)(oa wo:Option Addr)(wc:Nat)(s:CS)(w:World)(e:Ending)(w':World):Prop:=∃v,e=.returned v/\MsgsOwn w' w.heap.size v (enterMsgs s)/\Cm Q F w' b oa wo wc (enterS s)/\w.grownBy w' (some b)
theorem Okc.ask (h:Okc s):Okc s.ask:=⟨h.num,h.size,h.most,h.tmo,h.tok,⟨h.now.1,Int.le_refl _⟩,h.ses,h.none,h.last,h.now,h.few,h.call,h.wait⟩
theorem enter34 (w:World)(h:Cm Q F w b oa wo wc s):Calls Tryz.prog 34 #[.pointer (some ⟨b,0,none⟩)] w (EnterP Q F b oa wo wc s w):=by
 have HC:Hid (Cm Q F w b oa wo wc s):=h
 obtain ⟨c0,c1,c2,c3,c4,c5,c6,c7,c8,c9,c10,c11⟩:=cells12 h.blk
 obtain ⟨n,hn⟩:∃n,s.wt.length=n:=⟨_,rfl⟩
 rw [hn] at c9
 obtain ⟨d,hd⟩:∃d,due s.asked s.askAt s.now s.tmo=d:=⟨_,rfl⟩
 have HN:Hid (s.wt.length=n/\due s.asked s.askAt s.now s.tmo=d):=⟨hn,hd⟩
 clear h hn hd
 by_cases hz:n=0
 ·subst hz
  have HA:Hid (s.asks=false):=by simp [Hid,CS.asks,List.eq_nil_of_length_eq_zero HN.out.1]
  go_enter Tryz.func34,Tryz.ntmps34
  go_upto_region 1 with fail
  refine wp_region_hold 1000 (fun y=>w.grownBy y none) (by kernel_rfl) ?_
  have HD:Hid (w.grownBy w.drew none):=grown_drew _ _
  generalize w.drew=wd at HD ⊢
  have J:Idx [0,1,2,3,4,5,6]:=trivial
  iterate 7 (refine tK J (HD.out) rfl rfl (fun wk hk=>by have k9:=hk.cell c9 (by simp);go_simp;try rfl) ?_;replace J:=J.tl;try simp only [pN])
  clear J
  have J:Idx [7,8,9,10,11,12,13,14,15,16,17,18,19,20]:=trivial
  iterate 14 (refine sk J (HD.out) rfl rfl ?_;replace J:=J.tl;try simp only [pN])
  clear J
  have J:Idx [21]:=trivial
  iterate 1 (refine tK J (HD.out) rfl rfl (fun wk hk=>by have k9:=hk.cell c9 (by simp);go_simp;try rfl) ?_;replace J:=J.tl;try simp only [pN])
  clear J
  refine wpHold_done (by kernel_rfl) ?_
  refine (‹∀(a:Act) (w:World),Code.wp Tryz.prog _ _ a w->_› _ _ ?_)
  clear c0 c1 c2 c3 c4 c5 c6 c7 c8 c9 c10 c11
  go_wp2_with fail
  go_ret
  unfold EnterP enterMsgs enterS
  rw [HA.out]
  exact ⟨_,rfl,msgsOwn_nil _ _,HC.out.grown HD.out,grown_mono HD.out⟩
 ·have i1:((n:Int)==0)=false:=by simp;omega
  have i2:(n=0)=False:=eq_false hz
  go_enter Tryz.func34,Tryz.ntmps34
  go_upto_region 1 with fail
  refine wp_region_hold 1000 (fun y=>w.grownBy y none) (by kernel_rfl) ?_
  have HD:Hid (w.grownBy w.drew none):=grown_drew _ _
  generalize w.drew=wd at HD ⊢
  have J:Idx [0,1,2,3,4,5,6,7,8,9,10,11,12,13,14,15,16,17,18]:=trivial
  iterate 19 (refine tK J (HD.out) rfl rfl (fun wk hk=>by have k3:=hk.cell c3 (by simp);have k5:=hk.cell c5 (by simp);have k6:=hk.cell c6 (by simp);have k9:=hk.cell c9 (by simp);have k11:=hk.cell c11 (by simp);go_simp;try rfl) ?_;replace J:=J.tl;try simp only [pN])
  clear J
  refine wpHold_one (i:=19) rfl (by kernel_rfl) (by rfl) (fun K hK=>?_)
  go_wp2_with fail
  refine (due_cl wd s.asked s.askAt s.now s.tmo (by have:=HC.out.ok.askAt;have:=HC.out.ok.now;omega) HC.out.ok.now).mono ?_
  rintro e w5 ⟨rfl,hg⟩
  rw [HN.out.2]
  have H5:Hid (w.grownBy w5 none):=grown_trans HD.out hg
  clear hg
  go_wp2_with fail
  refine hK.out _ _ (fun _=>H5.out) ?_
  clear hK K
  try simp only [pN]
  have J:Idx [20,21]:=trivial
  iterate 2 (refine tK J (H5.out) rfl rfl (fun wk hk=>by have k3:=hk.cell c3 (by simp);have k5:=hk.cell c5 (by simp);have k6:=hk.cell c6 (by simp);have k9:=hk.cell c9 (by simp);have k11:=hk.cell c11 (by simp);go_simp;try rfl) ?_;replace J:=J.tl;try simp only [pN])
  clear J
  refine wpHold_done (by kernel_rfl) ?_
  refine (‹∀(a:Act) (w:World),Code.wp Tryz.prog _ _ a w->_› _ _ ?_)
  clear c0 c1 c2 c3 c4 c5 c6 c7 c8 c9 c10 c11
  cases d with
  | false =>
   have HA:Hid (s.asks=false):=by simp [Hid,CS.asks,HN.out.2]
   go_wp2_with fail
   go_ret
   unfold EnterP enterMsgs enterS
   rw [HA.out]
   exact ⟨_,rfl,msgsOwn_nil _ _,HC.out.grown H5.out,grown_mono H5.out⟩
  | true =>
   have HA:Hid (s.asks=true):=by
    simp [Hid,CS.asks,HN.out.2]
    intro e
    rw [e] at HN
    exact hz HN.out.1.symm
   have C5:=HC.out.grown H5.out
   obtain ⟨c0,c1,c2,c3,c4,c5,c6,c7,c8,c9,c10,c11⟩:=cells12 C5.blk
   have f5:=C5.blk.free 5
   have f6:=C5.blk.free 6
   have HP:Hid (Cm Q F ((w5.setCell ⟨b,5,none⟩ (.bool true)).setCell ⟨b,6,none⟩ (.int .i64 s.now)) b oa wo wc s.ask/\w.grownBy ((w5.setCell ⟨b,5,none⟩ (.bool true)).setCell ⟨b,6,none⟩ (.int .i64 s.now)) (some b)):=by
    have g:=grown_trans (grown_setCell w5 b 5 (.bool true)) (grown_setCell (w5.setCell ⟨b,5,none⟩ (.bool true)) b 6 (.int .i64 s.now))
    exact ⟨C5.put g ((C5.blk.store 5 _).store 6 _) rfl rfl rfl rfl C5.ok.ask,grown_trans (grown_mono H5.out) g⟩
   clear C5
   go_upto_region 4 with fail
   generalize (w5.setCell ⟨b,5,none⟩ (.bool true)).setCell ⟨b,6,none⟩ (.int .i64 s.now)=w6 at HP ⊢
   clear c0 c1 c2 c3 c4 c5 c6 c7 c8 c9 c10 c11 f5 f6
   obtain ⟨c0,c1,c2,c3,c4,c5,c6,c7,c8,c9,c10,c11⟩:=cells12 HP.out.1.blk
   dsimp only [CS.ask] at c4 c0
   have HO:=ok_open HP.out.1.ok
   have HOP:Hid (okM ⟨1,s.num,⟨1,s.tok,0,0,0,[]⟩,zeroR⟩=true/\InC ⟨1,s.tok,0,0,0,[]⟩):=HO
   clear HO
   go_wp2_with fail
   refine (ask43 b s.num (.slice none 0 0) ⟨1,s.tok,0,0,0,[]⟩ w6 c0 (ops_none w6) HOP.out.2 HP.out.1.ok.num HOP.out.1).mono ?_
   rintro e w7 ⟨ov,av,rfl,ho,ha,hg⟩
   obtain ⟨uo,un,uc,rfl⟩:=isSl_ow ho
   obtain ⟨vo,vn,vc,rfl⟩:=isSl_on ha
   have H7:Hid (OpsOwn w7 w6.heap.size (.slice uo un uc) []/\Disk.Own w7 w6.heap.size (.slice vo vn vc) []/\w6.grownBy w7 none):=⟨ho,ha,hg⟩
   clear ho ha hg c0 c1 c2 c3 c4 c5 c6 c7 c8 c9 c10 c11
   unfold msgV zeroR
   dsimp only
   obtain ⟨w8,hw8,H8⟩:=al1 w7 #[.int .i64 1,.int .i64 s.num,.int .i64 1,.int .i64 s.tok,.int .i64 0,.int .i64 0,.int .i64 0,.slice uo un uc,.int .i64 0,.int .i64 0,.int .i64 0,.int .i64 0,.slice vo vn vc] 45
   have HW8:Hid (w7.alloc (.cells #[.int .i64 1,.int .i64 s.num,.int .i64 1,.int .i64 s.tok,.int .i64 0,.int .i64 0,.int .i64 0,.slice uo un uc,.int .i64 0,.int .i64 0,.int .i64 0,.int .i64 0,.slice vo vn vc] 45)=w8):=hw8
   clear hw8
   go_wp2_with fail
   rw [HW8.out]
   go_ret
   have hs:w.heap.size<=w6.heap.size:=HP.out.2.size
   unfold EnterP enterMsgs enterS
   rw [HA.out]
   refine ⟨_,rfl,msgs_one (m:=msgOpen s) H8.out.1 (Nat.le_trans hs H7.out.2.2.size) ((H7.out.1.grown H8.out.2.1).mono hs) ((H7.out.2.1.grown H8.out.2.1).mono hs),HP.out.1.grown (grown_trans H7.out.2.2 H8.out.2.1),grown_trans HP.out.2 (grown_mono (grown_trans H7.out.2.2 H8.out.2.1))⟩
end Go.Proofs.YtanoabliahcbeaaGreat.Wn
