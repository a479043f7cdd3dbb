import Derived.Test.YtncbdhdfemidlaaGreatMk
set_option maxHeartbeats 4000000
set_option maxRecDepth 100000
namespace Go.Proofs.YtncbdhdfemidlaaGreat
open Go.RowKit Disk
open _root_.Go.Proofs.YtncbdhdfemidlaaGreat.Calls _root_.Go.Proofs.YtncbdhdfemidlaaGreat.Command
def anewM (m:PMsg):PMsg:=if okM m=true then m else zeroM
def AnewP (m:PMsg)(w:World)(e:Ending)(w':World):Prop:=∃ov av,e=.returned (.tuple #[msgV ov av (anewM m),.int .i64 (errM m)])/\OpsOwn w' w.heap.size ov (anewM m).ask.ops/\Own w' w.heap.size av (anewM m).tell.answer/\w.grownBy w' none
theorem form_len {m:PMsg}(hok:okM m=true)(hi:InM m):(formM m).length<=33+max 4096 m.tell.answer.length:=by
 unfold formM numsM
 rw [List.length_append,List.length_append]
 have h1:=nums_len hi (fld m)
 have h2:=fld_len m
 have h3:(headM m).length=3:=rfl
 have h4:(lastM m).length<=max 4096 m.tell.answer.length:=by
  unfold lastM
  by_cases c1:callsB m=true
  ·rw [if_pos c1]
   have h2:=((ok_fits m).1 hok).2
   unfold backM at h2
   rw [if_pos c1] at h2
   have:=(chk0 h2).2
   omega
  ·rw [if_neg c1]
   by_cases c2:answersB m=true
   ·rw [if_pos c2];omega
   ·rw [if_neg c2];simp
 omega
theorem anew29 (HG:ReadGood)(ov av:Value)(m:PMsg)(w:World)(ho:Ops w ov m.ask.ops)(ha:Seg w av m.tell.answer)(hz:m.tell.answer.length<=140737488353280)(hi:InM m):Calls Tryz.prog 29 #[msgV ov av m] w (AnewP m w):=by
 obtain ⟨ao,n,ca,rfl⟩:=isSl_ops ho
 obtain ⟨bo,p,cb,rfl⟩:=isSl_seg ha
 have HS:Hid (Ops w (.slice ao n ca) m.ask.ops/\Seg w (.slice bo p cb) m.tell.answer/\m.tell.answer.length<=140737488353280/\InM m/\ReadGood):=⟨ho,ha,hz,hi,HG⟩
 clear ho ha hz hi HG
 unfold msgV
 go_enter Tryz.func29,Tryz.ntmps29
 go_upto_region 1 with fail
 obtain ⟨W,hW,HW⟩:=al2' w #[.int .i64 m.kind,.int .i64 m.client,.int .i64 m.ask.kind,.int .i64 m.ask.token,.int .i64 m.ask.session,.int .i64 m.ask.number,.int .i64 m.ask.mark,.slice ao n ca,.int .i64 m.tell.kind,.int .i64 m.tell.token,.int .i64 m.tell.session,.int .i64 m.tell.number,.slice bo p cb] #[.int .i64 0,.int .i64 0,.int .i64 0,.int .i64 0,.int .i64 0,.int .i64 0,.int .i64 0,.slice none 0 0,.int .i64 0,.int .i64 0,.int .i64 0,.int .i64 0,.slice none 0 0] 34 34
 rw [hW]
 clear hW
 have HM:Hid (MB W w.heap.size (.slice ao n ca) (.slice bo p cb) m/\Room W (w.heap.size+1)/\w.grownBy W none):=⟨HW.out.1,room_lit HW.out.2.1,HW.out.2.2.1⟩
 clear HW
 obtain ⟨c0,c1,c2,c3,c4,c5,c6,c7,c8,c9,c10,c11,c12⟩:=HM.out.1.cells
 go_wp2_with fail
 refine (bytes9 (.slice ao n ca) (.slice bo p cb) m W (HS.out.1.grown HM.out.2.2) (HS.out.2.1.grown HM.out.2.2) (by have:=HS.out.2.2.1;omega) HS.out.2.2.2.1).mono ?_
 rintro e w1 ⟨u,rfl,hu,hg⟩
 obtain ⟨uo,un,uc,hus⟩:=isSl_on hu
 subst hus
 have H1:Hid (Room w1 (w.heap.size+1)/\w.grownBy w1 none/\Own w1 W.heap.size (.slice uo un uc) (if okM m=true then formM m else [])):=⟨HM.out.2.1.grown hg,grown_trans HM.out.2.2 hg,hu⟩
 clear hu hg HM c0 c1 c2 c3 c4 c5 c6 c7 c8 c9 c10 c11 c12
 cases hok:okM m
 ·have he:errM m=2:=by unfold errM;rw [hok];rfl
  have HR:Hid (anewM m=zeroM/\errM m=2):=⟨by unfold anewM;rw [hok];rfl,he⟩
  rw [he]
  clear hok he
  obtain ⟨r0,r1,r2,r3,r4,r5,r6,r7,r8,r9,r10,r11,r12,u0,u1,u2,u3,u4,u5,u6,u7,u8,u9,u10,u11,u12⟩:=H1.out.1.cells
  obtain ⟨z0,z1,z2,z3,z4,z5,z6,z7,z8,z9,z10,z11,z12⟩:=H1.out.1.frees
  go_wp2_with fail
  obtain ⟨W6,hW6,H6⟩:=setM H1.out.1 (.slice none 0 0) (.slice none 0 0) zeroM
  unfold zeroM zeroC zeroR at hW6
  dsimp only at hW6
  rw [hW6]
  clear hW6
  refine bodyPost_ret (v:=_) (results_row_tmp rfl _ _ (w.heap.size+1) _ rfl (loadM H6.out.1 isSl_nil isSl_nil)) rfl ?_
  exact ⟨(.slice none 0 0),(.slice none 0 0),by rw [HR.out.1,HR.out.2];rfl,by rw [HR.out.1];exact opsOwn_nil _ _,by rw [HR.out.1];exact Own.nil _ _,grown_new H1.out.2.1 H6.out.2 (by intro x hx;simp at hx;omega)⟩
 ·have he:errM m=0:=by unfold errM;rw [hok];rfl
  have HR:Hid (anewM m=m/\errM m=0/\readM (formM m)=(m,0)):=⟨by unfold anewM;rw [hok];rfl,he,readM_form hok HS.out.2.2.2.1⟩
  have HO:Hid (Seg w1 (.slice uo un uc) (formM m)/\(formM m).length<=140737488354304):=by have h:=H1.out.2.2.seg;rw [if_pos hok] at h;exact ⟨h,by have h1:=form_len hok HS.out.2.2.2.1;have h2:=HS.out.2.2.1;omega⟩
  rw [he]
  clear hok he
  go_wp2_with fail
  refine (read18 HS.out.2.2.2.2 (.slice uo un uc) (formM m) w1 HO.out.1 HO.out.2).mono ?_
  rintro e w2 ⟨ov',av',he,ho,ha,hg⟩
  rw [HR.out.2.2] at he ho ha
  subst he
  obtain ⟨ao',n',ca',rfl⟩:=isSl_ow ho
  obtain ⟨bo',p',cb',rfl⟩:=isSl_on ha
  have H2:Hid (Room w2 (w.heap.size+1)/\w.grownBy w2 none/\OpsOwn w2 w.heap.size (.slice ao' n' ca') m.ask.ops/\Own w2 w.heap.size (.slice bo' p' cb') m.tell.answer):=⟨H1.out.1.grown hg,grown_trans H1.out.2.1 hg,ho.mono H1.out.2.1.size,ha.mono H1.out.2.1.size⟩
  clear ho ha hg H1 HO
  unfold msgV
  dsimp only
  obtain ⟨r0,r1,r2,r3,r4,r5,r6,r7,r8,r9,r10,r11,r12,u0,u1,u2,u3,u4,u5,u6,u7,u8,u9,u10,u11,u12⟩:=H2.out.1.cells
  obtain ⟨z0,z1,z2,z3,z4,z5,z6,z7,z8,z9,z10,z11,z12⟩:=H2.out.1.frees
  go_wp2_with fail
  obtain ⟨W6,hW6,H6⟩:=setM H2.out.1 (.slice ao' n' ca') (.slice bo' p' cb') m
  rw [hW6]
  clear hW6
  refine bodyPost_ret (v:=_) (results_row_tmp rfl _ _ (w.heap.size+1) _ rfl (loadM H6.out.1 ⟨_,_,_,rfl⟩ ⟨_,_,_,rfl⟩)) rfl ?_
  obtain ⟨k0,k1,k2,k3,k4,k5,k6,k7,k8,k9,k10,k11,k12,HRB⟩:=H2.out.1
  exact ⟨(.slice ao' n' ca'),(.slice bo' p' cb'),by rw [HR.out.1,HR.out.2.1];rfl,by rw [HR.out.1];exact H2.out.2.2.1.set HRB (by decide) (by decide) H6.out.2,by rw [HR.out.1];exact own_set H2.out.2.2.2 HRB (by decide) H6.out.2,grown_new H2.out.2.1 H6.out.2 (by intro x hx;simp at hx;omega)⟩
theorem ask10 (HG:ReadGood)(cl:Int)(ov:Value)(c:PCmd)(w:World)(ho:Ops w ov c.ops)(hi:InC c)(h0:-9223372036854775808<=cl)(h1:cl<=9223372036854775807):Calls Tryz.prog 10 #[.int .i64 cl,cmdV ov c] w (AnewP ⟨1,cl,c,zeroR⟩ w):=by
 obtain ⟨ao,n,ca,rfl⟩:=isSl_ops ho
 have HI:Hid (InM ⟨1,cl,c,zeroR⟩):=⟨by dsimp only;omega,by dsimp only;omega,h0,h1,hi,inR_zero⟩
 have HS:Hid (Ops w (.slice ao n ca) c.ops/\True/\True/\ReadGood):=⟨ho,trivial,trivial,HG⟩
 clear ho hi HG h0 h1
 unfold cmdV
 go_enter Tryz.func10,Tryz.ntmps10
 go_upto_region 1 with fail
 obtain ⟨W,hW,HW⟩:=al2' w #[.int .i64 c.kind,.int .i64 c.token,.int .i64 c.session,.int .i64 c.number,.int .i64 c.mark,.slice ao n ca] #[.int .i64 0,.int .i64 0,.int .i64 0,.int .i64 0,.int .i64 0,.int .i64 0,.int .i64 0,.slice none 0 0,.int .i64 0,.int .i64 0,.int .i64 0,.int .i64 0,.slice none 0 0] 28 34
 rw [hW]
 clear hW
 have HM:Hid (Blk W w.heap.size 28 #[.int .i64 c.kind,.int .i64 c.token,.int .i64 c.session,.int .i64 c.number,.int .i64 c.mark,.slice ao n ca]/\Room W (w.heap.size+1)/\w.grownBy W none):=⟨HW.out.1,room_lit HW.out.2.1,HW.out.2.2.1⟩
 clear HW
 have d:=HM.out.1.cell
 have d0:=d 0
 have d1:=d 1
 have d2:=d 2
 have d3:=d 3
 have d4:=d 4
 have d5:=d 5
 simp at d0 d1 d2 d3 d4 d5
 clear d
 go_wp2_with fail
 refine (anew29 HS.out.2.2.2 (.slice ao n ca) (.slice none 0 0) ⟨1,cl,c,zeroR⟩ W (HS.out.1.grown HM.out.2.2) (seg_nil _) (by simp [zeroR]) HI.out).mono ?_
 rintro e w2 ⟨ov',av',he,ho,ha,hg⟩
 subst he
 obtain ⟨ao',n',ca',rfl⟩:=isSl_ow ho
 obtain ⟨bo',p',cb',rfl⟩:=isSl_on ha
 obtain ⟨q,hq⟩:∃q,anewM ⟨1,cl,c,zeroR⟩=q:=⟨_,rfl⟩
 have HQ:Hid (anewM ⟨1,cl,c,zeroR⟩=q):=hq
 rw [hq] at ho ha ⊢
 clear hq
 have H2:Hid (Room w2 (w.heap.size+1)/\w.grownBy w2 none/\OpsOwn w2 w.heap.size (.slice ao' n' ca') q.ask.ops/\Own w2 w.heap.size (.slice bo' p' cb') q.tell.answer):=⟨HM.out.2.1.grown hg,grown_trans HM.out.2.2 hg,ho.mono HM.out.2.2.size,ha.mono HM.out.2.2.size⟩
 clear ho ha hg HM d0 d1 d2 d3 d4 d5
 unfold msgV
 obtain ⟨r0,r1,r2,r3,r4,r5,r6,r7,r8,r9,r10,r11,r12,u0,u1,u2,u3,u4,u5,u6,u7,u8,u9,u10,u11,u12⟩:=H2.out.1.cells
 obtain ⟨z0,z1,z2,z3,z4,z5,z6,z7,z8,z9,z10,z11,z12⟩:=H2.out.1.frees
 go_wp2_with fail
 obtain ⟨W6,hW6,H6⟩:=setM H2.out.1 (.slice ao' n' ca') (.slice bo' p' cb') q
 rw [hW6]
 clear hW6
 refine bodyPost_ret (v:=_) (results_row_tmp rfl _ _ (w.heap.size+1) _ rfl (loadM H6.out.1 ⟨_,_,_,rfl⟩ ⟨_,_,_,rfl⟩)) rfl ?_
 obtain ⟨k0,k1,k2,k3,k4,k5,k6,k7,k8,k9,k10,k11,k12,HRB⟩:=H2.out.1
 exact ⟨(.slice ao' n' ca'),(.slice bo' p' cb'),by rw [HQ.out];rfl,by rw [HQ.out];exact H2.out.2.2.1.set HRB (by decide) (by decide) H6.out.2,by rw [HQ.out];exact own_set H2.out.2.2.2 HRB (by decide) H6.out.2,grown_new H2.out.2.1 H6.out.2 (by intro x hx;simp at hx;omega)⟩
theorem tell11 (HG:ReadGood)(cl:Int)(av:Value)(r:PRep)(w:World)(ha:Seg w av r.answer)(hz:r.answer.length<=140737488353280)(hi:InR r)(h0:-9223372036854775808<=cl)(h1:cl<=9223372036854775807):Calls Tryz.prog 11 #[.int .i64 cl,repV av r] w (AnewP ⟨2,cl,zeroC,r⟩ w):=by
 obtain ⟨bo,p,cb,rfl⟩:=isSl_seg ha
 have HI:Hid (InM ⟨2,cl,zeroC,r⟩):=⟨by dsimp only;omega,by dsimp only;omega,h0,h1,inC_zero,hi⟩
 have HS:Hid (Seg w (.slice bo p cb) r.answer/\True/\r.answer.length<=140737488353280/\ReadGood):=⟨ha,trivial,hz,HG⟩
 clear ha hi HG h0 h1 hz
 unfold repV
 go_enter Tryz.func11,Tryz.ntmps11
 go_upto_region 1 with fail
 obtain ⟨W,hW,HW⟩:=al2' w #[.int .i64 r.kind,.int .i64 r.token,.int .i64 r.session,.int .i64 r.number,.slice bo p cb] #[.int .i64 0,.int .i64 0,.int .i64 0,.int .i64 0,.int .i64 0,.int .i64 0,.int .i64 0,.slice none 0 0,.int .i64 0,.int .i64 0,.int .i64 0,.int .i64 0,.slice none 0 0] 32 34
 rw [hW]
 clear hW
 have HM:Hid (Blk W w.heap.size 32 #[.int .i64 r.kind,.int .i64 r.token,.int .i64 r.session,.int .i64 r.number,.slice bo p cb]/\Room W (w.heap.size+1)/\w.grownBy W none):=⟨HW.out.1,room_lit HW.out.2.1,HW.out.2.2.1⟩
 clear HW
 have d:=HM.out.1.cell
 have d0:=d 0
 have d1:=d 1
 have d2:=d 2
 have d3:=d 3
 have d4:=d 4
 have d5:True:=trivial
 simp at d0 d1 d2 d3 d4
 clear d
 go_wp2_with fail
 refine (anew29 HS.out.2.2.2 (.slice none 0 0) (.slice bo p cb) ⟨2,cl,zeroC,r⟩ W (ops_nil _) (HS.out.1.grown HM.out.2.2) (by have:=HS.out.2.2.1;dsimp only;omega) HI.out).mono ?_
 rintro e w2 ⟨ov',av',he,ho,ha,hg⟩
 subst he
 obtain ⟨ao',n',ca',rfl⟩:=isSl_ow ho
 obtain ⟨bo',p',cb',rfl⟩:=isSl_on ha
 obtain ⟨q,hq⟩:∃q,anewM ⟨2,cl,zeroC,r⟩=q:=⟨_,rfl⟩
 have HQ:Hid (anewM ⟨2,cl,zeroC,r⟩=q):=hq
 rw [hq] at ho ha ⊢
 clear hq
 have H2:Hid (Room w2 (w.heap.size+1)/\w.grownBy w2 none/\OpsOwn w2 w.heap.size (.slice ao' n' ca') q.ask.ops/\Own w2 w.heap.size (.slice bo' p' cb') q.tell.answer):=⟨HM.out.2.1.grown hg,grown_trans HM.out.2.2 hg,ho.mono HM.out.2.2.size,ha.mono HM.out.2.2.size⟩
 clear ho ha hg HM d0 d1 d2 d3 d4 d5
 unfold msgV
 obtain ⟨r0,r1,r2,r3,r4,r5,r6,r7,r8,r9,r10,r11,r12,u0,u1,u2,u3,u4,u5,u6,u7,u8,u9,u10,u11,u12⟩:=H2.out.1.cells
 obtain ⟨z0,z1,z2,z3,z4,z5,z6,z7,z8,z9,z10,z11,z12⟩:=H2.out.1.frees
 go_wp2_with fail
 obtain ⟨W6,hW6,H6⟩:=setM H2.out.1 (.slice ao' n' ca') (.slice bo' p' cb') q
 rw [hW6]
 clear hW6
 refine bodyPost_ret (v:=_) (results_row_tmp rfl _ _ (w.heap.size+1) _ rfl (loadM H6.out.1 ⟨_,_,_,rfl⟩ ⟨_,_,_,rfl⟩)) rfl ?_
 obtain ⟨k0,k1,k2,k3,k4,k5,k6,k7,k8,k9,k10,k11,k12,HRB⟩:=H2.out.1
 exact ⟨(.slice ao' n' ca'),(.slice bo' p' cb'),by rw [HQ.out];rfl,by rw [HQ.out];exact H2.out.2.2.1.set HRB (by decide) (by decide) H6.out.2,by rw [HQ.out];exact own_set H2.out.2.2.2 HRB (by decide) H6.out.2,grown_new H2.out.2.1 H6.out.2 (by intro x hx;simp at hx;omega)⟩
end Go.Proofs.YtncbdhdfemidlaaGreat
