import Derived.Test.YtanoabliahcbeaaGreatMijAll
set_option maxHeartbeats 4000000
set_option maxRecDepth 100000
namespace Go.Proofs.YtanoabliahcbeaaGreat
open Go.RowKit Disk
open _root_.Go.Proofs.YtanoabliahcbeaaGreat.Calls _root_.Go.Proofs.YtanoabliahcbeaaGreat.Command
theorem readNums_ans:∀(l:List (Nat × Int)) (s r:PMsg) (L M:Bs),readNums l s L=some (r,M)->r.tell.answer=s.tell.answer
 | [],s,r,L,M,h=>by
  simp [readNums] at h
  rw [h.1]
 | f :: l,s,r,L,M,h=>by
  rw [readNums] at h
  cases hx:pNum 9223372036854775807 L with
  | none=>rw [hx] at h;cases h
  | some x =>
   rw [hx] at h
   simp only [Option.bind_some] at h
   rw [readNums_ans l _ r _ M h]
   exact (setV_kinds s f.1 (x.1:Int)).2.2.2.2.2
theorem pMsg_in {L:Bs}{r:PMsg}(h:pMsg L=some r):InM r/\r.tell.answer.length<=L.length:=by
 unfold pMsg at h
 split at h
 ·rename_i k c s M
  unfold restM at h
  cases hr:readNums (fld (beginM (k.toNat:Int) (c.toNat:Int) (s.toNat:Int))) (beginM (k.toNat:Int) (c.toNat:Int) (s.toNat:Int)) M with
  | none=>rw [hr] at h;cases h
  | some y =>
   rw [hr] at h
   simp only [Option.bind_some] at h
   obtain ⟨q,N⟩:=y
   obtain ⟨h1,_,_,_,_,_,h7⟩:=readNums_inv _ _ q M N (fun f hf=>(fld_off _ f hf).1) (fld_distinct _) (begin_in k c s) hr
   have hN:N.length<=M.length:=by rw [h1,List.length_append];omega
   have hq:q.tell.answer=[]:=readNums_ans _ _ _ _ _ hr
   unfold lastOf at h
   dsimp only at h
   by_cases c1:callsB q=true
   ·rw [if_pos c1] at h
    split at h
    ·obtain rfl:setOps q (readC N).1=r:=by simpa using h
     refine ⟨⟨h7.k0,h7.k1,h7.c0,h7.c1,⟨h7.ask.k0,h7.ask.k1,h7.ask.t0,h7.ask.t1,h7.ask.s0,h7.ask.s1,h7.ask.n0,h7.ask.n1,h7.ask.m0,h7.ask.m1⟩,h7.tell⟩,?_⟩
     rw [show (setOps q (readC N).1).tell.answer=[] from hq]
     simp
    ·cases h
   ·rw [if_neg c1] at h
    by_cases c2:answersB q=true
    ·rw [if_pos c2] at h
     obtain rfl:setAns q N=r:=by simpa using h
     refine ⟨⟨h7.k0,h7.k1,h7.c0,h7.c1,h7.ask,⟨h7.tell.k0,h7.tell.k1,h7.tell.t0,h7.tell.t1,h7.tell.s0,h7.tell.s1,h7.tell.n0,h7.tell.n1⟩⟩,?_⟩
     simp only [List.length_cons]
     exact Nat.le_trans hN (by omega)
    ·rw [if_neg c2] at h
     split at h
     ·obtain rfl:q=r:=by simpa using h
      exact ⟨h7,by rw [hq];simp⟩
     ·cases h
 ·cases h
def RdInP (L:Bs)(w:World)(e:Ending)(w':World):Prop:=∃er ov av r,e=.returned (.tuple #[msgV ov av r,.int .i64 er])/\OpsOwn w' w.heap.size ov r.ask.ops/\Own w' w.heap.size av r.tell.answer/\w.grownBy w' none/\((er=0/\pMsg L=some r)\/((er==0)=false/\pMsg L=none))
def ReadMP (L:Bs)(w:World)(e:Ending)(w':World):Prop:=∃ov av,e=.returned (.tuple #[msgV ov av (readM L).1,.int .i64 (readM L).2])/\OpsOwn w' w.heap.size ov (readM L).1.ask.ops/\Own w' w.heap.size av (readM L).1.tell.answer/\w.grownBy w' none
theorem isSl_ow {w:World}{B:Nat}{v:Value}{l:List POp}(h:OpsOwn w B v l):IsSl v:=by obtain ⟨x,n,y,h,_⟩:=h.slice;exact ⟨x,n,y,h⟩
theorem isSl_on {w:World}{B:Nat}{v:Value}{l:Bs}(h:Own w B v l):IsSl v:=isSl_seg h.seg
theorem loadM {w:World}{g:Nat}{ov av:Value}{m:PMsg}(h:MB w g ov av m)(h1:IsSl ov)(h2:IsSl av):(loadVar 45 ⟨g,0,none⟩).run Tryz.prog w=.ok (.agg #[.int .i64 m.kind,.int .i64 m.client,.int .i64 m.ask.kind,.int .i64 m.ask.token,.int .i64 m.ask.session,.int .i64 m.ask.number,.int .i64 m.ask.mark,ov,.int .i64 m.tell.kind,.int .i64 m.tell.token,.int .i64 m.tell.session,.int .i64 m.tell.number,av]) w:=by
 obtain ⟨ao,n,ca,rfl⟩:=h1
 obtain ⟨bo,p,cb,rfl⟩:=h2
 exact run_loadVar_row w g 45 45 _ (0,0) _ h Tryz.underlying45 rfl (by kernel_rfl)
def ReadGood:Prop:=∀(v:Value) (L:Bs) (w:World),Seg w v L->L.length<=140737488355328->Calls Tryz.prog 165 #[v] w (RdInP L w)
theorem read18 (HG:ReadGood)(v:Value)(L:Bs)(w:World)(hs:Seg w v L)(hz:L.length<=140737488354304):Calls Tryz.prog 139 #[v] w (ReadMP L w):=by
 obtain ⟨lo,ln,lc,rfl⟩:=isSl_seg hs
 have HS:Hid (Seg w (.slice lo ln lc) L/\L.length<=140737488354304/\ReadGood):=⟨hs,hz,HG⟩
 clear hs hz HG
 go_enter Tryz.func139,Tryz.ntmps139
 go_upto_region 1 with fail
 obtain ⟨W,hW,HW⟩:=al1' w #[.int .i64 0,.int .i64 0,.int .i64 0,.int .i64 0,.int .i64 0,.int .i64 0,.int .i64 0,.slice none 0 0,.int .i64 0,.int .i64 0,.int .i64 0,.int .i64 0,.slice none 0 0] 45
 rw [hW]
 clear hW
 go_wp2_with fail
 refine (HS.out.2.2 (.slice lo ln lc) L W (HS.out.1.grown HW.out.2.1) (by have:=HS.out.2.1;omega)).mono ?_
 rintro e w1 ⟨er,ov,av,r,rfl,ho,ha,hg,hd⟩
 obtain ⟨ao,n,ca,rfl⟩:=isSl_ow ho
 obtain ⟨bo,p,cb,rfl⟩:=isSl_on ha
 have H1:Hid (OpsOwn w1 w.heap.size (.slice ao n ca) r.ask.ops/\Own w1 w.heap.size (.slice bo p cb) r.tell.answer/\w.grownBy w1 none/\Room w1 w.heap.size):=⟨ho.mono HW.out.2.1.size,ha.mono HW.out.2.1.size,grown_trans HW.out.2.1 hg,(room_lit HW.out.1).grown hg⟩
 clear ho ha hg HW
 unfold msgV
 go_upto_region 2 with fail
 obtain ⟨W2,hW2,HW2⟩:=boxM w1 ao n ca bo p cb r
 rw [hW2]
 clear hW2
 have H2:Hid (MB W2 w1.heap.size (.slice ao n ca) (.slice bo p cb) r/\OpsOwn W2 w.heap.size (.slice ao n ca) r.ask.ops/\Own W2 w.heap.size (.slice bo p cb) r.tell.answer/\w.grownBy W2 none/\Room W2 w.heap.size):=⟨HW2.out.1,H1.out.1.grown HW2.out.2.1,H1.out.2.1.grown HW2.out.2.1,grown_trans H1.out.2.2.1 HW2.out.2.1,H1.out.2.2.2.grown HW2.out.2.1⟩
 clear H1 HW2
 rcases hd with ⟨rfl,hp⟩ | ⟨he,hp⟩
 rotate_left
 ·have HR:Hid (readM L=(zeroM,4)):=by unfold readM Hid;rw [hp]
  have q1:(er != 0)=true:=by simp at he ⊢;exact he
  clear hp
  obtain ⟨r0,r1,r2,r3,r4,r5,r6,r7,r8,r9,r10,r11,r12,u0,u1,u2,u3,u4,u5,u6,u7,u8,u9,u10,u11,u12⟩:=H2.out.2.2.2.2.cells
  obtain ⟨z0,z1,z2,z3,z4,z5,z6,z7,z8,z9,z10,z11,z12⟩:=H2.out.2.2.2.2.frees
  go_wp2_with fail
  obtain ⟨W6,hW6,H6⟩:=setM H2.out.2.2.2.2 (.slice none 0 0) (.slice none 0 0) zeroM
  unfold zeroM zeroC zeroR at hW6
  dsimp only at hW6
  rw [hW6]
  clear hW6
  refine bodyPost_ret (v:=_) (results_row_tmp rfl _ _ w.heap.size _ rfl (loadM H6.out.1 isSl_nil isSl_nil)) rfl ?_
  exact ⟨(.slice none 0 0),(.slice none 0 0),by rw [HR.out];rfl,by rw [HR.out];exact opsOwn_nil _ _,by rw [HR.out];exact Own.nil _ _,grown_new H2.out.2.2.2.1 H6.out.2 (by intro x hx;simp at hx;omega)⟩
 have HP:Hid (pMsg L=some r):=hp
 obtain ⟨c0,c1,c2,c3,c4,c5,c6,c7,c8,c9,c10,c11,c12⟩:=H2.out.1.cells
 have HIN:=pMsg_in hp
 clear hp
 go_wp2_with fail
 refine (check8 (.slice ao n ca) (.slice bo p cb) r W2 (OpsOwn.ops H2.out.2.1) H2.out.2.2.1.seg (by have h1:=HIN.2;have h2:=HS.out.2.1;omega) HIN.1).mono ?_
 rintro e w3 ⟨rfl,g3⟩
 have H3:Hid (MB w3 w1.heap.size (.slice ao n ca) (.slice bo p cb) r/\OpsOwn w3 w.heap.size (.slice ao n ca) r.ask.ops/\Own w3 w.heap.size (.slice bo p cb) r.tell.answer/\w.grownBy w3 none/\Room w3 w.heap.size):=⟨H2.out.1.grown g3,H2.out.2.1.grown g3,H2.out.2.2.1.grown g3,grown_trans H2.out.2.2.2.1 g3,H2.out.2.2.2.2.grown g3⟩
 clear g3 H2 HIN c0 c1 c2 c3 c4 c5 c6 c7 c8 c9 c10 c11 c12
 obtain ⟨r0,r1,r2,r3,r4,r5,r6,r7,r8,r9,r10,r11,r12,u0,u1,u2,u3,u4,u5,u6,u7,u8,u9,u10,u11,u12⟩:=H3.out.2.2.2.2.cells
 obtain ⟨z0,z1,z2,z3,z4,z5,z6,z7,z8,z9,z10,z11,z12⟩:=H3.out.2.2.2.2.frees
 cases hok:okM r
 ·have HR:Hid (readM L=(zeroM,4)):=by unfold readM Hid;rw [HP.out];simp [hok]
  have he:errM r=2:=by unfold errM;rw [hok];rfl
  rw [he]
  clear hok he
  go_wp2_with fail
  obtain ⟨W6,hW6,H6⟩:=setM H3.out.2.2.2.2 (.slice none 0 0) (.slice none 0 0) zeroM
  unfold zeroM zeroC zeroR at hW6
  dsimp only at hW6
  rw [hW6]
  clear hW6
  refine bodyPost_ret (v:=_) (results_row_tmp rfl _ _ w.heap.size _ rfl (loadM H6.out.1 isSl_nil isSl_nil)) rfl ?_
  exact ⟨(.slice none 0 0),(.slice none 0 0),by rw [HR.out];rfl,by rw [HR.out];exact opsOwn_nil _ _,by rw [HR.out];exact Own.nil _ _,grown_new H3.out.2.2.2.1 H6.out.2 (by intro x hx;simp at hx;omega)⟩
 ·have HR:Hid (readM L=(r,0)):=by unfold readM Hid;rw [HP.out];simp [hok]
  have he:errM r=0:=by unfold errM;rw [hok];rfl
  rw [he]
  clear hok he
  obtain ⟨c0,c1,c2,c3,c4,c5,c6,c7,c8,c9,c10,c11,c12⟩:=H3.out.1.cells
  go_wp2_with fail
  obtain ⟨W6,hW6,H6⟩:=setM H3.out.2.2.2.2 (.slice ao n ca) (.slice bo p cb) r
  rw [hW6]
  clear hW6
  refine bodyPost_ret (v:=_) (results_row_tmp rfl _ _ w.heap.size _ rfl (loadM H6.out.1 ⟨_,_,_,rfl⟩ ⟨_,_,_,rfl⟩)) rfl ?_
  obtain ⟨k0,k1,k2,k3,k4,k5,k6,k7,k8,k9,k10,k11,k12,HRB⟩:=H3.out.2.2.2.2
  exact ⟨(.slice ao n ca),(.slice bo p cb),by rw [HR.out];rfl,by rw [HR.out];exact H3.out.2.1.set HRB (by decide) (by decide) H6.out.2,by rw [HR.out];exact own_set H3.out.2.2.1 HRB (by decide) H6.out.2,grown_new H3.out.2.2.2.1 H6.out.2 (by intro x hx;simp at hx;omega)⟩
def anewM (m:PMsg):PMsg:=if okM m=true then m else zeroM
def AnewP (m:PMsg)(w:World)(e:Ending)(w':World):Prop:=∃ov av,e=.returned (.tuple #[msgV ov av (anewM m),.int .i64 (errM m)])/\OpsOwn w' w.heap.size ov (anewM m).ask.ops/\Own w' w.heap.size av (anewM m).tell.answer/\w.grownBy w' none
theorem form_len {m:PMsg}(hok:okM m=true)(hi:InM m):(formM m).length<=33+max 4096 m.tell.answer.length:=by
 unfold formM numsM
 rw [List.length_append,List.length_append]
 have h1:=nums_len hi (fld m)
 have h2:=fld_len m
 have h3:(headM m).length=3:=rfl
 have h4:(lastM m).length<=max 4096 m.tell.answer.length:=by
  unfold lastM
  by_cases c1:callsB m=true
  ·rw [if_pos c1]
   have h2:=((ok_fits m).1 hok).2
   unfold backM at h2
   rw [if_pos c1] at h2
   have:=(chk0 h2).2
   omega
  ·rw [if_neg c1]
   by_cases c2:answersB m=true
   ·rw [if_pos c2];omega
   ·rw [if_neg c2];simp
 omega
theorem anew29 (HG:ReadGood)(ov av:Value)(m:PMsg)(w:World)(ho:Ops w ov m.ask.ops)(ha:Seg w av m.tell.answer)(hz:m.tell.answer.length<=140737488353280)(hi:InM m):Calls Tryz.prog 105 #[msgV ov av m] w (AnewP m w):=by
 obtain ⟨ao,n,ca,rfl⟩:=isSl_ops ho
 obtain ⟨bo,p,cb,rfl⟩:=isSl_seg ha
 have HS:Hid (Ops w (.slice ao n ca) m.ask.ops/\Seg w (.slice bo p cb) m.tell.answer/\m.tell.answer.length<=140737488353280/\InM m/\ReadGood):=⟨ho,ha,hz,hi,HG⟩
 clear ho ha hz hi HG
 unfold msgV
 go_enter Tryz.func105,Tryz.ntmps105
 go_upto_region 1 with fail
 obtain ⟨W,hW,HW⟩:=al2' w #[.int .i64 m.kind,.int .i64 m.client,.int .i64 m.ask.kind,.int .i64 m.ask.token,.int .i64 m.ask.session,.int .i64 m.ask.number,.int .i64 m.ask.mark,.slice ao n ca,.int .i64 m.tell.kind,.int .i64 m.tell.token,.int .i64 m.tell.session,.int .i64 m.tell.number,.slice bo p cb] #[.int .i64 0,.int .i64 0,.int .i64 0,.int .i64 0,.int .i64 0,.int .i64 0,.int .i64 0,.slice none 0 0,.int .i64 0,.int .i64 0,.int .i64 0,.int .i64 0,.slice none 0 0] 45 45
 rw [hW]
 clear hW
 have HM:Hid (MB W w.heap.size (.slice ao n ca) (.slice bo p cb) m/\Room W (w.heap.size+1)/\w.grownBy W none):=⟨HW.out.1,room_lit HW.out.2.1,HW.out.2.2.1⟩
 clear HW
 obtain ⟨c0,c1,c2,c3,c4,c5,c6,c7,c8,c9,c10,c11,c12⟩:=HM.out.1.cells
 go_wp2_with fail
 refine (bytes9 (.slice ao n ca) (.slice bo p cb) m W (HS.out.1.grown HM.out.2.2) (HS.out.2.1.grown HM.out.2.2) (by have:=HS.out.2.2.1;omega) HS.out.2.2.2.1).mono ?_
 rintro e w1 ⟨u,rfl,hu,hg⟩
 obtain ⟨uo,un,uc,hus⟩:=isSl_on hu
 subst hus
 have H1:Hid (Room w1 (w.heap.size+1)/\w.grownBy w1 none/\Own w1 W.heap.size (.slice uo un uc) (if okM m=true then formM m else [])):=⟨HM.out.2.1.grown hg,grown_trans HM.out.2.2 hg,hu⟩
 clear hu hg HM c0 c1 c2 c3 c4 c5 c6 c7 c8 c9 c10 c11 c12
 cases hok:okM m
 ·have he:errM m=2:=by unfold errM;rw [hok];rfl
  have HR:Hid (anewM m=zeroM/\errM m=2):=⟨by unfold anewM;rw [hok];rfl,he⟩
  rw [he]
  clear hok he
  obtain ⟨r0,r1,r2,r3,r4,r5,r6,r7,r8,r9,r10,r11,r12,u0,u1,u2,u3,u4,u5,u6,u7,u8,u9,u10,u11,u12⟩:=H1.out.1.cells
  obtain ⟨z0,z1,z2,z3,z4,z5,z6,z7,z8,z9,z10,z11,z12⟩:=H1.out.1.frees
  go_wp2_with fail
  obtain ⟨W6,hW6,H6⟩:=setM H1.out.1 (.slice none 0 0) (.slice none 0 0) zeroM
  unfold zeroM zeroC zeroR at hW6
  dsimp only at hW6
  rw [hW6]
  clear hW6
  refine bodyPost_ret (v:=_) (results_row_tmp rfl _ _ (w.heap.size+1) _ rfl (loadM H6.out.1 isSl_nil isSl_nil)) rfl ?_
  exact ⟨(.slice none 0 0),(.slice none 0 0),by rw [HR.out.1,HR.out.2];rfl,by rw [HR.out.1];exact opsOwn_nil _ _,by rw [HR.out.1];exact Own.nil _ _,grown_new H1.out.2.1 H6.out.2 (by intro x hx;simp at hx;omega)⟩
 ·have he:errM m=0:=by unfold errM;rw [hok];rfl
  have HR:Hid (anewM m=m/\errM m=0/\readM (formM m)=(m,0)):=⟨by unfold anewM;rw [hok];rfl,he,readM_form hok HS.out.2.2.2.1⟩
  have HO:Hid (Seg w1 (.slice uo un uc) (formM m)/\(formM m).length<=140737488354304):=by have h:=H1.out.2.2.seg;rw [if_pos hok] at h;exact ⟨h,by have h1:=form_len hok HS.out.2.2.2.1;have h2:=HS.out.2.2.1;omega⟩
  rw [he]
  clear hok he
  go_wp2_with fail
  refine (read18 HS.out.2.2.2.2 (.slice uo un uc) (formM m) w1 HO.out.1 HO.out.2).mono ?_
  rintro e w2 ⟨ov',av',he,ho,ha,hg⟩
  rw [HR.out.2.2] at he ho ha
  subst he
  obtain ⟨ao',n',ca',rfl⟩:=isSl_ow ho
  obtain ⟨bo',p',cb',rfl⟩:=isSl_on ha
  have H2:Hid (Room w2 (w.heap.size+1)/\w.grownBy w2 none/\OpsOwn w2 w.heap.size (.slice ao' n' ca') m.ask.ops/\Own w2 w.heap.size (.slice bo' p' cb') m.tell.answer):=⟨H1.out.1.grown hg,grown_trans H1.out.2.1 hg,ho.mono H1.out.2.1.size,ha.mono H1.out.2.1.size⟩
  clear ho ha hg H1 HO
  unfold msgV
  dsimp only
  obtain ⟨r0,r1,r2,r3,r4,r5,r6,r7,r8,r9,r10,r11,r12,u0,u1,u2,u3,u4,u5,u6,u7,u8,u9,u10,u11,u12⟩:=H2.out.1.cells
  obtain ⟨z0,z1,z2,z3,z4,z5,z6,z7,z8,z9,z10,z11,z12⟩:=H2.out.1.frees
  go_wp2_with fail
  obtain ⟨W6,hW6,H6⟩:=setM H2.out.1 (.slice ao' n' ca') (.slice bo' p' cb') m
  rw [hW6]
  clear hW6
  refine bodyPost_ret (v:=_) (results_row_tmp rfl _ _ (w.heap.size+1) _ rfl (loadM H6.out.1 ⟨_,_,_,rfl⟩ ⟨_,_,_,rfl⟩)) rfl ?_
  obtain ⟨k0,k1,k2,k3,k4,k5,k6,k7,k8,k9,k10,k11,k12,HRB⟩:=H2.out.1
  exact ⟨(.slice ao' n' ca'),(.slice bo' p' cb'),by rw [HR.out.1,HR.out.2.1];rfl,by rw [HR.out.1];exact H2.out.2.2.1.set HRB (by decide) (by decide) H6.out.2,by rw [HR.out.1];exact own_set H2.out.2.2.2 HRB (by decide) H6.out.2,grown_new H2.out.2.1 H6.out.2 (by intro x hx;simp at hx;omega)⟩
theorem ask10 (HG:ReadGood)(cl:Int)(ov:Value)(c:PCmd)(w:World)(ho:Ops w ov c.ops)(hi:InC c)(h0:-9223372036854775808<=cl)(h1:cl<=9223372036854775807):Calls Tryz.prog 78 #[.int .i64 cl,cmdV ov c] w (AnewP ⟨1,cl,c,zeroR⟩ w):=by
 obtain ⟨ao,n,ca,rfl⟩:=isSl_ops ho
 have HI:Hid (InM ⟨1,cl,c,zeroR⟩):=⟨by dsimp only;omega,by dsimp only;omega,h0,h1,hi,inR_zero⟩
 have HS:Hid (Ops w (.slice ao n ca) c.ops/\True/\True/\ReadGood):=⟨ho,trivial,trivial,HG⟩
 clear ho hi HG h0 h1
 unfold cmdV
 go_enter Tryz.func78,Tryz.ntmps78
 go_upto_region 1 with fail
 obtain ⟨W,hW,HW⟩:=al2' w #[.int .i64 c.kind,.int .i64 c.token,.int .i64 c.session,.int .i64 c.number,.int .i64 c.mark,.slice ao n ca] #[.int .i64 0,.int .i64 0,.int .i64 0,.int .i64 0,.int .i64 0,.int .i64 0,.int .i64 0,.slice none 0 0,.int .i64 0,.int .i64 0,.int .i64 0,.int .i64 0,.slice none 0 0] 39 45
 rw [hW]
 clear hW
 have HM:Hid (Blk W w.heap.size 39 #[.int .i64 c.kind,.int .i64 c.token,.int .i64 c.session,.int .i64 c.number,.int .i64 c.mark,.slice ao n ca]/\Room W (w.heap.size+1)/\w.grownBy W none):=⟨HW.out.1,room_lit HW.out.2.1,HW.out.2.2.1⟩
 clear HW
 have d:=HM.out.1.cell
 have d0:=d 0
 have d1:=d 1
 have d2:=d 2
 have d3:=d 3
 have d4:=d 4
 have d5:=d 5
 simp at d0 d1 d2 d3 d4 d5
 clear d
 go_wp2_with fail
 refine (anew29 HS.out.2.2.2 (.slice ao n ca) (.slice none 0 0) ⟨1,cl,c,zeroR⟩ W (HS.out.1.grown HM.out.2.2) (seg_nil _) (by simp [zeroR]) HI.out).mono ?_
 rintro e w2 ⟨ov',av',he,ho,ha,hg⟩
 subst he
 obtain ⟨ao',n',ca',rfl⟩:=isSl_ow ho
 obtain ⟨bo',p',cb',rfl⟩:=isSl_on ha
 obtain ⟨q,hq⟩:∃q,anewM ⟨1,cl,c,zeroR⟩=q:=⟨_,rfl⟩
 have HQ:Hid (anewM ⟨1,cl,c,zeroR⟩=q):=hq
 rw [hq] at ho ha ⊢
 clear hq
 have H2:Hid (Room w2 (w.heap.size+1)/\w.grownBy w2 none/\OpsOwn w2 w.heap.size (.slice ao' n' ca') q.ask.ops/\Own w2 w.heap.size (.slice bo' p' cb') q.tell.answer):=⟨HM.out.2.1.grown hg,grown_trans HM.out.2.2 hg,ho.mono HM.out.2.2.size,ha.mono HM.out.2.2.size⟩
 clear ho ha hg HM d0 d1 d2 d3 d4 d5
 unfold msgV
 obtain ⟨r0,r1,r2,r3,r4,r5,r6,r7,r8,r9,r10,r11,r12,u0,u1,u2,u3,u4,u5,u6,u7,u8,u9,u10,u11,u12⟩:=H2.out.1.cells
 obtain ⟨z0,z1,z2,z3,z4,z5,z6,z7,z8,z9,z10,z11,z12⟩:=H2.out.1.frees
 go_wp2_with fail
 obtain ⟨W6,hW6,H6⟩:=setM H2.out.1 (.slice ao' n' ca') (.slice bo' p' cb') q
 rw [hW6]
 clear hW6
 refine bodyPost_ret (v:=_) (results_row_tmp rfl _ _ (w.heap.size+1) _ rfl (loadM H6.out.1 ⟨_,_,_,rfl⟩ ⟨_,_,_,rfl⟩)) rfl ?_
 obtain ⟨k0,k1,k2,k3,k4,k5,k6,k7,k8,k9,k10,k11,k12,HRB⟩:=H2.out.1
 exact ⟨(.slice ao' n' ca'),(.slice bo' p' cb'),by rw [HQ.out];rfl,by rw [HQ.out];exact H2.out.2.2.1.set HRB (by decide) (by decide) H6.out.2,by rw [HQ.out];exact own_set H2.out.2.2.2 HRB (by decide) H6.out.2,grown_new H2.out.2.1 H6.out.2 (by intro x hx;simp at hx;omega)⟩
end Go.Proofs.YtanoabliahcbeaaGreat
