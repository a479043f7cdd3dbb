import Derived.Test.YtncbdhdfemidlaaGreatMj
set_option maxHeartbeats 4000000
set_option maxRecDepth 100000
namespace Go.Proofs.YtncbdhdfemidlaaGreat
open Go.RowKit Disk
open _root_.Go.Proofs.YtncbdhdfemidlaaGreat.Calls _root_.Go.Proofs.YtncbdhdfemidlaaGreat.Command
theorem readNums_ans:∀(l:List (Nat × Int)) (s r:PMsg) (L M:Bs),readNums l s L=some (r,M)->r.tell.answer=s.tell.answer
 | [],s,r,L,M,h=>by
  simp [readNums] at h
  rw [h.1]
 | f :: l,s,r,L,M,h=>by
  rw [readNums] at h
  cases hx:pNum 9223372036854775807 L with
  | none=>rw [hx] at h;cases h
  | some x =>
   rw [hx] at h
   simp only [Option.bind_some] at h
   rw [readNums_ans l _ r _ M h]
   exact (setV_kinds s f.1 (x.1:Int)).2.2.2.2.2
theorem pMsg_in {L:Bs}{r:PMsg}(h:pMsg L=some r):InM r/\r.tell.answer.length<=L.length:=by
 unfold pMsg at h
 split at h
 ·rename_i k c s M
  unfold restM at h
  cases hr:readNums (fld (beginM (k.toNat:Int) (c.toNat:Int) (s.toNat:Int))) (beginM (k.toNat:Int) (c.toNat:Int) (s.toNat:Int)) M with
  | none=>rw [hr] at h;cases h
  | some y =>
   rw [hr] at h
   simp only [Option.bind_some] at h
   obtain ⟨q,N⟩:=y
   obtain ⟨h1,_,_,_,_,_,h7⟩:=readNums_inv _ _ q M N (fun f hf=>(fld_off _ f hf).1) (fld_distinct _) (begin_in k c s) hr
   have hN:N.length<=M.length:=by rw [h1,List.length_append];omega
   have hq:q.tell.answer=[]:=readNums_ans _ _ _ _ _ hr
   unfold lastOf at h
   dsimp only at h
   by_cases c1:callsB q=true
   ·rw [if_pos c1] at h
    split at h
    ·obtain rfl:setOps q (readC N).1=r:=by simpa using h
     refine ⟨⟨h7.k0,h7.k1,h7.c0,h7.c1,⟨h7.ask.k0,h7.ask.k1,h7.ask.t0,h7.ask.t1,h7.ask.s0,h7.ask.s1,h7.ask.n0,h7.ask.n1,h7.ask.m0,h7.ask.m1⟩,h7.tell⟩,?_⟩
     rw [show (setOps q (readC N).1).tell.answer=[] from hq]
     simp
    ·cases h
   ·rw [if_neg c1] at h
    by_cases c2:answersB q=true
    ·rw [if_pos c2] at h
     obtain rfl:setAns q N=r:=by simpa using h
     refine ⟨⟨h7.k0,h7.k1,h7.c0,h7.c1,h7.ask,⟨h7.tell.k0,h7.tell.k1,h7.tell.t0,h7.tell.t1,h7.tell.s0,h7.tell.s1,h7.tell.n0,h7.tell.n1⟩⟩,?_⟩
     simp only [List.length_cons]
     exact Nat.le_trans hN (by omega)
    ·rw [if_neg c2] at h
     split at h
     ·obtain rfl:q=r:=by simpa using h
      exact ⟨h7,by rw [hq];simp⟩
     ·cases h
 ·cases h
def RdInP (L:Bs)(w:World)(e:Ending)(w':World):Prop:=∃er ov av r,e=.returned (.tuple #[msgV ov av r,.int .i64 er])/\OpsOwn w' w.heap.size ov r.ask.ops/\Own w' w.heap.size av r.tell.answer/\w.grownBy w' none/\((er=0/\pMsg L=some r)\/((er==0)=false/\pMsg L=none))
def ReadMP (L:Bs)(w:World)(e:Ending)(w':World):Prop:=∃ov av,e=.returned (.tuple #[msgV ov av (readM L).1,.int .i64 (readM L).2])/\OpsOwn w' w.heap.size ov (readM L).1.ask.ops/\Own w' w.heap.size av (readM L).1.tell.answer/\w.grownBy w' none
theorem isSl_ow {w:World}{B:Nat}{v:Value}{l:List POp}(h:OpsOwn w B v l):IsSl v:=by obtain ⟨x,n,y,h,_⟩:=h.slice;exact ⟨x,n,y,h⟩
theorem isSl_on {w:World}{B:Nat}{v:Value}{l:Bs}(h:Own w B v l):IsSl v:=isSl_seg h.seg
theorem loadM {w:World}{g:Nat}{ov av:Value}{m:PMsg}(h:MB w g ov av m)(h1:IsSl ov)(h2:IsSl av):(loadVar 34 ⟨g,0,none⟩).run Tryz.prog w=.ok (.agg #[.int .i64 m.kind,.int .i64 m.client,.int .i64 m.ask.kind,.int .i64 m.ask.token,.int .i64 m.ask.session,.int .i64 m.ask.number,.int .i64 m.ask.mark,ov,.int .i64 m.tell.kind,.int .i64 m.tell.token,.int .i64 m.tell.session,.int .i64 m.tell.number,av]) w:=by
 obtain ⟨ao,n,ca,rfl⟩:=h1
 obtain ⟨bo,p,cb,rfl⟩:=h2
 exact run_loadVar_row w g 34 34 _ (0,0) _ h Tryz.underlying34 rfl (by kernel_rfl)
def ReadGood:Prop:=∀(v:Value) (L:Bs) (w:World),Seg w v L->L.length<=140737488355328->Calls Tryz.prog 38 #[v] w (RdInP L w)
theorem read18 (HG:ReadGood)(v:Value)(L:Bs)(w:World)(hs:Seg w v L)(hz:L.length<=140737488354304):Calls Tryz.prog 18 #[v] w (ReadMP L w):=by
 obtain ⟨lo,ln,lc,rfl⟩:=isSl_seg hs
 have HS:Hid (Seg w (.slice lo ln lc) L/\L.length<=140737488354304/\ReadGood):=⟨hs,hz,HG⟩
 clear hs hz HG
 go_enter Tryz.func18,Tryz.ntmps18
 go_upto_region 1 with fail
 obtain ⟨W,hW,HW⟩:=al1' w #[.int .i64 0,.int .i64 0,.int .i64 0,.int .i64 0,.int .i64 0,.int .i64 0,.int .i64 0,.slice none 0 0,.int .i64 0,.int .i64 0,.int .i64 0,.int .i64 0,.slice none 0 0] 34
 rw [hW]
 clear hW
 go_wp2_with fail
 refine (HS.out.2.2 (.slice lo ln lc) L W (HS.out.1.grown HW.out.2.1) (by have:=HS.out.2.1;omega)).mono ?_
 rintro e w1 ⟨er,ov,av,r,rfl,ho,ha,hg,hd⟩
 obtain ⟨ao,n,ca,rfl⟩:=isSl_ow ho
 obtain ⟨bo,p,cb,rfl⟩:=isSl_on ha
 have H1:Hid (OpsOwn w1 w.heap.size (.slice ao n ca) r.ask.ops/\Own w1 w.heap.size (.slice bo p cb) r.tell.answer/\w.grownBy w1 none/\Room w1 w.heap.size):=⟨ho.mono HW.out.2.1.size,ha.mono HW.out.2.1.size,grown_trans HW.out.2.1 hg,(room_lit HW.out.1).grown hg⟩
 clear ho ha hg HW
 unfold msgV
 go_upto_region 2 with fail
 obtain ⟨W2,hW2,HW2⟩:=boxM w1 ao n ca bo p cb r
 rw [hW2]
 clear hW2
 have H2:Hid (MB W2 w1.heap.size (.slice ao n ca) (.slice bo p cb) r/\OpsOwn W2 w.heap.size (.slice ao n ca) r.ask.ops/\Own W2 w.heap.size (.slice bo p cb) r.tell.answer/\w.grownBy W2 none/\Room W2 w.heap.size):=⟨HW2.out.1,H1.out.1.grown HW2.out.2.1,H1.out.2.1.grown HW2.out.2.1,grown_trans H1.out.2.2.1 HW2.out.2.1,H1.out.2.2.2.grown HW2.out.2.1⟩
 clear H1 HW2
 rcases hd with ⟨rfl,hp⟩ | ⟨he,hp⟩
 rotate_left
 ·have HR:Hid (readM L=(zeroM,4)):=by unfold readM Hid;rw [hp]
  have q1:(er != 0)=true:=by simp at he ⊢;exact he
  clear hp
  obtain ⟨r0,r1,r2,r3,r4,r5,r6,r7,r8,r9,r10,r11,r12,u0,u1,u2,u3,u4,u5,u6,u7,u8,u9,u10,u11,u12⟩:=H2.out.2.2.2.2.cells
  obtain ⟨z0,z1,z2,z3,z4,z5,z6,z7,z8,z9,z10,z11,z12⟩:=H2.out.2.2.2.2.frees
  go_wp2_with fail
  obtain ⟨W6,hW6,H6⟩:=setM H2.out.2.2.2.2 (.slice none 0 0) (.slice none 0 0) zeroM
  unfold zeroM zeroC zeroR at hW6
  dsimp only at hW6
  rw [hW6]
  clear hW6
  refine bodyPost_ret (v:=_) (results_row_tmp rfl _ _ w.heap.size _ rfl (loadM H6.out.1 isSl_nil isSl_nil)) rfl ?_
  exact ⟨(.slice none 0 0),(.slice none 0 0),by rw [HR.out];rfl,by rw [HR.out];exact opsOwn_nil _ _,by rw [HR.out];exact Own.nil _ _,grown_new H2.out.2.2.2.1 H6.out.2 (by intro x hx;simp at hx;omega)⟩
 have HP:Hid (pMsg L=some r):=hp
 obtain ⟨c0,c1,c2,c3,c4,c5,c6,c7,c8,c9,c10,c11,c12⟩:=H2.out.1.cells
 have HIN:=pMsg_in hp
 clear hp
 go_wp2_with fail
 refine (check8 (.slice ao n ca) (.slice bo p cb) r W2 (OpsOwn.ops H2.out.2.1) H2.out.2.2.1.seg (by have h1:=HIN.2;have h2:=HS.out.2.1;omega) HIN.1).mono ?_
 rintro e w3 ⟨rfl,g3⟩
 have H3:Hid (MB w3 w1.heap.size (.slice ao n ca) (.slice bo p cb) r/\OpsOwn w3 w.heap.size (.slice ao n ca) r.ask.ops/\Own w3 w.heap.size (.slice bo p cb) r.tell.answer/\w.grownBy w3 none/\Room w3 w.heap.size):=⟨H2.out.1.grown g3,H2.out.2.1.grown g3,H2.out.2.2.1.grown g3,grown_trans H2.out.2.2.2.1 g3,H2.out.2.2.2.2.grown g3⟩
 clear g3 H2 HIN c0 c1 c2 c3 c4 c5 c6 c7 c8 c9 c10 c11 c12
 obtain ⟨r0,r1,r2,r3,r4,r5,r6,r7,r8,r9,r10,r11,r12,u0,u1,u2,u3,u4,u5,u6,u7,u8,u9,u10,u11,u12⟩:=H3.out.2.2.2.2.cells
 obtain ⟨z0,z1,z2,z3,z4,z5,z6,z7,z8,z9,z10,z11,z12⟩:=H3.out.2.2.2.2.frees
 cases hok:okM r
 ·have HR:Hid (readM L=(zeroM,4)):=by unfold readM Hid;rw [HP.out];simp [hok]
  have he:errM r=2:=by unfold errM;rw [hok];rfl
  rw [he]
  clear hok he
  go_wp2_with fail
  obtain ⟨W6,hW6,H6⟩:=setM H3.out.2.2.2.2 (.slice none 0 0) (.slice none 0 0) zeroM
  unfold zeroM zeroC zeroR at hW6
  dsimp only at hW6
  rw [hW6]
  clear hW6
  refine bodyPost_ret (v:=_) (results_row_tmp rfl _ _ w.heap.size _ rfl (loadM H6.out.1 isSl_nil isSl_nil)) rfl ?_
  exact ⟨(.slice none 0 0),(.slice none 0 0),by rw [HR.out];rfl,by rw [HR.out];exact opsOwn_nil _ _,by rw [HR.out];exact Own.nil _ _,grown_new H3.out.2.2.2.1 H6.out.2 (by intro x hx;simp at hx;omega)⟩
 ·have HR:Hid (readM L=(r,0)):=by unfold readM Hid;rw [HP.out];simp [hok]
  have he:errM r=0:=by unfold errM;rw [hok];rfl
  rw [he]
  clear hok he
  obtain ⟨c0,c1,c2,c3,c4,c5,c6,c7,c8,c9,c10,c11,c12⟩:=H3.out.1.cells
  go_wp2_with fail
  obtain ⟨W6,hW6,H6⟩:=setM H3.out.2.2.2.2 (.slice ao n ca) (.slice bo p cb) r
  rw [hW6]
  clear hW6
  refine bodyPost_ret (v:=_) (results_row_tmp rfl _ _ w.heap.size _ rfl (loadM H6.out.1 ⟨_,_,_,rfl⟩ ⟨_,_,_,rfl⟩)) rfl ?_
  obtain ⟨k0,k1,k2,k3,k4,k5,k6,k7,k8,k9,k10,k11,k12,HRB⟩:=H3.out.2.2.2.2
  exact ⟨(.slice ao n ca),(.slice bo p cb),by rw [HR.out];rfl,by rw [HR.out];exact H3.out.2.1.set HRB (by decide) (by decide) H6.out.2,by rw [HR.out];exact own_set H3.out.2.2.1 HRB (by decide) H6.out.2,grown_new H3.out.2.2.2.1 H6.out.2 (by intro x hx;simp at hx;omega)⟩
end Go.Proofs.YtncbdhdfemidlaaGreat
