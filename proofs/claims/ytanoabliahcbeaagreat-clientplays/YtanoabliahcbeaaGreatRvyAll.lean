import Derived.Test.YtanoabliahcbeaaGreatRluAll
set_option maxHeartbeats 8000000
set_option maxRecDepth 100000
namespace Go.Proofs.YtanoabliahcbeaaGreat.Wn
open Go.RowKit Disk Table
open _root_.Go.Proofs.YtanoabliahcbeaaGreat.Calls _root_.Go.Proofs.YtanoabliahcbeaaGreat.Command
variable {s:CS} {w A A':World} {k:Nat} {c:PCfg} {v:Value}
theorem rhear16 (A:World)(o1:Option Addr)(o2 o3:Nat)(a1:Option Addr)(a2 a3:Nat)(m:PMsg)(h:Dm w A k c v s)(hok:Okc s)(ho:Ops A (.slice o1 o2 o3) m.ask.ops)(ha:Seg A (.slice a1 a2 a3) m.tell.answer)(hl:m.tell.answer.length<=140737488355328)(ht:s.tok<=3999999999999992):Calls Tryz.prog 16 #[.pointer (some ⟨k,0,none⟩),msgV (.slice o1 o2 o3) (.slice a1 a2 a3) m] A (RHearP w A k c s m):=by
 cases hn:hears s m with
 | false=>exact rhear16_no A o1 o2 o3 a1 a2 a3 m h ho ha hl hn
 | true =>
  refine hear_of A o1 o2 o3 a1 a2 a3 m h hok ho ha hl ht hn fun a W tb hS hX=>?_
  rw [p16_eq]
  by_cases hop:m.tell.kind=1/\s.ses=0/\m.tell.token=s.tok
  ·exact open16 a W tb a1 a2 a3 m hS hX hop.1 hop.2.1 hop.2.2 _
  ·refine look16 a W tb a1 a2 a3 m hS hX hop _ _ fun a W hS hX=>?_
   by_cases h0:s.ses=0
   ·exact noses16 a W tb a1 a2 a3 m hS hX (.inl ⟨h0,fun e=>hop ⟨e.1,h0,e.2⟩⟩) _
   ·by_cases h2:m.tell.session=s.ses
    ·refine ses16 a W tb a1 a2 a3 m hS hX h0 h2 _ _ fun a W hS hX=>?_
     by_cases h4:m.tell.kind=4
     ·exact gone16 a W tb a1 a2 a3 m hS hX h4 h0 h2
     ·by_cases hc:m.tell.kind=3\/m.tell.kind=5
      ·rw [q16_eq]
       exact call16 a W tb a1 a2 a3 m hS hX hc _ _ fun a W hS hX=>ans16 a W tb a1 a2 a3 m hS hX hc h0 h2
      ·exact other16 a W tb a1 a2 a3 m hS hX h0 (fun e=>hc (.inl e)) h4 (fun e=>hc (.inr e))
    ·exact noses16 a W tb a1 a2 a3 m hS hX (.inr ⟨h0,h2⟩) _
theorem rinvoke_nil (o1:Option Addr)(o2 o3:Nat)(A:World):Calls Tryz.prog 10 #[.pointer none,.agg #[.slice o1 o2 o3]] A fun e A'=>e=.returned (.tuple #[.int .i64 0,.int .i64 3])/\A.grownBy A' none:=by
 obtain ⟨w1,hw1,H1⟩:=al1 A #[.slice o1 o2 o3] 35
 go_enter Tryz.func10,Tryz.ntmps10
 go_upto_region 1 with fail
 try rw [hw1]
 clear hw1
 go_wp2_with fail
 go_ret2
 exact ⟨rfl,H1.out.2.1⟩
theorem rstep_nil (now:Int)(A:World):Calls Tryz.prog 12 #[.pointer none,.int .i64 now] A fun e A'=>e=.returned (.tuple #[.slice none 0 0,.int .i64 1])/\A.grownBy A' none:=by
 go_enter Tryz.func12,Tryz.ntmps12
 go_wp2_with fail
 go_ret2
 exact ⟨rfl,grown_refl _ _⟩
theorem rleave_nil (A:World):Calls Tryz.prog 18 #[.pointer none] A fun e A'=>e=.returned (.tuple #[.slice none 0 0,.slice none 0 0])/\A.grownBy A' none:=by
 go_enter Tryz.func18,Tryz.ntmps18
 go_wp2_with fail
 go_ret2
 exact ⟨rfl,grown_refl _ _⟩
theorem rhear_nil (A:World)(o1:Option Addr)(o2 o3:Nat)(a1:Option Addr)(a2 a3:Nat)(m:PMsg):Calls Tryz.prog 16 #[.pointer none,msgV (.slice o1 o2 o3) (.slice a1 a2 a3) m] A fun e A'=>e=.returned (.slice none 0 0)/\A.grownBy A' none:=by
 obtain ⟨w1,hw1,H1⟩:=al1 A #[.int .i64 m.kind,.int .i64 m.client,.int .i64 m.ask.kind,.int .i64 m.ask.token,.int .i64 m.ask.session,.int .i64 m.ask.number,.int .i64 m.ask.mark,.slice o1 o2 o3,.int .i64 m.tell.kind,.int .i64 m.tell.token,.int .i64 m.tell.session,.int .i64 m.tell.number,.slice a1 a2 a3] 45
 unfold msgV
 go_enter Tryz.func16,Tryz.ntmps16
 go_upto_region 1 with fail
 try rw [hw1]
 clear hw1
 refine wp_region_hold 1000 (fun y=>w1.grownBy y none) (by kernel_rfl) ?_
 have G2:Hid (A.grownBy w1.drew none/\w1.grownBy w1.drew none):=⟨grown_trans H1.out.2.1 (grown_drew _ _),grown_drew _ _⟩
 generalize w1.drew=w2 at G2 ⊢
 have J:Idx [0,1,2]:=trivial
 iterate 3 (refine tK J (G2.out.2) rfl rfl (fun wk hk=>by skip;go_simp;try rfl) ?_;replace J:=J.tl;try simp only [pN])
 clear J
 have J:Idx [3,4,5]:=trivial
 iterate 3 (refine sk J (G2.out.2) rfl rfl ?_;replace J:=J.tl;try simp only [pN])
 clear J
 have J:Idx [6,7]:=trivial
 iterate 2 (refine tK J (G2.out.2) rfl rfl (fun wk hk=>by skip;go_simp;try rfl) ?_;replace J:=J.tl;try simp only [pN])
 clear J
 have J:Idx [8,9,10,11,12,13,14]:=trivial
 iterate 7 (refine sk J (G2.out.2) rfl rfl ?_;replace J:=J.tl;try simp only [pN])
 clear J
 have J:Idx [15,16]:=trivial
 iterate 2 (refine tK J (G2.out.2) rfl rfl (fun wk hk=>by skip;go_simp;try rfl) ?_;replace J:=J.tl;try simp only [pN])
 clear J
 have J:Idx [17,18,19]:=trivial
 iterate 3 (refine sk J (G2.out.2) rfl rfl ?_;replace J:=J.tl;try simp only [pN])
 clear J
 have J:Idx [20]:=trivial
 iterate 1 (refine tK J (G2.out.2) rfl rfl (fun wk hk=>by skip;go_simp;try rfl) ?_;replace J:=J.tl;try simp only [pN])
 clear J
 refine wpHold_done (by kernel_rfl) ?_
 refine (‹∀(a:Act) (w:World),Code.wp Tryz.prog _ _ a w->_› _ _ ?_)
 go_wp2_with fail
 go_ret
 exact ⟨rfl,G2.out.1⟩
variable {s:CS} {w A A':World} {k:Nat} {c:PCfg} {v:Value}
def RStepP (w A:World)(k:Nat)(c:PCfg)(s:CS)(now:Int)(e:Ending)(A':World):Prop:=∃v,e=.returned (.tuple #[v,.int .i64 (stepE s now)])/\MsgsOwn A' A.heap.size v (stepM s now)/\Doc w A' k c (stepS s now)/\KeepD A A'
theorem at_dcs (s:CS)(now:Int):(s.at now).dcs=s.dcs:=rfl
theorem Dm.at {now:Int}(h:Dm w A k c v s):Dm w (A.setCell ⟨k,15,none⟩ (.int .i64 now)) k c v (s.at now):=by
 have hg:=grown_setCell A k 15 (.int .i64 now)
 have hlo:=h.lo
 exact ⟨h.blk.store 15 _,LRow.set h.row drR_stab h.blk (by decide) (by decide) hg,hlo,grown_new h.gr hg (by intro x hx;simp at hx;omega)⟩
theorem rstep_arg (A:World)(now:Int)(h:Dm w A k c v s)(ha:now<s.now\/1099511627776<now):Calls Tryz.prog 12 #[.pointer (some ⟨k,0,none⟩),.int .i64 now] A (RStepP w A k c s now):=by
 have HD:Hid (Dm w A k c v s):=h
 have HP:Hid (stepE s now=2/\stepM s now=[]/\stepS s now=s):=⟨by unfold stepE;rw [if_pos ha],by unfold stepM;rw [if_pos ha],by unfold stepS;rw [if_pos ha]⟩
 have c15:A.cell? ⟨k,15,none⟩=some (.int .i64 s.now):=h.blk.cell 15
 by_cases h1:now<s.now
 ·clear h ha
  go_enter Tryz.func12,Tryz.ntmps12
  go_wp2_with fail
  go_ret2
  unfold RStepP
  rw [HP.out.1,HP.out.2.1,HP.out.2.2]
  exact ⟨_,rfl,msgsOwn_nil _ _,⟨_,HD.out⟩,keepD_grown (grown_refl _ _)⟩
 ·have h2:1099511627776<now:=by rcases ha with e | e;exact absurd e h1;exact e
  clear h ha
  go_enter Tryz.func12,Tryz.ntmps12
  go_wp2_with fail
  go_ret2
  unfold RStepP
  rw [HP.out.1,HP.out.2.1,HP.out.2.2]
  exact ⟨_,rfl,msgsOwn_nil _ _,⟨_,HD.out⟩,keepD_grown (grown_refl _ _)⟩
theorem rstep_0 (A:World)(now:Int)(h:Dm w A k c v s)(hok:Okc s)(ha:¬(now<s.now\/1099511627776<now))(h0:s.ses=0):Calls Tryz.prog 12 #[.pointer (some ⟨k,0,none⟩),.int .i64 now] A (RStepP w A k c s now):=by
 have hN:s.dcs.length=s.wt.length:=by rw [n0_dcs];unfold CS.n0;rw [hok.none h0];simp [gather]
 obtain ⟨n,hn⟩:∃n,s.dcs.length=n:=⟨_,rfl⟩
 obtain ⟨ak,hak⟩:∃x,s.asked=x:=⟨_,rfl⟩
 have HN:Hid (s.dcs.length=n/\s.asked=ak/\(s.at now).asks=(decide (0<n) && due ak s.askAt now s.tmo)):=by
  refine ⟨hn,hak,?_⟩
  have e:decide (s.wt≠[])=decide (0<n):=by
   rw [<-hn,hN]
   cases s.wt <;> simp
  simp only [CS.asks,CS.at,e,hak]
 have d1:IntKind.i64.wrap (now-s.askAt)=now-s.askAt:=by have:=hok.askAt;have:=hok.now;rw [IntKind.wrap_i64];omega
 clear hN hn hak
 have HE:Hid (¬(now<s.now\/1099511627776<now)):=ha
 have n1:¬now<s.now:=fun e=>ha (.inl e)
 have n2:¬1099511627776<now:=fun e=>ha (.inr e)
 have HD:Hid (Dm w A k c v s/\Okc (s.at now)):=⟨h,hok.at (by omega)⟩
 have c15:A.cell? ⟨k,15,none⟩=some (.int .i64 s.now):=h.blk.cell 15
 have f15:=h.blk.free 15
 have H1:Hid (Dm w (A.setCell ⟨k,15,none⟩ (.int .i64 now)) k c v (s.at now)/\KeepD A (A.setCell ⟨k,15,none⟩ (.int .i64 now))/\A.heap.size<=(A.setCell ⟨k,15,none⟩ (.int .i64 now)).heap.size):=⟨h.at,keepD_own h.blk (.inl rfl) (grown_setCell _ _ _ _),(grown_setCell _ _ _ _).size⟩
 clear h hok ha
 go_enter Tryz.func12,Tryz.ntmps12
 go_upto_region 7 with fail
 generalize A.setCell ⟨k,15,none⟩ (.int .i64 now)=w1 at H1 ⊢
 clear c15 f15 n1 n2
 have c11:w1.cell? ⟨k,11,none⟩=some (.int .i64 0):=by rw [<-h0];exact H1.out.1.blk.cell 11
 have HP:Hid (stepE s now=0/\stepM s now=enterMsgs (s.at now)/\stepS s now=enterS (s.at now)):=⟨by unfold stepE;rw [if_neg HE.out],by unfold stepM;rw [if_neg HE.out,if_pos h0],by unfold stepS;rw [if_neg HE.out,if_pos h0]⟩
 obtain ⟨ao,cap,hv⟩:=H1.out.1.sl
 have HC:Hid (∀y,w1.grownBy y none->y.cell? ⟨k,10,none⟩=some (.slice ao n cap)/\y.cell? ⟨k,13,none⟩=some (.bool ak)/\y.cell? ⟨k,14,none⟩=some (.int .i64 s.askAt)/\y.cell? ⟨k,6,none⟩=some (.int .i64 s.tmo)):=fun y hy=>by
  have hb:=H1.out.1.blk.grown hy (by simp)
  have e:v=.slice ao n cap:=by rw [hv,at_dcs,HN.out.1]
  have c10:=hb.cell 10
  have c13:=hb.cell 13
  rw [e] at c10
  exact ⟨c10,by rw [<-HN.out.2.1];exact c13,hb.cell 14,hb.cell 6⟩
 clear h0 hv
 go_upto_region 8 with fail
 clear c11
 refine wp_region_hold 1000 (fun y=>w1.grownBy y none) (by kernel_rfl) ?_
 have G2:Hid (w1.grownBy w1.drew none):=grown_drew _ _
 generalize w1.drew=w2 at G2 ⊢
 by_cases hq:0<n/\(ak=false\/ak=true/\(s.tmo:Int)<=now-s.askAt)
 ·obtain ⟨hnp,hq⟩:=hq
  have HA:Hid ((s.at now).asks=true):=by
   unfold Hid
   rw [HN.out.2.2]
   rcases hq with rfl | ⟨rfl,h⟩
   ·simp [hnp,due]
   ·simp [hnp,due,h]
  rcases hq with rfl | ⟨rfl,hw⟩
  ·skip
   have J:Idx [0,1,2,3,4,5,6,7,8,9,10,11,12]:=trivial
   iterate 13 (refine tK J (G2.out) rfl rfl (fun wk hk=>by obtain ⟨k10,k13,k14,k6⟩:=HC.out wk hk;go_simp;try rfl) ?_;replace J:=J.tl;try simp only [pN])
   clear J
   have J:Idx [13,14,15,16,17,18,19,20,21,22,23,24]:=trivial
   iterate 12 (refine sk J (G2.out) rfl rfl ?_;replace J:=J.tl;try simp only [pN])
   clear J
   have J:Idx [25,26]:=trivial
   iterate 2 (refine tK J (G2.out) rfl rfl (fun wk hk=>by obtain ⟨k10,k13,k14,k6⟩:=HC.out wk hk;go_simp;try rfl) ?_;replace J:=J.tl;try simp only [pN])
   clear J
   refine wpHold_done (by kernel_rfl) ?_
   refine (‹∀(a:Act) (w:World),Code.wp Tryz.prog _ _ a w->_› _ _ ?_)
   clear HC
   have H2:Hid (Dm w w2 k c v (s.at now)/\KeepD A w2/\A.heap.size<=w2.heap.size):=⟨H1.out.1.grown G2.out,keepD_trans H1.out.2.1 (keepD_grown G2.out),Nat.le_trans H1.out.2.2 G2.out.size⟩
   have c13:w2.cell? ⟨k,13,none⟩=some (.bool s.asked):=H2.out.1.blk.cell 13
   have c14:w2.cell? ⟨k,14,none⟩=some (.int .i64 s.askAt):=H2.out.1.blk.cell 14
   have f13:=H2.out.1.blk.free 13
   have f14:=H2.out.1.blk.free 14
   have H3:Hid (Dm w ((w2.setCell ⟨k,13,none⟩ (.bool true)).setCell ⟨k,14,none⟩ (.int .i64 now)) k c v (s.at now).ask/\KeepD A ((w2.setCell ⟨k,13,none⟩ (.bool true)).setCell ⟨k,14,none⟩ (.int .i64 now))/\A.heap.size<=((w2.setCell ⟨k,13,none⟩ (.bool true)).setCell ⟨k,14,none⟩ (.int .i64 now)).heap.size):=by
    have hg:=grown_trans (grown_setCell w2 k 13 (.bool true)) (grown_setCell (w2.setCell ⟨k,13,none⟩ (.bool true)) k 14 (.int .i64 now))
    have hlo:=H2.out.1.lo
    exact ⟨⟨(H2.out.1.blk.store 13 _).store 14 _,LRow.set H2.out.1.row drR_stab H2.out.1.blk (by decide) (by decide) hg,hlo,grown_new H2.out.1.gr hg (by intro x hx;simp at hx;omega)⟩,keepD_trans H2.out.2.1 (keepD_own H2.out.1.blk (.inl rfl) hg),Nat.le_trans H2.out.2.2 hg.size⟩
   clear G2
   go_upto_region 11 with fail
   generalize (w2.setCell ⟨k,13,none⟩ (.bool true)).setCell ⟨k,14,none⟩ (.int .i64 now)=w3 at H3 ⊢
   clear c13 c14 f13 f14
   have HC:Hid (∀y,w3.grownBy y none->y.cell? ⟨k,0,none⟩=some (.int .i64 s.num)/\y.cell? ⟨k,12,none⟩=some (.int .i64 s.tok)):=fun y hy=>by
    have hb:=H3.out.1.blk.grown hy (by simp)
    exact ⟨hb.cell 0,hb.cell 12⟩
   refine wp_region_hold 1000 (fun y=>w3.grownBy y none) (by kernel_rfl) ?_
   have G4:Hid (w3.grownBy w3.drew none):=grown_drew _ _
   generalize w3.drew=w4 at G4 ⊢
   have J:Idx [0,1,2,3,4,5,6,7,8,9,10]:=trivial
   iterate 11 (refine tK J (G4.out) rfl rfl (fun wk hk=>by obtain ⟨k0,k12⟩:=HC.out wk hk;go_simp;try rfl) ?_;replace J:=J.tl;try simp only [pN])
   clear J
   refine wpHold_one (i:=11) rfl (by kernel_rfl) (by rfl) (fun K hK=>?_)
   obtain ⟨w8,hw8,H8'⟩:=al1 w4 #[.int .i64 1,.int .i64 s.num,.int .i64 1,.int .i64 s.tok,.int .i64 0,.int .i64 0,.int .i64 0,.slice none 0 0,.int .i64 0,.int .i64 0,.int .i64 0,.int .i64 0,.slice none 0 0] 45
   obtain ⟨p8,hp8⟩:∃x,w4.heap.size=x:=⟨_,rfl⟩
   rw [hp8] at H8'
   have HW8:Hid (w4.alloc (.cells #[.int .i64 1,.int .i64 s.num,.int .i64 1,.int .i64 s.tok,.int .i64 0,.int .i64 0,.int .i64 0,.slice none 0 0,.int .i64 0,.int .i64 0,.int .i64 0,.int .i64 0,.slice none 0 0] 45)=w8/\w4.heap.size=p8):=⟨hw8,hp8⟩
   clear hw8 hp8
   go_wp2_with fail
   rw [HW8.out.1,HW8.out.2]
   have H8:Hid (MB w8 p8 (.slice none 0 0) (.slice none 0 0) (msgOpen (s.at now))/\w3.grownBy w8 none):=⟨H8'.out.1,grown_trans G4.out H8'.out.2.1⟩
   clear HW8 H8'
   refine hK.out _ _ (fun _=>H8.out.2) ?_
   clear hK K
   try simp only [pN]
   refine wpHold_one (i:=12) rfl (by kernel_rfl) (by rfl) (fun K hK=>?_)
   refine app34_wp w8 _ _ rfl A.heap.size (.slice none 0 0) [] (msgOpen (s.at now)) p8 _ _ rfl rfl (msgsOwn_nil _ _) H8.out.1 (opsOwn_nil _ _) (Own.nil _ _) (by simp) (Nat.le_trans H3.out.2.2 H8.out.2.size) ?_
   intro g' cap' w10 hr hg hgg
   have hg':w8.grownBy w10 none:=hg
   rw [List.nil_append] at hr
   have H10:Hid (MsgsOwn w10 A.heap.size (.slice (some ⟨g',0,none⟩) (0+1) cap') [msgOpen (s.at now)]/\w3.grownBy w10 none):=⟨hr,grown_trans H8.out.2 hg'⟩
   clear hr hg hgg hg'
   refine hK.out _ _ (fun _=>H10.out.2) ?_
   clear hK K
   try simp only [pN]
   have J:Idx [13]:=trivial
   iterate 1 (refine tK J (H10.out.2) rfl rfl (fun wk hk=>by obtain ⟨k0,k12⟩:=HC.out wk hk;go_simp;try rfl) ?_;replace J:=J.tl;try simp only [pN])
   clear J
   refine wpHold_done (by kernel_rfl) ?_
   refine (‹∀(a:Act) (w:World),Code.wp Tryz.prog _ _ a w->_› _ _ ?_)
   go_wp2_with fail
   go_ret2
   unfold RStepP
   rw [HP.out.1,HP.out.2.1,HP.out.2.2]
   unfold enterMsgs enterS
   rw [HA.out]
   exact ⟨_,rfl,H10.out.1,⟨_,H3.out.1.grown H10.out.2⟩,keepD_trans H3.out.2.1 (keepD_grown H10.out.2)⟩
  ·skip
   have J:Idx [0,1,2,3,4,5,6,7,8,9,10,11,12,13,14,15,16,17,18,19,20,21,22,23,24,25,26]:=trivial
   iterate 27 (refine tK J (G2.out) rfl rfl (fun wk hk=>by obtain ⟨k10,k13,k14,k6⟩:=HC.out wk hk;go_simp;try rfl) ?_;replace J:=J.tl;try simp only [pN])
   clear J
   refine wpHold_done (by kernel_rfl) ?_
   refine (‹∀(a:Act) (w:World),Code.wp Tryz.prog _ _ a w->_› _ _ ?_)
   clear HC
   have H2:Hid (Dm w w2 k c v (s.at now)/\KeepD A w2/\A.heap.size<=w2.heap.size):=⟨H1.out.1.grown G2.out,keepD_trans H1.out.2.1 (keepD_grown G2.out),Nat.le_trans H1.out.2.2 G2.out.size⟩
   have c13:w2.cell? ⟨k,13,none⟩=some (.bool s.asked):=H2.out.1.blk.cell 13
   have c14:w2.cell? ⟨k,14,none⟩=some (.int .i64 s.askAt):=H2.out.1.blk.cell 14
   have f13:=H2.out.1.blk.free 13
   have f14:=H2.out.1.blk.free 14
   have H3:Hid (Dm w ((w2.setCell ⟨k,13,none⟩ (.bool true)).setCell ⟨k,14,none⟩ (.int .i64 now)) k c v (s.at now).ask/\KeepD A ((w2.setCell ⟨k,13,none⟩ (.bool true)).setCell ⟨k,14,none⟩ (.int .i64 now))/\A.heap.size<=((w2.setCell ⟨k,13,none⟩ (.bool true)).setCell ⟨k,14,none⟩ (.int .i64 now)).heap.size):=by
    have hg:=grown_trans (grown_setCell w2 k 13 (.bool true)) (grown_setCell (w2.setCell ⟨k,13,none⟩ (.bool true)) k 14 (.int .i64 now))
    have hlo:=H2.out.1.lo
    exact ⟨⟨(H2.out.1.blk.store 13 _).store 14 _,LRow.set H2.out.1.row drR_stab H2.out.1.blk (by decide) (by decide) hg,hlo,grown_new H2.out.1.gr hg (by intro x hx;simp at hx;omega)⟩,keepD_trans H2.out.2.1 (keepD_own H2.out.1.blk (.inl rfl) hg),Nat.le_trans H2.out.2.2 hg.size⟩
   clear G2
   go_upto_region 11 with fail
   generalize (w2.setCell ⟨k,13,none⟩ (.bool true)).setCell ⟨k,14,none⟩ (.int .i64 now)=w3 at H3 ⊢
   clear c13 c14 f13 f14
   have HC:Hid (∀y,w3.grownBy y none->y.cell? ⟨k,0,none⟩=some (.int .i64 s.num)/\y.cell? ⟨k,12,none⟩=some (.int .i64 s.tok)):=fun y hy=>by
    have hb:=H3.out.1.blk.grown hy (by simp)
    exact ⟨hb.cell 0,hb.cell 12⟩
   refine wp_region_hold 1000 (fun y=>w3.grownBy y none) (by kernel_rfl) ?_
   have G4:Hid (w3.grownBy w3.drew none):=grown_drew _ _
   generalize w3.drew=w4 at G4 ⊢
   have J:Idx [0,1,2,3,4,5,6,7,8,9,10]:=trivial
   iterate 11 (refine tK J (G4.out) rfl rfl (fun wk hk=>by obtain ⟨k0,k12⟩:=HC.out wk hk;go_simp;try rfl) ?_;replace J:=J.tl;try simp only [pN])
   clear J
   refine wpHold_one (i:=11) rfl (by kernel_rfl) (by rfl) (fun K hK=>?_)
   obtain ⟨w8,hw8,H8'⟩:=al1 w4 #[.int .i64 1,.int .i64 s.num,.int .i64 1,.int .i64 s.tok,.int .i64 0,.int .i64 0,.int .i64 0,.slice none 0 0,.int .i64 0,.int .i64 0,.int .i64 0,.int .i64 0,.slice none 0 0] 45
   obtain ⟨p8,hp8⟩:∃x,w4.heap.size=x:=⟨_,rfl⟩
   rw [hp8] at H8'
   have HW8:Hid (w4.alloc (.cells #[.int .i64 1,.int .i64 s.num,.int .i64 1,.int .i64 s.tok,.int .i64 0,.int .i64 0,.int .i64 0,.slice none 0 0,.int .i64 0,.int .i64 0,.int .i64 0,.int .i64 0,.slice none 0 0] 45)=w8/\w4.heap.size=p8):=⟨hw8,hp8⟩
   clear hw8 hp8
   go_wp2_with fail
   rw [HW8.out.1,HW8.out.2]
   have H8:Hid (MB w8 p8 (.slice none 0 0) (.slice none 0 0) (msgOpen (s.at now))/\w3.grownBy w8 none):=⟨H8'.out.1,grown_trans G4.out H8'.out.2.1⟩
   clear HW8 H8'
   refine hK.out _ _ (fun _=>H8.out.2) ?_
   clear hK K
   try simp only [pN]
   refine wpHold_one (i:=12) rfl (by kernel_rfl) (by rfl) (fun K hK=>?_)
   refine app34_wp w8 _ _ rfl A.heap.size (.slice none 0 0) [] (msgOpen (s.at now)) p8 _ _ rfl rfl (msgsOwn_nil _ _) H8.out.1 (opsOwn_nil _ _) (Own.nil _ _) (by simp) (Nat.le_trans H3.out.2.2 H8.out.2.size) ?_
   intro g' cap' w10 hr hg hgg
   have hg':w8.grownBy w10 none:=hg
   rw [List.nil_append] at hr
   have H10:Hid (MsgsOwn w10 A.heap.size (.slice (some ⟨g',0,none⟩) (0+1) cap') [msgOpen (s.at now)]/\w3.grownBy w10 none):=⟨hr,grown_trans H8.out.2 hg'⟩
   clear hr hg hgg hg'
   refine hK.out _ _ (fun _=>H10.out.2) ?_
   clear hK K
   try simp only [pN]
   have J:Idx [13]:=trivial
   iterate 1 (refine tK J (H10.out.2) rfl rfl (fun wk hk=>by obtain ⟨k0,k12⟩:=HC.out wk hk;go_simp;try rfl) ?_;replace J:=J.tl;try simp only [pN])
   clear J
   refine wpHold_done (by kernel_rfl) ?_
   refine (‹∀(a:Act) (w:World),Code.wp Tryz.prog _ _ a w->_› _ _ ?_)
   go_wp2_with fail
   go_ret2
   unfold RStepP
   rw [HP.out.1,HP.out.2.1,HP.out.2.2]
   unfold enterMsgs enterS
   rw [HA.out]
   exact ⟨_,rfl,H10.out.1,⟨_,H3.out.1.grown H10.out.2⟩,keepD_trans H3.out.2.1 (keepD_grown H10.out.2)⟩
 ·have hr:¬0<n\/(0<n/\ak=true/\¬(s.tmo:Int)<=now-s.askAt):=by
   by_cases h1:0<n
   ·refine .inr ⟨h1,?_,fun h=>?_⟩
    ·cases ak
     ·exact absurd ⟨h1,.inl rfl⟩ hq
     ·rfl
    ·cases ak
     ·exact hq ⟨h1,.inl rfl⟩
     ·exact hq ⟨h1,.inr ⟨rfl,h⟩⟩
   ·exact .inl h1
  have HA:Hid ((s.at now).asks=false):=by
   unfold Hid
   rw [HN.out.2.2]
   rcases hr with h | ⟨h1,rfl,h⟩
   ·simp [h]
   ·simp [h1,due,h]
  clear hq
  rcases hr with hnp | ⟨hnp,rfl,hw⟩
  ·skip
   have J:Idx [0,1,2,3,4,5,6]:=trivial
   iterate 7 (refine tK J (G2.out) rfl rfl (fun wk hk=>by obtain ⟨k10,k13,k14,k6⟩:=HC.out wk hk;go_simp;try rfl) ?_;replace J:=J.tl;try simp only [pN])
   clear J
   have J:Idx [7,8,9,10,11,12,13,14,15,16,17,18,19,20,21,22,23,24,25]:=trivial
   iterate 19 (refine sk J (G2.out) rfl rfl ?_;replace J:=J.tl;try simp only [pN])
   clear J
   have J:Idx [26]:=trivial
   iterate 1 (refine tK J (G2.out) rfl rfl (fun wk hk=>by obtain ⟨k10,k13,k14,k6⟩:=HC.out wk hk;go_simp;try rfl) ?_;replace J:=J.tl;try simp only [pN])
   clear J
   refine wpHold_done (by kernel_rfl) ?_
   refine (‹∀(a:Act) (w:World),Code.wp Tryz.prog _ _ a w->_› _ _ ?_)
   go_wp2_with fail
   go_ret2
   unfold RStepP
   rw [HP.out.1,HP.out.2.1,HP.out.2.2]
   unfold enterMsgs enterS
   rw [HA.out]
   exact ⟨_,rfl,msgsOwn_nil _ _,⟨_,H1.out.1.grown G2.out⟩,keepD_trans H1.out.2.1 (keepD_grown G2.out)⟩
  ·skip
   have J:Idx [0,1,2,3,4,5,6,7,8,9,10,11,12,13,14,15,16,17,18,19,20,21,22,23,24,25,26]:=trivial
   iterate 27 (refine tK J (G2.out) rfl rfl (fun wk hk=>by obtain ⟨k10,k13,k14,k6⟩:=HC.out wk hk;go_simp;try rfl) ?_;replace J:=J.tl;try simp only [pN])
   clear J
   refine wpHold_done (by kernel_rfl) ?_
   refine (‹∀(a:Act) (w:World),Code.wp Tryz.prog _ _ a w->_› _ _ ?_)
   go_wp2_with fail
   go_ret2
   unfold RStepP
   rw [HP.out.1,HP.out.2.1,HP.out.2.2]
   unfold enterMsgs enterS
   rw [HA.out]
   exact ⟨_,rfl,msgsOwn_nil _ _,⟨_,H1.out.1.grown G2.out⟩,keepD_trans H1.out.2.1 (keepD_grown G2.out)⟩
variable {s:CS} {w A A':World} {k:Nat} {c:PCfg} {v:Value}
theorem upto_first (s:CS):s.upto (lead s.L)=s/\gather (sendG s) s.L (lead s.L)=[]:=by
 have hlow:=lead_low s.L
 constructor
 ·have e:mapUp (sendF s) s.L (lead s.L)=s.L:=by
   apply List.ext_getElem?
   intro i
   rw [mapUp_get]
   by_cases h:i<lead s.L
   ·rw [hlow i h]
    simp
   ·simp [h]
  unfold CS.upto
  rw [e]
  rfl
 ·have key:∀j,j<=lead s.L->gather (sendG s) s.L j=[]:=by
   intro j
   induction j with
   | zero=>intro _;rfl
   | succ j ih =>
    intro h
    rw [gather,ih (by omega),hlow j (by omega)]
    rfl
  exact key _ (Nat.le_refl _)
theorem D12.give {A0 A1 A2:World}{g n cap j i:Nat}(h:D12 w A0 A k c (.slice (some ⟨g,0,none⟩) n cap) (s.gv j) (.slice none 0 0) [])(hj:j<s.wt.length)(hi:i=s.n0+j)(hok:Okc s)
  (h1:A1=A.setCell ⟨k,16,none⟩ (.int .i64 ((s.L.length+j+1:Nat):Int))) (hg:A1.grownBy A2 none):D12 w A0 (A2.setCell ⟨g,i*5+1,none⟩ (.int .i64 ((s.L.length+j+1:Nat):Int))) k c (.slice (some ⟨g,0,none⟩) n cap) (s.gv (j+1)) (.slice none 0 0) []:=by
 subst hi
 obtain ⟨hl,h0,hs⟩:=gv_step hj (hok.wait _ (List.getElem_mem hj))
 obtain ⟨⟨b1,b2,b3,b4⟩,hm,hk,hlo,hk0⟩:=h
 have hg1:=grown_setCell A k 16 (.int .i64 ((s.L.length+j+1:Nat):Int))
 rw [<-h1] at hg1
 have c1:Blk A1 k 51 (docC (s.gv (j+1)) c (.slice (some ⟨g,0,none⟩) n cap)):=by
  have:=b1.store 16 (.int .i64 ((s.L.length+j+1:Nat):Int))
  rw [<-h1] at this
  have e:(s.gv (j+1)).L.length=s.L.length+j+1:=by rw [gv_len (by omega)];omega
  unfold docC
  rw [e]
  exact this
 have r1:DRow A1 w.heap.size (.slice (some ⟨g,0,none⟩) n cap) (s.gv j).dcs:=LRow.set b2 drR_stab b1 (by decide) (by decide) hg1
 have r2:=LRow.grown r1 drR_stab hg
 obtain ⟨r3,hg3⟩:=lrow_cell r2 drR_stab (by decide) (s.n0+j) hl 1 (by decide) (.int .i64 ((s.L.length+j+1:Nat):Int)) ⟨(s.gv j).dcs[s.n0+j].id,((s.L.length+j+1:Nat):Int),(s.gv j).dcs[s.n0+j].tm,(s.gv j).dcs[s.n0+j].was,(s.gv j).dcs[s.n0+j].ops⟩ fun x w' hx=>by
  obtain ⟨ov,rfl,h⟩:=hx
  exact ⟨ov,rfl,h⟩
 rw [<-hs] at r3
 have hgw:w.heap.size<=g:=(LRow.lt b2 g rfl).1
 obtain ⟨C2,hC2⟩:=(DRow.blk r2 g rfl).2
 obtain ⟨C0,hC0⟩:=(DRow.blk b2 g rfl).2
 have hgk:g≠k:=fun e=>by
  subst e
  exact absurd (blk_type b1 hC0) (by decide)
 have c2:=c1.grown hg (by simp)
 refine ⟨⟨c2.grown hg3 (by simpa using hgk),r3,b3,?_⟩,msgsOwn_nil _ _,?_,?_,hk0⟩
 ·exact grown_new (grown_trans (grown_new b4 hg1 (by intro x hx;simp at hx;omega)) hg) hg3 (by intro x hx;simp at hx;omega)
 ·exact keepD_trans (keepD_trans hk (keepD_own b1 (.inl rfl) hg1)) (keepD_trans (keepD_grown hg) (keepD_own hC2 (.inr rfl) hg3))
 ·have:=hg1.size
  have:=hg.size
  have:=hg3.size
  omega
theorem rstep_s (A:World)(now:Int)(h:Dm w A k c v s)(hok:Okc s)(ha:¬(now<s.now\/1099511627776<now))(h0:s.ses≠0):Calls Tryz.prog 12 #[.pointer (some ⟨k,0,none⟩),.int .i64 now] A (RStepP w A k c s now):=by
 have h1s:1<=s.ses:=by have:=hok.ses;omega
 have s1:(s.ses==0)=false:=by rw [beq_eq_false_iff_ne];exact h0
 have hk0:=h.blk.lt
 have HP:Hid (stepE s now=0/\stepM s now=(s.at now).given.msgs/\stepS s now=(s.at now).given.sent):=⟨by unfold stepE;rw [if_neg ha],by unfold stepM;rw [if_neg ha,if_neg h0],by unfold stepS;rw [if_neg ha,if_neg h0]⟩
 have HE:Hid (¬(now<s.now\/1099511627776<now)):=ha
 have n1:¬now<s.now:=fun e=>ha (.inl e)
 have n2:¬1099511627776<now:=fun e=>ha (.inr e)
 have HD:Hid (Dm w A k c v s/\Okc (s.at now)):=⟨h,hok.at (by omega)⟩
 have c15:A.cell? ⟨k,15,none⟩=some (.int .i64 s.now):=h.blk.cell 15
 have f15:=h.blk.free 15
 have H1:Hid (Dm w (A.setCell ⟨k,15,none⟩ (.int .i64 now)) k c v (s.at now)/\KeepD A (A.setCell ⟨k,15,none⟩ (.int .i64 now))/\A.heap.size<=(A.setCell ⟨k,15,none⟩ (.int .i64 now)).heap.size):=⟨h.at,keepD_own h.blk (.inl rfl) (grown_setCell _ _ _ _),(grown_setCell _ _ _ _).size⟩
 clear h hok ha
 go_enter Tryz.func12,Tryz.ntmps12
 go_upto_region 7 with fail
 generalize A.setCell ⟨k,15,none⟩ (.int .i64 now)=w1 at H1 ⊢
 clear c15 f15 n1 n2
 obtain ⟨q,hq⟩:∃q,s.at now=q:=⟨_,rfl⟩
 have HQ:Hid (1<=q.ses/\q.now=now/\q.ses=s.ses/\k<A.heap.size):=by rw [<-hq];exact ⟨h1s,rfl,rfl,hk0⟩
 rw [hq] at HP H1 HD
 clear h1s hk0 h0 hq
 obtain ⟨ao,cap,rfl⟩:=H1.out.1.sl
 obtain ⟨n,hn⟩:∃n,q.dcs.length=n:=⟨_,rfl⟩
 rw [hn] at H1
 have HN:Hid (q.dcs.length=n/\n<=1000000000000):=⟨hn,by have:=dcs_len q;have:=HD.out.2.last;omega⟩
 clear hn
 have c11:w1.cell? ⟨k,11,none⟩=some (.int .i64 s.ses):=by rw [<-HQ.out.2.2.1];exact H1.out.1.blk.cell 11
 have c10:w1.cell? ⟨k,10,none⟩=some (.slice ao n cap):=H1.out.1.blk.cell 10
 replace HD:Hid (Okc q):=HD.out.2
 go_wp2_with fail
 clear c11 s1 c10
 go_loopw [7] (fun q' wr=>∃j:Nat,q'=.int .i64 (j:Nat)/\j<=n/\Hid (D12 w A wr k c (.slice ao n cap) (q.gv (min (j-q.n0) q.many)) (.slice none 0 0) [])) (fun q' _=>n-(intOf q').toNat)
 case atStart =>
  refine ⟨0,rfl,Nat.zero_le _,?_⟩
  have e:min (0-q.n0) q.many=0:=by omega
  rw [e,gv_zero]
  exact ⟨H1.out.1,msgsOwn_nil _ _,H1.out.2.1,H1.out.2.2,HQ.out.2.2.2⟩
 case round =>
  obtain ⟨j,rfl,hj,G⟩:=hrel
  have c10:wr.cell? ⟨k,10,none⟩=some (.slice ao n cap):=G.out.dm.blk.cell 10
  by_cases hlt:j<n
  ·have i1:(j:Int)<(n:Int):=by omega
   have i2:(0:Int)<=(j:Int):=by omega
   have HLJ:Hid (j<n):=hlt
   have d1:IntKind.i64.wrap ((j:Int)+1)=(j:Int)+1:=by have:=HN.out;rw [IntKind.wrap_i64];omega
   obtain ⟨J,hJ⟩:∃J,min (j-q.n0) q.many=J:=⟨_,rfl⟩
   rw [hJ] at G
   have hmw:q.many<=q.wt.length:=by unfold CS.many;omega
   have hJw:J<=q.wt.length:=by omega
   clear hmw
   have hl:=gv_dlen (s:=q) hJw
   have hjl:j<(q.gv J).dcs.length:=by rw [hl,HN.out.1];exact hlt
   obtain ⟨g,cap',y1,y2,y3,e,q0,q1,q2,q3,q4,q5⟩:=drow_at G.out.dm.row j hjl
   simp at e
   obtain ⟨rfl,_,rfl⟩:=e
   have hnum:=gv_num hJw hjl
   have hcond:q.dcs.length=q.n0+q.wt.length:=n0_dcs q
   obtain ⟨x,hx⟩:∃x,(q.gv J).dcs[j].num=x:=⟨_,rfl⟩
   rw [hx] at q1 hnum
   have HC:Hid (∀wk,wr.grownBy wk none->wk.cell? ⟨k,10,none⟩=some (.slice (some ⟨g,0,none⟩) n cap)/\wk.cell? ⟨g,j*5+1,none⟩=some (.int .i64 x)/\wk.cell? ⟨k,16,none⟩=some (.int .i64 ((q.L.length+J:Nat):Int))/\wk.cell? ⟨k,3,none⟩=some (.int .i64 q.size)):=fun wk hk=>by
    have hb:=(G.out.dm.grown hk).blk
    refine ⟨hb.cell 10,hk.cell q1 (by simp),?_,hb.cell 3⟩
    rw [<-gv_len hJw]
    exact hb.cell 16
   have HJ:Hid (J<=q.wt.length/\min (j-q.n0) q.many=J/\q.n0+q.wt.length=n/\q.many=min q.wt.length (lead q.L+q.size-q.L.length)/\lead q.L<=q.L.length/\q.L.length<=1000000000000):=⟨hJw,hJ,by rw [<-hcond];exact HN.out.1,rfl,lead_le _,by have:=HD.out.last;omega⟩
   clear q0 q1 q2 q3 q4 q5 hJw hl hjl hJ hx hcond c10
   by_cases ha:j<q.n0
   ·-- it has a number
    have e0:J=0:=by have:=HJ.out;omega
    have hp:0<x:=hnum.2 (by omega)
    have f1:(x==0)=false:=by rw [beq_eq_false_iff_ne];omega
    have HA:Hid (min (j+1-q.n0) q.many=J):=by unfold Hid;omega
    clear hnum hp ha e0
    have c10:=(HC.out wr (grown_refl _ _)).1
    go_upto_region 16 with fail
    clear c10
    refine wp_region_hold 1000 (fun y=>wr.grownBy y none) (by kernel_rfl) ?_
    have G7:Hid (wr.grownBy wr.drew none):=grown_drew _ _
    generalize wr.drew=w7 at G7 ⊢
    have J:Idx [0,1,2,3,4,5,6,7,8,9]:=trivial
    iterate 10 (refine tK J (G7.out) rfl rfl (fun wk hk=>by obtain ⟨k10,k1,k16,k3⟩:=HC.out wk hk;go_simp;try rfl) ?_;replace J:=J.tl;try simp only [pN])
    clear J
    have J:Idx [10,11,12,13,14,15,16,17,18,19,20,21,22]:=trivial
    iterate 13 (refine sk J (G7.out) rfl rfl ?_;replace J:=J.tl;try simp only [pN])
    clear J
    have J:Idx [23]:=trivial
    iterate 1 (refine tK J (G7.out) rfl rfl (fun wk hk=>by obtain ⟨k10,k1,k16,k3⟩:=HC.out wk hk;go_simp;try rfl) ?_;replace J:=J.tl;try simp only [pN])
    clear J
    refine wpHold_done (by kernel_rfl) ?_
    refine (‹∀(a:Act) (w:World),Code.wp Tryz.prog _ _ a w->_› _ _ ?_)
    go_wp2_with fail
    go_roundw
    case rel=>exact ⟨j+1,by go_num,by have:=HLJ.out;omega,by rw [HA.out];exact G.out.grown G7.out⟩
    case measure=>have:=HLJ.out;simp [intOf];omega
   ·have hz:x=0:=hnum.1 (by have:=HJ.out;omega)
    subst hz
    clear hnum
    by_cases hb:j-q.n0<q.many
    ·-- it gets one
     have HB:Hid (J=j-q.n0/\j=q.n0+J/\J<q.wt.length/\min (j+1-q.n0) q.many=J+1):=by have:=HJ.out;unfold Hid;omega
     have t1:IntKind.i64.wrap (((q.L.length+J:Nat):Int)-(lead q.L:Nat))=((q.L.length+J:Nat):Int)-(lead q.L:Nat):=by have:=HJ.out;have:=HN.out;rw [IntKind.wrap_i64];omega
     have t2:((q.L.length+J:Nat):Int)-(lead q.L:Nat)<(q.size:Int):=by have:=HJ.out;have:=HB.out;omega
     have t3:IntKind.i64.wrap (((q.L.length+J:Nat):Int)+1)=((q.L.length+J+1:Nat):Int):=by have:=HJ.out;have:=HN.out;rw [IntKind.wrap_i64];push_cast;omega
     obtain ⟨ln,hln⟩:∃l,((q.L.length+J:Nat):Int)=l:=⟨_,rfl⟩
     obtain ⟨l1,hl1⟩:∃l,((q.L.length+J+1:Nat):Int)=l:=⟨_,rfl⟩
     rw [hln] at t1 t2 t3 HC
     rw [hl1] at t3
     have HL1:Hid (((q.L.length+J+1:Nat):Int)=l1/\((q.L.length+J:Nat):Int)=ln):=⟨hl1,hln⟩
     clear ha hb hln hl1
     have c10:=(HC.out wr (grown_refl _ _)).1
     go_upto_region 16 with fail
     clear c10
     refine wp_region_hold 1000 (fun y=>wr.grownBy y none) (by kernel_rfl) ?_
     have G7:Hid (wr.grownBy wr.drew none):=grown_drew _ _
     generalize wr.drew=w7 at G7 ⊢
     have J:Idx [0,1,2,3,4,5,6,7,8,9,10,11,12,13,14,17,18,19,20,21]:=trivial
     iterate 20 (refine tK J (G7.out) rfl rfl (fun wk hk=>by obtain ⟨k10,k1,k16,k3⟩:=HC.out wk hk;go_simp;try rfl) ?_;replace J:=J.tl;try simp only [pN])
     clear J
     refine wpHold_one (i:=15) rfl (by kernel_rfl) (by rfl) (fun K hK=>?_)
     go_wp2_with fail
     refine (rmark37 w7 (G.out.dm.grown G7.out) (HD.out.gv HQ.out.1 J)).mono ?_
     rintro e w8 ⟨rfl,hg⟩
     rw [gv_lead]
     have G8:Hid (wr.grownBy w8 none):=grown_trans G7.out hg
     clear hg
     go_wp2_with fail
     refine hK.out _ _ (fun _=>G8.out) ?_
     clear hK K
     try simp only [pN]
     have J:Idx [16,22,23]:=trivial
     iterate 3 (refine tK J (G8.out) rfl rfl (fun wk hk=>by obtain ⟨k10,k1,k16,k3⟩:=HC.out wk hk;go_simp;try rfl) ?_;replace J:=J.tl;try simp only [pN])
     clear J
     refine wpHold_done (by kernel_rfl) ?_
     refine (‹∀(a:Act) (w:World),Code.wp Tryz.prog _ _ a w->_› _ _ ?_)
     have G9:Hid (D12 w A w8 k c (.slice (some ⟨g,0,none⟩) n cap) (q.gv J) (.slice none 0 0) []):=G.out.grown G8.out
     have c16:=(HC.out w8 G8.out).2.2.1
     have f16:=G9.out.dm.blk.free 16
     clear t1 t2
     go_upto_region 18 with fail
     have HW:Hid (∃w9,w8.setCell ⟨k,16,none⟩ (.int .i64 l1)=w9/\Blk w9 k 51 (docC (q.gv (J+1)) c (.slice (some ⟨g,0,none⟩) n cap))/\DRow w9 w.heap.size (.slice (some ⟨g,0,none⟩) n cap) (q.gv J).dcs):=by
      have hg:=grown_setCell w8 k 16 (.int .i64 l1)
      have hb:=G9.out.dm.blk.store 16 (.int .i64 l1)
      refine ⟨_,rfl,?_,LRow.set G9.out.dm.row drR_stab G9.out.dm.blk (by decide) (by decide) hg⟩
      have e:(q.gv (J+1)).L.length=q.L.length+J+1:=by rw [gv_len (by have:=HB.out;omega)];omega
      unfold docC
      rw [e,HL1.out.1]
      exact hb
     obtain ⟨w9,hw9,hb9,hr9⟩:=HW.out
     have H9:Hid (w8.setCell ⟨k,16,none⟩ (.int .i64 l1)=w9/\Blk w9 k 51 (docC (q.gv (J+1)) c (.slice (some ⟨g,0,none⟩) n cap))/\DRow w9 w.heap.size (.slice (some ⟨g,0,none⟩) n cap) (q.gv J).dcs):=⟨hw9,hb9,hr9⟩
     rw [hw9]
     clear hw9 hb9 hr9 HW c16 f16
     have HC9:Hid (∀wk,w9.grownBy wk none->wk.cell? ⟨k,10,none⟩=some (.slice (some ⟨g,0,none⟩) n cap)/\wk.cell? ⟨k,16,none⟩=some (.int .i64 l1)):=fun wk hk=>by
      have hb:=H9.out.2.1.grown hk (by simp)
      refine ⟨hb.cell 10,?_⟩
      rw [<-HL1.out.1]
      have e:(q.gv (J+1)).L.length=q.L.length+J+1:=by rw [gv_len (by have:=HB.out;omega)];omega
      rw [<-e]
      exact hb.cell 16
     refine wp_region_hold 11 (fun y=>w9.grownBy y none) (by kernel_rfl) ?_
     have Ga:Hid (w9.grownBy w9.drew none):=grown_drew _ _
     generalize w9.drew=wa at Ga ⊢
     have J:Idx [0,1,2,3,4,5,6,7,8,9,10]:=trivial
     iterate 11 (refine tK J (Ga.out) rfl rfl (fun wk hk=>by obtain ⟨k10,k16⟩:=HC9.out wk hk;go_simp;try rfl) ?_;replace J:=J.tl;try simp only [pN])
     clear J
     refine wpHold_one (i:=11) rfl (by kernel_rfl) (by rfl) (fun K hK=>?_)
     have hra:=LRow.grown H9.out.2.2 drR_stab Ga.out
     have hja:j<(q.gv J).dcs.length:=by rw [gv_dlen (by have:=HJ.out;omega),HN.out.1];exact HLJ.out
     have hq:∃x,wa.cell? ⟨g,j*5+1,none⟩=some x:=by
      obtain ⟨g',cap',y1,y2,y3,e,_,q1,_,_,_,_⟩:=drow_at hra j hja
      simp at e
      obtain ⟨rfl,_,rfl⟩:=e
      exact ⟨_,q1⟩
     obtain ⟨xq,q1⟩:=hq
     have fq:=drow_free hra (j*5+1)
     clear hra hja
     go_wp2_with fail
     clear q1 fq
     refine hK.out _ _ (fun h=>absurd rfl h) ?_
     clear hK K
     try simp only [pN]
     refine wpHold_done (by kernel_rfl) ?_
     refine (‹∀(a:Act) (w:World),Code.wp Tryz.prog _ _ a w->_› _ _ ?_)
     have HG:Hid (D12 w A (wa.setCell ⟨g,j*5+1,none⟩ (.int .i64 l1)) k c (.slice (some ⟨g,0,none⟩) n cap) (q.gv (J+1)) (.slice none 0 0) []):=by
      have h:=D12.give (A1:=w9) (A2:=wa) (i:=j) G9.out HB.out.2.2.1 HB.out.2.1 HD.out (by rw [HL1.out.1];exact H9.out.1.symm) Ga.out
      rw [HL1.out.1] at h
      exact h
     generalize wa.setCell ⟨g,j*5+1,none⟩ (.int .i64 l1)=wb at HG ⊢
     clear t3
     go_wp2_with fail
     go_roundw
     case rel=>exact ⟨j+1,by go_num,by have:=HLJ.out;omega,by rw [HB.out.2.2.2];exact HG.out⟩
     case measure=>have:=HLJ.out;simp [intOf];omega
    ·-- there is no room
     have HB:Hid (J=q.many/\min (j+1-q.n0) q.many=J):=by have:=HJ.out;unfold Hid;omega
     have t1:IntKind.i64.wrap (((q.L.length+J:Nat):Int)-(lead q.L:Nat))=((q.L.length+J:Nat):Int)-(lead q.L:Nat):=by have:=HJ.out;have:=HN.out;rw [IntKind.wrap_i64];omega
     have t2:¬((q.L.length+J:Nat):Int)-(lead q.L:Nat)<(q.size:Int):=by have:=HJ.out;have:=HB.out;have:=HLJ.out;omega
     obtain ⟨ln,hln⟩:∃l,((q.L.length+J:Nat):Int)=l:=⟨_,rfl⟩
     rw [hln] at t1 t2 HC
     have t4:decide (ln-(lead q.L:Nat)<(q.size:Int))=false:=decide_eq_false t2
     clear ha hb hln
     have c10:=(HC.out wr (grown_refl _ _)).1
     go_upto_region 16 with fail
     clear c10
     refine wp_region_hold 1000 (fun y=>wr.grownBy y none) (by kernel_rfl) ?_
     have G7:Hid (wr.grownBy wr.drew none):=grown_drew _ _
     generalize wr.drew=w7 at G7 ⊢
     have J:Idx [0,1,2,3,4,5,6,7,8,9,10,11,12,13,14,17,18,19,20,21]:=trivial
     iterate 20 (refine tK J (G7.out) rfl rfl (fun wk hk=>by obtain ⟨k10,k1,k16,k3⟩:=HC.out wk hk;go_simp;try rfl) ?_;replace J:=J.tl;try simp only [pN])
     clear J
     refine wpHold_one (i:=15) rfl (by kernel_rfl) (by rfl) (fun K hK=>?_)
     go_wp2_with fail
     refine (rmark37 w7 (G.out.dm.grown G7.out) (HD.out.gv HQ.out.1 J)).mono ?_
     rintro e w8 ⟨rfl,hg⟩
     rw [gv_lead]
     have G8:Hid (wr.grownBy w8 none):=grown_trans G7.out hg
     clear hg
     go_wp2_with fail
     refine hK.out _ _ (fun _=>G8.out) ?_
     clear hK K
     try simp only [pN]
     have J:Idx [16,22,23]:=trivial
     iterate 3 (refine tK J (G8.out) rfl rfl (fun wk hk=>by obtain ⟨k10,k1,k16,k3⟩:=HC.out wk hk;go_simp;try rfl) ?_;replace J:=J.tl;try simp only [pN])
     clear J
     refine wpHold_done (by kernel_rfl) ?_
     refine (‹∀(a:Act) (w:World),Code.wp Tryz.prog _ _ a w->_› _ _ ?_)
     go_wp2_with fail
     go_roundw
     case rel=>exact ⟨j+1,by go_num,by have:=HLJ.out;omega,by rw [HB.out.2];exact G.out.grown G8.out⟩
     case measure=>have:=HLJ.out;simp [intOf];omega
  ·have i1:¬(j:Int)<(n:Int):=by omega
   have HG:Hid (D12 w A wr k c (.slice ao n cap) q.given (.slice none 0 0) []):=by
    have e:min (j-q.n0) q.many=q.many:=by
     have h1:=n0_dcs q
     have h2:=HN.out.1
     unfold CS.many
     omega
    have h:=G.out
    rw [e] at h
    exact h
   have HO:Hid (Okc q.given/\1<=q.given.ses):=⟨HD.out.given HQ.out.1,HQ.out.1⟩
   clear hlt hj G
   go_wp2_with fail
   clear c10 i1
   refine (rmark37 wr HG.out.dm HO.out.1).mono ?_
   rintro e w2 ⟨rfl,hg⟩
   obtain ⟨z,hz⟩:∃z,q.given=z:=⟨_,rfl⟩
   have HZ:Hid (z.now=now/\q.given=z):=⟨by rw [<-hz];exact HQ.out.2.1,hz⟩
   rw [hz] at HG HO ⊢
   have H2:Hid (D12 w A w2 k c (.slice ao n cap) (z.upto (lead z.L)) (.slice none 0 0) (gather (sendG z) z.L (lead z.L))):=by
    rw [(upto_first z).1,(upto_first z).2]
    exact HG.out.grown hg
   have t1:IntKind.i64.wrap (((lead z.L:Nat):Int)+1)=((lead z.L+1:Nat):Int):=by have:=HO.out.1.last;have:=lead_le z.L;rw [IntKind.wrap_i64];push_cast;omega
   have HZN:Hid (.int .i64 z.now=Value.int .i64 now):=by rw [Hid,HZ.out.1]
   clear hg hz
   go_wp2_with fail
   refine loopO12 _ w A w2 k c (.slice ao n cap) z (lead z.L) HO.out.1 HO.out.2 _ ?_ ⟨.slice none 0 0,_,⟨rfl,rfl,rfl,HZN.out.symm,rfl,rfl,rfl,rfl⟩,H2.out,lead_le _⟩
   rintro m a wf ⟨vl,v10,hS,hD,hle⟩ hge
   have hm:m=z.L.length:=by omega
   subst hm
   obtain ⟨p,sl0,sl1,sl6,sl8,sl9,sl10,rfl⟩:=hS.eq
   unfold row215
   rw [sl0,sl1,sl6,sl8,sl9,sl10]
   clear sl0 sl1 sl6 sl8 sl9 sl10
   obtain ⟨vo,vn,vc,rfl,hvn⟩:=hD.ms.slice
   have HF:Hid (D12 w A wf k c (.slice ao n cap) z.sent (.slice vo vn vc) z.msgs):=hD
   clear hS hD hle hge hvn t1
   simp only [Exit.inBlock,Exit.then,if_true]
   refine (‹∀(a:Act) (w:World),_->_› _ _ ?_)
   go_wp2_with fail
   go_ret2
   unfold RStepP
   rw [HP.out.1,HP.out.2.1,HP.out.2.2,HZ.out.2]
   exact ⟨_,rfl,HF.out.ms,⟨_,HF.out.dm⟩,HF.out.kp⟩
theorem rstep12 (A:World)(now:Int)(h:Dm w A k c v s)(hok:Okc s):Calls Tryz.prog 12 #[.pointer (some ⟨k,0,none⟩),.int .i64 now] A (RStepP w A k c s now):=by
 by_cases ha:now<s.now\/1099511627776<now
 ·exact rstep_arg A now h ha
 ·by_cases h0:s.ses=0
  ·exact rstep_0 A now h hok ha h0
  ·exact rstep_s A now h hok ha h0
end Go.Proofs.YtanoabliahcbeaaGreat.Wn
