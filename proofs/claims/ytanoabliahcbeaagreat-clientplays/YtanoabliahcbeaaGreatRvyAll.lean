import Derived.Test.YtanoabliahcbeaaGreatRluAll
set_option maxHeartbeats 8000000
set_option maxRecDepth 100000
namespace Go.Proofs.YtanoabliahcbeaaGreat.Wn
open Go.RowKit Disk Table
open Go.Proofs.YtanoabliahcbeaaGreat.Calls _root_.Go.Proofs.YtanoabliahcbeaaGreat.Command
variable {s:CS} {w A A':World} {k:Nat} {c:PCfg} {v:Value}
theorem zy (A:World)(o1:Option Addr)(o2 o3:Nat)(a1:Option Addr)(a2 a3:Nat)(m:PMsg)(h:Dm w A k c v s)(hok:Okc s)(ho:Ops A (.slice o1 o2 o3) m.ask.ops)(ha:Seg A (.slice a1 a2 a3) m.tell.answer)(hl:m.tell.answer.length<=140737488355328)(ht:s.tok<=3999999999999992):Calls Tryz.prog 16 #[.pointer (some ⟨k,0,none⟩),msgV (.slice o1 o2 o3) (.slice a1 a2 a3) m] A (eF w A k c s m):=by
 cases hn:hears s m with
 | false=>exact qA A o1 o2 o3 a1 a2 a3 m h ho ha hl hn
 | true =>
  by_cases h1:m.tell.kind=1
  ·by_cases h0:s.ses=0
   ·by_cases h2:m.tell.token=s.tok
    ·exact tD A o1 o2 o3 a1 a2 a3 m h hok ho ha hl ht hn h1 h0 h2
    ·exact tv A o1 o2 o3 a1 a2 a3 m h hok ho ha hl ht hn h1 h0 h2
   ·by_cases h2:m.tell.session=s.ses
    ·exact tA A o1 o2 o3 a1 a2 a3 m h hok ho ha hl ht hn h1 h0 h2
    ·exact tw A o1 o2 o3 a1 a2 a3 m h hok ho ha hl ht hn h1 h0 h2
  ·by_cases h0:s.ses=0
   ·exact tu A o1 o2 o3 a1 a2 a3 m h hok ho ha hl ht hn h1 h0
   ·by_cases h2:m.tell.session=s.ses
    ·by_cases h3:m.tell.kind=3
     ·exact tE A o1 o2 o3 a1 a2 a3 m h hok ho ha hl ht hn h3 h0 h2
     ·by_cases h4:m.tell.kind=4
      ·exact tC A o1 o2 o3 a1 a2 a3 m h hok ho ha hl ht hn h4 h0 h2
      ·by_cases h5:m.tell.kind=5
       ·exact tF A o1 o2 o3 a1 a2 a3 m h hok ho ha hl ht hn h5 h0 h2
       ·exact tB A o1 o2 o3 a1 a2 a3 m h hok ho ha hl ht hn ⟨h1,h3,h4,h5⟩ h0 h2
    ·exact tz A o1 o2 o3 a1 a2 a3 m h hok ho ha hl ht hn h1 h0 h2
theorem pc (o1:Option Addr)(o2 o3:Nat)(A:World):Calls Tryz.prog 10 #[.pointer none,.agg #[.slice o1 o2 o3]] A fun e A'=>e=.returned (.tuple #[.int .i64 0,.int .i64 3])/\A.grownBy A' none:=by
 obtain ⟨w1,hw1,H1⟩:=al1 A #[.slice o1 o2 o3] 35
 go_enter Tryz.func10,Tryz.ntmps10
 go_upto_region 1 with fail
 try rw [hw1]
 clear hw1
 go_wp2_with fail
 go_ret2
 exact ⟨rfl,H1.out.2.1⟩
theorem mw (now:Int)(A:World):Calls Tryz.prog 12 #[.pointer none,.int .i64 now] A fun e A'=>e=.returned (.tuple #[.slice none 0 0,.int .i64 1])/\A.grownBy A' none:=by
 go_enter Tryz.func12,Tryz.ntmps12
 go_wp2_with fail
 go_ret2
 exact ⟨rfl,aj _ _⟩
theorem qD (A:World):Calls Tryz.prog 18 #[.pointer none] A fun e A'=>e=.returned (.tuple #[.slice none 0 0,.slice none 0 0])/\A.grownBy A' none:=by
 go_enter Tryz.func18,Tryz.ntmps18
 go_wp2_with fail
 go_ret2
 exact ⟨rfl,aj _ _⟩
theorem tJ (A:World)(o1:Option Addr)(o2 o3:Nat)(a1:Option Addr)(a2 a3:Nat)(m:PMsg):Calls Tryz.prog 16 #[.pointer none,msgV (.slice o1 o2 o3) (.slice a1 a2 a3) m] A fun e A'=>e=.returned (.slice none 0 0)/\A.grownBy A' none:=by
 obtain ⟨w1,hw1,H1⟩:=al1 A #[.int .i64 m.kind,.int .i64 m.client,.int .i64 m.ask.kind,.int .i64 m.ask.token,.int .i64 m.ask.session,.int .i64 m.ask.number,.int .i64 m.ask.mark,.slice o1 o2 o3,.int .i64 m.tell.kind,.int .i64 m.tell.token,.int .i64 m.tell.session,.int .i64 m.tell.number,.slice a1 a2 a3] 45
 unfold msgV
 go_enter Tryz.func16,Tryz.ntmps16
 go_upto_region 1 with fail
 try rw [hw1]
 clear hw1
 refine ag 1000 (fun y=>w1.grownBy y none) (by kernel_rfl) ?_
 have G2:Hid (A.grownBy w1.drew none/\w1.grownBy w1.drew none):=⟨aa H1.out.2.1 (af _ _),af _ _⟩
 generalize w1.drew=w2 at G2 ⊢
 have J:Idx [0,1,2]:=trivial
 iterate 3 (refine tK J (G2.out.2) rfl rfl (fun wk hk=>by skip;go_simp;try rfl) ?_;replace J:=J.tl;try simp only [pN])
 have J:Idx [3,4,5]:=trivial
 iterate 3 (refine sk J (G2.out.2) rfl rfl ?_;replace J:=J.tl;try simp only [pN])
 have J:Idx [6,7]:=trivial
 iterate 2 (refine tK J (G2.out.2) rfl rfl (fun wk hk=>by skip;go_simp;try rfl) ?_;replace J:=J.tl;try simp only [pN])
 have J:Idx [8,9,10,11,12,13,14]:=trivial
 iterate 7 (refine sk J (G2.out.2) rfl rfl ?_;replace J:=J.tl;try simp only [pN])
 have J:Idx [15,16]:=trivial
 iterate 2 (refine tK J (G2.out.2) rfl rfl (fun wk hk=>by skip;go_simp;try rfl) ?_;replace J:=J.tl;try simp only [pN])
 have J:Idx [17,18,19]:=trivial
 iterate 3 (refine sk J (G2.out.2) rfl rfl ?_;replace J:=J.tl;try simp only [pN])
 have J:Idx [20]:=trivial
 iterate 1 (refine tK J (G2.out.2) rfl rfl (fun wk hk=>by skip;go_simp;try rfl) ?_;replace J:=J.tl;try simp only [pN])
 refine wD ?_
 refine (‹∀(a:Act) (w:World),Code.wp Tryz.prog _ _ a w->_› _ _ ?_)
 go_wp2_with fail
 go_ret
 exact ⟨rfl,G2.out.1⟩
variable {s:CS} {w A A':World} {k:Nat} {c:PCfg} {v:Value}
def ei (w A:World)(k:Nat)(c:PCfg)(s:CS)(now:Int)(e:Ending)(A':World):Prop:=∃v,e=.returned (.tuple #[v,.int .i64 (dg s now)])/\aF A' A.heap.size v (cN s now)/\Doc w A' k c (cZ s now)/\cH A A'
theorem nA (s:CS)(now:Int):(s.at now).dcs=s.dcs:=rfl
theorem Dm.at {now:Int}(h:Dm w A k c v s):Dm w (A.setCell ⟨k,15,none⟩ (.int .i64 now)) k c v (s.at now):=by
 have hg:=ae A k 15 (.int .i64 now)
 have hlo:=h.lo
 exact ⟨h.blk.store 15 _,LRow.set h.row aR h.blk (by decide) (by decide) hg,hlo,ai h.gr hg (by intro x hx;simp at hx;omega)⟩
theorem tL (A:World)(now:Int)(h:Dm w A k c v s)(ha:now<s.now\/1099511627776<now):Calls Tryz.prog 12 #[.pointer (some ⟨k,0,none⟩),.int .i64 now] A (ei w A k c s now):=by
 have HD:Hid (Dm w A k c v s):=h
 have HP:Hid (dg s now=2/\cN s now=[]/\cZ s now=s):=⟨by unfold dg;rw [if_pos ha],by unfold cN;rw [if_pos ha],by unfold cZ;rw [if_pos ha]⟩
 have c15:A.cell? ⟨k,15,none⟩=some (.int .i64 s.now):=h.blk.cell 15
 by_cases h1:now<s.now
 ·clear h ha
  go_enter Tryz.func12,Tryz.ntmps12
  go_wp2_with fail
  go_ret2
  unfold ei
  rw [HP.out.1,HP.out.2.1,HP.out.2.2]
  exact ⟨_,rfl,aV _ _,⟨_,HD.out⟩,aD (aj _ _)⟩
 ·have h2:1099511627776<now:=by rcases ha with e | e;exact absurd e h1;exact e
  clear h ha
  go_enter Tryz.func12,Tryz.ntmps12
  go_wp2_with fail
  go_ret2
  unfold ei
  rw [HP.out.1,HP.out.2.1,HP.out.2.2]
  exact ⟨_,rfl,aV _ _,⟨_,HD.out⟩,aD (aj _ _)⟩
theorem w_ (A:World)(now:Int)(h:Dm w A k c v s)(hok:Okc s)(ha:¬(now<s.now\/1099511627776<now))(h0:s.ses=0)(hz:s.wt=[]):Calls Tryz.prog 12 #[.pointer (some ⟨k,0,none⟩),.int .i64 now] A (ei w A k c s now):=by
 have hN:s.dcs.length=s.wt.length:=by rw [iH];unfold CS.n0;rw [hok.none h0];simp [gather]
 obtain ⟨n,hn⟩:∃n,s.dcs.length=n:=⟨_,rfl⟩
 obtain ⟨ak,hak⟩:∃x,s.asked=x:=⟨_,rfl⟩
 have HN:Hid (s.dcs.length=n/\s.asked=ak):=⟨hn,hak⟩
 have hn0:n=0:=by rw [hz] at hN;rw [<-hn];exact hN
 have HA:Hid ((s.at now).asks=false):=by simp [Hid,CS.asks,CS.at,hz]
 have hnp:¬0<n:=by omega
 clear hN hn hak hz hn0
 have HE:Hid (¬(now<s.now\/1099511627776<now)):=ha
 have n1:¬now<s.now:=fun e=>ha (.inl e)
 have n2:¬1099511627776<now:=fun e=>ha (.inr e)
 have HD:Hid (Dm w A k c v s/\Okc (s.at now)):=⟨h,hok.at (by omega)⟩
 have c15:A.cell? ⟨k,15,none⟩=some (.int .i64 s.now):=h.blk.cell 15
 have f15:=h.blk.free 15
 have H1:Hid (Dm w (A.setCell ⟨k,15,none⟩ (.int .i64 now)) k c v (s.at now)/\cH A (A.setCell ⟨k,15,none⟩ (.int .i64 now))/\A.heap.size<=(A.setCell ⟨k,15,none⟩ (.int .i64 now)).heap.size):=⟨h.at,bI h.blk (.inl rfl) (ae _ _ _ _),(ae _ _ _ _).size⟩
 clear h hok ha
 go_enter Tryz.func12,Tryz.ntmps12
 go_upto_region 7 with fail
 generalize A.setCell ⟨k,15,none⟩ (.int .i64 now)=w1 at H1 ⊢
 clear c15 f15 n1 n2
 have c11:w1.cell? ⟨k,11,none⟩=some (.int .i64 0):=by rw [<-h0];exact H1.out.1.blk.cell 11
 have HP:Hid (dg s now=0/\cN s now=cg (s.at now)/\cZ s now=dO (s.at now)):=⟨by unfold dg;rw [if_neg HE.out],by unfold cN;rw [if_neg HE.out,if_pos h0],by unfold cZ;rw [if_neg HE.out,if_pos h0]⟩
 obtain ⟨ao,cap,hv⟩:=H1.out.1.sl
 have HC:Hid (∀y,w1.grownBy y none->y.cell? ⟨k,10,none⟩=some (.slice ao n cap)/\y.cell? ⟨k,13,none⟩=some (.bool ak)/\y.cell? ⟨k,14,none⟩=some (.int .i64 s.askAt)/\y.cell? ⟨k,6,none⟩=some (.int .i64 s.tmo)):=fun y hy=>by
  have hb:=H1.out.1.blk.grown hy (by simp)
  have e:v=.slice ao n cap:=by rw [hv,nA,HN.out.1]
  have c10:=hb.cell 10
  have c13:=hb.cell 13
  rw [e] at c10
  exact ⟨c10,by rw [<-HN.out.2];exact c13,hb.cell 14,hb.cell 6⟩
 clear h0 hv
 go_upto_region 8 with fail
 clear c11
 refine ag 1000 (fun y=>w1.grownBy y none) (by kernel_rfl) ?_
 have G2:Hid (w1.grownBy w1.drew none):=af _ _
 generalize w1.drew=w2 at G2 ⊢
 have J:Idx [0,1,2,3,4,5,6]:=trivial
 iterate 7 (refine tK J (G2.out) rfl rfl (fun wk hk=>by obtain ⟨k10,k13,k14,k6⟩:=HC.out wk hk;go_simp;try rfl) ?_;replace J:=J.tl;try simp only [pN])
 have J:Idx [7,8,9,10,11,12,13,14,15,16,17,18,19,20,21,22,23,24,25]:=trivial
 iterate 19 (refine sk J (G2.out) rfl rfl ?_;replace J:=J.tl;try simp only [pN])
 have J:Idx [26]:=trivial
 iterate 1 (refine tK J (G2.out) rfl rfl (fun wk hk=>by obtain ⟨k10,k13,k14,k6⟩:=HC.out wk hk;go_simp;try rfl) ?_;replace J:=J.tl;try simp only [pN])
 refine wD ?_
 refine (‹∀(a:Act) (w:World),Code.wp Tryz.prog _ _ a w->_› _ _ ?_)
 go_wp2_with fail
 go_ret2
 unfold ei
 rw [HP.out.1,HP.out.2.1,HP.out.2.2]
 unfold cg dO
 rw [HA.out]
 exact ⟨_,rfl,aV _ _,⟨_,H1.out.1.grown G2.out⟩,aL H1.out.2.1 (aD G2.out)⟩
theorem xe (A:World)(now:Int)(h:Dm w A k c v s)(hok:Okc s)(ha:¬(now<s.now\/1099511627776<now))(h0:s.ses=0)(hz:s.wt≠[])(hd:s.asked=true)(hw:¬(s.tmo:Int)<=now-s.askAt):Calls Tryz.prog 12 #[.pointer (some ⟨k,0,none⟩),.int .i64 now] A (ei w A k c s now):=by
 have hN:s.dcs.length=s.wt.length:=by rw [iH];unfold CS.n0;rw [hok.none h0];simp [gather]
 obtain ⟨n,hn⟩:∃n,s.dcs.length=n:=⟨_,rfl⟩
 have HN:Hid (s.dcs.length=n/\s.asked=true):=⟨hn,hd⟩
 have hnp:0<n:=by have:=List.length_pos_iff.2 hz;omega
 have i1:(0:Int)<(n:Int):=by omega
 have d1:IntKind.i64.wrap (now-s.askAt)=now-s.askAt:=by have:=hok.askAt;have:=hok.now;rw [IntKind.wrap_i64];omega
 have HA:Hid ((s.at now).asks=false):=by
  simp only [Hid,CS.asks,CS.at,hd,due]
  simp
  intro _
  omega
 clear hN hn hd hz
 have HE:Hid (¬(now<s.now\/1099511627776<now)):=ha
 have n1:¬now<s.now:=fun e=>ha (.inl e)
 have n2:¬1099511627776<now:=fun e=>ha (.inr e)
 have HD:Hid (Dm w A k c v s/\Okc (s.at now)):=⟨h,hok.at (by omega)⟩
 have c15:A.cell? ⟨k,15,none⟩=some (.int .i64 s.now):=h.blk.cell 15
 have f15:=h.blk.free 15
 have H1:Hid (Dm w (A.setCell ⟨k,15,none⟩ (.int .i64 now)) k c v (s.at now)/\cH A (A.setCell ⟨k,15,none⟩ (.int .i64 now))/\A.heap.size<=(A.setCell ⟨k,15,none⟩ (.int .i64 now)).heap.size):=⟨h.at,bI h.blk (.inl rfl) (ae _ _ _ _),(ae _ _ _ _).size⟩
 clear h hok ha
 go_enter Tryz.func12,Tryz.ntmps12
 go_upto_region 7 with fail
 generalize A.setCell ⟨k,15,none⟩ (.int .i64 now)=w1 at H1 ⊢
 clear c15 f15 n1 n2
 have c11:w1.cell? ⟨k,11,none⟩=some (.int .i64 0):=by rw [<-h0];exact H1.out.1.blk.cell 11
 have HP:Hid (dg s now=0/\cN s now=cg (s.at now)/\cZ s now=dO (s.at now)):=⟨by unfold dg;rw [if_neg HE.out],by unfold cN;rw [if_neg HE.out,if_pos h0],by unfold cZ;rw [if_neg HE.out,if_pos h0]⟩
 obtain ⟨ao,cap,hv⟩:=H1.out.1.sl
 have HC:Hid (∀y,w1.grownBy y none->y.cell? ⟨k,10,none⟩=some (.slice ao n cap)/\y.cell? ⟨k,13,none⟩=some (.bool true)/\y.cell? ⟨k,14,none⟩=some (.int .i64 s.askAt)/\y.cell? ⟨k,6,none⟩=some (.int .i64 s.tmo)):=fun y hy=>by
  have hb:=H1.out.1.blk.grown hy (by simp)
  have e:v=.slice ao n cap:=by rw [hv,nA,HN.out.1]
  have c10:=hb.cell 10
  have c13:=hb.cell 13
  rw [e] at c10
  exact ⟨c10,by rw [<-HN.out.2];exact c13,hb.cell 14,hb.cell 6⟩
 clear h0 hv
 go_upto_region 8 with fail
 clear c11
 refine ag 1000 (fun y=>w1.grownBy y none) (by kernel_rfl) ?_
 have G2:Hid (w1.grownBy w1.drew none):=af _ _
 generalize w1.drew=w2 at G2 ⊢
 have J:Idx [0,1,2,3,4,5,6,7,8,9,10,11,12,13,14,15,16,17,18,19,20,21,22,23,24,25,26]:=trivial
 iterate 27 (refine tK J (G2.out) rfl rfl (fun wk hk=>by obtain ⟨k10,k13,k14,k6⟩:=HC.out wk hk;go_simp;try rfl) ?_;replace J:=J.tl;try simp only [pN])
 refine wD ?_
 refine (‹∀(a:Act) (w:World),Code.wp Tryz.prog _ _ a w->_› _ _ ?_)
 go_wp2_with fail
 go_ret2
 unfold ei
 rw [HP.out.1,HP.out.2.1,HP.out.2.2]
 unfold cg dO
 rw [HA.out]
 exact ⟨_,rfl,aV _ _,⟨_,H1.out.1.grown G2.out⟩,aL H1.out.2.1 (aD G2.out)⟩
theorem xf (A:World)(now:Int)(h:Dm w A k c v s)(hok:Okc s)(ha:¬(now<s.now\/1099511627776<now))(h0:s.ses=0)(hz:s.wt≠[])(hd:s.asked=false):Calls Tryz.prog 12 #[.pointer (some ⟨k,0,none⟩),.int .i64 now] A (ei w A k c s now):=by
 have hN:s.dcs.length=s.wt.length:=by rw [iH];unfold CS.n0;rw [hok.none h0];simp [gather]
 obtain ⟨n,hn⟩:∃n,s.dcs.length=n:=⟨_,rfl⟩
 have HN:Hid (s.dcs.length=n/\s.asked=false):=⟨hn,hd⟩
 have hnp:0<n:=by have:=List.length_pos_iff.2 hz;omega
 have i1:(0:Int)<(n:Int):=by omega
 have HA:Hid ((s.at now).asks=true):=by
  simp only [Hid,CS.asks,CS.at,hd,due]
  simp [hz]
 clear hN hn hd hz
 have HE:Hid (¬(now<s.now\/1099511627776<now)):=ha
 have n1:¬now<s.now:=fun e=>ha (.inl e)
 have n2:¬1099511627776<now:=fun e=>ha (.inr e)
 have HD:Hid (Dm w A k c v s/\Okc (s.at now)):=⟨h,hok.at (by omega)⟩
 have c15:A.cell? ⟨k,15,none⟩=some (.int .i64 s.now):=h.blk.cell 15
 have f15:=h.blk.free 15
 have H1:Hid (Dm w (A.setCell ⟨k,15,none⟩ (.int .i64 now)) k c v (s.at now)/\cH A (A.setCell ⟨k,15,none⟩ (.int .i64 now))/\A.heap.size<=(A.setCell ⟨k,15,none⟩ (.int .i64 now)).heap.size):=⟨h.at,bI h.blk (.inl rfl) (ae _ _ _ _),(ae _ _ _ _).size⟩
 clear h hok ha
 go_enter Tryz.func12,Tryz.ntmps12
 go_upto_region 7 with fail
 generalize A.setCell ⟨k,15,none⟩ (.int .i64 now)=w1 at H1 ⊢
 clear c15 f15 n1 n2
 have c11:w1.cell? ⟨k,11,none⟩=some (.int .i64 0):=by rw [<-h0];exact H1.out.1.blk.cell 11
 have HP:Hid (dg s now=0/\cN s now=cg (s.at now)/\cZ s now=dO (s.at now)):=⟨by unfold dg;rw [if_neg HE.out],by unfold cN;rw [if_neg HE.out,if_pos h0],by unfold cZ;rw [if_neg HE.out,if_pos h0]⟩
 obtain ⟨ao,cap,hv⟩:=H1.out.1.sl
 have HC:Hid (∀y,w1.grownBy y none->y.cell? ⟨k,10,none⟩=some (.slice ao n cap)/\y.cell? ⟨k,13,none⟩=some (.bool false)/\y.cell? ⟨k,14,none⟩=some (.int .i64 s.askAt)/\y.cell? ⟨k,6,none⟩=some (.int .i64 s.tmo)):=fun y hy=>by
  have hb:=H1.out.1.blk.grown hy (by simp)
  have e:v=.slice ao n cap:=by rw [hv,nA,HN.out.1]
  have c10:=hb.cell 10
  have c13:=hb.cell 13
  rw [e] at c10
  exact ⟨c10,by rw [<-HN.out.2];exact c13,hb.cell 14,hb.cell 6⟩
 clear h0 hv
 go_upto_region 8 with fail
 clear c11
 refine ag 1000 (fun y=>w1.grownBy y none) (by kernel_rfl) ?_
 have G2:Hid (w1.grownBy w1.drew none):=af _ _
 generalize w1.drew=w2 at G2 ⊢
 have J:Idx [0,1,2,3,4,5,6,7,8,9,10,11,12]:=trivial
 iterate 13 (refine tK J (G2.out) rfl rfl (fun wk hk=>by obtain ⟨k10,k13,k14,k6⟩:=HC.out wk hk;go_simp;try rfl) ?_;replace J:=J.tl;try simp only [pN])
 have J:Idx [13,14,15,16,17,18,19,20,21,22,23,24]:=trivial
 iterate 12 (refine sk J (G2.out) rfl rfl ?_;replace J:=J.tl;try simp only [pN])
 have J:Idx [25,26]:=trivial
 iterate 2 (refine tK J (G2.out) rfl rfl (fun wk hk=>by obtain ⟨k10,k13,k14,k6⟩:=HC.out wk hk;go_simp;try rfl) ?_;replace J:=J.tl;try simp only [pN])
 refine wD ?_
 refine (‹∀(a:Act) (w:World),Code.wp Tryz.prog _ _ a w->_› _ _ ?_)
 clear HC
 have H2:Hid (Dm w w2 k c v (s.at now)/\cH A w2/\A.heap.size<=w2.heap.size):=⟨H1.out.1.grown G2.out,aL H1.out.2.1 (aD G2.out),Nat.le_trans H1.out.2.2 G2.out.size⟩
 have c13:w2.cell? ⟨k,13,none⟩=some (.bool s.asked):=H2.out.1.blk.cell 13
 have c14:w2.cell? ⟨k,14,none⟩=some (.int .i64 s.askAt):=H2.out.1.blk.cell 14
 have f13:=H2.out.1.blk.free 13
 have f14:=H2.out.1.blk.free 14
 have H3:Hid (Dm w ((w2.setCell ⟨k,13,none⟩ (.bool true)).setCell ⟨k,14,none⟩ (.int .i64 now)) k c v (s.at now).ask/\cH A ((w2.setCell ⟨k,13,none⟩ (.bool true)).setCell ⟨k,14,none⟩ (.int .i64 now))/\A.heap.size<=((w2.setCell ⟨k,13,none⟩ (.bool true)).setCell ⟨k,14,none⟩ (.int .i64 now)).heap.size):=by
  have hg:=aa (ae w2 k 13 (.bool true)) (ae (w2.setCell ⟨k,13,none⟩ (.bool true)) k 14 (.int .i64 now))
  have hlo:=H2.out.1.lo
  exact ⟨⟨(H2.out.1.blk.store 13 _).store 14 _,LRow.set H2.out.1.row aR H2.out.1.blk (by decide) (by decide) hg,hlo,ai H2.out.1.gr hg (by intro x hx;simp at hx;omega)⟩,aL H2.out.2.1 (bI H2.out.1.blk (.inl rfl) hg),Nat.le_trans H2.out.2.2 hg.size⟩
 clear G2
 go_upto_region 11 with fail
 generalize (w2.setCell ⟨k,13,none⟩ (.bool true)).setCell ⟨k,14,none⟩ (.int .i64 now)=w3 at H3 ⊢
 clear c13 c14 f13 f14
 have HC:Hid (∀y,w3.grownBy y none->y.cell? ⟨k,0,none⟩=some (.int .i64 s.num)/\y.cell? ⟨k,12,none⟩=some (.int .i64 s.tok)):=fun y hy=>by
  have hb:=H3.out.1.blk.grown hy (by simp)
  exact ⟨hb.cell 0,hb.cell 12⟩
 refine ag 1000 (fun y=>w3.grownBy y none) (by kernel_rfl) ?_
 have G4:Hid (w3.grownBy w3.drew none):=af _ _
 generalize w3.drew=w4 at G4 ⊢
 have J:Idx [0,1,2,3,4,5,6,7,8,9,10]:=trivial
 iterate 11 (refine tK J (G4.out) rfl rfl (fun wk hk=>by obtain ⟨k0,k12⟩:=HC.out wk hk;go_simp;try rfl) ?_;replace J:=J.tl;try simp only [pN])
 refine wO 11 rfl fun K hK=>?_
 obtain ⟨w8,hw8,H8'⟩:=al1 w4 #[.int .i64 1,.int .i64 s.num,.int .i64 1,.int .i64 s.tok,.int .i64 0,.int .i64 0,.int .i64 0,.slice none 0 0,.int .i64 0,.int .i64 0,.int .i64 0,.int .i64 0,.slice none 0 0] 45
 obtain ⟨p8,hp8⟩:∃x,w4.heap.size=x:=⟨_,rfl⟩
 rw [hp8] at H8'
 have HW8:Hid (w4.alloc (.cells #[.int .i64 1,.int .i64 s.num,.int .i64 1,.int .i64 s.tok,.int .i64 0,.int .i64 0,.int .i64 0,.slice none 0 0,.int .i64 0,.int .i64 0,.int .i64 0,.int .i64 0,.slice none 0 0] 45)=w8/\w4.heap.size=p8):=⟨hw8,hp8⟩
 clear hw8 hp8
 go_wp2_with fail
 rw [HW8.out.1,HW8.out.2]
 have H8:Hid (MB w8 p8 (.slice none 0 0) (.slice none 0 0) (cX (s.at now))/\w3.grownBy w8 none):=⟨H8'.out.1,aa G4.out H8'.out.2.1⟩
 clear HW8 H8'
 refine hK.out _ _ (fun _=>H8.out.2) ?_
 clear hK K
 try simp only [pN]
 refine wO 12 rfl fun K hK=>?_
 refine ja w8 _ _ rfl A.heap.size (.slice none 0 0) [] (cX (s.at now)) p8 _ _ rfl rfl (aV _ _) H8.out.1 (bP _ _) (Own.nil _ _) (by simp) (Nat.le_trans H3.out.2.2 H8.out.2.size) ?_
 intro g' cap' w10 hr hg hgg
 have hg':w8.grownBy w10 none:=hg
 rw [List.nil_append] at hr
 have H10:Hid (aF w10 A.heap.size (.slice (some ⟨g',0,none⟩) (0+1) cap') [cX (s.at now)]/\w3.grownBy w10 none):=⟨hr,aa H8.out.2 hg'⟩
 clear hr hg hgg hg'
 refine hK.out _ _ (fun _=>H10.out.2) ?_
 clear hK K
 try simp only [pN]
 have J:Idx [13]:=trivial
 iterate 1 (refine tK J (H10.out.2) rfl rfl (fun wk hk=>by obtain ⟨k0,k12⟩:=HC.out wk hk;go_simp;try rfl) ?_;replace J:=J.tl;try simp only [pN])
 refine wD ?_
 refine (‹∀(a:Act) (w:World),Code.wp Tryz.prog _ _ a w->_› _ _ ?_)
 go_wp2_with fail
 go_ret2
 unfold ei
 rw [HP.out.1,HP.out.2.1,HP.out.2.2]
 unfold cg dO
 rw [HA.out]
 exact ⟨_,rfl,H10.out.1,⟨_,H3.out.1.grown H10.out.2⟩,aL H3.out.2.1 (aD H10.out.2)⟩
theorem xg (A:World)(now:Int)(h:Dm w A k c v s)(hok:Okc s)(ha:¬(now<s.now\/1099511627776<now))(h0:s.ses=0)(hz:s.wt≠[])(hd:s.asked=true)(hw:(s.tmo:Int)<=now-s.askAt):Calls Tryz.prog 12 #[.pointer (some ⟨k,0,none⟩),.int .i64 now] A (ei w A k c s now):=by
 have hN:s.dcs.length=s.wt.length:=by rw [iH];unfold CS.n0;rw [hok.none h0];simp [gather]
 obtain ⟨n,hn⟩:∃n,s.dcs.length=n:=⟨_,rfl⟩
 have HN:Hid (s.dcs.length=n/\s.asked=true):=⟨hn,hd⟩
 have hnp:0<n:=by have:=List.length_pos_iff.2 hz;omega
 have i1:(0:Int)<(n:Int):=by omega
 have d1:IntKind.i64.wrap (now-s.askAt)=now-s.askAt:=by have:=hok.askAt;have:=hok.now;rw [IntKind.wrap_i64];omega
 have HA:Hid ((s.at now).asks=true):=by
  simp only [Hid,CS.asks,CS.at,hd,due]
  simp [hz]
  omega
 clear hN hn hd hz
 have HE:Hid (¬(now<s.now\/1099511627776<now)):=ha
 have n1:¬now<s.now:=fun e=>ha (.inl e)
 have n2:¬1099511627776<now:=fun e=>ha (.inr e)
 have HD:Hid (Dm w A k c v s/\Okc (s.at now)):=⟨h,hok.at (by omega)⟩
 have c15:A.cell? ⟨k,15,none⟩=some (.int .i64 s.now):=h.blk.cell 15
 have f15:=h.blk.free 15
 have H1:Hid (Dm w (A.setCell ⟨k,15,none⟩ (.int .i64 now)) k c v (s.at now)/\cH A (A.setCell ⟨k,15,none⟩ (.int .i64 now))/\A.heap.size<=(A.setCell ⟨k,15,none⟩ (.int .i64 now)).heap.size):=⟨h.at,bI h.blk (.inl rfl) (ae _ _ _ _),(ae _ _ _ _).size⟩
 clear h hok ha
 go_enter Tryz.func12,Tryz.ntmps12
 go_upto_region 7 with fail
 generalize A.setCell ⟨k,15,none⟩ (.int .i64 now)=w1 at H1 ⊢
 clear c15 f15 n1 n2
 have c11:w1.cell? ⟨k,11,none⟩=some (.int .i64 0):=by rw [<-h0];exact H1.out.1.blk.cell 11
 have HP:Hid (dg s now=0/\cN s now=cg (s.at now)/\cZ s now=dO (s.at now)):=⟨by unfold dg;rw [if_neg HE.out],by unfold cN;rw [if_neg HE.out,if_pos h0],by unfold cZ;rw [if_neg HE.out,if_pos h0]⟩
 obtain ⟨ao,cap,hv⟩:=H1.out.1.sl
 have HC:Hid (∀y,w1.grownBy y none->y.cell? ⟨k,10,none⟩=some (.slice ao n cap)/\y.cell? ⟨k,13,none⟩=some (.bool true)/\y.cell? ⟨k,14,none⟩=some (.int .i64 s.askAt)/\y.cell? ⟨k,6,none⟩=some (.int .i64 s.tmo)):=fun y hy=>by
  have hb:=H1.out.1.blk.grown hy (by simp)
  have e:v=.slice ao n cap:=by rw [hv,nA,HN.out.1]
  have c10:=hb.cell 10
  have c13:=hb.cell 13
  rw [e] at c10
  exact ⟨c10,by rw [<-HN.out.2];exact c13,hb.cell 14,hb.cell 6⟩
 clear h0 hv
 go_upto_region 8 with fail
 clear c11
 refine ag 1000 (fun y=>w1.grownBy y none) (by kernel_rfl) ?_
 have G2:Hid (w1.grownBy w1.drew none):=af _ _
 generalize w1.drew=w2 at G2 ⊢
 have J:Idx [0,1,2,3,4,5,6,7,8,9,10,11,12,13,14,15,16,17,18,19,20,21,22,23,24,25,26]:=trivial
 iterate 27 (refine tK J (G2.out) rfl rfl (fun wk hk=>by obtain ⟨k10,k13,k14,k6⟩:=HC.out wk hk;go_simp;try rfl) ?_;replace J:=J.tl;try simp only [pN])
 refine wD ?_
 refine (‹∀(a:Act) (w:World),Code.wp Tryz.prog _ _ a w->_› _ _ ?_)
 clear HC
 have H2:Hid (Dm w w2 k c v (s.at now)/\cH A w2/\A.heap.size<=w2.heap.size):=⟨H1.out.1.grown G2.out,aL H1.out.2.1 (aD G2.out),Nat.le_trans H1.out.2.2 G2.out.size⟩
 have c13:w2.cell? ⟨k,13,none⟩=some (.bool s.asked):=H2.out.1.blk.cell 13
 have c14:w2.cell? ⟨k,14,none⟩=some (.int .i64 s.askAt):=H2.out.1.blk.cell 14
 have f13:=H2.out.1.blk.free 13
 have f14:=H2.out.1.blk.free 14
 have H3:Hid (Dm w ((w2.setCell ⟨k,13,none⟩ (.bool true)).setCell ⟨k,14,none⟩ (.int .i64 now)) k c v (s.at now).ask/\cH A ((w2.setCell ⟨k,13,none⟩ (.bool true)).setCell ⟨k,14,none⟩ (.int .i64 now))/\A.heap.size<=((w2.setCell ⟨k,13,none⟩ (.bool true)).setCell ⟨k,14,none⟩ (.int .i64 now)).heap.size):=by
  have hg:=aa (ae w2 k 13 (.bool true)) (ae (w2.setCell ⟨k,13,none⟩ (.bool true)) k 14 (.int .i64 now))
  have hlo:=H2.out.1.lo
  exact ⟨⟨(H2.out.1.blk.store 13 _).store 14 _,LRow.set H2.out.1.row aR H2.out.1.blk (by decide) (by decide) hg,hlo,ai H2.out.1.gr hg (by intro x hx;simp at hx;omega)⟩,aL H2.out.2.1 (bI H2.out.1.blk (.inl rfl) hg),Nat.le_trans H2.out.2.2 hg.size⟩
 clear G2
 go_upto_region 11 with fail
 generalize (w2.setCell ⟨k,13,none⟩ (.bool true)).setCell ⟨k,14,none⟩ (.int .i64 now)=w3 at H3 ⊢
 clear c13 c14 f13 f14
 have HC:Hid (∀y,w3.grownBy y none->y.cell? ⟨k,0,none⟩=some (.int .i64 s.num)/\y.cell? ⟨k,12,none⟩=some (.int .i64 s.tok)):=fun y hy=>by
  have hb:=H3.out.1.blk.grown hy (by simp)
  exact ⟨hb.cell 0,hb.cell 12⟩
 refine ag 1000 (fun y=>w3.grownBy y none) (by kernel_rfl) ?_
 have G4:Hid (w3.grownBy w3.drew none):=af _ _
 generalize w3.drew=w4 at G4 ⊢
 have J:Idx [0,1,2,3,4,5,6,7,8,9,10]:=trivial
 iterate 11 (refine tK J (G4.out) rfl rfl (fun wk hk=>by obtain ⟨k0,k12⟩:=HC.out wk hk;go_simp;try rfl) ?_;replace J:=J.tl;try simp only [pN])
 refine wO 11 rfl fun K hK=>?_
 obtain ⟨w8,hw8,H8'⟩:=al1 w4 #[.int .i64 1,.int .i64 s.num,.int .i64 1,.int .i64 s.tok,.int .i64 0,.int .i64 0,.int .i64 0,.slice none 0 0,.int .i64 0,.int .i64 0,.int .i64 0,.int .i64 0,.slice none 0 0] 45
 obtain ⟨p8,hp8⟩:∃x,w4.heap.size=x:=⟨_,rfl⟩
 rw [hp8] at H8'
 have HW8:Hid (w4.alloc (.cells #[.int .i64 1,.int .i64 s.num,.int .i64 1,.int .i64 s.tok,.int .i64 0,.int .i64 0,.int .i64 0,.slice none 0 0,.int .i64 0,.int .i64 0,.int .i64 0,.int .i64 0,.slice none 0 0] 45)=w8/\w4.heap.size=p8):=⟨hw8,hp8⟩
 clear hw8 hp8
 go_wp2_with fail
 rw [HW8.out.1,HW8.out.2]
 have H8:Hid (MB w8 p8 (.slice none 0 0) (.slice none 0 0) (cX (s.at now))/\w3.grownBy w8 none):=⟨H8'.out.1,aa G4.out H8'.out.2.1⟩
 clear HW8 H8'
 refine hK.out _ _ (fun _=>H8.out.2) ?_
 clear hK K
 try simp only [pN]
 refine wO 12 rfl fun K hK=>?_
 refine ja w8 _ _ rfl A.heap.size (.slice none 0 0) [] (cX (s.at now)) p8 _ _ rfl rfl (aV _ _) H8.out.1 (bP _ _) (Own.nil _ _) (by simp) (Nat.le_trans H3.out.2.2 H8.out.2.size) ?_
 intro g' cap' w10 hr hg hgg
 have hg':w8.grownBy w10 none:=hg
 rw [List.nil_append] at hr
 have H10:Hid (aF w10 A.heap.size (.slice (some ⟨g',0,none⟩) (0+1) cap') [cX (s.at now)]/\w3.grownBy w10 none):=⟨hr,aa H8.out.2 hg'⟩
 clear hr hg hgg hg'
 refine hK.out _ _ (fun _=>H10.out.2) ?_
 clear hK K
 try simp only [pN]
 have J:Idx [13]:=trivial
 iterate 1 (refine tK J (H10.out.2) rfl rfl (fun wk hk=>by obtain ⟨k0,k12⟩:=HC.out wk hk;go_simp;try rfl) ?_;replace J:=J.tl;try simp only [pN])
 refine wD ?_
 refine (‹∀(a:Act) (w:World),Code.wp Tryz.prog _ _ a w->_› _ _ ?_)
 go_wp2_with fail
 go_ret2
 unfold ei
 rw [HP.out.1,HP.out.2.1,HP.out.2.2]
 unfold cg dO
 rw [HA.out]
 exact ⟨_,rfl,H10.out.1,⟨_,H3.out.1.grown H10.out.2⟩,aL H3.out.2.1 (aD H10.out.2)⟩
variable {s:CS} {w A A':World} {k:Nat} {c:PCfg} {v:Value}
theorem lA (s:CS):s.upto (lead s.L)=s/\gather (bJ s) s.L (lead s.L)=[]:=by
 have hlow:=e_ s.L
 constructor
 ·have e:aX (dh s) s.L (lead s.L)=s.L:=by
   apply List.ext_getElem?
   intro i
   rw [bC]
   by_cases h:i<lead s.L
   ·rw [hlow i h]
    simp
   ·simp [h]
  unfold CS.upto
  rw [e]
  rfl
 ·have key:∀j,j<=lead s.L->gather (bJ s) s.L j=[]:=by
   intro j
   induction j with
   | zero=>intro _;rfl
   | succ j ih =>
    intro h
    rw [gather,ih (by omega),hlow j (by omega)]
    rfl
  exact key _ (Nat.le_refl _)
theorem D12.give {A0 A1 A2:World}{g n cap j i:Nat}(h:D12 w A0 A k c (.slice (some ⟨g,0,none⟩) n cap) (s.gv j) (.slice none 0 0) [])(hj:j<s.wt.length)(hi:i=s.n0+j)(hok:Okc s)
  (h1:A1=A.setCell ⟨k,16,none⟩ (.int .i64 ((s.L.length+j+1:Nat):Int))) (hg:A1.grownBy A2 none):D12 w A0 (A2.setCell ⟨g,i*5+1,none⟩ (.int .i64 ((s.L.length+j+1:Nat):Int))) k c (.slice (some ⟨g,0,none⟩) n cap) (s.gv (j+1)) (.slice none 0 0) []:=by
 subst hi
 obtain ⟨hl,h0,hs⟩:=zo hj (hok.wait _ (List.getElem_mem hj))
 obtain ⟨⟨b1,b2,b3,b4⟩,hm,hk,hlo,hk0⟩:=h
 have hg1:=ae A k 16 (.int .i64 ((s.L.length+j+1:Nat):Int))
 rw [<-h1] at hg1
 have c1:Blk A1 k 51 (docC (s.gv (j+1)) c (.slice (some ⟨g,0,none⟩) n cap)):=by
  have:=b1.store 16 (.int .i64 ((s.L.length+j+1:Nat):Int))
  rw [<-h1] at this
  have e:(s.gv (j+1)).L.length=s.L.length+j+1:=by rw [gK (by omega)];omega
  unfold docC
  rw [e]
  exact this
 have r1:DRow A1 w.heap.size (.slice (some ⟨g,0,none⟩) n cap) (s.gv j).dcs:=LRow.set b2 aR b1 (by decide) (by decide) hg1
 have r2:=LRow.grown r1 aR hg
 obtain ⟨r3,hg3⟩:=jB r2 aR (by decide) (s.n0+j) hl 1 (by decide) (.int .i64 ((s.L.length+j+1:Nat):Int)) ⟨(s.gv j).dcs[s.n0+j].id,((s.L.length+j+1:Nat):Int),(s.gv j).dcs[s.n0+j].tm,(s.gv j).dcs[s.n0+j].was,(s.gv j).dcs[s.n0+j].ops⟩ fun x w' hx=>by
  obtain ⟨ov,rfl,h⟩:=hx
  exact ⟨ov,rfl,h⟩
 rw [<-hs] at r3
 have hgw:w.heap.size<=g:=(LRow.lt b2 g rfl).1
 obtain ⟨C2,hC2⟩:=(DRow.blk r2 g rfl).2
 obtain ⟨C0,hC0⟩:=(DRow.blk b2 g rfl).2
 have hgk:g≠k:=fun e=>by
  subst e
  exact absurd (aw b1 hC0) (by decide)
 have c2:=c1.grown hg (by simp)
 refine ⟨⟨c2.grown hg3 (by simpa using hgk),r3,b3,?_⟩,aV _ _,?_,?_,hk0⟩
 ·exact ai (aa (ai b4 hg1 (by intro x hx;simp at hx;omega)) hg) hg3 (by intro x hx;simp at hx;omega)
 ·exact aL (aL hk (bI b1 (.inl rfl) hg1)) (aL (aD hg) (bI hC2 (.inr rfl) hg3))
 ·have:=hg1.size
  have:=hg.size
  have:=hg3.size
  omega
theorem zA (A:World)(now:Int)(h:Dm w A k c v s)(hok:Okc s)(ha:¬(now<s.now\/1099511627776<now))(h0:s.ses≠0):Calls Tryz.prog 12 #[.pointer (some ⟨k,0,none⟩),.int .i64 now] A (ei w A k c s now):=by
 have h1s:1<=s.ses:=by have:=hok.ses;omega
 have s1:(s.ses==0)=false:=by rw [beq_eq_false_iff_ne];exact h0
 have hk0:=h.blk.lt
 have HP:Hid (dg s now=0/\cN s now=(s.at now).given.msgs/\cZ s now=(s.at now).given.sent):=⟨by unfold dg;rw [if_neg ha],by unfold cN;rw [if_neg ha,if_neg h0],by unfold cZ;rw [if_neg ha,if_neg h0]⟩
 have HE:Hid (¬(now<s.now\/1099511627776<now)):=ha
 have n1:¬now<s.now:=fun e=>ha (.inl e)
 have n2:¬1099511627776<now:=fun e=>ha (.inr e)
 have HD:Hid (Dm w A k c v s/\Okc (s.at now)):=⟨h,hok.at (by omega)⟩
 have c15:A.cell? ⟨k,15,none⟩=some (.int .i64 s.now):=h.blk.cell 15
 have f15:=h.blk.free 15
 have H1:Hid (Dm w (A.setCell ⟨k,15,none⟩ (.int .i64 now)) k c v (s.at now)/\cH A (A.setCell ⟨k,15,none⟩ (.int .i64 now))/\A.heap.size<=(A.setCell ⟨k,15,none⟩ (.int .i64 now)).heap.size):=⟨h.at,bI h.blk (.inl rfl) (ae _ _ _ _),(ae _ _ _ _).size⟩
 clear h hok ha
 go_enter Tryz.func12,Tryz.ntmps12
 go_upto_region 7 with fail
 generalize A.setCell ⟨k,15,none⟩ (.int .i64 now)=w1 at H1 ⊢
 clear c15 f15 n1 n2
 obtain ⟨q,hq⟩:∃q,s.at now=q:=⟨_,rfl⟩
 have HQ:Hid (1<=q.ses/\q.now=now/\q.ses=s.ses/\k<A.heap.size):=by rw [<-hq];exact ⟨h1s,rfl,rfl,hk0⟩
 rw [hq] at HP H1 HD
 clear h1s hk0 h0 hq
 obtain ⟨ao,cap,rfl⟩:=H1.out.1.sl
 obtain ⟨n,hn⟩:∃n,q.dcs.length=n:=⟨_,rfl⟩
 rw [hn] at H1
 have HN:Hid (q.dcs.length=n/\n<=1000000000000):=⟨hn,by have:=eK q;have:=HD.out.2.last;omega⟩
 clear hn
 have c11:w1.cell? ⟨k,11,none⟩=some (.int .i64 s.ses):=by rw [<-HQ.out.2.2.1];exact H1.out.1.blk.cell 11
 have c10:w1.cell? ⟨k,10,none⟩=some (.slice ao n cap):=H1.out.1.blk.cell 10
 replace HD:Hid (Okc q):=HD.out.2
 go_wp2_with fail
 clear c11 s1 c10
 go_loopw [7] (fun q' wr=>∃j:Nat,q'=.int .i64 (j:Nat)/\j<=n/\Hid (D12 w A wr k c (.slice ao n cap) (q.gv (min (j-q.n0) q.many)) (.slice none 0 0) [])) (fun q' _=>n-(intOf q').toNat)
 case atStart =>
  refine ⟨0,rfl,Nat.zero_le _,?_⟩
  have e:min (0-q.n0) q.many=0:=by omega
  rw [e,rA]
  exact ⟨H1.out.1,aV _ _,H1.out.2.1,H1.out.2.2,HQ.out.2.2.2⟩
 case round =>
  obtain ⟨j,rfl,hj,G⟩:=hrel
  have c10:wr.cell? ⟨k,10,none⟩=some (.slice ao n cap):=G.out.dm.blk.cell 10
  by_cases hlt:j<n
  ·have i1:(j:Int)<(n:Int):=by omega
   have i2:(0:Int)<=(j:Int):=by omega
   have HLJ:Hid (j<n):=hlt
   have d1:IntKind.i64.wrap ((j:Int)+1)=(j:Int)+1:=by have:=HN.out;rw [IntKind.wrap_i64];omega
   obtain ⟨J,hJ⟩:∃J,min (j-q.n0) q.many=J:=⟨_,rfl⟩
   rw [hJ] at G
   have hJw:J<=q.wt.length:=by have:q.many<=q.wt.length:=by unfold CS.many;omega
                               omega
   have hl:=rC (s:=q) hJw
   have hjl:j<(q.gv J).dcs.length:=by rw [hl,HN.out.1];exact hlt
   obtain ⟨g,cap',y1,y2,y3,e,q0,q1,q2,q3,q4,q5⟩:=dK G.out.dm.row j hjl
   simp at e
   obtain ⟨rfl,_,rfl⟩:=e
   have hnum:=BE hJw hjl
   have hcond:q.dcs.length=q.n0+q.wt.length:=iH q
   obtain ⟨x,hx⟩:∃x,(q.gv J).dcs[j].num=x:=⟨_,rfl⟩
   rw [hx] at q1 hnum
   have HC:Hid (∀wk,wr.grownBy wk none->wk.cell? ⟨k,10,none⟩=some (.slice (some ⟨g,0,none⟩) n cap)/\wk.cell? ⟨g,j*5+1,none⟩=some (.int .i64 x)/\wk.cell? ⟨k,16,none⟩=some (.int .i64 ((q.L.length+J:Nat):Int))/\wk.cell? ⟨k,3,none⟩=some (.int .i64 q.size)):=fun wk hk=>by
    have hb:=(G.out.dm.grown hk).blk
    refine ⟨hb.cell 10,hk.cell q1 (by simp),?_,hb.cell 3⟩
    rw [<-gK hJw]
    exact hb.cell 16
   have HJ:Hid (J<=q.wt.length/\min (j-q.n0) q.many=J/\q.n0+q.wt.length=n/\q.many=min q.wt.length (lead q.L+q.size-q.L.length)/\lead q.L<=q.L.length/\q.L.length<=1000000000000):=⟨hJw,hJ,by rw [<-hcond];exact HN.out.1,rfl,ie _,by have:=HD.out.last;omega⟩
   clear q0 q1 q2 q3 q4 q5 hJw hl hjl hJ hx hcond c10
   by_cases ha:j<q.n0
   ·-- it has a number
    have e0:J=0:=by have:=HJ.out;omega
    have hp:0<x:=hnum.2 (by omega)
    have f1:(x==0)=false:=by rw [beq_eq_false_iff_ne];omega
    have HA:Hid (min (j+1-q.n0) q.many=J):=by unfold Hid;omega
    clear hnum hp ha e0
    have c10:=(HC.out wr (aj _ _)).1
    go_upto_region 16 with fail
    clear c10
    refine ag 1000 (fun y=>wr.grownBy y none) (by kernel_rfl) ?_
    have G7:Hid (wr.grownBy wr.drew none):=af _ _
    generalize wr.drew=w7 at G7 ⊢
    have J:Idx [0,1,2,3,4,5,6,7,8,9]:=trivial
    iterate 10 (refine tK J (G7.out) rfl rfl (fun wk hk=>by obtain ⟨k10,k1,k16,k3⟩:=HC.out wk hk;go_simp;try rfl) ?_;replace J:=J.tl;try simp only [pN])
    have J:Idx [10,11,12,13,14,15,16,17,18,19,20,21,22]:=trivial
    iterate 13 (refine sk J (G7.out) rfl rfl ?_;replace J:=J.tl;try simp only [pN])
    have J:Idx [23]:=trivial
    iterate 1 (refine tK J (G7.out) rfl rfl (fun wk hk=>by obtain ⟨k10,k1,k16,k3⟩:=HC.out wk hk;go_simp;try rfl) ?_;replace J:=J.tl;try simp only [pN])
    refine wD ?_
    refine (‹∀(a:Act) (w:World),Code.wp Tryz.prog _ _ a w->_› _ _ ?_)
    go_wp2_with fail
    go_roundw
    case rel=>exact ⟨j+1,by go_num,by have:=HLJ.out;omega,by rw [HA.out];exact G.out.grown G7.out⟩
    case measure=>have:=HLJ.out;simp [intOf];omega
   ·have hz:x=0:=hnum.1 (by have:=HJ.out;omega)
    subst hz
    clear hnum
    by_cases hb:j-q.n0<q.many
    ·-- it gets one
     have HB:Hid (J=j-q.n0/\j=q.n0+J/\J<q.wt.length/\min (j+1-q.n0) q.many=J+1):=by have:=HJ.out;unfold Hid;omega
     have t1:IntKind.i64.wrap (((q.L.length+J:Nat):Int)-(lead q.L:Nat))=((q.L.length+J:Nat):Int)-(lead q.L:Nat):=by have:=HJ.out;have:=HN.out;rw [IntKind.wrap_i64];omega
     have t2:((q.L.length+J:Nat):Int)-(lead q.L:Nat)<(q.size:Int):=by have:=HJ.out;have:=HB.out;omega
     have t3:IntKind.i64.wrap (((q.L.length+J:Nat):Int)+1)=((q.L.length+J+1:Nat):Int):=by have:=HJ.out;have:=HN.out;rw [IntKind.wrap_i64];push_cast;omega
     obtain ⟨ln,hln⟩:∃l,((q.L.length+J:Nat):Int)=l:=⟨_,rfl⟩
     obtain ⟨l1,hl1⟩:∃l,((q.L.length+J+1:Nat):Int)=l:=⟨_,rfl⟩
     rw [hln] at t1 t2 t3 HC
     rw [hl1] at t3
     have HL1:Hid (((q.L.length+J+1:Nat):Int)=l1/\((q.L.length+J:Nat):Int)=ln):=⟨hl1,hln⟩
     clear ha hb hln hl1
     have c10:=(HC.out wr (aj _ _)).1
     go_upto_region 16 with fail
     clear c10
     refine ag 1000 (fun y=>wr.grownBy y none) (by kernel_rfl) ?_
     have G7:Hid (wr.grownBy wr.drew none):=af _ _
     generalize wr.drew=w7 at G7 ⊢
     have J:Idx [0,1,2,3,4,5,6,7,8,9,10,11,12,13,14,17,18,19,20,21]:=trivial
     iterate 20 (refine tK J (G7.out) rfl rfl (fun wk hk=>by obtain ⟨k10,k1,k16,k3⟩:=HC.out wk hk;go_simp;try rfl) ?_;replace J:=J.tl;try simp only [pN])
     refine wO 15 rfl fun K hK=>?_
     go_wp2_with fail
     refine (ko w7 (G.out.dm.grown G7.out) (HD.out.gv HQ.out.1 J)).mono ?_
     rintro e w8 ⟨rfl,hg⟩
     rw [rB]
     have G8:Hid (wr.grownBy w8 none):=aa G7.out hg
     clear hg
     go_wp2_with fail
     refine hK.out _ _ (fun _=>G8.out) ?_
     clear hK K
     try simp only [pN]
     have J:Idx [16,22,23]:=trivial
     iterate 3 (refine tK J (G8.out) rfl rfl (fun wk hk=>by obtain ⟨k10,k1,k16,k3⟩:=HC.out wk hk;go_simp;try rfl) ?_;replace J:=J.tl;try simp only [pN])
     refine wD ?_
     refine (‹∀(a:Act) (w:World),Code.wp Tryz.prog _ _ a w->_› _ _ ?_)
     have G9:Hid (D12 w A w8 k c (.slice (some ⟨g,0,none⟩) n cap) (q.gv J) (.slice none 0 0) []):=G.out.grown G8.out
     have c16:=(HC.out w8 G8.out).2.2.1
     have f16:=G9.out.dm.blk.free 16
     clear t1 t2
     go_upto_region 18 with fail
     have HW:Hid (∃w9,w8.setCell ⟨k,16,none⟩ (.int .i64 l1)=w9/\Blk w9 k 51 (docC (q.gv (J+1)) c (.slice (some ⟨g,0,none⟩) n cap))/\DRow w9 w.heap.size (.slice (some ⟨g,0,none⟩) n cap) (q.gv J).dcs):=by
      have hg:=ae w8 k 16 (.int .i64 l1)
      have hb:=G9.out.dm.blk.store 16 (.int .i64 l1)
      refine ⟨_,rfl,?_,LRow.set G9.out.dm.row aR G9.out.dm.blk (by decide) (by decide) hg⟩
      have e:(q.gv (J+1)).L.length=q.L.length+J+1:=by rw [gK (by have:=HB.out;omega)];omega
      unfold docC
      rw [e,HL1.out.1]
      exact hb
     obtain ⟨w9,hw9,hb9,hr9⟩:=HW.out
     have H9:Hid (w8.setCell ⟨k,16,none⟩ (.int .i64 l1)=w9/\Blk w9 k 51 (docC (q.gv (J+1)) c (.slice (some ⟨g,0,none⟩) n cap))/\DRow w9 w.heap.size (.slice (some ⟨g,0,none⟩) n cap) (q.gv J).dcs):=⟨hw9,hb9,hr9⟩
     rw [hw9]
     clear hw9 hb9 hr9 HW c16 f16
     have HC9:Hid (∀wk,w9.grownBy wk none->wk.cell? ⟨k,10,none⟩=some (.slice (some ⟨g,0,none⟩) n cap)/\wk.cell? ⟨k,16,none⟩=some (.int .i64 l1)):=fun wk hk=>by
      have hb:=H9.out.2.1.grown hk (by simp)
      refine ⟨hb.cell 10,?_⟩
      rw [<-HL1.out.1]
      have e:(q.gv (J+1)).L.length=q.L.length+J+1:=by rw [gK (by have:=HB.out;omega)];omega
      rw [<-e]
      exact hb.cell 16
     refine ag 11 (fun y=>w9.grownBy y none) (by kernel_rfl) ?_
     have Ga:Hid (w9.grownBy w9.drew none):=af _ _
     generalize w9.drew=wa at Ga ⊢
     have J:Idx [0,1,2,3,4,5,6,7,8,9,10]:=trivial
     iterate 11 (refine tK J (Ga.out) rfl rfl (fun wk hk=>by obtain ⟨k10,k16⟩:=HC9.out wk hk;go_simp;try rfl) ?_;replace J:=J.tl;try simp only [pN])
     refine wO 11 rfl fun K hK=>?_
     have hra:=LRow.grown H9.out.2.2 aR Ga.out
     have hja:j<(q.gv J).dcs.length:=by rw [rC (by have:=HJ.out;omega),HN.out.1];exact HLJ.out
     have hq:∃x,wa.cell? ⟨g,j*5+1,none⟩=some x:=by
      obtain ⟨g',cap',y1,y2,y3,e,_,q1,_,_,_,_⟩:=dK hra j hja
      simp at e
      obtain ⟨rfl,_,rfl⟩:=e
      exact ⟨_,q1⟩
     obtain ⟨xq,q1⟩:=hq
     have fq:=jC hra (j*5+1)
     clear hra hja
     go_wp2_with fail
     clear q1 fq
     refine hK.out _ _ (fun h=>absurd rfl h) ?_
     clear hK K
     try simp only [pN]
     refine wD ?_
     refine (‹∀(a:Act) (w:World),Code.wp Tryz.prog _ _ a w->_› _ _ ?_)
     have HG:Hid (D12 w A (wa.setCell ⟨g,j*5+1,none⟩ (.int .i64 l1)) k c (.slice (some ⟨g,0,none⟩) n cap) (q.gv (J+1)) (.slice none 0 0) []):=by
      have h:=D12.give (A1:=w9) (A2:=wa) (i:=j) G9.out HB.out.2.2.1 HB.out.2.1 HD.out (by rw [HL1.out.1];exact H9.out.1.symm) Ga.out
      rw [HL1.out.1] at h
      exact h
     generalize wa.setCell ⟨g,j*5+1,none⟩ (.int .i64 l1)=wb at HG ⊢
     clear t3
     go_wp2_with fail
     go_roundw
     case rel=>exact ⟨j+1,by go_num,by have:=HLJ.out;omega,by rw [HB.out.2.2.2];exact HG.out⟩
     case measure=>have:=HLJ.out;simp [intOf];omega
    ·-- there is no room
     have HB:Hid (J=q.many/\min (j+1-q.n0) q.many=J):=by have:=HJ.out;unfold Hid;omega
     have t1:IntKind.i64.wrap (((q.L.length+J:Nat):Int)-(lead q.L:Nat))=((q.L.length+J:Nat):Int)-(lead q.L:Nat):=by have:=HJ.out;have:=HN.out;rw [IntKind.wrap_i64];omega
     have t2:¬((q.L.length+J:Nat):Int)-(lead q.L:Nat)<(q.size:Int):=by have:=HJ.out;have:=HB.out;have:=HLJ.out;omega
     obtain ⟨ln,hln⟩:∃l,((q.L.length+J:Nat):Int)=l:=⟨_,rfl⟩
     rw [hln] at t1 t2 HC
     have t4:decide (ln-(lead q.L:Nat)<(q.size:Int))=false:=decide_eq_false t2
     clear ha hb hln
     have c10:=(HC.out wr (aj _ _)).1
     go_upto_region 16 with fail
     clear c10
     refine ag 1000 (fun y=>wr.grownBy y none) (by kernel_rfl) ?_
     have G7:Hid (wr.grownBy wr.drew none):=af _ _
     generalize wr.drew=w7 at G7 ⊢
     have J:Idx [0,1,2,3,4,5,6,7,8,9,10,11,12,13,14,17,18,19,20,21]:=trivial
     iterate 20 (refine tK J (G7.out) rfl rfl (fun wk hk=>by obtain ⟨k10,k1,k16,k3⟩:=HC.out wk hk;go_simp;try rfl) ?_;replace J:=J.tl;try simp only [pN])
     refine wO 15 rfl fun K hK=>?_
     go_wp2_with fail
     refine (ko w7 (G.out.dm.grown G7.out) (HD.out.gv HQ.out.1 J)).mono ?_
     rintro e w8 ⟨rfl,hg⟩
     rw [rB]
     have G8:Hid (wr.grownBy w8 none):=aa G7.out hg
     clear hg
     go_wp2_with fail
     refine hK.out _ _ (fun _=>G8.out) ?_
     clear hK K
     try simp only [pN]
     have J:Idx [16,22,23]:=trivial
     iterate 3 (refine tK J (G8.out) rfl rfl (fun wk hk=>by obtain ⟨k10,k1,k16,k3⟩:=HC.out wk hk;go_simp;try rfl) ?_;replace J:=J.tl;try simp only [pN])
     refine wD ?_
     refine (‹∀(a:Act) (w:World),Code.wp Tryz.prog _ _ a w->_› _ _ ?_)
     go_wp2_with fail
     go_roundw
     case rel=>exact ⟨j+1,by go_num,by have:=HLJ.out;omega,by rw [HB.out.2];exact G.out.grown G8.out⟩
     case measure=>have:=HLJ.out;simp [intOf];omega
  ·have i1:¬(j:Int)<(n:Int):=by omega
   have HG:Hid (D12 w A wr k c (.slice ao n cap) q.given (.slice none 0 0) []):=by
    have e:min (j-q.n0) q.many=q.many:=by
     have h1:=iH q
     have h2:=HN.out.1
     unfold CS.many
     omega
    have h:=G.out
    rw [e] at h
    exact h
   have HO:Hid (Okc q.given/\1<=q.given.ses):=⟨HD.out.given HQ.out.1,HQ.out.1⟩
   clear hlt hj G
   go_wp2_with fail
   clear c10 i1
   refine (ko wr HG.out.dm HO.out.1).mono ?_
   rintro e w2 ⟨rfl,hg⟩
   obtain ⟨z,hz⟩:∃z,q.given=z:=⟨_,rfl⟩
   have HZ:Hid (z.now=now/\q.given=z):=⟨by rw [<-hz];exact HQ.out.2.1,hz⟩
   rw [hz] at HG HO ⊢
   have H2:Hid (D12 w A w2 k c (.slice ao n cap) (z.upto (lead z.L)) (.slice none 0 0) (gather (bJ z) z.L (lead z.L))):=by
    rw [(lA z).1,(lA z).2]
    exact HG.out.grown hg
   have t1:IntKind.i64.wrap (((lead z.L:Nat):Int)+1)=((lead z.L+1:Nat):Int):=by have:=HO.out.1.last;have:=ie z.L;rw [IntKind.wrap_i64];push_cast;omega
   have HZN:Hid (.int .i64 z.now=Value.int .i64 now):=by rw [Hid,HZ.out.1]
   clear hg hz
   go_wp2_with fail
   refine zx _ w A w2 k c (.slice ao n cap) z (lead z.L) HO.out.1 HO.out.2 _ ?_ ⟨.slice none 0 0,_,⟨rfl,rfl,rfl,HZN.out.symm,rfl,rfl,rfl,rfl⟩,H2.out,ie _⟩
   rintro m a wf ⟨vl,v10,hS,hD,hle⟩ hge
   have hm:m=z.L.length:=by omega
   subst hm
   obtain ⟨p,rfl⟩:=hS.eq
   obtain ⟨vo,vn,vc,rfl,hvn⟩:=hD.ms.slice
   have HF:Hid (D12 w A wf k c (.slice ao n cap) z.sent (.slice vo vn vc) z.msgs):=hD
   clear hS hD hle hge hvn t1
   simp only [Exit.inBlock,Exit.then,if_true]
   refine (‹∀(a:Act) (w:World),_->_› _ _ ?_)
   go_wp2_with fail
   go_ret2
   unfold ei
   rw [HP.out.1,HP.out.2.1,HP.out.2.2,HZ.out.2]
   exact ⟨_,rfl,HF.out.ms,⟨_,HF.out.dm⟩,HF.out.kp⟩
theorem rD (A:World)(now:Int)(h:Dm w A k c v s)(hok:Okc s):Calls Tryz.prog 12 #[.pointer (some ⟨k,0,none⟩),.int .i64 now] A (ei w A k c s now):=by
 by_cases ha:now<s.now\/1099511627776<now
 ·exact tL A now h ha
 ·by_cases h0:s.ses=0
  ·by_cases hz:s.wt=[]
   ·exact w_ A now h hok ha h0 hz
   ·cases hd:s.asked with
    | false=>exact xf A now h hok ha h0 hz hd
    | true =>
     by_cases hw:(s.tmo:Int)<=now-s.askAt
     ·exact xg A now h hok ha h0 hz hd hw
     ·exact xe A now h hok ha h0 hz hd hw
  ·exact zA A now h hok ha h0
end Go.Proofs.YtanoabliahcbeaaGreat.Wn
