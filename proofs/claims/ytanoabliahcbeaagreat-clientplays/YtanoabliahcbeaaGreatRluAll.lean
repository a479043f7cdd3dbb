import Derived.Test.YtanoabliahcbeaaGreatRakAll
set_option maxHeartbeats 8000000
set_option maxRecDepth 100000
namespace Go.Proofs.YtanoabliahcbeaaGreat.Wn
open Go.RowKit Disk Table
open Go.Proofs.YtanoabliahcbeaaGreat.Calls _root_.Go.Proofs.YtanoabliahcbeaaGreat.Command
variable {s:CS} {w A A':World} {k:Nat} {c:PCfg} {v:Value}
theorem tu (A:World)(o1:Option Addr)(o2 o3:Nat)(a1:Option Addr)(a2 a3:Nat)(m:PMsg)(h:Dm w A k c v s)(hok:Okc s)(ho:Ops A (.slice o1 o2 o3) m.ask.ops)(ha:Seg A (.slice a1 a2 a3) m.tell.answer)(hl:m.tell.answer.length<=140737488355328)(ht:s.tok<=3999999999999992)(hn:hears s m=true)(h1:m.tell.kind≠1)(h0:s.ses=0):Calls Tryz.prog 16 #[.pointer (some ⟨k,0,none⟩),msgV (.slice o1 o2 o3) (.slice a1 a2 a3) m] A (eF w A k c s m):=by
 have HD:Hid (Dm w A k c v s/\Ops A (.slice o1 o2 o3) m.ask.ops/\Seg A (.slice a1 a2 a3) m.tell.answer/\m.tell.answer.length<=140737488355328/\Okc s/\s.tok<=3999999999999992):=⟨h,ho,ha,hl,hok,ht⟩
 have hq0:=heard hn
 have e3:m.kind=2/\m.client=(s.num:Int)/\okM m=true:=by
  unfold hears at hn
  simp only [Bool.and_eq_true,decide_eq_true_eq] at hn
  exact ⟨hn.1.1,hn.1.2,hn.2⟩
 have hkt:=dF e3.2.2 e3.1
 have HQ:Hid (bV s m=[]/\ch s m=s):=by
  have:=fM hok hkt.2 (.inl ⟨h0,fun e=>h1 e.1⟩)
  rw [hq0.1,hq0.2]
  exact this
 have f1:(m.tell.kind==1)=false:=by rw [beq_eq_false_iff_ne];exact h1
 have f2:(s.ses==0)=true:=by rw [h0];rfl
 clear h1 h0
 have HE:Hid (okM m=true):=e3.2.2
 obtain ⟨w1,hw1,H1⟩:=al1 A #[.int .i64 m.kind,.int .i64 m.client,.int .i64 m.ask.kind,.int .i64 m.ask.token,.int .i64 m.ask.session,.int .i64 m.ask.number,.int .i64 m.ask.mark,.slice o1 o2 o3,.int .i64 m.tell.kind,.int .i64 m.tell.token,.int .i64 m.tell.session,.int .i64 m.tell.number,.slice a1 a2 a3] 45
 obtain ⟨mb,hmb⟩:∃x,A.heap.size=x:=⟨_,rfl⟩
 rw [hmb] at H1
 have HK:Hid (∀y,w1.grownBy y none->MB y mb (.slice o1 o2 o3) (.slice a1 a2 a3) m/\y.cell? ⟨k,0,none⟩=some (.int .i64 s.num)):=fun y hy=>⟨MB.grown H1.out.1 hy,((h.grown H1.out.2.1).grown hy).blk.cell 0⟩
 have n1:(m.kind != 2)=false:=by simp [e3.1]
 have n2:(m.client != (s.num:Int))=false:=by simp [e3.2.1]
 clear h ho ha hl hok ht hn e3 hkt hq0
 unfold msgV
 go_enter Tryz.func16,Tryz.ntmps16
 go_upto_region 1 with fail
 try rw [hw1]
 try rw [hmb]
 clear hw1 hmb
 refine ag 1000 (fun y=>w1.grownBy y none) (by kernel_rfl) ?_
 have w2G:Hid (A.grownBy w1.drew none/\w1.grownBy w1.drew none):=⟨aa H1.out.2.1 (af _ _),af _ _⟩
 generalize w1.drew=w2 at w2G ⊢
 have J:Idx [0,1,2,3,4,5,6,7,8,9,10,11,12,13,14,15,16,17]:=trivial
 iterate 18 (refine tK J (w2G.out.2) rfl rfl (fun wk hk=>by obtain ⟨hm,k0⟩:=HK.out wk hk;obtain ⟨p0,p1,p2,p3,p4,p5,p6,p7,p8,p9,p10,p11,p12⟩:=MB.cells hm;go_simp;try rfl) ?_;replace J:=J.tl;try simp only [pN])
 refine wO 18 rfl fun K hK=>?_
 go_wp2_with fail
 refine (gJ (.slice o1 o2 o3) (.slice a1 a2 a3) m w2 (HD.out.2.1.grown w2G.out.1) (HD.out.2.2.1.grown w2G.out.1) HD.out.2.2.2.1).mono ?_
 rintro e w3 ⟨rfl,hg⟩
 rw [HE.out]
 have w3G:Hid (A.grownBy w3 none/\w1.grownBy w3 none):=⟨aa w2G.out.1 hg,aa w2G.out.2 hg⟩
 clear hg
 go_wp2_with fail
 refine hK.out _ _ (fun _=>w3G.out.2) ?_
 clear hK K
 try simp only [pN]
 have J:Idx [19,20]:=trivial
 iterate 2 (refine tK J (w3G.out.2) rfl rfl (fun wk hk=>by obtain ⟨hm,k0⟩:=HK.out wk hk;obtain ⟨p0,p1,p2,p3,p4,p5,p6,p7,p8,p9,p10,p11,p12⟩:=MB.cells hm;go_simp;try rfl) ?_;replace J:=J.tl;try simp only [pN])
 refine wD ?_
 refine (‹∀(a:Act) (w:World),Code.wp Tryz.prog _ _ a w->_› _ _ ?_)
 clear n1 n2
 obtain ⟨q0,q1,q2,q3,q4,q5,q6,q7,q8,q9,q10,q11,q12⟩:=MB.cells (HK.out w3 w3G.out.2).1
 clear q0 q1 q2 q3 q4 q5 q6 q7
 go_upto_region 4 with fail
 obtain ⟨w4,hw4,H4⟩:=al1 w3 #[.int .i64 m.tell.kind,.int .i64 m.tell.token,.int .i64 m.tell.session,.int .i64 m.tell.number,.slice a1 a2 a3] 43
 obtain ⟨tb,htb⟩:∃x,w3.heap.size=x:=⟨_,rfl⟩
 try rw [hw4]
 try rw [htb]
 rw [htb] at H4
 clear hw4 htb q8 q9 q10 q11 q12 HK
 have H4G:Hid (A.grownBy w4 none):=aa w3G.out.1 H4.out.2.1
 have HK:Hid (∀y,w4.grownBy y none->y.cell? ⟨tb,0,none⟩=some (.int .i64 m.tell.kind)/\y.cell? ⟨tb,1,none⟩=some (.int .i64 m.tell.token)/\y.cell? ⟨tb,2,none⟩=some (.int .i64 m.tell.session)/\y.cell? ⟨k,11,none⟩=some (.int .i64 s.ses)/\y.cell? ⟨k,12,none⟩=some (.int .i64 s.tok)):=fun y hy=>⟨(H4.out.1.grown hy (by simp)).cell 0,(H4.out.1.grown hy (by simp)).cell 1,(H4.out.1.grown hy (by simp)).cell 2,((HD.out.1.grown H4G.out).grown hy).blk.cell 11,((HD.out.1.grown H4G.out).grown hy).blk.cell 12⟩
 go_upto_region 4 with fail
 refine ag 1000 (fun y=>w4.grownBy y none) (by kernel_rfl) ?_
 have w5G:Hid (w4.grownBy w4.drew none):=af _ _
 generalize w4.drew=w5 at w5G ⊢
 have J:Idx [0,1,2,3]:=trivial
 iterate 4 (refine tK J (w5G.out) rfl rfl (fun wk hk=>by obtain ⟨k0,k1,k2,k3,k4⟩:=HK.out wk hk;go_simp;try rfl) ?_;replace J:=J.tl;try simp only [pN])
 have J:Idx [4,5,6,7,8]:=trivial
 iterate 5 (refine sk J (w5G.out) rfl rfl ?_;replace J:=J.tl;try simp only [pN])
 have J:Idx [9,10]:=trivial
 iterate 2 (refine tK J (w5G.out) rfl rfl (fun wk hk=>by obtain ⟨k0,k1,k2,k3,k4⟩:=HK.out wk hk;go_simp;try rfl) ?_;replace J:=J.tl;try simp only [pN])
 have J:Idx [11,12,13,14,15,16,17]:=trivial
 iterate 7 (refine sk J (w5G.out) rfl rfl ?_;replace J:=J.tl;try simp only [pN])
 have J:Idx [18]:=trivial
 iterate 1 (refine tK J (w5G.out) rfl rfl (fun wk hk=>by obtain ⟨k0,k1,k2,k3,k4⟩:=HK.out wk hk;go_simp;try rfl) ?_;replace J:=J.tl;try simp only [pN])
 refine wD ?_
 refine (‹∀(a:Act) (w:World),Code.wp Tryz.prog _ _ a w->_› _ _ ?_)
 go_upto_region 8 with fail
 refine ag 1000 (fun y=>w4.grownBy y none) (by kernel_rfl) ?_
 have w6G:Hid (w4.grownBy w5.drew none):=aa w5G.out (af _ _)
 generalize w5.drew=w6 at w6G ⊢
 have J:Idx [0,1,2,3,4,5]:=trivial
 iterate 6 (refine tK J (w6G.out) rfl rfl (fun wk hk=>by obtain ⟨k0,k1,k2,k3,k4⟩:=HK.out wk hk;go_simp;try rfl) ?_;replace J:=J.tl;try simp only [pN])
 have J:Idx [6,7,8,9,10,11,12]:=trivial
 iterate 7 (refine sk J (w6G.out) rfl rfl ?_;replace J:=J.tl;try simp only [pN])
 have J:Idx [13]:=trivial
 iterate 1 (refine tK J (w6G.out) rfl rfl (fun wk hk=>by obtain ⟨k0,k1,k2,k3,k4⟩:=HK.out wk hk;go_simp;try rfl) ?_;replace J:=J.tl;try simp only [pN])
 refine wD ?_
 refine (‹∀(a:Act) (w:World),Code.wp Tryz.prog _ _ a w->_› _ _ ?_)
 go_wp2_with fail
 go_ret
 have hq:=HQ.out
 exact ⟨_,rfl,by rw [hq.1];exact a_ _ _,by rw [hq.2];exact ⟨_,HD.out.1.grown (aa H4G.out w6G.out)⟩,aD (aa H4G.out w6G.out)⟩
theorem tv (A:World)(o1:Option Addr)(o2 o3:Nat)(a1:Option Addr)(a2 a3:Nat)(m:PMsg)(h:Dm w A k c v s)(hok:Okc s)(ho:Ops A (.slice o1 o2 o3) m.ask.ops)(ha:Seg A (.slice a1 a2 a3) m.tell.answer)(hl:m.tell.answer.length<=140737488355328)(ht:s.tok<=3999999999999992)(hn:hears s m=true)(h1:m.tell.kind=1)(h0:s.ses=0)(h2:m.tell.token≠s.tok):Calls Tryz.prog 16 #[.pointer (some ⟨k,0,none⟩),msgV (.slice o1 o2 o3) (.slice a1 a2 a3) m] A (eF w A k c s m):=by
 have HD:Hid (Dm w A k c v s/\Ops A (.slice o1 o2 o3) m.ask.ops/\Seg A (.slice a1 a2 a3) m.tell.answer/\m.tell.answer.length<=140737488355328/\Okc s/\s.tok<=3999999999999992):=⟨h,ho,ha,hl,hok,ht⟩
 have hq0:=heard hn
 have e3:m.kind=2/\m.client=(s.num:Int)/\okM m=true:=by
  unfold hears at hn
  simp only [Bool.and_eq_true,decide_eq_true_eq] at hn
  exact ⟨hn.1.1,hn.1.2,hn.2⟩
 have hkt:=dF e3.2.2 e3.1
 have HQ:Hid (bV s m=[]/\ch s m=s):=by
  have:=fM hok hkt.2 (.inl ⟨h0,fun e=>h2 e.2⟩)
  rw [hq0.1,hq0.2]
  exact this
 have f1:(m.tell.kind==1)=true:=by rw [h1];rfl
 have f2:(s.ses==0)=true:=by rw [h0];rfl
 have f3:(m.tell.token==s.tok)=false:=by rw [beq_eq_false_iff_ne];exact h2
 clear h1 h0 h2
 have HE:Hid (okM m=true):=e3.2.2
 obtain ⟨w1,hw1,H1⟩:=al1 A #[.int .i64 m.kind,.int .i64 m.client,.int .i64 m.ask.kind,.int .i64 m.ask.token,.int .i64 m.ask.session,.int .i64 m.ask.number,.int .i64 m.ask.mark,.slice o1 o2 o3,.int .i64 m.tell.kind,.int .i64 m.tell.token,.int .i64 m.tell.session,.int .i64 m.tell.number,.slice a1 a2 a3] 45
 obtain ⟨mb,hmb⟩:∃x,A.heap.size=x:=⟨_,rfl⟩
 rw [hmb] at H1
 have HK:Hid (∀y,w1.grownBy y none->MB y mb (.slice o1 o2 o3) (.slice a1 a2 a3) m/\y.cell? ⟨k,0,none⟩=some (.int .i64 s.num)):=fun y hy=>⟨MB.grown H1.out.1 hy,((h.grown H1.out.2.1).grown hy).blk.cell 0⟩
 have n1:(m.kind != 2)=false:=by simp [e3.1]
 have n2:(m.client != (s.num:Int))=false:=by simp [e3.2.1]
 clear h ho ha hl hok ht hn e3 hkt hq0
 unfold msgV
 go_enter Tryz.func16,Tryz.ntmps16
 go_upto_region 1 with fail
 try rw [hw1]
 try rw [hmb]
 clear hw1 hmb
 refine ag 1000 (fun y=>w1.grownBy y none) (by kernel_rfl) ?_
 have w2G:Hid (A.grownBy w1.drew none/\w1.grownBy w1.drew none):=⟨aa H1.out.2.1 (af _ _),af _ _⟩
 generalize w1.drew=w2 at w2G ⊢
 have J:Idx [0,1,2,3,4,5,6,7,8,9,10,11,12,13,14,15,16,17]:=trivial
 iterate 18 (refine tK J (w2G.out.2) rfl rfl (fun wk hk=>by obtain ⟨hm,k0⟩:=HK.out wk hk;obtain ⟨p0,p1,p2,p3,p4,p5,p6,p7,p8,p9,p10,p11,p12⟩:=MB.cells hm;go_simp;try rfl) ?_;replace J:=J.tl;try simp only [pN])
 refine wO 18 rfl fun K hK=>?_
 go_wp2_with fail
 refine (gJ (.slice o1 o2 o3) (.slice a1 a2 a3) m w2 (HD.out.2.1.grown w2G.out.1) (HD.out.2.2.1.grown w2G.out.1) HD.out.2.2.2.1).mono ?_
 rintro e w3 ⟨rfl,hg⟩
 rw [HE.out]
 have w3G:Hid (A.grownBy w3 none/\w1.grownBy w3 none):=⟨aa w2G.out.1 hg,aa w2G.out.2 hg⟩
 clear hg
 go_wp2_with fail
 refine hK.out _ _ (fun _=>w3G.out.2) ?_
 clear hK K
 try simp only [pN]
 have J:Idx [19,20]:=trivial
 iterate 2 (refine tK J (w3G.out.2) rfl rfl (fun wk hk=>by obtain ⟨hm,k0⟩:=HK.out wk hk;obtain ⟨p0,p1,p2,p3,p4,p5,p6,p7,p8,p9,p10,p11,p12⟩:=MB.cells hm;go_simp;try rfl) ?_;replace J:=J.tl;try simp only [pN])
 refine wD ?_
 refine (‹∀(a:Act) (w:World),Code.wp Tryz.prog _ _ a w->_› _ _ ?_)
 clear n1 n2
 obtain ⟨q0,q1,q2,q3,q4,q5,q6,q7,q8,q9,q10,q11,q12⟩:=MB.cells (HK.out w3 w3G.out.2).1
 clear q0 q1 q2 q3 q4 q5 q6 q7
 go_upto_region 4 with fail
 obtain ⟨w4,hw4,H4⟩:=al1 w3 #[.int .i64 m.tell.kind,.int .i64 m.tell.token,.int .i64 m.tell.session,.int .i64 m.tell.number,.slice a1 a2 a3] 43
 obtain ⟨tb,htb⟩:∃x,w3.heap.size=x:=⟨_,rfl⟩
 try rw [hw4]
 try rw [htb]
 rw [htb] at H4
 clear hw4 htb q8 q9 q10 q11 q12 HK
 have H4G:Hid (A.grownBy w4 none):=aa w3G.out.1 H4.out.2.1
 have HK:Hid (∀y,w4.grownBy y none->y.cell? ⟨tb,0,none⟩=some (.int .i64 m.tell.kind)/\y.cell? ⟨tb,1,none⟩=some (.int .i64 m.tell.token)/\y.cell? ⟨tb,2,none⟩=some (.int .i64 m.tell.session)/\y.cell? ⟨k,11,none⟩=some (.int .i64 s.ses)/\y.cell? ⟨k,12,none⟩=some (.int .i64 s.tok)):=fun y hy=>⟨(H4.out.1.grown hy (by simp)).cell 0,(H4.out.1.grown hy (by simp)).cell 1,(H4.out.1.grown hy (by simp)).cell 2,((HD.out.1.grown H4G.out).grown hy).blk.cell 11,((HD.out.1.grown H4G.out).grown hy).blk.cell 12⟩
 go_upto_region 4 with fail
 refine ag 1000 (fun y=>w4.grownBy y none) (by kernel_rfl) ?_
 have w5G:Hid (w4.grownBy w4.drew none):=af _ _
 generalize w4.drew=w5 at w5G ⊢
 have J:Idx [0,1,2,3,4,5,6,7,8,9,10,11,12,13,14,15,16,17,18]:=trivial
 iterate 19 (refine tK J (w5G.out) rfl rfl (fun wk hk=>by obtain ⟨k0,k1,k2,k3,k4⟩:=HK.out wk hk;go_simp;try rfl) ?_;replace J:=J.tl;try simp only [pN])
 refine wD ?_
 refine (‹∀(a:Act) (w:World),Code.wp Tryz.prog _ _ a w->_› _ _ ?_)
 go_upto_region 8 with fail
 refine ag 1000 (fun y=>w4.grownBy y none) (by kernel_rfl) ?_
 have w6G:Hid (w4.grownBy w5.drew none):=aa w5G.out (af _ _)
 generalize w5.drew=w6 at w6G ⊢
 have J:Idx [0,1,2,3,4,5]:=trivial
 iterate 6 (refine tK J (w6G.out) rfl rfl (fun wk hk=>by obtain ⟨k0,k1,k2,k3,k4⟩:=HK.out wk hk;go_simp;try rfl) ?_;replace J:=J.tl;try simp only [pN])
 have J:Idx [6,7,8,9,10,11,12]:=trivial
 iterate 7 (refine sk J (w6G.out) rfl rfl ?_;replace J:=J.tl;try simp only [pN])
 have J:Idx [13]:=trivial
 iterate 1 (refine tK J (w6G.out) rfl rfl (fun wk hk=>by obtain ⟨k0,k1,k2,k3,k4⟩:=HK.out wk hk;go_simp;try rfl) ?_;replace J:=J.tl;try simp only [pN])
 refine wD ?_
 refine (‹∀(a:Act) (w:World),Code.wp Tryz.prog _ _ a w->_› _ _ ?_)
 go_wp2_with fail
 go_ret
 have hq:=HQ.out
 exact ⟨_,rfl,by rw [hq.1];exact a_ _ _,by rw [hq.2];exact ⟨_,HD.out.1.grown (aa H4G.out w6G.out)⟩,aD (aa H4G.out w6G.out)⟩
theorem tw (A:World)(o1:Option Addr)(o2 o3:Nat)(a1:Option Addr)(a2 a3:Nat)(m:PMsg)(h:Dm w A k c v s)(hok:Okc s)(ho:Ops A (.slice o1 o2 o3) m.ask.ops)(ha:Seg A (.slice a1 a2 a3) m.tell.answer)(hl:m.tell.answer.length<=140737488355328)(ht:s.tok<=3999999999999992)(hn:hears s m=true)(h1:m.tell.kind=1)(h0:s.ses≠0)(h2:m.tell.session≠s.ses):Calls Tryz.prog 16 #[.pointer (some ⟨k,0,none⟩),msgV (.slice o1 o2 o3) (.slice a1 a2 a3) m] A (eF w A k c s m):=by
 have HD:Hid (Dm w A k c v s/\Ops A (.slice o1 o2 o3) m.ask.ops/\Seg A (.slice a1 a2 a3) m.tell.answer/\m.tell.answer.length<=140737488355328/\Okc s/\s.tok<=3999999999999992):=⟨h,ho,ha,hl,hok,ht⟩
 have hq0:=heard hn
 have e3:m.kind=2/\m.client=(s.num:Int)/\okM m=true:=by
  unfold hears at hn
  simp only [Bool.and_eq_true,decide_eq_true_eq] at hn
  exact ⟨hn.1.1,hn.1.2,hn.2⟩
 have hkt:=dF e3.2.2 e3.1
 have HQ:Hid (bV s m=[]/\ch s m=s):=by
  have:=fM hok hkt.2 (.inr ⟨h0,.inl h2⟩)
  rw [hq0.1,hq0.2]
  exact this
 have f1:(m.tell.kind==1)=true:=by rw [h1];rfl
 have f2:(s.ses==0)=false:=by rw [beq_eq_false_iff_ne];exact h0
 have f3:(m.tell.session != s.ses)=true:=by simp;exact h2
 clear h1 h0 h2
 have HE:Hid (okM m=true):=e3.2.2
 obtain ⟨w1,hw1,H1⟩:=al1 A #[.int .i64 m.kind,.int .i64 m.client,.int .i64 m.ask.kind,.int .i64 m.ask.token,.int .i64 m.ask.session,.int .i64 m.ask.number,.int .i64 m.ask.mark,.slice o1 o2 o3,.int .i64 m.tell.kind,.int .i64 m.tell.token,.int .i64 m.tell.session,.int .i64 m.tell.number,.slice a1 a2 a3] 45
 obtain ⟨mb,hmb⟩:∃x,A.heap.size=x:=⟨_,rfl⟩
 rw [hmb] at H1
 have HK:Hid (∀y,w1.grownBy y none->MB y mb (.slice o1 o2 o3) (.slice a1 a2 a3) m/\y.cell? ⟨k,0,none⟩=some (.int .i64 s.num)):=fun y hy=>⟨MB.grown H1.out.1 hy,((h.grown H1.out.2.1).grown hy).blk.cell 0⟩
 have n1:(m.kind != 2)=false:=by simp [e3.1]
 have n2:(m.client != (s.num:Int))=false:=by simp [e3.2.1]
 clear h ho ha hl hok ht hn e3 hkt hq0
 unfold msgV
 go_enter Tryz.func16,Tryz.ntmps16
 go_upto_region 1 with fail
 try rw [hw1]
 try rw [hmb]
 clear hw1 hmb
 refine ag 1000 (fun y=>w1.grownBy y none) (by kernel_rfl) ?_
 have w2G:Hid (A.grownBy w1.drew none/\w1.grownBy w1.drew none):=⟨aa H1.out.2.1 (af _ _),af _ _⟩
 generalize w1.drew=w2 at w2G ⊢
 have J:Idx [0,1,2,3,4,5,6,7,8,9,10,11,12,13,14,15,16,17]:=trivial
 iterate 18 (refine tK J (w2G.out.2) rfl rfl (fun wk hk=>by obtain ⟨hm,k0⟩:=HK.out wk hk;obtain ⟨p0,p1,p2,p3,p4,p5,p6,p7,p8,p9,p10,p11,p12⟩:=MB.cells hm;go_simp;try rfl) ?_;replace J:=J.tl;try simp only [pN])
 refine wO 18 rfl fun K hK=>?_
 go_wp2_with fail
 refine (gJ (.slice o1 o2 o3) (.slice a1 a2 a3) m w2 (HD.out.2.1.grown w2G.out.1) (HD.out.2.2.1.grown w2G.out.1) HD.out.2.2.2.1).mono ?_
 rintro e w3 ⟨rfl,hg⟩
 rw [HE.out]
 have w3G:Hid (A.grownBy w3 none/\w1.grownBy w3 none):=⟨aa w2G.out.1 hg,aa w2G.out.2 hg⟩
 clear hg
 go_wp2_with fail
 refine hK.out _ _ (fun _=>w3G.out.2) ?_
 clear hK K
 try simp only [pN]
 have J:Idx [19,20]:=trivial
 iterate 2 (refine tK J (w3G.out.2) rfl rfl (fun wk hk=>by obtain ⟨hm,k0⟩:=HK.out wk hk;obtain ⟨p0,p1,p2,p3,p4,p5,p6,p7,p8,p9,p10,p11,p12⟩:=MB.cells hm;go_simp;try rfl) ?_;replace J:=J.tl;try simp only [pN])
 refine wD ?_
 refine (‹∀(a:Act) (w:World),Code.wp Tryz.prog _ _ a w->_› _ _ ?_)
 clear n1 n2
 obtain ⟨q0,q1,q2,q3,q4,q5,q6,q7,q8,q9,q10,q11,q12⟩:=MB.cells (HK.out w3 w3G.out.2).1
 clear q0 q1 q2 q3 q4 q5 q6 q7
 go_upto_region 4 with fail
 obtain ⟨w4,hw4,H4⟩:=al1 w3 #[.int .i64 m.tell.kind,.int .i64 m.tell.token,.int .i64 m.tell.session,.int .i64 m.tell.number,.slice a1 a2 a3] 43
 obtain ⟨tb,htb⟩:∃x,w3.heap.size=x:=⟨_,rfl⟩
 try rw [hw4]
 try rw [htb]
 rw [htb] at H4
 clear hw4 htb q8 q9 q10 q11 q12 HK
 have H4G:Hid (A.grownBy w4 none):=aa w3G.out.1 H4.out.2.1
 have HK:Hid (∀y,w4.grownBy y none->y.cell? ⟨tb,0,none⟩=some (.int .i64 m.tell.kind)/\y.cell? ⟨tb,1,none⟩=some (.int .i64 m.tell.token)/\y.cell? ⟨tb,2,none⟩=some (.int .i64 m.tell.session)/\y.cell? ⟨k,11,none⟩=some (.int .i64 s.ses)/\y.cell? ⟨k,12,none⟩=some (.int .i64 s.tok)):=fun y hy=>⟨(H4.out.1.grown hy (by simp)).cell 0,(H4.out.1.grown hy (by simp)).cell 1,(H4.out.1.grown hy (by simp)).cell 2,((HD.out.1.grown H4G.out).grown hy).blk.cell 11,((HD.out.1.grown H4G.out).grown hy).blk.cell 12⟩
 go_upto_region 4 with fail
 refine ag 1000 (fun y=>w4.grownBy y none) (by kernel_rfl) ?_
 have w5G:Hid (w4.grownBy w4.drew none):=af _ _
 generalize w4.drew=w5 at w5G ⊢
 have J:Idx [0,1,2,3,4,5,6,7,8,9,10]:=trivial
 iterate 11 (refine tK J (w5G.out) rfl rfl (fun wk hk=>by obtain ⟨k0,k1,k2,k3,k4⟩:=HK.out wk hk;go_simp;try rfl) ?_;replace J:=J.tl;try simp only [pN])
 have J:Idx [11,12,13,14,15,16,17]:=trivial
 iterate 7 (refine sk J (w5G.out) rfl rfl ?_;replace J:=J.tl;try simp only [pN])
 have J:Idx [18]:=trivial
 iterate 1 (refine tK J (w5G.out) rfl rfl (fun wk hk=>by obtain ⟨k0,k1,k2,k3,k4⟩:=HK.out wk hk;go_simp;try rfl) ?_;replace J:=J.tl;try simp only [pN])
 refine wD ?_
 refine (‹∀(a:Act) (w:World),Code.wp Tryz.prog _ _ a w->_› _ _ ?_)
 go_upto_region 8 with fail
 refine ag 1000 (fun y=>w4.grownBy y none) (by kernel_rfl) ?_
 have w6G:Hid (w4.grownBy w5.drew none):=aa w5G.out (af _ _)
 generalize w5.drew=w6 at w6G ⊢
 have J:Idx [0,1,2,3,4,5,6,7,8,9,10,11,12,13]:=trivial
 iterate 14 (refine tK J (w6G.out) rfl rfl (fun wk hk=>by obtain ⟨k0,k1,k2,k3,k4⟩:=HK.out wk hk;go_simp;try rfl) ?_;replace J:=J.tl;try simp only [pN])
 refine wD ?_
 refine (‹∀(a:Act) (w:World),Code.wp Tryz.prog _ _ a w->_› _ _ ?_)
 go_wp2_with fail
 go_ret
 have hq:=HQ.out
 exact ⟨_,rfl,by rw [hq.1];exact a_ _ _,by rw [hq.2];exact ⟨_,HD.out.1.grown (aa H4G.out w6G.out)⟩,aD (aa H4G.out w6G.out)⟩
theorem tz (A:World)(o1:Option Addr)(o2 o3:Nat)(a1:Option Addr)(a2 a3:Nat)(m:PMsg)(h:Dm w A k c v s)(hok:Okc s)(ho:Ops A (.slice o1 o2 o3) m.ask.ops)(ha:Seg A (.slice a1 a2 a3) m.tell.answer)(hl:m.tell.answer.length<=140737488355328)(ht:s.tok<=3999999999999992)(hn:hears s m=true)(h1:m.tell.kind≠1)(h0:s.ses≠0)(h2:m.tell.session≠s.ses):Calls Tryz.prog 16 #[.pointer (some ⟨k,0,none⟩),msgV (.slice o1 o2 o3) (.slice a1 a2 a3) m] A (eF w A k c s m):=by
 have HD:Hid (Dm w A k c v s/\Ops A (.slice o1 o2 o3) m.ask.ops/\Seg A (.slice a1 a2 a3) m.tell.answer/\m.tell.answer.length<=140737488355328/\Okc s/\s.tok<=3999999999999992):=⟨h,ho,ha,hl,hok,ht⟩
 have hq0:=heard hn
 have e3:m.kind=2/\m.client=(s.num:Int)/\okM m=true:=by
  unfold hears at hn
  simp only [Bool.and_eq_true,decide_eq_true_eq] at hn
  exact ⟨hn.1.1,hn.1.2,hn.2⟩
 have hkt:=dF e3.2.2 e3.1
 have HQ:Hid (bV s m=[]/\ch s m=s):=by
  have:=fM hok hkt.2 (.inr ⟨h0,.inl h2⟩)
  rw [hq0.1,hq0.2]
  exact this
 have f1:(m.tell.kind==1)=false:=by rw [beq_eq_false_iff_ne];exact h1
 have f2:(s.ses==0)=false:=by rw [beq_eq_false_iff_ne];exact h0
 have f3:(m.tell.session != s.ses)=true:=by simp;exact h2
 clear h1 h0 h2
 have HE:Hid (okM m=true):=e3.2.2
 obtain ⟨w1,hw1,H1⟩:=al1 A #[.int .i64 m.kind,.int .i64 m.client,.int .i64 m.ask.kind,.int .i64 m.ask.token,.int .i64 m.ask.session,.int .i64 m.ask.number,.int .i64 m.ask.mark,.slice o1 o2 o3,.int .i64 m.tell.kind,.int .i64 m.tell.token,.int .i64 m.tell.session,.int .i64 m.tell.number,.slice a1 a2 a3] 45
 obtain ⟨mb,hmb⟩:∃x,A.heap.size=x:=⟨_,rfl⟩
 rw [hmb] at H1
 have HK:Hid (∀y,w1.grownBy y none->MB y mb (.slice o1 o2 o3) (.slice a1 a2 a3) m/\y.cell? ⟨k,0,none⟩=some (.int .i64 s.num)):=fun y hy=>⟨MB.grown H1.out.1 hy,((h.grown H1.out.2.1).grown hy).blk.cell 0⟩
 have n1:(m.kind != 2)=false:=by simp [e3.1]
 have n2:(m.client != (s.num:Int))=false:=by simp [e3.2.1]
 clear h ho ha hl hok ht hn e3 hkt hq0
 unfold msgV
 go_enter Tryz.func16,Tryz.ntmps16
 go_upto_region 1 with fail
 try rw [hw1]
 try rw [hmb]
 clear hw1 hmb
 refine ag 1000 (fun y=>w1.grownBy y none) (by kernel_rfl) ?_
 have w2G:Hid (A.grownBy w1.drew none/\w1.grownBy w1.drew none):=⟨aa H1.out.2.1 (af _ _),af _ _⟩
 generalize w1.drew=w2 at w2G ⊢
 have J:Idx [0,1,2,3,4,5,6,7,8,9,10,11,12,13,14,15,16,17]:=trivial
 iterate 18 (refine tK J (w2G.out.2) rfl rfl (fun wk hk=>by obtain ⟨hm,k0⟩:=HK.out wk hk;obtain ⟨p0,p1,p2,p3,p4,p5,p6,p7,p8,p9,p10,p11,p12⟩:=MB.cells hm;go_simp;try rfl) ?_;replace J:=J.tl;try simp only [pN])
 refine wO 18 rfl fun K hK=>?_
 go_wp2_with fail
 refine (gJ (.slice o1 o2 o3) (.slice a1 a2 a3) m w2 (HD.out.2.1.grown w2G.out.1) (HD.out.2.2.1.grown w2G.out.1) HD.out.2.2.2.1).mono ?_
 rintro e w3 ⟨rfl,hg⟩
 rw [HE.out]
 have w3G:Hid (A.grownBy w3 none/\w1.grownBy w3 none):=⟨aa w2G.out.1 hg,aa w2G.out.2 hg⟩
 clear hg
 go_wp2_with fail
 refine hK.out _ _ (fun _=>w3G.out.2) ?_
 clear hK K
 try simp only [pN]
 have J:Idx [19,20]:=trivial
 iterate 2 (refine tK J (w3G.out.2) rfl rfl (fun wk hk=>by obtain ⟨hm,k0⟩:=HK.out wk hk;obtain ⟨p0,p1,p2,p3,p4,p5,p6,p7,p8,p9,p10,p11,p12⟩:=MB.cells hm;go_simp;try rfl) ?_;replace J:=J.tl;try simp only [pN])
 refine wD ?_
 refine (‹∀(a:Act) (w:World),Code.wp Tryz.prog _ _ a w->_› _ _ ?_)
 clear n1 n2
 obtain ⟨q0,q1,q2,q3,q4,q5,q6,q7,q8,q9,q10,q11,q12⟩:=MB.cells (HK.out w3 w3G.out.2).1
 clear q0 q1 q2 q3 q4 q5 q6 q7
 go_upto_region 4 with fail
 obtain ⟨w4,hw4,H4⟩:=al1 w3 #[.int .i64 m.tell.kind,.int .i64 m.tell.token,.int .i64 m.tell.session,.int .i64 m.tell.number,.slice a1 a2 a3] 43
 obtain ⟨tb,htb⟩:∃x,w3.heap.size=x:=⟨_,rfl⟩
 try rw [hw4]
 try rw [htb]
 rw [htb] at H4
 clear hw4 htb q8 q9 q10 q11 q12 HK
 have H4G:Hid (A.grownBy w4 none):=aa w3G.out.1 H4.out.2.1
 have HK:Hid (∀y,w4.grownBy y none->y.cell? ⟨tb,0,none⟩=some (.int .i64 m.tell.kind)/\y.cell? ⟨tb,1,none⟩=some (.int .i64 m.tell.token)/\y.cell? ⟨tb,2,none⟩=some (.int .i64 m.tell.session)/\y.cell? ⟨k,11,none⟩=some (.int .i64 s.ses)/\y.cell? ⟨k,12,none⟩=some (.int .i64 s.tok)):=fun y hy=>⟨(H4.out.1.grown hy (by simp)).cell 0,(H4.out.1.grown hy (by simp)).cell 1,(H4.out.1.grown hy (by simp)).cell 2,((HD.out.1.grown H4G.out).grown hy).blk.cell 11,((HD.out.1.grown H4G.out).grown hy).blk.cell 12⟩
 go_upto_region 4 with fail
 refine ag 1000 (fun y=>w4.grownBy y none) (by kernel_rfl) ?_
 have w5G:Hid (w4.grownBy w4.drew none):=af _ _
 generalize w4.drew=w5 at w5G ⊢
 have J:Idx [0,1,2,3]:=trivial
 iterate 4 (refine tK J (w5G.out) rfl rfl (fun wk hk=>by obtain ⟨k0,k1,k2,k3,k4⟩:=HK.out wk hk;go_simp;try rfl) ?_;replace J:=J.tl;try simp only [pN])
 have J:Idx [4,5,6,7,8]:=trivial
 iterate 5 (refine sk J (w5G.out) rfl rfl ?_;replace J:=J.tl;try simp only [pN])
 have J:Idx [9,10]:=trivial
 iterate 2 (refine tK J (w5G.out) rfl rfl (fun wk hk=>by obtain ⟨k0,k1,k2,k3,k4⟩:=HK.out wk hk;go_simp;try rfl) ?_;replace J:=J.tl;try simp only [pN])
 have J:Idx [11,12,13,14,15,16,17]:=trivial
 iterate 7 (refine sk J (w5G.out) rfl rfl ?_;replace J:=J.tl;try simp only [pN])
 have J:Idx [18]:=trivial
 iterate 1 (refine tK J (w5G.out) rfl rfl (fun wk hk=>by obtain ⟨k0,k1,k2,k3,k4⟩:=HK.out wk hk;go_simp;try rfl) ?_;replace J:=J.tl;try simp only [pN])
 refine wD ?_
 refine (‹∀(a:Act) (w:World),Code.wp Tryz.prog _ _ a w->_› _ _ ?_)
 go_upto_region 8 with fail
 refine ag 1000 (fun y=>w4.grownBy y none) (by kernel_rfl) ?_
 have w6G:Hid (w4.grownBy w5.drew none):=aa w5G.out (af _ _)
 generalize w5.drew=w6 at w6G ⊢
 have J:Idx [0,1,2,3,4,5,6,7,8,9,10,11,12,13]:=trivial
 iterate 14 (refine tK J (w6G.out) rfl rfl (fun wk hk=>by obtain ⟨k0,k1,k2,k3,k4⟩:=HK.out wk hk;go_simp;try rfl) ?_;replace J:=J.tl;try simp only [pN])
 refine wD ?_
 refine (‹∀(a:Act) (w:World),Code.wp Tryz.prog _ _ a w->_› _ _ ?_)
 go_wp2_with fail
 go_ret
 have hq:=HQ.out
 exact ⟨_,rfl,by rw [hq.1];exact a_ _ _,by rw [hq.2];exact ⟨_,HD.out.1.grown (aa H4G.out w6G.out)⟩,aD (aa H4G.out w6G.out)⟩
theorem tA (A:World)(o1:Option Addr)(o2 o3:Nat)(a1:Option Addr)(a2 a3:Nat)(m:PMsg)(h:Dm w A k c v s)(hok:Okc s)(ho:Ops A (.slice o1 o2 o3) m.ask.ops)(ha:Seg A (.slice a1 a2 a3) m.tell.answer)(hl:m.tell.answer.length<=140737488355328)(ht:s.tok<=3999999999999992)(hn:hears s m=true)(h1:m.tell.kind=1)(h0:s.ses≠0)(h2:m.tell.session=s.ses):Calls Tryz.prog 16 #[.pointer (some ⟨k,0,none⟩),msgV (.slice o1 o2 o3) (.slice a1 a2 a3) m] A (eF w A k c s m):=by
 have HD:Hid (Dm w A k c v s/\Ops A (.slice o1 o2 o3) m.ask.ops/\Seg A (.slice a1 a2 a3) m.tell.answer/\m.tell.answer.length<=140737488355328/\Okc s/\s.tok<=3999999999999992):=⟨h,ho,ha,hl,hok,ht⟩
 have hq0:=heard hn
 have e3:m.kind=2/\m.client=(s.num:Int)/\okM m=true:=by
  unfold hears at hn
  simp only [Bool.and_eq_true,decide_eq_true_eq] at hn
  exact ⟨hn.1.1,hn.1.2,hn.2⟩
 have hkt:=dF e3.2.2 e3.1
 have HQ:Hid (bV s m=[]/\ch s m=s):=by
  have:=fM hok hkt.2 (.inr ⟨h0,.inr (by omega)⟩)
  rw [hq0.1,hq0.2]
  exact this
 have f1:(m.tell.kind==1)=true:=by rw [h1];rfl
 have f2:(s.ses==0)=false:=by rw [beq_eq_false_iff_ne];exact h0
 have f3:(m.tell.session != s.ses)=false:=by simp;exact h2
 have g1:(m.tell.kind==4)=false:=by rw [beq_eq_false_iff_ne];omega
 have g2:(m.tell.kind != 3)=true:=by simp;omega
 have g3:(m.tell.kind != 5)=true:=by simp;omega
 clear h1 h0 h2
 have HE:Hid (okM m=true):=e3.2.2
 obtain ⟨w1,hw1,H1⟩:=al1 A #[.int .i64 m.kind,.int .i64 m.client,.int .i64 m.ask.kind,.int .i64 m.ask.token,.int .i64 m.ask.session,.int .i64 m.ask.number,.int .i64 m.ask.mark,.slice o1 o2 o3,.int .i64 m.tell.kind,.int .i64 m.tell.token,.int .i64 m.tell.session,.int .i64 m.tell.number,.slice a1 a2 a3] 45
 obtain ⟨mb,hmb⟩:∃x,A.heap.size=x:=⟨_,rfl⟩
 rw [hmb] at H1
 have HK:Hid (∀y,w1.grownBy y none->MB y mb (.slice o1 o2 o3) (.slice a1 a2 a3) m/\y.cell? ⟨k,0,none⟩=some (.int .i64 s.num)):=fun y hy=>⟨MB.grown H1.out.1 hy,((h.grown H1.out.2.1).grown hy).blk.cell 0⟩
 have n1:(m.kind != 2)=false:=by simp [e3.1]
 have n2:(m.client != (s.num:Int))=false:=by simp [e3.2.1]
 clear h ho ha hl hok ht hn e3 hkt hq0
 unfold msgV
 go_enter Tryz.func16,Tryz.ntmps16
 go_upto_region 1 with fail
 try rw [hw1]
 try rw [hmb]
 clear hw1 hmb
 refine ag 1000 (fun y=>w1.grownBy y none) (by kernel_rfl) ?_
 have w2G:Hid (A.grownBy w1.drew none/\w1.grownBy w1.drew none):=⟨aa H1.out.2.1 (af _ _),af _ _⟩
 generalize w1.drew=w2 at w2G ⊢
 have J:Idx [0,1,2,3,4,5,6,7,8,9,10,11,12,13,14,15,16,17]:=trivial
 iterate 18 (refine tK J (w2G.out.2) rfl rfl (fun wk hk=>by obtain ⟨hm,k0⟩:=HK.out wk hk;obtain ⟨p0,p1,p2,p3,p4,p5,p6,p7,p8,p9,p10,p11,p12⟩:=MB.cells hm;go_simp;try rfl) ?_;replace J:=J.tl;try simp only [pN])
 refine wO 18 rfl fun K hK=>?_
 go_wp2_with fail
 refine (gJ (.slice o1 o2 o3) (.slice a1 a2 a3) m w2 (HD.out.2.1.grown w2G.out.1) (HD.out.2.2.1.grown w2G.out.1) HD.out.2.2.2.1).mono ?_
 rintro e w3 ⟨rfl,hg⟩
 rw [HE.out]
 have w3G:Hid (A.grownBy w3 none/\w1.grownBy w3 none):=⟨aa w2G.out.1 hg,aa w2G.out.2 hg⟩
 clear hg
 go_wp2_with fail
 refine hK.out _ _ (fun _=>w3G.out.2) ?_
 clear hK K
 try simp only [pN]
 have J:Idx [19,20]:=trivial
 iterate 2 (refine tK J (w3G.out.2) rfl rfl (fun wk hk=>by obtain ⟨hm,k0⟩:=HK.out wk hk;obtain ⟨p0,p1,p2,p3,p4,p5,p6,p7,p8,p9,p10,p11,p12⟩:=MB.cells hm;go_simp;try rfl) ?_;replace J:=J.tl;try simp only [pN])
 refine wD ?_
 refine (‹∀(a:Act) (w:World),Code.wp Tryz.prog _ _ a w->_› _ _ ?_)
 clear n1 n2
 obtain ⟨q0,q1,q2,q3,q4,q5,q6,q7,q8,q9,q10,q11,q12⟩:=MB.cells (HK.out w3 w3G.out.2).1
 clear q0 q1 q2 q3 q4 q5 q6 q7
 go_upto_region 4 with fail
 obtain ⟨w4,hw4,H4⟩:=al1 w3 #[.int .i64 m.tell.kind,.int .i64 m.tell.token,.int .i64 m.tell.session,.int .i64 m.tell.number,.slice a1 a2 a3] 43
 obtain ⟨tb,htb⟩:∃x,w3.heap.size=x:=⟨_,rfl⟩
 try rw [hw4]
 try rw [htb]
 rw [htb] at H4
 clear hw4 htb q8 q9 q10 q11 q12 HK
 have H4G:Hid (A.grownBy w4 none):=aa w3G.out.1 H4.out.2.1
 have HK:Hid (∀y,w4.grownBy y none->y.cell? ⟨tb,0,none⟩=some (.int .i64 m.tell.kind)/\y.cell? ⟨tb,1,none⟩=some (.int .i64 m.tell.token)/\y.cell? ⟨tb,2,none⟩=some (.int .i64 m.tell.session)/\y.cell? ⟨k,11,none⟩=some (.int .i64 s.ses)/\y.cell? ⟨k,12,none⟩=some (.int .i64 s.tok)):=fun y hy=>⟨(H4.out.1.grown hy (by simp)).cell 0,(H4.out.1.grown hy (by simp)).cell 1,(H4.out.1.grown hy (by simp)).cell 2,((HD.out.1.grown H4G.out).grown hy).blk.cell 11,((HD.out.1.grown H4G.out).grown hy).blk.cell 12⟩
 go_upto_region 4 with fail
 refine ag 1000 (fun y=>w4.grownBy y none) (by kernel_rfl) ?_
 have w5G:Hid (w4.grownBy w4.drew none):=af _ _
 generalize w4.drew=w5 at w5G ⊢
 have J:Idx [0,1,2,3,4,5,6,7,8,9,10]:=trivial
 iterate 11 (refine tK J (w5G.out) rfl rfl (fun wk hk=>by obtain ⟨k0,k1,k2,k3,k4⟩:=HK.out wk hk;go_simp;try rfl) ?_;replace J:=J.tl;try simp only [pN])
 have J:Idx [11,12,13,14,15,16,17]:=trivial
 iterate 7 (refine sk J (w5G.out) rfl rfl ?_;replace J:=J.tl;try simp only [pN])
 have J:Idx [18]:=trivial
 iterate 1 (refine tK J (w5G.out) rfl rfl (fun wk hk=>by obtain ⟨k0,k1,k2,k3,k4⟩:=HK.out wk hk;go_simp;try rfl) ?_;replace J:=J.tl;try simp only [pN])
 refine wD ?_
 refine (‹∀(a:Act) (w:World),Code.wp Tryz.prog _ _ a w->_› _ _ ?_)
 go_upto_region 8 with fail
 refine ag 1000 (fun y=>w4.grownBy y none) (by kernel_rfl) ?_
 have w6G:Hid (w4.grownBy w5.drew none):=aa w5G.out (af _ _)
 generalize w5.drew=w6 at w6G ⊢
 have J:Idx [0,1,2,3,4,5,6,7,8,9,10,11,12,13]:=trivial
 iterate 14 (refine tK J (w6G.out) rfl rfl (fun wk hk=>by obtain ⟨k0,k1,k2,k3,k4⟩:=HK.out wk hk;go_simp;try rfl) ?_;replace J:=J.tl;try simp only [pN])
 refine wD ?_
 refine (‹∀(a:Act) (w:World),Code.wp Tryz.prog _ _ a w->_› _ _ ?_)
 obtain ⟨k0,k1,k2,k3,k4⟩:=HK.out w6 w6G.out
 go_wp2_with fail
 go_ret
 have hq:=HQ.out
 exact ⟨_,rfl,by rw [hq.1];exact a_ _ _,by rw [hq.2];exact ⟨_,HD.out.1.grown (aa H4G.out w6G.out)⟩,aD (aa H4G.out w6G.out)⟩
theorem tB (A:World)(o1:Option Addr)(o2 o3:Nat)(a1:Option Addr)(a2 a3:Nat)(m:PMsg)(h:Dm w A k c v s)(hok:Okc s)(ho:Ops A (.slice o1 o2 o3) m.ask.ops)(ha:Seg A (.slice a1 a2 a3) m.tell.answer)(hl:m.tell.answer.length<=140737488355328)(ht:s.tok<=3999999999999992)(hn:hears s m=true)(h1:m.tell.kind≠1/\m.tell.kind≠3/\m.tell.kind≠4/\m.tell.kind≠5)(h0:s.ses≠0)(h2:m.tell.session=s.ses):Calls Tryz.prog 16 #[.pointer (some ⟨k,0,none⟩),msgV (.slice o1 o2 o3) (.slice a1 a2 a3) m] A (eF w A k c s m):=by
 have HD:Hid (Dm w A k c v s/\Ops A (.slice o1 o2 o3) m.ask.ops/\Seg A (.slice a1 a2 a3) m.tell.answer/\m.tell.answer.length<=140737488355328/\Okc s/\s.tok<=3999999999999992):=⟨h,ho,ha,hl,hok,ht⟩
 have hq0:=heard hn
 have e3:m.kind=2/\m.client=(s.num:Int)/\okM m=true:=by
  unfold hears at hn
  simp only [Bool.and_eq_true,decide_eq_true_eq] at hn
  exact ⟨hn.1.1,hn.1.2,hn.2⟩
 have hkt:=dF e3.2.2 e3.1
 have HQ:Hid (bV s m=[]/\ch s m=s):=by
  have:=fM hok hkt.2 (.inr ⟨h0,.inr (by omega)⟩)
  rw [hq0.1,hq0.2]
  exact this
 have f1:(m.tell.kind==1)=false:=by rw [beq_eq_false_iff_ne];exact h1.1
 have f2:(s.ses==0)=false:=by rw [beq_eq_false_iff_ne];exact h0
 have f3:(m.tell.session != s.ses)=false:=by simp;exact h2
 have g1:(m.tell.kind==4)=false:=by rw [beq_eq_false_iff_ne];omega
 have g2:(m.tell.kind != 3)=true:=by simp;omega
 have g3:(m.tell.kind != 5)=true:=by simp;omega
 clear h1 h0 h2
 have HE:Hid (okM m=true):=e3.2.2
 obtain ⟨w1,hw1,H1⟩:=al1 A #[.int .i64 m.kind,.int .i64 m.client,.int .i64 m.ask.kind,.int .i64 m.ask.token,.int .i64 m.ask.session,.int .i64 m.ask.number,.int .i64 m.ask.mark,.slice o1 o2 o3,.int .i64 m.tell.kind,.int .i64 m.tell.token,.int .i64 m.tell.session,.int .i64 m.tell.number,.slice a1 a2 a3] 45
 obtain ⟨mb,hmb⟩:∃x,A.heap.size=x:=⟨_,rfl⟩
 rw [hmb] at H1
 have HK:Hid (∀y,w1.grownBy y none->MB y mb (.slice o1 o2 o3) (.slice a1 a2 a3) m/\y.cell? ⟨k,0,none⟩=some (.int .i64 s.num)):=fun y hy=>⟨MB.grown H1.out.1 hy,((h.grown H1.out.2.1).grown hy).blk.cell 0⟩
 have n1:(m.kind != 2)=false:=by simp [e3.1]
 have n2:(m.client != (s.num:Int))=false:=by simp [e3.2.1]
 clear h ho ha hl hok ht hn e3 hkt hq0
 unfold msgV
 go_enter Tryz.func16,Tryz.ntmps16
 go_upto_region 1 with fail
 try rw [hw1]
 try rw [hmb]
 clear hw1 hmb
 refine ag 1000 (fun y=>w1.grownBy y none) (by kernel_rfl) ?_
 have w2G:Hid (A.grownBy w1.drew none/\w1.grownBy w1.drew none):=⟨aa H1.out.2.1 (af _ _),af _ _⟩
 generalize w1.drew=w2 at w2G ⊢
 have J:Idx [0,1,2,3,4,5,6,7,8,9,10,11,12,13,14,15,16,17]:=trivial
 iterate 18 (refine tK J (w2G.out.2) rfl rfl (fun wk hk=>by obtain ⟨hm,k0⟩:=HK.out wk hk;obtain ⟨p0,p1,p2,p3,p4,p5,p6,p7,p8,p9,p10,p11,p12⟩:=MB.cells hm;go_simp;try rfl) ?_;replace J:=J.tl;try simp only [pN])
 refine wO 18 rfl fun K hK=>?_
 go_wp2_with fail
 refine (gJ (.slice o1 o2 o3) (.slice a1 a2 a3) m w2 (HD.out.2.1.grown w2G.out.1) (HD.out.2.2.1.grown w2G.out.1) HD.out.2.2.2.1).mono ?_
 rintro e w3 ⟨rfl,hg⟩
 rw [HE.out]
 have w3G:Hid (A.grownBy w3 none/\w1.grownBy w3 none):=⟨aa w2G.out.1 hg,aa w2G.out.2 hg⟩
 clear hg
 go_wp2_with fail
 refine hK.out _ _ (fun _=>w3G.out.2) ?_
 clear hK K
 try simp only [pN]
 have J:Idx [19,20]:=trivial
 iterate 2 (refine tK J (w3G.out.2) rfl rfl (fun wk hk=>by obtain ⟨hm,k0⟩:=HK.out wk hk;obtain ⟨p0,p1,p2,p3,p4,p5,p6,p7,p8,p9,p10,p11,p12⟩:=MB.cells hm;go_simp;try rfl) ?_;replace J:=J.tl;try simp only [pN])
 refine wD ?_
 refine (‹∀(a:Act) (w:World),Code.wp Tryz.prog _ _ a w->_› _ _ ?_)
 clear n1 n2
 obtain ⟨q0,q1,q2,q3,q4,q5,q6,q7,q8,q9,q10,q11,q12⟩:=MB.cells (HK.out w3 w3G.out.2).1
 clear q0 q1 q2 q3 q4 q5 q6 q7
 go_upto_region 4 with fail
 obtain ⟨w4,hw4,H4⟩:=al1 w3 #[.int .i64 m.tell.kind,.int .i64 m.tell.token,.int .i64 m.tell.session,.int .i64 m.tell.number,.slice a1 a2 a3] 43
 obtain ⟨tb,htb⟩:∃x,w3.heap.size=x:=⟨_,rfl⟩
 try rw [hw4]
 try rw [htb]
 rw [htb] at H4
 clear hw4 htb q8 q9 q10 q11 q12 HK
 have H4G:Hid (A.grownBy w4 none):=aa w3G.out.1 H4.out.2.1
 have HK:Hid (∀y,w4.grownBy y none->y.cell? ⟨tb,0,none⟩=some (.int .i64 m.tell.kind)/\y.cell? ⟨tb,1,none⟩=some (.int .i64 m.tell.token)/\y.cell? ⟨tb,2,none⟩=some (.int .i64 m.tell.session)/\y.cell? ⟨k,11,none⟩=some (.int .i64 s.ses)/\y.cell? ⟨k,12,none⟩=some (.int .i64 s.tok)):=fun y hy=>⟨(H4.out.1.grown hy (by simp)).cell 0,(H4.out.1.grown hy (by simp)).cell 1,(H4.out.1.grown hy (by simp)).cell 2,((HD.out.1.grown H4G.out).grown hy).blk.cell 11,((HD.out.1.grown H4G.out).grown hy).blk.cell 12⟩
 go_upto_region 4 with fail
 refine ag 1000 (fun y=>w4.grownBy y none) (by kernel_rfl) ?_
 have w5G:Hid (w4.grownBy w4.drew none):=af _ _
 generalize w4.drew=w5 at w5G ⊢
 have J:Idx [0,1,2,3]:=trivial
 iterate 4 (refine tK J (w5G.out) rfl rfl (fun wk hk=>by obtain ⟨k0,k1,k2,k3,k4⟩:=HK.out wk hk;go_simp;try rfl) ?_;replace J:=J.tl;try simp only [pN])
 have J:Idx [4,5,6,7,8]:=trivial
 iterate 5 (refine sk J (w5G.out) rfl rfl ?_;replace J:=J.tl;try simp only [pN])
 have J:Idx [9,10]:=trivial
 iterate 2 (refine tK J (w5G.out) rfl rfl (fun wk hk=>by obtain ⟨k0,k1,k2,k3,k4⟩:=HK.out wk hk;go_simp;try rfl) ?_;replace J:=J.tl;try simp only [pN])
 have J:Idx [11,12,13,14,15,16,17]:=trivial
 iterate 7 (refine sk J (w5G.out) rfl rfl ?_;replace J:=J.tl;try simp only [pN])
 have J:Idx [18]:=trivial
 iterate 1 (refine tK J (w5G.out) rfl rfl (fun wk hk=>by obtain ⟨k0,k1,k2,k3,k4⟩:=HK.out wk hk;go_simp;try rfl) ?_;replace J:=J.tl;try simp only [pN])
 refine wD ?_
 refine (‹∀(a:Act) (w:World),Code.wp Tryz.prog _ _ a w->_› _ _ ?_)
 go_upto_region 8 with fail
 refine ag 1000 (fun y=>w4.grownBy y none) (by kernel_rfl) ?_
 have w6G:Hid (w4.grownBy w5.drew none):=aa w5G.out (af _ _)
 generalize w5.drew=w6 at w6G ⊢
 have J:Idx [0,1,2,3,4,5,6,7,8,9,10,11,12,13]:=trivial
 iterate 14 (refine tK J (w6G.out) rfl rfl (fun wk hk=>by obtain ⟨k0,k1,k2,k3,k4⟩:=HK.out wk hk;go_simp;try rfl) ?_;replace J:=J.tl;try simp only [pN])
 refine wD ?_
 refine (‹∀(a:Act) (w:World),Code.wp Tryz.prog _ _ a w->_› _ _ ?_)
 obtain ⟨k0,k1,k2,k3,k4⟩:=HK.out w6 w6G.out
 go_wp2_with fail
 go_ret
 have hq:=HQ.out
 exact ⟨_,rfl,by rw [hq.1];exact a_ _ _,by rw [hq.2];exact ⟨_,HD.out.1.grown (aa H4G.out w6G.out)⟩,aD (aa H4G.out w6G.out)⟩
theorem tC (A:World)(o1:Option Addr)(o2 o3:Nat)(a1:Option Addr)(a2 a3:Nat)(m:PMsg)(h:Dm w A k c v s)(hok:Okc s)(ho:Ops A (.slice o1 o2 o3) m.ask.ops)(ha:Seg A (.slice a1 a2 a3) m.tell.answer)(hl:m.tell.answer.length<=140737488355328)(ht:s.tok<=3999999999999992)(hn:hears s m=true)(h1:m.tell.kind=4)(h0:s.ses≠0)(h2:m.tell.session=s.ses):Calls Tryz.prog 16 #[.pointer (some ⟨k,0,none⟩),msgV (.slice o1 o2 o3) (.slice a1 a2 a3) m] A (eF w A k c s m):=by
 have HD:Hid (Dm w A k c v s/\Ops A (.slice o1 o2 o3) m.ask.ops/\Seg A (.slice a1 a2 a3) m.tell.answer/\m.tell.answer.length<=140737488355328/\Okc s/\s.tok<=3999999999999992):=⟨h,ho,ha,hl,hok,ht⟩
 have hq0:=heard hn
 have e3:m.kind=2/\m.client=(s.num:Int)/\okM m=true:=by
  unfold hears at hn
  simp only [Bool.and_eq_true,decide_eq_true_eq] at hn
  exact ⟨hn.1.1,hn.1.2,hn.2⟩
 have hkt:=dF e3.2.2 e3.1
 have HQ:Hid (bV s m=s.rets (fun _=>true) 2 []/\ch s m=s.lost):=by
  rw [hq0.1,hq0.2]
  unfold dS dT iV iW
  rw [if_neg (by omega),if_pos h1,if_pos h2,if_neg (by omega),if_neg (by omega),if_pos h1,if_pos h2]
  exact ⟨rfl,rfl⟩
 have f1:(m.tell.kind==1)=false:=by rw [h1];rfl
 have f2:(s.ses==0)=false:=by rw [beq_eq_false_iff_ne];exact h0
 have f3:(m.tell.session != s.ses)=false:=by simp;exact h2
 have g1:(m.tell.kind==4)=true:=by rw [h1];rfl
 clear h1 h0 h2
 have HE:Hid (okM m=true):=e3.2.2
 obtain ⟨w1,hw1,H1⟩:=al1 A #[.int .i64 m.kind,.int .i64 m.client,.int .i64 m.ask.kind,.int .i64 m.ask.token,.int .i64 m.ask.session,.int .i64 m.ask.number,.int .i64 m.ask.mark,.slice o1 o2 o3,.int .i64 m.tell.kind,.int .i64 m.tell.token,.int .i64 m.tell.session,.int .i64 m.tell.number,.slice a1 a2 a3] 45
 obtain ⟨mb,hmb⟩:∃x,A.heap.size=x:=⟨_,rfl⟩
 rw [hmb] at H1
 have HK:Hid (∀y,w1.grownBy y none->MB y mb (.slice o1 o2 o3) (.slice a1 a2 a3) m/\y.cell? ⟨k,0,none⟩=some (.int .i64 s.num)):=fun y hy=>⟨MB.grown H1.out.1 hy,((h.grown H1.out.2.1).grown hy).blk.cell 0⟩
 have n1:(m.kind != 2)=false:=by simp [e3.1]
 have n2:(m.client != (s.num:Int))=false:=by simp [e3.2.1]
 clear h ho ha hl hok ht hn e3 hkt hq0
 unfold msgV
 go_enter Tryz.func16,Tryz.ntmps16
 go_upto_region 1 with fail
 try rw [hw1]
 try rw [hmb]
 clear hw1 hmb
 refine ag 1000 (fun y=>w1.grownBy y none) (by kernel_rfl) ?_
 have w2G:Hid (A.grownBy w1.drew none/\w1.grownBy w1.drew none):=⟨aa H1.out.2.1 (af _ _),af _ _⟩
 generalize w1.drew=w2 at w2G ⊢
 have J:Idx [0,1,2,3,4,5,6,7,8,9,10,11,12,13,14,15,16,17]:=trivial
 iterate 18 (refine tK J (w2G.out.2) rfl rfl (fun wk hk=>by obtain ⟨hm,k0⟩:=HK.out wk hk;obtain ⟨p0,p1,p2,p3,p4,p5,p6,p7,p8,p9,p10,p11,p12⟩:=MB.cells hm;go_simp;try rfl) ?_;replace J:=J.tl;try simp only [pN])
 refine wO 18 rfl fun K hK=>?_
 go_wp2_with fail
 refine (gJ (.slice o1 o2 o3) (.slice a1 a2 a3) m w2 (HD.out.2.1.grown w2G.out.1) (HD.out.2.2.1.grown w2G.out.1) HD.out.2.2.2.1).mono ?_
 rintro e w3 ⟨rfl,hg⟩
 rw [HE.out]
 have w3G:Hid (A.grownBy w3 none/\w1.grownBy w3 none):=⟨aa w2G.out.1 hg,aa w2G.out.2 hg⟩
 clear hg
 go_wp2_with fail
 refine hK.out _ _ (fun _=>w3G.out.2) ?_
 clear hK K
 try simp only [pN]
 have J:Idx [19,20]:=trivial
 iterate 2 (refine tK J (w3G.out.2) rfl rfl (fun wk hk=>by obtain ⟨hm,k0⟩:=HK.out wk hk;obtain ⟨p0,p1,p2,p3,p4,p5,p6,p7,p8,p9,p10,p11,p12⟩:=MB.cells hm;go_simp;try rfl) ?_;replace J:=J.tl;try simp only [pN])
 refine wD ?_
 refine (‹∀(a:Act) (w:World),Code.wp Tryz.prog _ _ a w->_› _ _ ?_)
 clear n1 n2
 obtain ⟨q0,q1,q2,q3,q4,q5,q6,q7,q8,q9,q10,q11,q12⟩:=MB.cells (HK.out w3 w3G.out.2).1
 clear q0 q1 q2 q3 q4 q5 q6 q7
 go_upto_region 4 with fail
 obtain ⟨w4,hw4,H4⟩:=al1 w3 #[.int .i64 m.tell.kind,.int .i64 m.tell.token,.int .i64 m.tell.session,.int .i64 m.tell.number,.slice a1 a2 a3] 43
 obtain ⟨tb,htb⟩:∃x,w3.heap.size=x:=⟨_,rfl⟩
 try rw [hw4]
 try rw [htb]
 rw [htb] at H4
 clear hw4 htb q8 q9 q10 q11 q12 HK
 have H4G:Hid (A.grownBy w4 none):=aa w3G.out.1 H4.out.2.1
 have HK:Hid (∀y,w4.grownBy y none->y.cell? ⟨tb,0,none⟩=some (.int .i64 m.tell.kind)/\y.cell? ⟨tb,1,none⟩=some (.int .i64 m.tell.token)/\y.cell? ⟨tb,2,none⟩=some (.int .i64 m.tell.session)/\y.cell? ⟨k,11,none⟩=some (.int .i64 s.ses)/\y.cell? ⟨k,12,none⟩=some (.int .i64 s.tok)):=fun y hy=>⟨(H4.out.1.grown hy (by simp)).cell 0,(H4.out.1.grown hy (by simp)).cell 1,(H4.out.1.grown hy (by simp)).cell 2,((HD.out.1.grown H4G.out).grown hy).blk.cell 11,((HD.out.1.grown H4G.out).grown hy).blk.cell 12⟩
 go_upto_region 4 with fail
 refine ag 1000 (fun y=>w4.grownBy y none) (by kernel_rfl) ?_
 have w5G:Hid (w4.grownBy w4.drew none):=af _ _
 generalize w4.drew=w5 at w5G ⊢
 have J:Idx [0,1,2,3]:=trivial
 iterate 4 (refine tK J (w5G.out) rfl rfl (fun wk hk=>by obtain ⟨k0,k1,k2,k3,k4⟩:=HK.out wk hk;go_simp;try rfl) ?_;replace J:=J.tl;try simp only [pN])
 have J:Idx [4,5,6,7,8]:=trivial
 iterate 5 (refine sk J (w5G.out) rfl rfl ?_;replace J:=J.tl;try simp only [pN])
 have J:Idx [9,10]:=trivial
 iterate 2 (refine tK J (w5G.out) rfl rfl (fun wk hk=>by obtain ⟨k0,k1,k2,k3,k4⟩:=HK.out wk hk;go_simp;try rfl) ?_;replace J:=J.tl;try simp only [pN])
 have J:Idx [11,12,13,14,15,16,17]:=trivial
 iterate 7 (refine sk J (w5G.out) rfl rfl ?_;replace J:=J.tl;try simp only [pN])
 have J:Idx [18]:=trivial
 iterate 1 (refine tK J (w5G.out) rfl rfl (fun wk hk=>by obtain ⟨k0,k1,k2,k3,k4⟩:=HK.out wk hk;go_simp;try rfl) ?_;replace J:=J.tl;try simp only [pN])
 refine wD ?_
 refine (‹∀(a:Act) (w:World),Code.wp Tryz.prog _ _ a w->_› _ _ ?_)
 go_upto_region 8 with fail
 refine ag 1000 (fun y=>w4.grownBy y none) (by kernel_rfl) ?_
 have w6G:Hid (w4.grownBy w5.drew none):=aa w5G.out (af _ _)
 generalize w5.drew=w6 at w6G ⊢
 have J:Idx [0,1,2,3,4,5,6,7,8,9,10,11,12,13]:=trivial
 iterate 14 (refine tK J (w6G.out) rfl rfl (fun wk hk=>by obtain ⟨k0,k1,k2,k3,k4⟩:=HK.out wk hk;go_simp;try rfl) ?_;replace J:=J.tl;try simp only [pN])
 refine wD ?_
 refine (‹∀(a:Act) (w:World),Code.wp Tryz.prog _ _ a w->_› _ _ ?_)
 obtain ⟨k0,k1,k2,k3,k4⟩:=HK.out w6 w6G.out
 go_wp2_with fail
 have hg6:=aa H4G.out w6G.out
 refine (nl w6 (HD.out.1.grown hg6) HD.out.2.2.2.2.1 HD.out.2.2.2.2.2).mono ?_
 rintro e w7 ⟨u,rfl,hu,hd,hkd⟩
 obtain ⟨u1,u2,u3,rfl⟩:=hu.slice
 have HF:Hid (Rets w7 A.heap.size (.slice u1 u2 u3) (bV s m)/\Doc w w7 k c (ch s m)/\cH A w7):=by
  rw [HQ.out.1,HQ.out.2]
  exact ⟨hu.mono hg6.size,hd,aL (aD hg6) hkd⟩
 clear hu hd hkd hg6
 go_wp2_with fail
 go_ret
 exact ⟨_,rfl,HF.out⟩
theorem tD (A:World)(o1:Option Addr)(o2 o3:Nat)(a1:Option Addr)(a2 a3:Nat)(m:PMsg)(h:Dm w A k c v s)(hok:Okc s)(ho:Ops A (.slice o1 o2 o3) m.ask.ops)(ha:Seg A (.slice a1 a2 a3) m.tell.answer)(hl:m.tell.answer.length<=140737488355328)(ht:s.tok<=3999999999999992)(hn:hears s m=true)(h1:m.tell.kind=1)(h0:s.ses=0)(h2:m.tell.token=s.tok):Calls Tryz.prog 16 #[.pointer (some ⟨k,0,none⟩),msgV (.slice o1 o2 o3) (.slice a1 a2 a3) m] A (eF w A k c s m):=by
 have HD:Hid (Dm w A k c v s/\Ops A (.slice o1 o2 o3) m.ask.ops/\Seg A (.slice a1 a2 a3) m.tell.answer/\m.tell.answer.length<=140737488355328/\Okc s/\s.tok<=3999999999999992):=⟨h,ho,ha,hl,hok,ht⟩
 have hq0:=heard hn
 have e3:m.kind=2/\m.client=(s.num:Int)/\okM m=true:=by
  unfold hears at hn
  simp only [Bool.and_eq_true,decide_eq_true_eq] at hn
  exact ⟨hn.1.1,hn.1.2,hn.2⟩
 have hkt:=dF e3.2.2 e3.1
 have HQ:Hid (bV s m=[]/\ch s m=s.opened m.tell.session/\s.L=[]):=by
  rw [hq0.1,hq0.2]
  unfold dS dT dV
  rw [if_neg (by omega),if_neg (by omega),if_neg (by omega),if_pos h1,if_pos ⟨h0,h2⟩]
  exact ⟨rfl,rfl,hok.none h0⟩
 have f1:(m.tell.kind==1)=true:=by rw [h1];rfl
 have f2:(s.ses==0)=true:=by rw [h0];rfl
 have f3:(m.tell.token==s.tok)=true:=by rw [h2];simp
 clear h1 h0 h2
 have HE:Hid (okM m=true):=e3.2.2
 obtain ⟨w1,hw1,H1⟩:=al1 A #[.int .i64 m.kind,.int .i64 m.client,.int .i64 m.ask.kind,.int .i64 m.ask.token,.int .i64 m.ask.session,.int .i64 m.ask.number,.int .i64 m.ask.mark,.slice o1 o2 o3,.int .i64 m.tell.kind,.int .i64 m.tell.token,.int .i64 m.tell.session,.int .i64 m.tell.number,.slice a1 a2 a3] 45
 obtain ⟨mb,hmb⟩:∃x,A.heap.size=x:=⟨_,rfl⟩
 rw [hmb] at H1
 have HK:Hid (∀y,w1.grownBy y none->MB y mb (.slice o1 o2 o3) (.slice a1 a2 a3) m/\y.cell? ⟨k,0,none⟩=some (.int .i64 s.num)):=fun y hy=>⟨MB.grown H1.out.1 hy,((h.grown H1.out.2.1).grown hy).blk.cell 0⟩
 have n1:(m.kind != 2)=false:=by simp [e3.1]
 have n2:(m.client != (s.num:Int))=false:=by simp [e3.2.1]
 clear h ho ha hl hok ht hn e3 hkt hq0
 unfold msgV
 go_enter Tryz.func16,Tryz.ntmps16
 go_upto_region 1 with fail
 try rw [hw1]
 try rw [hmb]
 clear hw1 hmb
 refine ag 1000 (fun y=>w1.grownBy y none) (by kernel_rfl) ?_
 have w2G:Hid (A.grownBy w1.drew none/\w1.grownBy w1.drew none):=⟨aa H1.out.2.1 (af _ _),af _ _⟩
 generalize w1.drew=w2 at w2G ⊢
 have J:Idx [0,1,2,3,4,5,6,7,8,9,10,11,12,13,14,15,16,17]:=trivial
 iterate 18 (refine tK J (w2G.out.2) rfl rfl (fun wk hk=>by obtain ⟨hm,k0⟩:=HK.out wk hk;obtain ⟨p0,p1,p2,p3,p4,p5,p6,p7,p8,p9,p10,p11,p12⟩:=MB.cells hm;go_simp;try rfl) ?_;replace J:=J.tl;try simp only [pN])
 refine wO 18 rfl fun K hK=>?_
 go_wp2_with fail
 refine (gJ (.slice o1 o2 o3) (.slice a1 a2 a3) m w2 (HD.out.2.1.grown w2G.out.1) (HD.out.2.2.1.grown w2G.out.1) HD.out.2.2.2.1).mono ?_
 rintro e w3 ⟨rfl,hg⟩
 rw [HE.out]
 have w3G:Hid (A.grownBy w3 none/\w1.grownBy w3 none):=⟨aa w2G.out.1 hg,aa w2G.out.2 hg⟩
 clear hg
 go_wp2_with fail
 refine hK.out _ _ (fun _=>w3G.out.2) ?_
 clear hK K
 try simp only [pN]
 have J:Idx [19,20]:=trivial
 iterate 2 (refine tK J (w3G.out.2) rfl rfl (fun wk hk=>by obtain ⟨hm,k0⟩:=HK.out wk hk;obtain ⟨p0,p1,p2,p3,p4,p5,p6,p7,p8,p9,p10,p11,p12⟩:=MB.cells hm;go_simp;try rfl) ?_;replace J:=J.tl;try simp only [pN])
 refine wD ?_
 refine (‹∀(a:Act) (w:World),Code.wp Tryz.prog _ _ a w->_› _ _ ?_)
 clear n1 n2
 obtain ⟨q0,q1,q2,q3,q4,q5,q6,q7,q8,q9,q10,q11,q12⟩:=MB.cells (HK.out w3 w3G.out.2).1
 clear q0 q1 q2 q3 q4 q5 q6 q7
 go_upto_region 4 with fail
 obtain ⟨w4,hw4,H4⟩:=al1 w3 #[.int .i64 m.tell.kind,.int .i64 m.tell.token,.int .i64 m.tell.session,.int .i64 m.tell.number,.slice a1 a2 a3] 43
 obtain ⟨tb,htb⟩:∃x,w3.heap.size=x:=⟨_,rfl⟩
 try rw [hw4]
 try rw [htb]
 rw [htb] at H4
 clear hw4 htb q8 q9 q10 q11 q12 HK
 have H4G:Hid (A.grownBy w4 none):=aa w3G.out.1 H4.out.2.1
 have HK:Hid (∀y,w4.grownBy y none->y.cell? ⟨tb,0,none⟩=some (.int .i64 m.tell.kind)/\y.cell? ⟨tb,1,none⟩=some (.int .i64 m.tell.token)/\y.cell? ⟨tb,2,none⟩=some (.int .i64 m.tell.session)/\y.cell? ⟨k,11,none⟩=some (.int .i64 s.ses)/\y.cell? ⟨k,12,none⟩=some (.int .i64 s.tok)):=fun y hy=>⟨(H4.out.1.grown hy (by simp)).cell 0,(H4.out.1.grown hy (by simp)).cell 1,(H4.out.1.grown hy (by simp)).cell 2,((HD.out.1.grown H4G.out).grown hy).blk.cell 11,((HD.out.1.grown H4G.out).grown hy).blk.cell 12⟩
 go_upto_region 4 with fail
 refine ag 1000 (fun y=>w4.grownBy y none) (by kernel_rfl) ?_
 have w5G:Hid (w4.grownBy w4.drew none):=af _ _
 generalize w4.drew=w5 at w5G ⊢
 have J:Idx [0,1,2,3,4,5,6,7,8,9,10,11,12,13,14,15,16,17,18]:=trivial
 iterate 19 (refine tK J (w5G.out) rfl rfl (fun wk hk=>by obtain ⟨k0,k1,k2,k3,k4⟩:=HK.out wk hk;go_simp;try rfl) ?_;replace J:=J.tl;try simp only [pN])
 refine wD ?_
 refine (‹∀(a:Act) (w:World),Code.wp Tryz.prog _ _ a w->_› _ _ ?_)
 obtain ⟨k0,k1,k2,k3,k4⟩:=HK.out w5 w5G.out
 have hg5:=aa H4G.out w5G.out
 have hb:=(HD.out.1.grown hg5).blk
 have k5:w5.cell? ⟨k,16,none⟩=some (.int .i64 (s.L.length:Nat)):=hb.cell 16
 have f11:=hb.free 11
 have f16:=hb.free 16
 have HB:Hid (Blk ((w5.setCell ⟨k,11,none⟩ (.int .i64 m.tell.session)).setCell ⟨k,16,none⟩ (.int .i64 0)) k 51 (docC (s.opened m.tell.session) c v)/\w5.grownBy ((w5.setCell ⟨k,11,none⟩ (.int .i64 m.tell.session)).setCell ⟨k,16,none⟩ (.int .i64 0)) (some k)) :=
  ⟨(hb.store 11 _).store 16 _,aa (ae _ _ _ _) (ae _ _ _ _)⟩
 clear hb hg5
 go_upto_region 7 with fail
 generalize (w5.setCell ⟨k,11,none⟩ (.int .i64 m.tell.session)).setCell ⟨k,16,none⟩ (.int .i64 0)=w6 at HB ⊢
 clear k0 k1 k2 k3 k4 k5 f11 f16
 go_wp2_with fail
 go_ret
 have hq:=HQ.out
 have hg5:=aa H4G.out w5G.out
 have hd5:=HD.out.1.grown hg5
 refine ⟨_,rfl,by rw [hq.1];exact a_ _ _,?_,aL (aD hg5) (bI hd5.blk (.inl rfl) HB.out.2)⟩
 rw [hq.2.1]
 refine ⟨v,HB.out.1,?_,hd5.lo,ai hd5.gr HB.out.2 (by intro x hx;have:=hd5.lo;simp at hx;omega)⟩
 have hr:=LRow.set hd5.row aR hd5.blk (by decide) (by decide) HB.out.2
 have e:(s.opened m.tell.session).dcs=s.dcs:=by simp [CS.dcs,CS.opened,hq.2.2]
 rw [e]
 exact hr
theorem o8 {e:Nat}{z:Value}{n by':Nat}(h:(Tryz.prog.info? e).map (fun i=>(i.zero,i.size,i.bytes))=some (some z,n,by')):∃i,Tryz.prog.info? e=some i/\i.zero=some z/\i.size=n/\i.bytes=by':=by
 cases hi:Tryz.prog.info? e with
 | none=>rw [hi] at h;cases h
 | some i =>
  rw [hi] at h
  simp at h
  exact ⟨i,rfl,h.1,h.2.1,h.2.2⟩
structure Part (w:World)(g off:Nat)(l:List Dr)(vs:List (List Value)):Prop where
 len:vs.length=l.length
 five:∀x ∈ vs,x.length=5
 row:∀j (h:j<vs.length) (h':j<l.length),drR w vs[j] l[j]
 cells:∀j u,vs.flatten[j]? = some u->w.cell? ⟨g,off+j,none⟩=some u
theorem zn {w:World}{x:List Value}{r:Dr}(h:drR w x r):∀y ∈ x,y.oneCell'=true:=by
 obtain ⟨ov,rfl,ho⟩:=h
 obtain ⟨y1,y2,y3,rfl,_⟩:=ho.slice
 simp [Value.oneCell']
theorem Part.one {w:World}{g off:Nat}{l:List Dr}{vs:List (List Value)}(h:Part w g off l vs):∀y ∈ vs.flatten,y.oneCell'=true:=by
 intro y hy
 obtain ⟨x,hx,hyx⟩:=List.mem_flatten.1 hy
 obtain ⟨j,hj,rfl⟩:=List.mem_iff_getElem.1 hx
 exact zn (h.row j hj (by rw [<-h.len];exact hj)) y hyx
theorem Part.flat {w:World}{g off:Nat}{l:List Dr}{vs:List (List Value)}(h:Part w g off l vs):vs.flatten.length=l.length*5:=by
 have key:∀vs:List (List Value),(∀x ∈ vs,x.length=5)->vs.flatten.length=vs.length*5:=by
  intro vs
  induction vs with
  | nil=>intro _;rfl
  | cons x r ih =>
   intro hx
   rw [List.flatten_cons,List.length_append,hx x (by simp),ih fun y hy=>hx y (by simp [hy]),List.length_cons]
   omega
 rw [key vs h.five,h.len]
theorem ly {w w':World}{B:Nat}{v v':Value}{l l':List Dr}{vs vs':List (List Value)}{g off:Nat}(h1:w.ownsRow B 93 5 v l.length vs.flatten)(h2:vs.length=l.length)(h3:∀x ∈ vs,x.length=5)(h4:∀j (h:j<vs.length) (h':j<l.length),drR w vs[j] l[j])(hp:Part w g off l' vs')(hg:w.grownBy w' v.ownBlock)(hr:w'.ownsRow B 93 5 v' (l.length+l'.length) (vs.flatten ++ vs'.flatten)):DRow w' B v' (l ++ l'):=by
 have keep:∀{y b},drR w y b->drR w' y b:=by
  intro y b hy
  cases hv:v.ownBlock with
  | none=>rw [hv] at hg;exact aR.1 _ _ _ _ hy hg
  | some k =>
   rw [hv] at hg
   obtain ⟨cur,hb⟩:=bp h1 hv
   exact aR.2 _ _ _ _ _ _ _ hy hb (by decide) hg
 refine ⟨vs ++ vs',by rw [List.flatten_append,List.length_append];exact hr,by rw [List.length_append,List.length_append,h2,hp.len],fun x hx=>?_,fun j hj hj'=>?_⟩
 ·rcases List.mem_append.1 hx with hx | hx
  ·exact h3 x hx
  ·exact hp.five x hx
 ·by_cases hlt:j<vs.length
  ·rw [List.getElem_append_left hlt,List.getElem_append_left (by omega)]
   exact keep (h4 j hlt (by omega))
  ·rw [List.getElem_append_right (by omega),List.getElem_append_right (by omega)]
   simp only [h2]
   have hl:=hp.len
   rw [List.length_append] at hj hj'
   exact keep (hp.row (j-l.length) (by omega) (by omega))
theorem fm {o:Oper}{a:Act}{K:Act->World->Prop}{Q:Exit->Act->World->Prop}(w:World)(s x:Operand)
  (ho:o.op=.call { callee:=.builtin .append,args:=#[s,x],argTypes:=#[49,49] })
  (B:Nat) (v:Value) (l:List Dr) (g0 off cap:Nat) (l':List Dr) (vs':List (List Value)) (hs:a.eval s=v) (hx:a.eval x=.slice (some ⟨g0,off,none⟩) l'.length cap) (hown:DRow w B v l) (hp:Part w g0 off l' vs') (hb:l.length+l'.length<=2000000000000) (hB:B<=w.heap.size)
  (h:∀v' w',DRow w' B v' (l ++ l')->w.grownBy w' v.ownBlock->(∀k,v'.ownBlock=some k->v.ownBlock=some k\/w.heap.size<=k)->K (a.put o.dst v') w'):o.wp Tryz.prog a w K Q:=by
 obtain ⟨i0,hi,hz0,hz1,hz2⟩:=o8 qz
 obtain ⟨vs,e1,e2,e3,e4⟩:=hown
 by_cases hm:0<l'.length
 ·refine wp_append_lies w s x 49 ho B 93 i0 _ 5 56 Tryz.underlying49 hi hz0 hz1 hz2 rfl (by decide) v l.length vs.flatten hs e1 ⟨g0,off,none⟩ l'.length cap vs'.flatten hx hp.flat (fun j u hj=>?_) hp.one hm (by unfold maxLen;omega) (by omega) hB w.heap.size rfl ?_
  ·rw [dD]
   exact hp.cells j u hj
  ·intro g' cap' w' r2 r3 r4 _
   refine h _ w' (ly e1 e2 e3 e4 hp r3 r2) r3 fun k hk=>?_
   simp [Value.ownBlock] at hk
   subst hk
   rcases r4 with r4 | r4
   ·exact .inl r4
   ·exact .inr (by omega)
 ·have hl0:l'=[]:=List.eq_nil_of_length_eq_zero (by omega)
  subst hl0
  rcases e1.2 with ⟨rfl,hn⟩ | ⟨g,c,C,rfl,hBg,hbk,hlc,hcm,_⟩
  ·have hl:l=[]:=List.eq_nil_of_length_eq_zero hn
   subst hl
   have hv0:vs=[]:=List.eq_nil_of_length_eq_zero (by simpa using e2)
   subst hv0
   refine wp_append_own w s x 49 ho w.heap.size 93 i0 _ 5 56 Tryz.underlying49 hi hz0 hz1 hz2 rfl (by decide) _ 0 [] hs (World.ownsRow_nil _ _ _ _) ⟨g0,off,none⟩ 0 cap [] hx rfl (by simp) (by simp) (by unfold maxLen;omega) (by omega) (Nat.le_refl _) ?_
   intro v' w' h1 h2 _
   refine h v' w' ⟨[],?_,rfl,by simp,fun j hj=>absurd hj (by simp)⟩ h2 fun k hk=>.inr (World.ownsRow.lt h1 k hk).1
   refine ⟨rfl,?_⟩
   rcases h1.2 with q | ⟨q1,q2,q3,q4,q5,q6⟩
   ·exact .inl q
   ·exact .inr ⟨q1,q2,q3,q4,Nat.le_trans hB q5,q6⟩
  ·refine wp_append_own_spare w s x 49 ho B 93 i0 5 Tryz.underlying49 hi hz1 g l.length c vs.flatten hs e1 ⟨g0,off,none⟩ 0 cap [] hx rfl (by simp) (by simp) (by omega) ?_
   intro w' h1 h2
   have hp0:Part w g0 off [] ([]:List (List Value)):=⟨rfl,by simp,fun j hj=>absurd hj (by simp),by simp⟩
   refine h _ w' (ly (vs':=[]) e1 e2 e3 e4 hp0 h2 (by simpa using h1)) h2 fun k hk=>.inl hk
theorem wR:∀vs:List (List Value),(∀x ∈ vs,x.length=5)->vs.flatten.length=vs.length*5
 | [],_=>rfl
 | x :: r,h=>by
  rw [List.flatten_cons,List.length_append,h x (by simp),wR r fun y hy=>h y (by simp [hy]),List.length_cons]
  omega
theorem gm {w:World}{B g n cap:Nat}{l:List Dr}(h:DRow w B (.slice (some ⟨g,0,none⟩) n cap) l)(j:Nat)(hj:j<l.length):∃vs:List (List Value),Part w g 0 (l.take j) (vs.take j)/\Part w g ((j+1)*5) (l.drop (j+1)) (vs.drop (j+1)):=by
 obtain ⟨vs,h1,h2,h3,h4⟩:=h
 have hcell:∀i u,vs.flatten[i]? = some u->w.cell? ⟨g,i,none⟩=some u:=by
  intro i u hu
  rcases h1.2 with ⟨e,_⟩ | ⟨g',cap',cur,e,hb,hg,q1,q2,q3,q4⟩
  ·simp at e
  ·simp at e
   obtain ⟨rfl,_,rfl⟩:=e
   have hbk:Blk w g 93 cur:=hg
   rw [hbk.cell,<-Array.getElem?_toList]
   have hl:=wR vs h3
   have hi:=(List.getElem?_eq_some_iff.1 hu).1
   rw [<-q4,List.getElem?_take] at hu
   split at hu
   ·exact hu
   ·cases hu
 refine ⟨vs,⟨by simp [h2],fun x hx=>h3 x (List.mem_of_mem_take hx),fun i a b=>?_,fun i u hu=>?_⟩,⟨by simp [h2],fun x hx=>h3 x (List.mem_of_mem_drop hx),fun i a b=>?_,fun i u hu=>?_⟩⟩
 ·rw [List.getElem_take,List.getElem_take]
  exact h4 i _ _
 ·rw [Nat.zero_add]
  refine hcell i u ?_
  have hi:=(List.getElem?_eq_some_iff.1 hu).1
  conv=>lhs;rw [<-List.take_append_drop j vs,List.flatten_append]
  rw [List.getElem?_append_left hi]
  exact hu
 ·rw [List.getElem_drop,List.getElem_drop]
  exact h4 _ _ _
 ·refine hcell _ u ?_
  have hl:(vs.take (j+1)).flatten.length=(j+1)*5:=by
   rw [wR _ fun x hx=>h3 x (List.mem_of_mem_take hx),List.length_take]
   omega
  conv=>lhs;rw [<-List.take_append_drop (j+1) vs,List.flatten_append]
  rw [List.getElem?_append_right (by omega),hl]
  have:(j+1)*5+i-(j+1)*5=i:=by omega
  rw [this]
  exact hu
theorem el49:Tryz.prog.elem 49=93:=by simp [Program.elem,Tryz.underlying49]
theorem Aq:Tryz.prog.underlying 49=some (.slice (Tryz.prog.elem 49)):=by rw [el49];exact Tryz.underlying49
theorem sz93 (w:World):(sizeOf 93).run Tryz.prog w=.ok 5 w:=by kernel_rfl
theorem ea (g n cap j:Nat)(h1:j<=cap)(w:World):(Instr.slice 49 (.slice (some ⟨g,0,none⟩) n cap) none (some (.int .i64 (j:Int))) none).run Tryz.prog w=.ok (.slice (some ⟨g,0,none⟩) j cap) w:=by
 rw [run_slice_h _ 49 (some ⟨g,0,none⟩) n cap Aq .i64 j (by omega) (by omega),el49,sz93]
 simp [Result.andThen,sliced]
 intro _
 exact dD g 0 0
theorem ic (g n cap j:Nat)(h1:j+1<=n):∃off,(∀w,(Instr.slice 49 (.slice (some ⟨g,0,none⟩) n cap) (some (.int .i64 ((j:Int)+1))) none none).run Tryz.prog w=.ok (.slice (some ⟨g,off,none⟩) (n-(j+1)) (cap-(j+1))) w)/\(j+1<n->n<=cap->off=(j+1)*5):=by
 refine ⟨if cap=j+1 then 0 else (j+1)*5,fun w=>?_,fun h h2=>if_neg (by omega)⟩
 have hc:(j:Int)+1=((j+1:Nat):Int):=by push_cast;rfl
 rw [hc,run_slice_l _ 49 (some ⟨g,0,none⟩) n cap Aq .i64 (j+1:Nat) (by omega) (by omega),el49,sz93]
 have ht:(((j+1:Nat):Int)).toNat=j+1:=by omega
 simp only [Result.andThen,sliced,ht]
 by_cases h:cap=j+1
 ·simp [h]
 ·simp [h,dD]
theorem Part.grown {w w':World}{g off:Nat}{l:List Dr}{vs:List (List Value)}(h:Part w g off l vs)(hg:w.grownBy w' none):Part w' g off l vs :=
 ⟨h.len,h.five,fun j a b=>aR.1 _ _ _ _ (h.row j a b) hg,fun j u hu=>hg.cell (h.cells j u hu) (by simp)⟩
theorem jc {w:World}{B g n cap:Nat}{l:List Dr}(h:DRow w B (.slice (some ⟨g,0,none⟩) n cap) l):n<=cap:=by
 obtain ⟨vs,h1,_⟩:=h
 rcases h1.2 with ⟨e,_⟩ | ⟨g',cap',cur,e,hb,hg,q1,q2,q3,q4⟩
 ·simp at e
 ·simp at e
  obtain ⟨_,rfl,rfl⟩:=e
  exact q1
theorem rz {m:PMsg}(h:okM m=true)(hk:m.kind=2)(h3:m.tell.kind=3\/m.tell.kind=5):1<=m.tell.number:=by
 unfold okM at h
 simp only [Bool.and_eq_true] at h
 obtain ⟨_,h⟩:=h
 rw [if_neg (by omega)] at h
 simp only [Bool.and_eq_true,decide_eq_true_eq] at h
 have h2:=h.1.2
 unfold okR at h2
 rcases h3 with h3 | h3
 ·rw [if_neg (by omega),if_neg (by omega),if_pos h3] at h2
  simp at h2
  omega
 ·rw [if_neg (by omega),if_neg (by omega),if_neg (by omega),if_neg (by omega),if_pos (.inl h3)] at h2
  simp at h2
  omega
variable {s:CS} {w A A':World} {k:Nat} {c:PCfg} {v:Value}
theorem tE (A:World)(o1:Option Addr)(o2 o3:Nat)(a1:Option Addr)(a2 a3:Nat)(m:PMsg)(h:Dm w A k c v s)(hok:Okc s)(ho:Ops A (.slice o1 o2 o3) m.ask.ops)(ha:Seg A (.slice a1 a2 a3) m.tell.answer)(hl:m.tell.answer.length<=140737488355328)(ht:s.tok<=3999999999999992)(hn:hears s m=true)(h1:m.tell.kind=3)(h0:s.ses≠0)(h2:m.tell.session=s.ses):Calls Tryz.prog 16 #[.pointer (some ⟨k,0,none⟩),msgV (.slice o1 o2 o3) (.slice a1 a2 a3) m] A (eF w A k c s m):=by
 have HD:Hid (Dm w A k c v s/\Ops A (.slice o1 o2 o3) m.ask.ops/\Seg A (.slice a1 a2 a3) m.tell.answer/\m.tell.answer.length<=140737488355328/\Okc s/\s.tok<=3999999999999992):=⟨h,ho,ha,hl,hok,ht⟩
 have hq0:=heard hn
 have e3:m.kind=2/\m.client=(s.num:Int)/\okM m=true:=by
  unfold hears at hn
  simp only [Bool.and_eq_true,decide_eq_true_eq] at hn
  exact ⟨hn.1.1,hn.1.2,hn.2⟩
 have hkt:=dF e3.2.2 e3.1
 have hnum:=rz e3.2.2 e3.1 (by omega)
 have HQ:Hid (bV s m=s.rets (isR s m.tell) 1 m.tell.answer/\ch s m=s.ended (isR s m.tell)/\(∀k,isR s m.tell k=decide (m.tell.number=((k+1:Nat):Int)))/\0<m.tell.number):=by
  rw [hq0.1,hq0.2]
  refine ⟨?_,?_,fun k=>?_,by omega⟩
  ·unfold dS
   rw [if_pos h1]
  ·unfold dT
   rw [if_neg (by omega),if_pos h1]
  ·unfold isR
   rw [decide_eq_true h2]
   simp
 have f1:(m.tell.kind==1)=false:=by rw [h1];rfl
 have f2:(s.ses==0)=false:=by rw [beq_eq_false_iff_ne];exact h0
 have f3:(m.tell.session != s.ses)=false:=by simp;exact h2
 have g1:(m.tell.kind==4)=false:=by rw [h1];rfl
 have g2:(m.tell.kind != 3)=false:=by rw [h1];rfl
 have g3:(m.tell.kind != 5)=true:=by rw [h1];rfl
 have g4:(m.tell.kind==5)=false:=by rw [h1];rfl
 clear h1 h0 h2 hnum
 have HE:Hid (okM m=true):=e3.2.2
 obtain ⟨w1,hw1,H1⟩:=al1 A #[.int .i64 m.kind,.int .i64 m.client,.int .i64 m.ask.kind,.int .i64 m.ask.token,.int .i64 m.ask.session,.int .i64 m.ask.number,.int .i64 m.ask.mark,.slice o1 o2 o3,.int .i64 m.tell.kind,.int .i64 m.tell.token,.int .i64 m.tell.session,.int .i64 m.tell.number,.slice a1 a2 a3] 45
 obtain ⟨mb,hmb⟩:∃x,A.heap.size=x:=⟨_,rfl⟩
 rw [hmb] at H1
 have HK:Hid (∀y,w1.grownBy y none->MB y mb (.slice o1 o2 o3) (.slice a1 a2 a3) m/\y.cell? ⟨k,0,none⟩=some (.int .i64 s.num)):=fun y hy=>⟨MB.grown H1.out.1 hy,((h.grown H1.out.2.1).grown hy).blk.cell 0⟩
 have n1:(m.kind != 2)=false:=by simp [e3.1]
 have n2:(m.client != (s.num:Int))=false:=by simp [e3.2.1]
 clear h ho ha hl hok ht hn e3 hkt hq0
 unfold msgV
 go_enter Tryz.func16,Tryz.ntmps16
 go_upto_region 1 with fail
 try rw [hw1]
 try rw [hmb]
 clear hw1 hmb
 refine ag 1000 (fun y=>w1.grownBy y none) (by kernel_rfl) ?_
 have w2G:Hid (A.grownBy w1.drew none/\w1.grownBy w1.drew none):=⟨aa H1.out.2.1 (af _ _),af _ _⟩
 generalize w1.drew=w2 at w2G ⊢
 have J:Idx [0,1,2,3,4,5,6,7,8,9,10,11,12,13,14,15,16,17]:=trivial
 iterate 18 (refine tK J (w2G.out.2) rfl rfl (fun wk hk=>by obtain ⟨hm,k0⟩:=HK.out wk hk;obtain ⟨p0,p1,p2,p3,p4,p5,p6,p7,p8,p9,p10,p11,p12⟩:=MB.cells hm;go_simp;try rfl) ?_;replace J:=J.tl;try simp only [pN])
 refine wO 18 rfl fun K hK=>?_
 go_wp2_with fail
 refine (gJ (.slice o1 o2 o3) (.slice a1 a2 a3) m w2 (HD.out.2.1.grown w2G.out.1) (HD.out.2.2.1.grown w2G.out.1) HD.out.2.2.2.1).mono ?_
 rintro e w3 ⟨rfl,hg⟩
 rw [HE.out]
 have w3G:Hid (A.grownBy w3 none/\w1.grownBy w3 none):=⟨aa w2G.out.1 hg,aa w2G.out.2 hg⟩
 clear hg
 go_wp2_with fail
 refine hK.out _ _ (fun _=>w3G.out.2) ?_
 clear hK K
 try simp only [pN]
 have J:Idx [19,20]:=trivial
 iterate 2 (refine tK J (w3G.out.2) rfl rfl (fun wk hk=>by obtain ⟨hm,k0⟩:=HK.out wk hk;obtain ⟨p0,p1,p2,p3,p4,p5,p6,p7,p8,p9,p10,p11,p12⟩:=MB.cells hm;go_simp;try rfl) ?_;replace J:=J.tl;try simp only [pN])
 refine wD ?_
 refine (‹∀(a:Act) (w:World),Code.wp Tryz.prog _ _ a w->_› _ _ ?_)
 clear n1 n2
 obtain ⟨q0,q1,q2,q3,q4,q5,q6,q7,q8,q9,q10,q11,q12⟩:=MB.cells (HK.out w3 w3G.out.2).1
 clear q0 q1 q2 q3 q4 q5 q6 q7
 go_upto_region 4 with fail
 obtain ⟨w4,hw4,H4⟩:=al1 w3 #[.int .i64 m.tell.kind,.int .i64 m.tell.token,.int .i64 m.tell.session,.int .i64 m.tell.number,.slice a1 a2 a3] 43
 obtain ⟨tb,htb⟩:∃x,w3.heap.size=x:=⟨_,rfl⟩
 try rw [hw4]
 try rw [htb]
 rw [htb] at H4
 clear hw4 htb q8 q9 q10 q11 q12 HK
 have H4G:Hid (A.grownBy w4 none):=aa w3G.out.1 H4.out.2.1
 have HK:Hid (∀y,w4.grownBy y none->y.cell? ⟨tb,0,none⟩=some (.int .i64 m.tell.kind)/\y.cell? ⟨tb,1,none⟩=some (.int .i64 m.tell.token)/\y.cell? ⟨tb,2,none⟩=some (.int .i64 m.tell.session)/\y.cell? ⟨k,11,none⟩=some (.int .i64 s.ses)/\y.cell? ⟨k,12,none⟩=some (.int .i64 s.tok)):=fun y hy=>⟨(H4.out.1.grown hy (by simp)).cell 0,(H4.out.1.grown hy (by simp)).cell 1,(H4.out.1.grown hy (by simp)).cell 2,((HD.out.1.grown H4G.out).grown hy).blk.cell 11,((HD.out.1.grown H4G.out).grown hy).blk.cell 12⟩
 go_upto_region 4 with fail
 refine ag 1000 (fun y=>w4.grownBy y none) (by kernel_rfl) ?_
 have w5G:Hid (w4.grownBy w4.drew none):=af _ _
 generalize w4.drew=w5 at w5G ⊢
 have J:Idx [0,1,2,3]:=trivial
 iterate 4 (refine tK J (w5G.out) rfl rfl (fun wk hk=>by obtain ⟨k0,k1,k2,k3,k4⟩:=HK.out wk hk;go_simp;try rfl) ?_;replace J:=J.tl;try simp only [pN])
 have J:Idx [4,5,6,7,8]:=trivial
 iterate 5 (refine sk J (w5G.out) rfl rfl ?_;replace J:=J.tl;try simp only [pN])
 have J:Idx [9,10]:=trivial
 iterate 2 (refine tK J (w5G.out) rfl rfl (fun wk hk=>by obtain ⟨k0,k1,k2,k3,k4⟩:=HK.out wk hk;go_simp;try rfl) ?_;replace J:=J.tl;try simp only [pN])
 have J:Idx [11,12,13,14,15,16,17]:=trivial
 iterate 7 (refine sk J (w5G.out) rfl rfl ?_;replace J:=J.tl;try simp only [pN])
 have J:Idx [18]:=trivial
 iterate 1 (refine tK J (w5G.out) rfl rfl (fun wk hk=>by obtain ⟨k0,k1,k2,k3,k4⟩:=HK.out wk hk;go_simp;try rfl) ?_;replace J:=J.tl;try simp only [pN])
 refine wD ?_
 refine (‹∀(a:Act) (w:World),Code.wp Tryz.prog _ _ a w->_› _ _ ?_)
 go_upto_region 8 with fail
 refine ag 1000 (fun y=>w4.grownBy y none) (by kernel_rfl) ?_
 have w6G:Hid (w4.grownBy w5.drew none):=aa w5G.out (af _ _)
 generalize w5.drew=w6 at w6G ⊢
 have J:Idx [0,1,2,3,4,5,6,7,8,9,10,11,12,13]:=trivial
 iterate 14 (refine tK J (w6G.out) rfl rfl (fun wk hk=>by obtain ⟨k0,k1,k2,k3,k4⟩:=HK.out wk hk;go_simp;try rfl) ?_;replace J:=J.tl;try simp only [pN])
 refine wD ?_
 refine (‹∀(a:Act) (w:World),Code.wp Tryz.prog _ _ a w->_› _ _ ?_)
 obtain ⟨k0,k1,k2,k3,k4⟩:=HK.out w6 w6G.out
 have hg6:=aa H4G.out w6G.out
 have hd6:=HD.out.1.grown hg6
 obtain ⟨ao,cap,rfl⟩:=hd6.sl
 obtain ⟨n,hn⟩:∃n,s.dcs.length=n:=⟨_,rfl⟩
 have HN:Hid (s.dcs.length=n/\n<=1000000000000):=⟨hn,by have:=eK s;have:=HD.out.2.2.2.2.1.last;omega⟩
 have H6:Hid (A.grownBy w6 none/\Dm w w6 k c (.slice ao s.dcs.length cap) s/\Blk w6 tb 43 #[.int .i64 m.tell.kind,.int .i64 m.tell.token,.int .i64 m.tell.session,.int .i64 m.tell.number,.slice a1 a2 a3]/\Seg w6 (.slice a1 a2 a3) m.tell.answer/\True):=⟨hg6,hd6,H4.out.1.grown w6G.out (by simp),HD.out.2.2.1.grown hg6,trivial⟩
 have c10:w6.cell? ⟨k,10,none⟩=some (.slice ao n cap):=by rw [<-hn];exact hd6.blk.cell 10
 clear hg6 hd6 hn f1 f2 f3
 go_wp2_with fail
 clear k0 k1 k2 k3 k4
 go_loopw [6] (fun q wr=>∃j:Nat,q=.int .i64 (j:Nat)/\j<=n/\Hid (w6.grownBy wr none/\∀i (h:i<s.dcs.length),i<j->s.dcs[i].num≠m.tell.number)) (fun q _=>n-(intOf q).toNat)
 case atStart=>exact ⟨0,rfl,Nat.zero_le _,aj _ _,fun i h hi=>absurd hi (by omega)⟩
 case round =>
  obtain ⟨j,rfl,hj,G⟩:=hrel
  replace c10:=G.out.1.cell c10 (by simp)
  by_cases hlt:j<n
  ·have i1:(j:Int)<(n:Int):=by omega
   have i2:(0:Int)<=(j:Int):=by omega
   have HLJ:Hid (j<n):=hlt
   have d1:IntKind.i64.wrap ((j:Int)+1)=(j:Int)+1:=by have:=HN.out;rw [IntKind.wrap_i64];omega
   have hjl:j<s.dcs.length:=by have:=HN.out.1;omega
   obtain ⟨g,cap',y1,y2,y3,e,q0,q1,q2,q3,q4,q5⟩:=dK H6.out.2.1.row j hjl
   simp at e
   obtain ⟨rfl,rfl⟩:=e
   obtain ⟨x,hx⟩:∃x,s.dcs[j]=x:=⟨_,rfl⟩
   rw [hx] at q0 q1
   have HX:Hid (s.dcs[j]=x):=hx
   have HC:Hid (∀wk,w6.grownBy wk none->wk.cell? ⟨k,10,none⟩=some (.slice (some ⟨g,0,none⟩) n cap)/\wk.cell? ⟨g,j*5,none⟩=some (.int .i64 x.id)/\wk.cell? ⟨g,j*5+1,none⟩=some (.int .i64 x.num)/\wk.cell? ⟨tb,0,none⟩=some (.int .i64 m.tell.kind)/\wk.cell? ⟨tb,3,none⟩=some (.int .i64 m.tell.number)/\wk.cell? ⟨tb,4,none⟩=some (.slice a1 a2 a3)):=fun wk hk=>⟨by rw [<-HN.out.1];exact (H6.out.2.1.grown hk).blk.cell 10,hk.cell q0 (by simp),hk.cell q1 (by simp),(H6.out.2.2.1.grown hk (by simp)).cell 0,(H6.out.2.2.1.grown hk (by simp)).cell 3,(H6.out.2.2.1.grown hk (by simp)).cell 4⟩
   clear q0 q1 q2 q3 q4 q5 hx
   by_cases hxn:x.num=m.tell.number
   ·have HXN:Hid (x.num=m.tell.number):=hxn
    have f1:(x.num==m.tell.number)=true:=by rw [hxn];simp
    clear hxn
    go_upto_region 17 with fail
    clear c10
    refine ag 1000 (fun y=>w6.grownBy y none) (by kernel_rfl) ?_
    have G7:Hid (w6.grownBy wr.drew none):=aa G.out.1 (af _ _)
    generalize wr.drew=w7 at G7 ⊢
    have J:Idx [0,1,2,3,4,5,6,7,8,9,10]:=trivial
    iterate 11 (refine tK J (G7.out) rfl rfl (fun wk hk=>by obtain ⟨k0,k1,k2,k3,k4,k5⟩:=HC.out wk hk;go_simp;try rfl) ?_;replace J:=J.tl;try simp only [pN])
    refine wD ?_
    refine (‹∀(a:Act) (w:World),Code.wp Tryz.prog _ _ a w->_› _ _ ?_)
    clear f1
    go_upto_region 18 with fail
    refine ag 1000 (fun y=>w6.grownBy y none) (by kernel_rfl) ?_
    have G8:Hid (w6.grownBy w7.drew none):=aa G7.out (af _ _)
    generalize w7.drew=w8 at G8 ⊢
    have J:Idx [0,1,2,3,4,5,6,7,8,9]:=trivial
    iterate 10 (refine tK J (G8.out) rfl rfl (fun wk hk=>by obtain ⟨k0,k1,k2,k3,k4,k5⟩:=HC.out wk hk;go_simp;try rfl) ?_;replace J:=J.tl;try simp only [pN])
    refine bX (i:=10) (j:=12) rfl rfl (by kernel_rfl) (by rfl) (by rfl) (fun K hK=>?_) (fun K hK=>?_)
    ·refine gC w8 _ _ rfl w8.heap.size (.slice none 0 0) [] (.slice a1 a2 a3) m.tell.answer rfl rfl (Own.nil _ _) (H6.out.2.2.2.1.grown G8.out) (by have:=HD.out.2.2.2.1;simp;omega) (Nat.le_refl _) ?_
     intro v9 w9 hv9 hg9 _
     have hg9':w8.grownBy w9 none:=hg9
     rw [List.nil_append] at hv9
     obtain ⟨e1,e2,e3,rfl⟩:=bQ hv9
     have G9:Hid (w6.grownBy w9 none/\Disk.Own w9 A.heap.size (.slice e1 e2 e3) m.tell.answer):=⟨aa G8.out hg9',hv9.mono (Nat.le_trans H6.out.1.size G8.out.size)⟩
     clear hv9 hg9 hg9'
     refine hK.out _ _ (fun _=>G9.out.1) ?_
     clear hK K
     try simp only [pN]
     have J:Idx [11]:=trivial
     iterate 1 (refine tK J (G9.out.1) rfl rfl (fun wk hk=>by obtain ⟨k0,k1,k2,k3,k4,k5⟩:=HC.out wk hk;go_simp;try rfl) ?_;replace J:=J.tl;try simp only [pN])
     refine wO 12 rfl fun K hK=>?_
     obtain ⟨wz,hw5,H5⟩:=al1 w9 #[.int .i64 0,.int .i64 0,.slice none 0 0] 78
     obtain ⟨rb,hrb⟩:∃x,w9.heap.size=x:=⟨_,rfl⟩
     rw [hrb] at H5
     have HRB:Hid (w9.heap.size=rb):=hrb
     go_wp2_with fail
     try rw [hw5]
     try rw [hrb]
     clear hw5 hrb
     have HZ9:Hid (w6.grownBy wz none/\Disk.Own wz A.heap.size (.slice e1 e2 e3) m.tell.answer/\Blk wz rb 78 #[.int .i64 0,.int .i64 0,.slice none 0 0]/\A.heap.size<=rb/\w6.heap.size<=rb):=⟨aa G9.out.1 H5.out.2.1,G9.out.2.grown H5.out.2.1,H5.out.1,by have:=HRB.out;have:=H6.out.1.size;have:=G9.out.1.size;omega,by have:=HRB.out;have:=G9.out.1.size;omega⟩
     clear H5 HRB
     refine hK.out _ _ (fun _=>HZ9.out.1) ?_
     clear hK K
     try simp only [pN]
     refine wO 13 rfl fun K hK=>?_
     have r0:wz.cell? ⟨rb,0,none⟩=some (.int .i64 0):=HZ9.out.2.2.1.cell 0
     have r1:wz.cell? ⟨rb,1,none⟩=some (.int .i64 0):=HZ9.out.2.2.1.cell 1
     have r2:wz.cell? ⟨rb,2,none⟩=some (.slice none 0 0):=HZ9.out.2.2.1.cell 2
     have r3:=HZ9.out.2.2.1.free 0
     have r4:=HZ9.out.2.2.1.free 1
     have r5:=HZ9.out.2.2.1.free 2
     go_wp2_with fail
     clear r0 r1 r2 r3 r4 r5
     have HS:Hid (Blk (((wz.setCell ⟨rb,0,none⟩ (.int .i64 x.id)).setCell ⟨rb,1,none⟩ (.int .i64 1)).setCell ⟨rb,2,none⟩ (.slice e1 e2 e3)) rb 78 #[.int .i64 x.id,.int .i64 1,.slice e1 e2 e3]/\wz.grownBy (((wz.setCell ⟨rb,0,none⟩ (.int .i64 x.id)).setCell ⟨rb,1,none⟩ (.int .i64 1)).setCell ⟨rb,2,none⟩ (.slice e1 e2 e3)) (some rb)):=⟨((HZ9.out.2.2.1.store 0 _).store 1 _).store 2 _,aa (ae _ _ _ _) (aa (ae _ _ _ _) (ae _ _ _ _))⟩
     generalize (((wz.setCell ⟨rb,0,none⟩ (.int .i64 x.id)).setCell ⟨rb,1,none⟩ (.int .i64 1)).setCell ⟨rb,2,none⟩ (.slice e1 e2 e3))=wy at HS ⊢
     have HY:Hid (w6.grownBy wy none/\Disk.Own wy A.heap.size (.slice e1 e2 e3) m.tell.answer/\Blk wy rb 78 #[.int .i64 x.id,.int .i64 1,.slice e1 e2 e3]/\A.heap.size<=rb/\w6.heap.size<=rb):=⟨ai HZ9.out.1 HS.out.2 (by intro y hy;have:=HZ9.out.2.2.2.2;simp at hy;omega),aO HZ9.out.2.1 HZ9.out.2.2.1 (by decide) HS.out.2,HS.out.1,HZ9.out.2.2.2.1,HZ9.out.2.2.2.2⟩
     refine hK.out _ _ (fun _=>HY.out.1) ?_
     clear hK K
     try simp only [pN]
     refine wD ?_
     refine (‹∀(a:Act) (w:World),Code.wp Tryz.prog _ _ a w->_› _ _ ?_)
     have t0:wy.cell? ⟨tb,0,none⟩=some (.int .i64 m.tell.kind):=(HC.out wy HY.out.1).2.2.2.1
     go_upto_region 21 with fail
     clear t0
     have hrow:=LRow.grown H6.out.2.1.row aR HY.out.1
     rw [HN.out.1] at hrow
     obtain ⟨vs,hp1,hp2⟩:=gm hrow j (by have:=HN.out.1;have:=HLJ.out;omega)
     obtain ⟨off,hsl,hoff⟩:=ic g n cap j (by have:=HLJ.out;omega)
     have HPP:Hid (Part wy g 0 (s.dcs.take j) (vs.take j)/\Part wy g off (s.dcs.drop (j+1)) (vs.drop (j+1))/\(∀w,(Instr.slice 49 (.slice (some ⟨g,0,none⟩) n cap) (some (.int .i64 ((j:Int)+1))) none none).run Tryz.prog w=.ok (.slice (some ⟨g,off,none⟩) (n-(j+1)) (cap-(j+1))) w)/\j<=cap/\(s.dcs.take j).length=j/\(s.dcs.drop (j+1)).length=n-(j+1)):=by
      have hcap:=jc hrow
      have h1:=HLJ.out
      have h2:=HN.out.1
      refine ⟨hp1,?_,hsl,by omega,by rw [List.length_take];omega,by rw [List.length_drop];omega⟩
      by_cases hlast:j+1<n
      ·rw [hoff hlast hcap]
       exact hp2
      ·have e1:s.dcs.drop (j+1)=[]:=List.drop_eq_nil_of_le (by omega)
       have e2:vs.drop (j+1)=[]:=List.eq_nil_of_length_eq_zero (by rw [hp2.len,e1];rfl)
       rw [e1,e2]
       exact ⟨rfl,by simp,fun j hj=>absurd hj (by simp),by simp⟩
     clear hrow hp1 hp2 hsl hoff
     have HYX:Hid (w6.grownBy wy none/\True/\Blk wy rb 78 #[.int .i64 x.id,.int .i64 1,.slice e1 e2 e3]/\True/\True/\wy.grownBy wy none):=⟨HY.out.1,trivial,HY.out.2.2.1,trivial,trivial,aj _ _⟩
     refine ag 18 (fun y=>w6.grownBy y none) (by kernel_rfl) ?_
     have Ga:Hid (w6.grownBy wy.drew none/\wy.grownBy wy.drew none):=⟨aa HYX.out.1 (af _ _),af _ _⟩
     generalize wy.drew=wa at Ga ⊢
     have J:Idx [0,1,2,3,4,5,6,8,9,10,11,12,13,14]:=trivial
     iterate 14 (refine tK J (Ga.out.1) rfl rfl (fun wk hk=>by obtain ⟨k0,k1,k2,k3,k4,k5⟩:=HC.out wk hk;have s1:=ea g n cap j HPP.out.2.2.2.1 wk;have s2:=HPP.out.2.2.1 wk;go_simp;try rfl) ?_;replace J:=J.tl;try simp only [pN])
     refine wO 7 rfl fun K hK=>?_
     have hpa:=HPP.out.1.grown (aa HYX.out.2.2.2.2.2 Ga.out.2)
     refine fm wa _ _ rfl A.heap.size (.slice none 0 0) [] g 0 cap (s.dcs.take j) (vs.take j) rfl (by rw [HPP.out.2.2.2.2.1];rfl) (br _ _) hpa (by have:=HN.out;have:=HLJ.out;have:=HPP.out.2.2.2.2.1;simp;omega) (Nat.le_trans H6.out.1.size Ga.out.1.size) ?_
     intro vb wb hvb hgb hnb
     have hgb':wa.grownBy wb none:=hgb
     rw [List.nil_append] at hvb
     have Gb:Hid (w6.grownBy wb none/\wy.grownBy wb none/\DRow wb A.heap.size vb (s.dcs.take j)):=⟨aa Ga.out.1 hgb',aa Ga.out.2 hgb',hvb⟩
     have HNB:Hid (∀q,vb.ownBlock=some q->w6.heap.size<=q):=fun q hq=>by
      rcases hnb q hq with e | e
      ·simp [Value.ownBlock] at e
      ·have:=Ga.out.1.size;omega
     obtain ⟨b1,b2,rfl⟩:=DRow.shape hvb
     clear hvb hgb hgb' hpa hnb
     refine hK.out _ _ (fun _=>Gb.out.1) ?_
     clear hK K
     try simp only [pN]
     refine wO 15 rfl fun K hK=>?_
     have hpb:=HPP.out.2.1.grown (aa HYX.out.2.2.2.2.2 Gb.out.2.1)
     refine fm wb _ _ rfl A.heap.size (.slice b1 (s.dcs.take j).length b2) (s.dcs.take j) g off (cap-(j+1)) (s.dcs.drop (j+1)) (vs.drop (j+1)) rfl (by rw [HPP.out.2.2.2.2.2];rfl) Gb.out.2.2 hpb (by have:=HN.out;have:=HPP.out.2.2.2.2;omega) (Nat.le_trans H6.out.1.size Gb.out.1.size) ?_
     intro vc wc hvc hgc _
     have Gc:Hid (w6.grownBy wc none/\DRow wc A.heap.size vc (s.dcs.take j ++ s.dcs.drop (j+1))/\Disk.Own wc A.heap.size (.slice e1 e2 e3) m.tell.answer/\Blk wc rb 78 #[.int .i64 x.id,.int .i64 1,.slice e1 e2 e3]):=by
      have h1:=aa HYX.out.2.2.2.2.2 Gb.out.2.1
      have hb:=HYX.out.2.2.1.grown h1 (by simp)
      have ho:Disk.Own wb A.heap.size (.slice e1 e2 e3) m.tell.answer:=HY.out.2.1.grown h1
      cases e:(Value.slice b1 (s.dcs.take j).length b2).ownBlock with
      | none =>
       rw [e] at hgc
       exact ⟨aa Gb.out.1 hgc,hvc,ho.grown hgc,hb.grown hgc (by simp)⟩
      | some q =>
       have hq:=HNB.out q e
       obtain ⟨_,C,hC⟩:=Gb.out.2.2.blk q e
       rw [e] at hgc
       refine ⟨ai Gb.out.1 hgc (by intro y hy;simp at hy;omega),hvc,aO ho hC (by decide) hgc,hb.grown hgc fun e=>?_⟩
       simp at e
       subst e
       exact absurd (aw hb hC) (by decide)
     obtain ⟨d1',d2',rfl⟩:=DRow.shape hvc
     obtain ⟨N,hNN⟩:∃N,(s.dcs.take j ++ s.dcs.drop (j+1)).length=N:=⟨_,rfl⟩
     rw [hNN] at Gc ⊢
     clear hvc hgc hpb hNN
     refine hK.out _ _ (fun _=>Gc.out.1) ?_
     clear hK K
     try simp only [pN]
     have J:Idx [16,17]:=trivial
     iterate 2 (refine tK J (Gc.out.1) rfl rfl (fun wk hk=>by obtain ⟨k0,k1,k2,k3,k4,k5⟩:=HC.out wk hk;have s1:=ea g n cap j HPP.out.2.2.2.1 wk;have s2:=HPP.out.2.2.1 wk;go_simp;try rfl) ?_;replace J:=J.tl;try simp only [pN])
     refine wO 18 rfl fun K hK=>?_
     have x10:=(HC.out wc Gc.out.1).1
     have hbk:=(H6.out.2.1.grown Gc.out.1).blk
     have f10:=hbk.free 10
     clear hbk
     go_wp2_with fail
     refine hK.out _ _ (fun h=>absurd rfl h) ?_
     clear hK K x10 f10
     try simp only [pN]
     refine wD ?_
     refine (‹∀(a:Act) (w:World),Code.wp Tryz.prog _ _ a w->_› _ _ ?_)
     have HZ:Hid (w6.grownBy wc none/\Blk (wc.setCell ⟨k,10,none⟩ (.slice d1' N d2')) k 51 (docC s c (.slice d1' N d2'))/\DRow (wc.setCell ⟨k,10,none⟩ (.slice d1' N d2')) A.heap.size (.slice d1' N d2') (s.dcs.take j ++ s.dcs.drop (j+1))/\Disk.Own (wc.setCell ⟨k,10,none⟩ (.slice d1' N d2')) A.heap.size (.slice e1 e2 e3) m.tell.answer/\Blk (wc.setCell ⟨k,10,none⟩ (.slice d1' N d2')) rb 78 #[.int .i64 x.id,.int .i64 1,.slice e1 e2 e3]/\wc.grownBy (wc.setCell ⟨k,10,none⟩ (.slice d1' N d2')) (some k)):=by
      have hb:=(H6.out.2.1.grown Gc.out.1).blk
      have hg:=ae wc k 10 (.slice d1' N d2')
      refine ⟨Gc.out.1,hb.store 10 _,LRow.set Gc.out.2.1 aR hb (by decide) (by decide) hg,aO Gc.out.2.2.1 hb (by decide) hg,Gc.out.2.2.2.grown hg fun e=>?_,hg⟩
      simp at e
      subst e
      exact absurd (aw hb Gc.out.2.2.2) (by decide)
     generalize wc.setCell ⟨k,10,none⟩ (.slice d1' N d2')=wf at HZ ⊢
     have u0:wf.cell? ⟨rb,0,none⟩=some (.int .i64 x.id):=HZ.out.2.2.2.2.1.cell 0
     have u1:wf.cell? ⟨rb,1,none⟩=some (.int .i64 1):=HZ.out.2.2.2.2.1.cell 1
     have u2:wf.cell? ⟨rb,2,none⟩=some (.slice e1 e2 e3):=HZ.out.2.2.2.2.1.cell 2
     obtain ⟨wl,hwl,HL⟩:=al1 wf #[.int .i64 x.id,.int .i64 1,.slice e1 e2 e3] 78
     obtain ⟨gl,hgl⟩:∃x,wf.heap.size=x:=⟨_,rfl⟩
     rw [hgl] at HL
     have HGL:Hid (wf.heap.size=gl):=hgl
     go_wp2_with fail
     try rw [hwl]
     try rw [hgl]
     clear hwl hgl
     go_ret
     obtain ⟨z1,z2,z3,z4⟩:=HQ.out
     have hjl:j<s.dcs.length:=by have:=HN.out.1;have:=HLJ.out;omega
     have hxx:s.dcs[j]=x:=HX.out
     obtain ⟨sp1,sp2⟩:=ib z4 hjl (by rw [hxx];exact HXN.out)
     have hd6:=H6.out.2.1
     have hl:(aX (endF (isR s m.tell)) s.L s.L.length).length=s.L.length:=bS _ _ _
     have hgz:w.grownBy wf none:=ai (aa hd6.gr HZ.out.1) HZ.out.2.2.2.2.2 (by intro y hy;have:=hd6.lo;simp at hy;omega)
     refine ⟨_,rfl,?_,⟨.slice d1' N d2',?_,?_,hd6.lo,aa hgz HL.out.2.1⟩,?_⟩
     ·rw [z1,fL s _ _ z4 z3,sp2,hxx]
      have hgA:A.heap.size<=gl:=by have:=HGL.out;have:=HZ.out.1.size;have:=H6.out.1.size;have:=HZ.out.2.2.2.2.2.size;omega
      refine ⟨[[.int .i64 x.id,.int .i64 1,.slice e1 e2 e3]],⟨rfl,.inr ⟨gl,1,_,rfl,hgA,HL.out.1,Nat.le_refl _,by decide,rfl,rfl⟩⟩,rfl,by simp,fun i hi hi'=>?_⟩
      have:i=0:=by simp at hi;omega
      subst this
      exact ⟨_,rfl,HZ.out.2.2.2.1.grown HL.out.2.1⟩
     ·rw [z2]
      have hb:=HZ.out.2.1.grown HL.out.2.1 (by simp)
      unfold docC at hb ⊢
      show Blk _ k 51 #[_,_,_,_,_,_,_,_,_,_,_,_,_,_,_,_,.int .i64 ((aX (endF (isR s m.tell)) s.L s.L.length).length:Nat)]
      rw [hl]
      exact hb
     ·rw [z2,eN s _ _ z4 z3,sp1]
      exact (LRow.grown HZ.out.2.2.1 aR HL.out.2.1).mono HD.out.1.gr.size
     ·exact aL (aD (aa H6.out.1 HZ.out.1)) (aL (bI (H6.out.2.1.grown HZ.out.1).blk (.inl rfl) HZ.out.2.2.2.2.2) (aD HL.out.2.1))
    ·obtain ⟨w9,hw5,H5⟩:=al1 w8 #[.int .i64 0,.int .i64 0,.slice none 0 0] 78
     obtain ⟨rb,hrb⟩:∃x,w8.heap.size=x:=⟨_,rfl⟩
     rw [hrb] at H5
     have HRB:Hid (w8.heap.size=rb):=hrb
     go_wp2_with fail
     try rw [hw5]
     try rw [hrb]
     clear hw5 hrb
     have G9:Hid (w6.grownBy w9 none/\Blk w9 rb 78 #[.int .i64 0,.int .i64 0,.slice none 0 0]/\A.heap.size<=rb/\w6.heap.size<=rb):=⟨aa G8.out H5.out.2.1,H5.out.1,by have:=HRB.out;have:=H6.out.1.size;have:=G8.out.size;omega,by have:=HRB.out;have:=G8.out.size;omega⟩
     clear H5 HRB
     refine hK.out _ _ (fun _=>G9.out.1) ?_
     clear hK K
     try simp only [pN]
     refine wO 10 rfl fun K hK=>?_
     refine gC w9 _ _ rfl w9.heap.size (.slice none 0 0) [] (.slice a1 a2 a3) m.tell.answer rfl rfl (Own.nil _ _) (H6.out.2.2.2.1.grown G9.out.1) (by have:=HD.out.2.2.2.1;simp;omega) (Nat.le_refl _) ?_
     intro v9 wz hv9 hg9 _
     have hg9':w9.grownBy wz none:=hg9
     rw [List.nil_append] at hv9
     obtain ⟨e1,e2,e3,rfl⟩:=bQ hv9
     have HZ9:Hid (w6.grownBy wz none/\Disk.Own wz A.heap.size (.slice e1 e2 e3) m.tell.answer/\Blk wz rb 78 #[.int .i64 0,.int .i64 0,.slice none 0 0]/\A.heap.size<=rb/\w6.heap.size<=rb):=⟨aa G9.out.1 hg9',hv9.mono (Nat.le_trans H6.out.1.size G9.out.1.size),G9.out.2.1.grown hg9' (by simp),G9.out.2.2.1,G9.out.2.2.2⟩
     clear hv9 hg9 hg9'
     refine hK.out _ _ (fun _=>HZ9.out.1) ?_
     clear hK K
     try simp only [pN]
     have J:Idx [11]:=trivial
     iterate 1 (refine tK J (HZ9.out.1) rfl rfl (fun wk hk=>by obtain ⟨k0,k1,k2,k3,k4,k5⟩:=HC.out wk hk;go_simp;try rfl) ?_;replace J:=J.tl;try simp only [pN])
     refine wO 13 rfl fun K hK=>?_
     have r0:wz.cell? ⟨rb,0,none⟩=some (.int .i64 0):=HZ9.out.2.2.1.cell 0
     have r1:wz.cell? ⟨rb,1,none⟩=some (.int .i64 0):=HZ9.out.2.2.1.cell 1
     have r2:wz.cell? ⟨rb,2,none⟩=some (.slice none 0 0):=HZ9.out.2.2.1.cell 2
     have r3:=HZ9.out.2.2.1.free 0
     have r4:=HZ9.out.2.2.1.free 1
     have r5:=HZ9.out.2.2.1.free 2
     go_wp2_with fail
     clear r0 r1 r2 r3 r4 r5
     have HS:Hid (Blk (((wz.setCell ⟨rb,0,none⟩ (.int .i64 x.id)).setCell ⟨rb,1,none⟩ (.int .i64 1)).setCell ⟨rb,2,none⟩ (.slice e1 e2 e3)) rb 78 #[.int .i64 x.id,.int .i64 1,.slice e1 e2 e3]/\wz.grownBy (((wz.setCell ⟨rb,0,none⟩ (.int .i64 x.id)).setCell ⟨rb,1,none⟩ (.int .i64 1)).setCell ⟨rb,2,none⟩ (.slice e1 e2 e3)) (some rb)):=⟨((HZ9.out.2.2.1.store 0 _).store 1 _).store 2 _,aa (ae _ _ _ _) (aa (ae _ _ _ _) (ae _ _ _ _))⟩
     generalize (((wz.setCell ⟨rb,0,none⟩ (.int .i64 x.id)).setCell ⟨rb,1,none⟩ (.int .i64 1)).setCell ⟨rb,2,none⟩ (.slice e1 e2 e3))=wy at HS ⊢
     have HY:Hid (w6.grownBy wy none/\Disk.Own wy A.heap.size (.slice e1 e2 e3) m.tell.answer/\Blk wy rb 78 #[.int .i64 x.id,.int .i64 1,.slice e1 e2 e3]/\A.heap.size<=rb/\w6.heap.size<=rb):=⟨ai HZ9.out.1 HS.out.2 (by intro y hy;have:=HZ9.out.2.2.2.2;simp at hy;omega),aO HZ9.out.2.1 HZ9.out.2.2.1 (by decide) HS.out.2,HS.out.1,HZ9.out.2.2.2.1,HZ9.out.2.2.2.2⟩
     refine hK.out _ _ (fun _=>HY.out.1) ?_
     clear hK K
     try simp only [pN]
     refine wD ?_
     refine (‹∀(a:Act) (w:World),Code.wp Tryz.prog _ _ a w->_› _ _ ?_)
     have t0:wy.cell? ⟨tb,0,none⟩=some (.int .i64 m.tell.kind):=(HC.out wy HY.out.1).2.2.2.1
     go_upto_region 21 with fail
     clear t0
     have hrow:=LRow.grown H6.out.2.1.row aR HY.out.1
     rw [HN.out.1] at hrow
     obtain ⟨vs,hp1,hp2⟩:=gm hrow j (by have:=HN.out.1;have:=HLJ.out;omega)
     obtain ⟨off,hsl,hoff⟩:=ic g n cap j (by have:=HLJ.out;omega)
     have HPP:Hid (Part wy g 0 (s.dcs.take j) (vs.take j)/\Part wy g off (s.dcs.drop (j+1)) (vs.drop (j+1))/\(∀w,(Instr.slice 49 (.slice (some ⟨g,0,none⟩) n cap) (some (.int .i64 ((j:Int)+1))) none none).run Tryz.prog w=.ok (.slice (some ⟨g,off,none⟩) (n-(j+1)) (cap-(j+1))) w)/\j<=cap/\(s.dcs.take j).length=j/\(s.dcs.drop (j+1)).length=n-(j+1)):=by
      have hcap:=jc hrow
      have h1:=HLJ.out
      have h2:=HN.out.1
      refine ⟨hp1,?_,hsl,by omega,by rw [List.length_take];omega,by rw [List.length_drop];omega⟩
      by_cases hlast:j+1<n
      ·rw [hoff hlast hcap]
       exact hp2
      ·have e1:s.dcs.drop (j+1)=[]:=List.drop_eq_nil_of_le (by omega)
       have e2:vs.drop (j+1)=[]:=List.eq_nil_of_length_eq_zero (by rw [hp2.len,e1];rfl)
       rw [e1,e2]
       exact ⟨rfl,by simp,fun j hj=>absurd hj (by simp),by simp⟩
     clear hrow hp1 hp2 hsl hoff
     have HYX:Hid (w6.grownBy wy none/\True/\Blk wy rb 78 #[.int .i64 x.id,.int .i64 1,.slice e1 e2 e3]/\True/\True/\wy.grownBy wy none):=⟨HY.out.1,trivial,HY.out.2.2.1,trivial,trivial,aj _ _⟩
     refine ag 18 (fun y=>w6.grownBy y none) (by kernel_rfl) ?_
     have Ga:Hid (w6.grownBy wy.drew none/\wy.grownBy wy.drew none):=⟨aa HYX.out.1 (af _ _),af _ _⟩
     generalize wy.drew=wa at Ga ⊢
     have J:Idx [0,1,2,3,4,5,6,8,9,10,11,12,13,14]:=trivial
     iterate 14 (refine tK J (Ga.out.1) rfl rfl (fun wk hk=>by obtain ⟨k0,k1,k2,k3,k4,k5⟩:=HC.out wk hk;have s1:=ea g n cap j HPP.out.2.2.2.1 wk;have s2:=HPP.out.2.2.1 wk;go_simp;try rfl) ?_;replace J:=J.tl;try simp only [pN])
     refine wO 7 rfl fun K hK=>?_
     have hpa:=HPP.out.1.grown (aa HYX.out.2.2.2.2.2 Ga.out.2)
     refine fm wa _ _ rfl A.heap.size (.slice none 0 0) [] g 0 cap (s.dcs.take j) (vs.take j) rfl (by rw [HPP.out.2.2.2.2.1];rfl) (br _ _) hpa (by have:=HN.out;have:=HLJ.out;have:=HPP.out.2.2.2.2.1;simp;omega) (Nat.le_trans H6.out.1.size Ga.out.1.size) ?_
     intro vb wb hvb hgb hnb
     have hgb':wa.grownBy wb none:=hgb
     rw [List.nil_append] at hvb
     have Gb:Hid (w6.grownBy wb none/\wy.grownBy wb none/\DRow wb A.heap.size vb (s.dcs.take j)):=⟨aa Ga.out.1 hgb',aa Ga.out.2 hgb',hvb⟩
     have HNB:Hid (∀q,vb.ownBlock=some q->w6.heap.size<=q):=fun q hq=>by
      rcases hnb q hq with e | e
      ·simp [Value.ownBlock] at e
      ·have:=Ga.out.1.size;omega
     obtain ⟨b1,b2,rfl⟩:=DRow.shape hvb
     clear hvb hgb hgb' hpa hnb
     refine hK.out _ _ (fun _=>Gb.out.1) ?_
     clear hK K
     try simp only [pN]
     refine wO 15 rfl fun K hK=>?_
     have hpb:=HPP.out.2.1.grown (aa HYX.out.2.2.2.2.2 Gb.out.2.1)
     refine fm wb _ _ rfl A.heap.size (.slice b1 (s.dcs.take j).length b2) (s.dcs.take j) g off (cap-(j+1)) (s.dcs.drop (j+1)) (vs.drop (j+1)) rfl (by rw [HPP.out.2.2.2.2.2];rfl) Gb.out.2.2 hpb (by have:=HN.out;have:=HPP.out.2.2.2.2;omega) (Nat.le_trans H6.out.1.size Gb.out.1.size) ?_
     intro vc wc hvc hgc _
     have Gc:Hid (w6.grownBy wc none/\DRow wc A.heap.size vc (s.dcs.take j ++ s.dcs.drop (j+1))/\Disk.Own wc A.heap.size (.slice e1 e2 e3) m.tell.answer/\Blk wc rb 78 #[.int .i64 x.id,.int .i64 1,.slice e1 e2 e3]):=by
      have h1:=aa HYX.out.2.2.2.2.2 Gb.out.2.1
      have hb:=HYX.out.2.2.1.grown h1 (by simp)
      have ho:Disk.Own wb A.heap.size (.slice e1 e2 e3) m.tell.answer:=HY.out.2.1.grown h1
      cases e:(Value.slice b1 (s.dcs.take j).length b2).ownBlock with
      | none =>
       rw [e] at hgc
       exact ⟨aa Gb.out.1 hgc,hvc,ho.grown hgc,hb.grown hgc (by simp)⟩
      | some q =>
       have hq:=HNB.out q e
       obtain ⟨_,C,hC⟩:=Gb.out.2.2.blk q e
       rw [e] at hgc
       refine ⟨ai Gb.out.1 hgc (by intro y hy;simp at hy;omega),hvc,aO ho hC (by decide) hgc,hb.grown hgc fun e=>?_⟩
       simp at e
       subst e
       exact absurd (aw hb hC) (by decide)
     obtain ⟨d1',d2',rfl⟩:=DRow.shape hvc
     obtain ⟨N,hNN⟩:∃N,(s.dcs.take j ++ s.dcs.drop (j+1)).length=N:=⟨_,rfl⟩
     rw [hNN] at Gc ⊢
     clear hvc hgc hpb hNN
     refine hK.out _ _ (fun _=>Gc.out.1) ?_
     clear hK K
     try simp only [pN]
     have J:Idx [16,17]:=trivial
     iterate 2 (refine tK J (Gc.out.1) rfl rfl (fun wk hk=>by obtain ⟨k0,k1,k2,k3,k4,k5⟩:=HC.out wk hk;have s1:=ea g n cap j HPP.out.2.2.2.1 wk;have s2:=HPP.out.2.2.1 wk;go_simp;try rfl) ?_;replace J:=J.tl;try simp only [pN])
     refine wO 18 rfl fun K hK=>?_
     have x10:=(HC.out wc Gc.out.1).1
     have hbk:=(H6.out.2.1.grown Gc.out.1).blk
     have f10:=hbk.free 10
     clear hbk
     go_wp2_with fail
     refine hK.out _ _ (fun h=>absurd rfl h) ?_
     clear hK K x10 f10
     try simp only [pN]
     refine wD ?_
     refine (‹∀(a:Act) (w:World),Code.wp Tryz.prog _ _ a w->_› _ _ ?_)
     have HZ:Hid (w6.grownBy wc none/\Blk (wc.setCell ⟨k,10,none⟩ (.slice d1' N d2')) k 51 (docC s c (.slice d1' N d2'))/\DRow (wc.setCell ⟨k,10,none⟩ (.slice d1' N d2')) A.heap.size (.slice d1' N d2') (s.dcs.take j ++ s.dcs.drop (j+1))/\Disk.Own (wc.setCell ⟨k,10,none⟩ (.slice d1' N d2')) A.heap.size (.slice e1 e2 e3) m.tell.answer/\Blk (wc.setCell ⟨k,10,none⟩ (.slice d1' N d2')) rb 78 #[.int .i64 x.id,.int .i64 1,.slice e1 e2 e3]/\wc.grownBy (wc.setCell ⟨k,10,none⟩ (.slice d1' N d2')) (some k)):=by
      have hb:=(H6.out.2.1.grown Gc.out.1).blk
      have hg:=ae wc k 10 (.slice d1' N d2')
      refine ⟨Gc.out.1,hb.store 10 _,LRow.set Gc.out.2.1 aR hb (by decide) (by decide) hg,aO Gc.out.2.2.1 hb (by decide) hg,Gc.out.2.2.2.grown hg fun e=>?_,hg⟩
      simp at e
      subst e
      exact absurd (aw hb Gc.out.2.2.2) (by decide)
     generalize wc.setCell ⟨k,10,none⟩ (.slice d1' N d2')=wf at HZ ⊢
     have u0:wf.cell? ⟨rb,0,none⟩=some (.int .i64 x.id):=HZ.out.2.2.2.2.1.cell 0
     have u1:wf.cell? ⟨rb,1,none⟩=some (.int .i64 1):=HZ.out.2.2.2.2.1.cell 1
     have u2:wf.cell? ⟨rb,2,none⟩=some (.slice e1 e2 e3):=HZ.out.2.2.2.2.1.cell 2
     obtain ⟨wl,hwl,HL⟩:=al1 wf #[.int .i64 x.id,.int .i64 1,.slice e1 e2 e3] 78
     obtain ⟨gl,hgl⟩:∃x,wf.heap.size=x:=⟨_,rfl⟩
     rw [hgl] at HL
     have HGL:Hid (wf.heap.size=gl):=hgl
     go_wp2_with fail
     try rw [hwl]
     try rw [hgl]
     clear hwl hgl
     go_ret
     obtain ⟨z1,z2,z3,z4⟩:=HQ.out
     have hjl:j<s.dcs.length:=by have:=HN.out.1;have:=HLJ.out;omega
     have hxx:s.dcs[j]=x:=HX.out
     obtain ⟨sp1,sp2⟩:=ib z4 hjl (by rw [hxx];exact HXN.out)
     have hd6:=H6.out.2.1
     have hl:(aX (endF (isR s m.tell)) s.L s.L.length).length=s.L.length:=bS _ _ _
     have hgz:w.grownBy wf none:=ai (aa hd6.gr HZ.out.1) HZ.out.2.2.2.2.2 (by intro y hy;have:=hd6.lo;simp at hy;omega)
     refine ⟨_,rfl,?_,⟨.slice d1' N d2',?_,?_,hd6.lo,aa hgz HL.out.2.1⟩,?_⟩
     ·rw [z1,fL s _ _ z4 z3,sp2,hxx]
      have hgA:A.heap.size<=gl:=by have:=HGL.out;have:=HZ.out.1.size;have:=H6.out.1.size;have:=HZ.out.2.2.2.2.2.size;omega
      refine ⟨[[.int .i64 x.id,.int .i64 1,.slice e1 e2 e3]],⟨rfl,.inr ⟨gl,1,_,rfl,hgA,HL.out.1,Nat.le_refl _,by decide,rfl,rfl⟩⟩,rfl,by simp,fun i hi hi'=>?_⟩
      have:i=0:=by simp at hi;omega
      subst this
      exact ⟨_,rfl,HZ.out.2.2.2.1.grown HL.out.2.1⟩
     ·rw [z2]
      have hb:=HZ.out.2.1.grown HL.out.2.1 (by simp)
      unfold docC at hb ⊢
      show Blk _ k 51 #[_,_,_,_,_,_,_,_,_,_,_,_,_,_,_,_,.int .i64 ((aX (endF (isR s m.tell)) s.L s.L.length).length:Nat)]
      rw [hl]
      exact hb
     ·rw [z2,eN s _ _ z4 z3,sp1]
      exact (LRow.grown HZ.out.2.2.1 aR HL.out.2.1).mono HD.out.1.gr.size
     ·exact aL (aD (aa H6.out.1 HZ.out.1)) (aL (bI (H6.out.2.1.grown HZ.out.1).blk (.inl rfl) HZ.out.2.2.2.2.2) (aD HL.out.2.1))
   ·have HXN:Hid (x.num≠m.tell.number):=hxn
    have f1:(x.num==m.tell.number)=false:=by rw [beq_eq_false_iff_ne];exact hxn
    clear hxn
    go_upto_region 17 with fail
    clear c10
    refine ag 1000 (fun y=>w6.grownBy y none) (by kernel_rfl) ?_
    have G7:Hid (w6.grownBy wr.drew none):=aa G.out.1 (af _ _)
    generalize wr.drew=w7 at G7 ⊢
    have J:Idx [0,1,2,3,4,5,6,7,8,9,10]:=trivial
    iterate 11 (refine tK J (G7.out) rfl rfl (fun wk hk=>by obtain ⟨k0,k1,k2,k3,k4,k5⟩:=HC.out wk hk;go_simp;try rfl) ?_;replace J:=J.tl;try simp only [pN])
    refine wD ?_
    refine (‹∀(a:Act) (w:World),Code.wp Tryz.prog _ _ a w->_› _ _ ?_)
    go_wp2_with fail
    go_roundw
    case rel =>
     refine ⟨j+1,by go_num,by have:=HLJ.out;omega,G7.out,fun i h hi=>?_⟩
     by_cases e:i=j
     ·subst e
      rw [HX.out]
      exact HXN.out
     ·exact G.out.2 i h (by omega)
    case measure=>have:=HLJ.out;simp [intOf];omega
  ·have i1:¬(j:Int)<(n:Int):=by omega
   have hjn:j=s.dcs.length:=by have:=HN.out.1;omega
   have HZ:Hid (bV s m=[]/\(ch s m).dcs=s.dcs/\ch s m=s.ended (isR s m.tell)):=by
    have hno:∀r ∈ s.dcs,decide (r.num=m.tell.number)=false:=fun r hr=>by
     obtain ⟨i,hi,rfl⟩:=List.mem_iff_getElem.1 hr
     exact decide_eq_false (G.out.2 i hi (by omega))
    obtain ⟨z1,z2,z3,z4⟩:=HQ.out
    refine ⟨?_,?_,z2⟩
    ·rw [z1,fL s _ _ z4 z3,List.filter_eq_nil_iff.2 fun r hr=>by rw [hno r hr];simp]
     rfl
    ·rw [z2,eN s _ _ z4 z3]
     exact List.filter_eq_self.2 fun r hr=>by rw [hno r hr];rfl
   clear hjn
   go_wp2_with fail
   go_ret
   have hd:=H6.out.2.1.grown G.out.1
   have hl:(aX (endF (isR s m.tell)) s.L s.L.length).length=s.L.length:=bS _ _ _
   refine ⟨_,rfl,by rw [HZ.out.1];exact a_ _ _,⟨.slice ao s.dcs.length cap,?_,?_,hd.lo,hd.gr⟩,aD (aa H6.out.1 G.out.1)⟩
   ·rw [HZ.out.2.2]
    have hb:=hd.blk
    unfold docC at hb ⊢
    show Blk _ k 51 #[_,_,_,_,_,_,_,_,_,_,_,_,_,_,_,_,.int .i64 ((aX (endF (isR s m.tell)) s.L s.L.length).length:Nat)]
    rw [hl]
    exact hb
   ·rw [HZ.out.2.1]
    exact hd.row
variable {s:CS} {w A A':World} {k:Nat} {c:PCfg} {v:Value}
theorem tF (A:World)(o1:Option Addr)(o2 o3:Nat)(a1:Option Addr)(a2 a3:Nat)(m:PMsg)(h:Dm w A k c v s)(hok:Okc s)(ho:Ops A (.slice o1 o2 o3) m.ask.ops)(ha:Seg A (.slice a1 a2 a3) m.tell.answer)(hl:m.tell.answer.length<=140737488355328)(ht:s.tok<=3999999999999992)(hn:hears s m=true)(h1:m.tell.kind=5)(h0:s.ses≠0)(h2:m.tell.session=s.ses):Calls Tryz.prog 16 #[.pointer (some ⟨k,0,none⟩),msgV (.slice o1 o2 o3) (.slice a1 a2 a3) m] A (eF w A k c s m):=by
 have HD:Hid (Dm w A k c v s/\Ops A (.slice o1 o2 o3) m.ask.ops/\Seg A (.slice a1 a2 a3) m.tell.answer/\m.tell.answer.length<=140737488355328/\Okc s/\s.tok<=3999999999999992):=⟨h,ho,ha,hl,hok,ht⟩
 have hq0:=heard hn
 have e3:m.kind=2/\m.client=(s.num:Int)/\okM m=true:=by
  unfold hears at hn
  simp only [Bool.and_eq_true,decide_eq_true_eq] at hn
  exact ⟨hn.1.1,hn.1.2,hn.2⟩
 have hkt:=dF e3.2.2 e3.1
 have hnum:=rz e3.2.2 e3.1 (by omega)
 have HQ:Hid (bV s m=s.rets (isR s m.tell) 2 []/\ch s m=s.ended (isR s m.tell)/\(∀k,isR s m.tell k=decide (m.tell.number=((k+1:Nat):Int)))/\0<m.tell.number):=by
  rw [hq0.1,hq0.2]
  refine ⟨?_,?_,fun k=>?_,by omega⟩
  ·unfold dS
   rw [if_neg (by omega),if_neg (by omega),if_pos h1]
  ·unfold dT
   rw [if_neg (by omega),if_neg (by omega),if_neg (by omega),if_pos h1]
  ·unfold isR
   rw [decide_eq_true h2]
   simp
 have f1:(m.tell.kind==1)=false:=by rw [h1];rfl
 have f2:(s.ses==0)=false:=by rw [beq_eq_false_iff_ne];exact h0
 have f3:(m.tell.session != s.ses)=false:=by simp;exact h2
 have g1:(m.tell.kind==4)=false:=by rw [h1];rfl
 have g2:(m.tell.kind != 3)=true:=by rw [h1];rfl
 have g3:(m.tell.kind != 5)=false:=by rw [h1];rfl
 have g4:(m.tell.kind==5)=true:=by rw [h1];rfl
 clear h1 h0 h2 hnum
 have HE:Hid (okM m=true):=e3.2.2
 obtain ⟨w1,hw1,H1⟩:=al1 A #[.int .i64 m.kind,.int .i64 m.client,.int .i64 m.ask.kind,.int .i64 m.ask.token,.int .i64 m.ask.session,.int .i64 m.ask.number,.int .i64 m.ask.mark,.slice o1 o2 o3,.int .i64 m.tell.kind,.int .i64 m.tell.token,.int .i64 m.tell.session,.int .i64 m.tell.number,.slice a1 a2 a3] 45
 obtain ⟨mb,hmb⟩:∃x,A.heap.size=x:=⟨_,rfl⟩
 rw [hmb] at H1
 have HK:Hid (∀y,w1.grownBy y none->MB y mb (.slice o1 o2 o3) (.slice a1 a2 a3) m/\y.cell? ⟨k,0,none⟩=some (.int .i64 s.num)):=fun y hy=>⟨MB.grown H1.out.1 hy,((h.grown H1.out.2.1).grown hy).blk.cell 0⟩
 have n1:(m.kind != 2)=false:=by simp [e3.1]
 have n2:(m.client != (s.num:Int))=false:=by simp [e3.2.1]
 clear h ho ha hl hok ht hn e3 hkt hq0
 unfold msgV
 go_enter Tryz.func16,Tryz.ntmps16
 go_upto_region 1 with fail
 try rw [hw1]
 try rw [hmb]
 clear hw1 hmb
 refine ag 1000 (fun y=>w1.grownBy y none) (by kernel_rfl) ?_
 have w2G:Hid (A.grownBy w1.drew none/\w1.grownBy w1.drew none):=⟨aa H1.out.2.1 (af _ _),af _ _⟩
 generalize w1.drew=w2 at w2G ⊢
 have J:Idx [0,1,2,3,4,5,6,7,8,9,10,11,12,13,14,15,16,17]:=trivial
 iterate 18 (refine tK J (w2G.out.2) rfl rfl (fun wk hk=>by obtain ⟨hm,k0⟩:=HK.out wk hk;obtain ⟨p0,p1,p2,p3,p4,p5,p6,p7,p8,p9,p10,p11,p12⟩:=MB.cells hm;go_simp;try rfl) ?_;replace J:=J.tl;try simp only [pN])
 refine wO 18 rfl fun K hK=>?_
 go_wp2_with fail
 refine (gJ (.slice o1 o2 o3) (.slice a1 a2 a3) m w2 (HD.out.2.1.grown w2G.out.1) (HD.out.2.2.1.grown w2G.out.1) HD.out.2.2.2.1).mono ?_
 rintro e w3 ⟨rfl,hg⟩
 rw [HE.out]
 have w3G:Hid (A.grownBy w3 none/\w1.grownBy w3 none):=⟨aa w2G.out.1 hg,aa w2G.out.2 hg⟩
 clear hg
 go_wp2_with fail
 refine hK.out _ _ (fun _=>w3G.out.2) ?_
 clear hK K
 try simp only [pN]
 have J:Idx [19,20]:=trivial
 iterate 2 (refine tK J (w3G.out.2) rfl rfl (fun wk hk=>by obtain ⟨hm,k0⟩:=HK.out wk hk;obtain ⟨p0,p1,p2,p3,p4,p5,p6,p7,p8,p9,p10,p11,p12⟩:=MB.cells hm;go_simp;try rfl) ?_;replace J:=J.tl;try simp only [pN])
 refine wD ?_
 refine (‹∀(a:Act) (w:World),Code.wp Tryz.prog _ _ a w->_› _ _ ?_)
 clear n1 n2
 obtain ⟨q0,q1,q2,q3,q4,q5,q6,q7,q8,q9,q10,q11,q12⟩:=MB.cells (HK.out w3 w3G.out.2).1
 clear q0 q1 q2 q3 q4 q5 q6 q7
 go_upto_region 4 with fail
 obtain ⟨w4,hw4,H4⟩:=al1 w3 #[.int .i64 m.tell.kind,.int .i64 m.tell.token,.int .i64 m.tell.session,.int .i64 m.tell.number,.slice a1 a2 a3] 43
 obtain ⟨tb,htb⟩:∃x,w3.heap.size=x:=⟨_,rfl⟩
 try rw [hw4]
 try rw [htb]
 rw [htb] at H4
 clear hw4 htb q8 q9 q10 q11 q12 HK
 have H4G:Hid (A.grownBy w4 none):=aa w3G.out.1 H4.out.2.1
 have HK:Hid (∀y,w4.grownBy y none->y.cell? ⟨tb,0,none⟩=some (.int .i64 m.tell.kind)/\y.cell? ⟨tb,1,none⟩=some (.int .i64 m.tell.token)/\y.cell? ⟨tb,2,none⟩=some (.int .i64 m.tell.session)/\y.cell? ⟨k,11,none⟩=some (.int .i64 s.ses)/\y.cell? ⟨k,12,none⟩=some (.int .i64 s.tok)):=fun y hy=>⟨(H4.out.1.grown hy (by simp)).cell 0,(H4.out.1.grown hy (by simp)).cell 1,(H4.out.1.grown hy (by simp)).cell 2,((HD.out.1.grown H4G.out).grown hy).blk.cell 11,((HD.out.1.grown H4G.out).grown hy).blk.cell 12⟩
 go_upto_region 4 with fail
 refine ag 1000 (fun y=>w4.grownBy y none) (by kernel_rfl) ?_
 have w5G:Hid (w4.grownBy w4.drew none):=af _ _
 generalize w4.drew=w5 at w5G ⊢
 have J:Idx [0,1,2,3]:=trivial
 iterate 4 (refine tK J (w5G.out) rfl rfl (fun wk hk=>by obtain ⟨k0,k1,k2,k3,k4⟩:=HK.out wk hk;go_simp;try rfl) ?_;replace J:=J.tl;try simp only [pN])
 have J:Idx [4,5,6,7,8]:=trivial
 iterate 5 (refine sk J (w5G.out) rfl rfl ?_;replace J:=J.tl;try simp only [pN])
 have J:Idx [9,10]:=trivial
 iterate 2 (refine tK J (w5G.out) rfl rfl (fun wk hk=>by obtain ⟨k0,k1,k2,k3,k4⟩:=HK.out wk hk;go_simp;try rfl) ?_;replace J:=J.tl;try simp only [pN])
 have J:Idx [11,12,13,14,15,16,17]:=trivial
 iterate 7 (refine sk J (w5G.out) rfl rfl ?_;replace J:=J.tl;try simp only [pN])
 have J:Idx [18]:=trivial
 iterate 1 (refine tK J (w5G.out) rfl rfl (fun wk hk=>by obtain ⟨k0,k1,k2,k3,k4⟩:=HK.out wk hk;go_simp;try rfl) ?_;replace J:=J.tl;try simp only [pN])
 refine wD ?_
 refine (‹∀(a:Act) (w:World),Code.wp Tryz.prog _ _ a w->_› _ _ ?_)
 go_upto_region 8 with fail
 refine ag 1000 (fun y=>w4.grownBy y none) (by kernel_rfl) ?_
 have w6G:Hid (w4.grownBy w5.drew none):=aa w5G.out (af _ _)
 generalize w5.drew=w6 at w6G ⊢
 have J:Idx [0,1,2,3,4,5,6,7,8,9,10,11,12,13]:=trivial
 iterate 14 (refine tK J (w6G.out) rfl rfl (fun wk hk=>by obtain ⟨k0,k1,k2,k3,k4⟩:=HK.out wk hk;go_simp;try rfl) ?_;replace J:=J.tl;try simp only [pN])
 refine wD ?_
 refine (‹∀(a:Act) (w:World),Code.wp Tryz.prog _ _ a w->_› _ _ ?_)
 obtain ⟨k0,k1,k2,k3,k4⟩:=HK.out w6 w6G.out
 have hg6:=aa H4G.out w6G.out
 have hd6:=HD.out.1.grown hg6
 obtain ⟨ao,cap,rfl⟩:=hd6.sl
 obtain ⟨n,hn⟩:∃n,s.dcs.length=n:=⟨_,rfl⟩
 have HN:Hid (s.dcs.length=n/\n<=1000000000000):=⟨hn,by have:=eK s;have:=HD.out.2.2.2.2.1.last;omega⟩
 have H6:Hid (A.grownBy w6 none/\Dm w w6 k c (.slice ao s.dcs.length cap) s/\Blk w6 tb 43 #[.int .i64 m.tell.kind,.int .i64 m.tell.token,.int .i64 m.tell.session,.int .i64 m.tell.number,.slice a1 a2 a3]/\Seg w6 (.slice a1 a2 a3) m.tell.answer/\True):=⟨hg6,hd6,H4.out.1.grown w6G.out (by simp),HD.out.2.2.1.grown hg6,trivial⟩
 have c10:w6.cell? ⟨k,10,none⟩=some (.slice ao n cap):=by rw [<-hn];exact hd6.blk.cell 10
 clear hg6 hd6 hn f1 f2 f3
 go_wp2_with fail
 clear k0 k1 k2 k3 k4
 go_loopw [6] (fun q wr=>∃j:Nat,q=.int .i64 (j:Nat)/\j<=n/\Hid (w6.grownBy wr none/\∀i (h:i<s.dcs.length),i<j->s.dcs[i].num≠m.tell.number)) (fun q _=>n-(intOf q).toNat)
 case atStart=>exact ⟨0,rfl,Nat.zero_le _,aj _ _,fun i h hi=>absurd hi (by omega)⟩
 case round =>
  obtain ⟨j,rfl,hj,G⟩:=hrel
  replace c10:=G.out.1.cell c10 (by simp)
  by_cases hlt:j<n
  ·have i1:(j:Int)<(n:Int):=by omega
   have i2:(0:Int)<=(j:Int):=by omega
   have HLJ:Hid (j<n):=hlt
   have d1:IntKind.i64.wrap ((j:Int)+1)=(j:Int)+1:=by have:=HN.out;rw [IntKind.wrap_i64];omega
   have hjl:j<s.dcs.length:=by have:=HN.out.1;omega
   obtain ⟨g,cap',y1,y2,y3,e,q0,q1,q2,q3,q4,q5⟩:=dK H6.out.2.1.row j hjl
   simp at e
   obtain ⟨rfl,rfl⟩:=e
   obtain ⟨x,hx⟩:∃x,s.dcs[j]=x:=⟨_,rfl⟩
   rw [hx] at q0 q1
   have HX:Hid (s.dcs[j]=x):=hx
   have HC:Hid (∀wk,w6.grownBy wk none->wk.cell? ⟨k,10,none⟩=some (.slice (some ⟨g,0,none⟩) n cap)/\wk.cell? ⟨g,j*5,none⟩=some (.int .i64 x.id)/\wk.cell? ⟨g,j*5+1,none⟩=some (.int .i64 x.num)/\wk.cell? ⟨tb,0,none⟩=some (.int .i64 m.tell.kind)/\wk.cell? ⟨tb,3,none⟩=some (.int .i64 m.tell.number)/\wk.cell? ⟨tb,4,none⟩=some (.slice a1 a2 a3)):=fun wk hk=>⟨by rw [<-HN.out.1];exact (H6.out.2.1.grown hk).blk.cell 10,hk.cell q0 (by simp),hk.cell q1 (by simp),(H6.out.2.2.1.grown hk (by simp)).cell 0,(H6.out.2.2.1.grown hk (by simp)).cell 3,(H6.out.2.2.1.grown hk (by simp)).cell 4⟩
   clear q0 q1 q2 q3 q4 q5 hx
   by_cases hxn:x.num=m.tell.number
   ·have HXN:Hid (x.num=m.tell.number):=hxn
    have f1:(x.num==m.tell.number)=true:=by rw [hxn];simp
    clear hxn
    go_upto_region 17 with fail
    clear c10
    refine ag 1000 (fun y=>w6.grownBy y none) (by kernel_rfl) ?_
    have G7:Hid (w6.grownBy wr.drew none):=aa G.out.1 (af _ _)
    generalize wr.drew=w7 at G7 ⊢
    have J:Idx [0,1,2,3,4,5,6,7,8,9,10]:=trivial
    iterate 11 (refine tK J (G7.out) rfl rfl (fun wk hk=>by obtain ⟨k0,k1,k2,k3,k4,k5⟩:=HC.out wk hk;go_simp;try rfl) ?_;replace J:=J.tl;try simp only [pN])
    refine wD ?_
    refine (‹∀(a:Act) (w:World),Code.wp Tryz.prog _ _ a w->_› _ _ ?_)
    clear f1
    go_upto_region 18 with fail
    refine ag 1000 (fun y=>w6.grownBy y none) (by kernel_rfl) ?_
    have G8:Hid (w6.grownBy w7.drew none):=aa G7.out (af _ _)
    generalize w7.drew=w8 at G8 ⊢
    have J:Idx [0,1,2,3,4,5,6,7,8,9]:=trivial
    iterate 10 (refine tK J (G8.out) rfl rfl (fun wk hk=>by obtain ⟨k0,k1,k2,k3,k4,k5⟩:=HC.out wk hk;go_simp;try rfl) ?_;replace J:=J.tl;try simp only [pN])
    refine bX (i:=10) (j:=12) rfl rfl (by kernel_rfl) (by rfl) (by rfl) (fun K hK=>?_) (fun K hK=>?_)
    ·refine gC w8 _ _ rfl w8.heap.size (.slice none 0 0) [] (.slice a1 a2 a3) m.tell.answer rfl rfl (Own.nil _ _) (H6.out.2.2.2.1.grown G8.out) (by have:=HD.out.2.2.2.1;simp;omega) (Nat.le_refl _) ?_
     intro v9 w9 hv9 hg9 _
     have hg9':w8.grownBy w9 none:=hg9
     rw [List.nil_append] at hv9
     obtain ⟨e1,e2,e3,rfl⟩:=bQ hv9
     have G9:Hid (w6.grownBy w9 none/\Disk.Own w9 A.heap.size (.slice e1 e2 e3) m.tell.answer):=⟨aa G8.out hg9',hv9.mono (Nat.le_trans H6.out.1.size G8.out.size)⟩
     clear hv9 hg9 hg9'
     refine hK.out _ _ (fun _=>G9.out.1) ?_
     clear hK K
     try simp only [pN]
     have J:Idx [11]:=trivial
     iterate 1 (refine tK J (G9.out.1) rfl rfl (fun wk hk=>by obtain ⟨k0,k1,k2,k3,k4,k5⟩:=HC.out wk hk;go_simp;try rfl) ?_;replace J:=J.tl;try simp only [pN])
     refine wO 12 rfl fun K hK=>?_
     obtain ⟨wz,hw5,H5⟩:=al1 w9 #[.int .i64 0,.int .i64 0,.slice none 0 0] 78
     obtain ⟨rb,hrb⟩:∃x,w9.heap.size=x:=⟨_,rfl⟩
     rw [hrb] at H5
     have HRB:Hid (w9.heap.size=rb):=hrb
     go_wp2_with fail
     try rw [hw5]
     try rw [hrb]
     clear hw5 hrb
     have HZ9:Hid (w6.grownBy wz none/\Disk.Own wz A.heap.size (.slice e1 e2 e3) m.tell.answer/\Blk wz rb 78 #[.int .i64 0,.int .i64 0,.slice none 0 0]/\A.heap.size<=rb/\w6.heap.size<=rb):=⟨aa G9.out.1 H5.out.2.1,G9.out.2.grown H5.out.2.1,H5.out.1,by have:=HRB.out;have:=H6.out.1.size;have:=G9.out.1.size;omega,by have:=HRB.out;have:=G9.out.1.size;omega⟩
     clear H5 HRB
     refine hK.out _ _ (fun _=>HZ9.out.1) ?_
     clear hK K
     try simp only [pN]
     refine wO 13 rfl fun K hK=>?_
     have r0:wz.cell? ⟨rb,0,none⟩=some (.int .i64 0):=HZ9.out.2.2.1.cell 0
     have r1:wz.cell? ⟨rb,1,none⟩=some (.int .i64 0):=HZ9.out.2.2.1.cell 1
     have r2:wz.cell? ⟨rb,2,none⟩=some (.slice none 0 0):=HZ9.out.2.2.1.cell 2
     have r3:=HZ9.out.2.2.1.free 0
     have r4:=HZ9.out.2.2.1.free 1
     have r5:=HZ9.out.2.2.1.free 2
     go_wp2_with fail
     clear r0 r1 r2 r3 r4 r5
     have HS:Hid (Blk (((wz.setCell ⟨rb,0,none⟩ (.int .i64 x.id)).setCell ⟨rb,1,none⟩ (.int .i64 1)).setCell ⟨rb,2,none⟩ (.slice e1 e2 e3)) rb 78 #[.int .i64 x.id,.int .i64 1,.slice e1 e2 e3]/\wz.grownBy (((wz.setCell ⟨rb,0,none⟩ (.int .i64 x.id)).setCell ⟨rb,1,none⟩ (.int .i64 1)).setCell ⟨rb,2,none⟩ (.slice e1 e2 e3)) (some rb)):=⟨((HZ9.out.2.2.1.store 0 _).store 1 _).store 2 _,aa (ae _ _ _ _) (aa (ae _ _ _ _) (ae _ _ _ _))⟩
     generalize (((wz.setCell ⟨rb,0,none⟩ (.int .i64 x.id)).setCell ⟨rb,1,none⟩ (.int .i64 1)).setCell ⟨rb,2,none⟩ (.slice e1 e2 e3))=wy at HS ⊢
     have HY:Hid (w6.grownBy wy none/\Disk.Own wy A.heap.size (.slice e1 e2 e3) m.tell.answer/\Blk wy rb 78 #[.int .i64 x.id,.int .i64 1,.slice e1 e2 e3]/\A.heap.size<=rb/\w6.heap.size<=rb):=⟨ai HZ9.out.1 HS.out.2 (by intro y hy;have:=HZ9.out.2.2.2.2;simp at hy;omega),aO HZ9.out.2.1 HZ9.out.2.2.1 (by decide) HS.out.2,HS.out.1,HZ9.out.2.2.2.1,HZ9.out.2.2.2.2⟩
     refine hK.out _ _ (fun _=>HY.out.1) ?_
     clear hK K
     try simp only [pN]
     refine wD ?_
     refine (‹∀(a:Act) (w:World),Code.wp Tryz.prog _ _ a w->_› _ _ ?_)
     have t0:wy.cell? ⟨tb,0,none⟩=some (.int .i64 m.tell.kind):=(HC.out wy HY.out.1).2.2.2.1
     have t1:wy.cell? ⟨k,10,none⟩=some (.slice (some ⟨g,0,none⟩) n cap):=(HC.out wy HY.out.1).1
     have t2:wy.cell? ⟨g,j*5,none⟩=some (.int .i64 x.id):=(HC.out wy HY.out.1).2.1
     have r0:wy.cell? ⟨rb,0,none⟩=some (.int .i64 x.id):=HY.out.2.2.1.cell 0
     have r1:wy.cell? ⟨rb,1,none⟩=some (.int .i64 1):=HY.out.2.2.1.cell 1
     have r2:wy.cell? ⟨rb,2,none⟩=some (.slice e1 e2 e3):=HY.out.2.2.1.cell 2
     have r3:=HY.out.2.2.1.free 0
     have r4:=HY.out.2.2.1.free 1
     have r5:=HY.out.2.2.1.free 2
     go_upto_region 21 with fail
     clear t0 t1 t2 r0 r1 r2 r3 r4 r5
     have HS2:Hid (Blk (((wy.setCell ⟨rb,0,none⟩ (.int .i64 x.id)).setCell ⟨rb,1,none⟩ (.int .i64 2)).setCell ⟨rb,2,none⟩ (.slice none 0 0)) rb 78 #[.int .i64 x.id,.int .i64 2,.slice none 0 0]/\wy.grownBy (((wy.setCell ⟨rb,0,none⟩ (.int .i64 x.id)).setCell ⟨rb,1,none⟩ (.int .i64 2)).setCell ⟨rb,2,none⟩ (.slice none 0 0)) (some rb)):=⟨((HY.out.2.2.1.store 0 _).store 1 _).store 2 _,aa (ae _ _ _ _) (aa (ae _ _ _ _) (ae _ _ _ _))⟩
     generalize (((wy.setCell ⟨rb,0,none⟩ (.int .i64 x.id)).setCell ⟨rb,1,none⟩ (.int .i64 2)).setCell ⟨rb,2,none⟩ (.slice none 0 0))=wv at HS2 ⊢
     replace HY:Hid (w6.grownBy wv none/\True/\Blk wv rb 78 #[.int .i64 x.id,.int .i64 2,.slice none 0 0]/\A.heap.size<=rb/\w6.heap.size<=rb):=⟨ai HY.out.1 HS2.out.2 (by intro y hy;have:=HY.out.2.2.2.2;simp at hy;omega),trivial,HS2.out.1,HY.out.2.2.2.1,HY.out.2.2.2.2⟩
     have hrow:=LRow.grown H6.out.2.1.row aR HY.out.1
     rw [HN.out.1] at hrow
     obtain ⟨vs,hp1,hp2⟩:=gm hrow j (by have:=HN.out.1;have:=HLJ.out;omega)
     obtain ⟨off,hsl,hoff⟩:=ic g n cap j (by have:=HLJ.out;omega)
     have HPP:Hid (Part wv g 0 (s.dcs.take j) (vs.take j)/\Part wv g off (s.dcs.drop (j+1)) (vs.drop (j+1))/\(∀w,(Instr.slice 49 (.slice (some ⟨g,0,none⟩) n cap) (some (.int .i64 ((j:Int)+1))) none none).run Tryz.prog w=.ok (.slice (some ⟨g,off,none⟩) (n-(j+1)) (cap-(j+1))) w)/\j<=cap/\(s.dcs.take j).length=j/\(s.dcs.drop (j+1)).length=n-(j+1)):=by
      have hcap:=jc hrow
      have h1:=HLJ.out
      have h2:=HN.out.1
      refine ⟨hp1,?_,hsl,by omega,by rw [List.length_take];omega,by rw [List.length_drop];omega⟩
      by_cases hlast:j+1<n
      ·rw [hoff hlast hcap]
       exact hp2
      ·have e1:s.dcs.drop (j+1)=[]:=List.drop_eq_nil_of_le (by omega)
       have e2:vs.drop (j+1)=[]:=List.eq_nil_of_length_eq_zero (by rw [hp2.len,e1];rfl)
       rw [e1,e2]
       exact ⟨rfl,by simp,fun j hj=>absurd hj (by simp),by simp⟩
     clear hrow hp1 hp2 hsl hoff
     have HYX:Hid (w6.grownBy wv none/\True/\Blk wv rb 78 #[.int .i64 x.id,.int .i64 2,.slice none 0 0]/\True/\True/\wv.grownBy wv none):=⟨HY.out.1,trivial,HY.out.2.2.1,trivial,trivial,aj _ _⟩
     refine ag 18 (fun y=>w6.grownBy y none) (by kernel_rfl) ?_
     have Ga:Hid (w6.grownBy wv.drew none/\wv.grownBy wv.drew none):=⟨aa HYX.out.1 (af _ _),af _ _⟩
     generalize wv.drew=wa at Ga ⊢
     have J:Idx [0,1,2,3,4,5,6,8,9,10,11,12,13,14]:=trivial
     iterate 14 (refine tK J (Ga.out.1) rfl rfl (fun wk hk=>by obtain ⟨k0,k1,k2,k3,k4,k5⟩:=HC.out wk hk;have s1:=ea g n cap j HPP.out.2.2.2.1 wk;have s2:=HPP.out.2.2.1 wk;go_simp;try rfl) ?_;replace J:=J.tl;try simp only [pN])
     refine wO 7 rfl fun K hK=>?_
     have hpa:=HPP.out.1.grown (aa HYX.out.2.2.2.2.2 Ga.out.2)
     refine fm wa _ _ rfl A.heap.size (.slice none 0 0) [] g 0 cap (s.dcs.take j) (vs.take j) rfl (by rw [HPP.out.2.2.2.2.1];rfl) (br _ _) hpa (by have:=HN.out;have:=HLJ.out;have:=HPP.out.2.2.2.2.1;simp;omega) (Nat.le_trans H6.out.1.size Ga.out.1.size) ?_
     intro vb wb hvb hgb hnb
     have hgb':wa.grownBy wb none:=hgb
     rw [List.nil_append] at hvb
     have Gb:Hid (w6.grownBy wb none/\wv.grownBy wb none/\DRow wb A.heap.size vb (s.dcs.take j)):=⟨aa Ga.out.1 hgb',aa Ga.out.2 hgb',hvb⟩
     have HNB:Hid (∀q,vb.ownBlock=some q->w6.heap.size<=q):=fun q hq=>by
      rcases hnb q hq with e | e
      ·simp [Value.ownBlock] at e
      ·have:=Ga.out.1.size;omega
     obtain ⟨b1,b2,rfl⟩:=DRow.shape hvb
     clear hvb hgb hgb' hpa hnb
     refine hK.out _ _ (fun _=>Gb.out.1) ?_
     clear hK K
     try simp only [pN]
     refine wO 15 rfl fun K hK=>?_
     have hpb:=HPP.out.2.1.grown (aa HYX.out.2.2.2.2.2 Gb.out.2.1)
     refine fm wb _ _ rfl A.heap.size (.slice b1 (s.dcs.take j).length b2) (s.dcs.take j) g off (cap-(j+1)) (s.dcs.drop (j+1)) (vs.drop (j+1)) rfl (by rw [HPP.out.2.2.2.2.2];rfl) Gb.out.2.2 hpb (by have:=HN.out;have:=HPP.out.2.2.2.2;omega) (Nat.le_trans H6.out.1.size Gb.out.1.size) ?_
     intro vc wc hvc hgc _
     have Gc:Hid (w6.grownBy wc none/\DRow wc A.heap.size vc (s.dcs.take j ++ s.dcs.drop (j+1))/\Disk.Own wc A.heap.size (.slice none 0 0) []/\Blk wc rb 78 #[.int .i64 x.id,.int .i64 2,.slice none 0 0]):=by
      have h1:=aa HYX.out.2.2.2.2.2 Gb.out.2.1
      have hb:=HYX.out.2.2.1.grown h1 (by simp)
      have ho:Disk.Own wb A.heap.size (.slice none 0 0) []:=Own.nil _ _
      cases e:(Value.slice b1 (s.dcs.take j).length b2).ownBlock with
      | none =>
       rw [e] at hgc
       exact ⟨aa Gb.out.1 hgc,hvc,ho.grown hgc,hb.grown hgc (by simp)⟩
      | some q =>
       have hq:=HNB.out q e
       obtain ⟨_,C,hC⟩:=Gb.out.2.2.blk q e
       rw [e] at hgc
       refine ⟨ai Gb.out.1 hgc (by intro y hy;simp at hy;omega),hvc,aO ho hC (by decide) hgc,hb.grown hgc fun e=>?_⟩
       simp at e
       subst e
       exact absurd (aw hb hC) (by decide)
     obtain ⟨d1',d2',rfl⟩:=DRow.shape hvc
     obtain ⟨N,hNN⟩:∃N,(s.dcs.take j ++ s.dcs.drop (j+1)).length=N:=⟨_,rfl⟩
     rw [hNN] at Gc ⊢
     clear hvc hgc hpb hNN
     refine hK.out _ _ (fun _=>Gc.out.1) ?_
     clear hK K
     try simp only [pN]
     have J:Idx [16,17]:=trivial
     iterate 2 (refine tK J (Gc.out.1) rfl rfl (fun wk hk=>by obtain ⟨k0,k1,k2,k3,k4,k5⟩:=HC.out wk hk;have s1:=ea g n cap j HPP.out.2.2.2.1 wk;have s2:=HPP.out.2.2.1 wk;go_simp;try rfl) ?_;replace J:=J.tl;try simp only [pN])
     refine wO 18 rfl fun K hK=>?_
     have x10:=(HC.out wc Gc.out.1).1
     have hbk:=(H6.out.2.1.grown Gc.out.1).blk
     have f10:=hbk.free 10
     clear hbk
     go_wp2_with fail
     refine hK.out _ _ (fun h=>absurd rfl h) ?_
     clear hK K x10 f10
     try simp only [pN]
     refine wD ?_
     refine (‹∀(a:Act) (w:World),Code.wp Tryz.prog _ _ a w->_› _ _ ?_)
     have HZ:Hid (w6.grownBy wc none/\Blk (wc.setCell ⟨k,10,none⟩ (.slice d1' N d2')) k 51 (docC s c (.slice d1' N d2'))/\DRow (wc.setCell ⟨k,10,none⟩ (.slice d1' N d2')) A.heap.size (.slice d1' N d2') (s.dcs.take j ++ s.dcs.drop (j+1))/\Disk.Own (wc.setCell ⟨k,10,none⟩ (.slice d1' N d2')) A.heap.size (.slice none 0 0) []/\Blk (wc.setCell ⟨k,10,none⟩ (.slice d1' N d2')) rb 78 #[.int .i64 x.id,.int .i64 2,.slice none 0 0]/\wc.grownBy (wc.setCell ⟨k,10,none⟩ (.slice d1' N d2')) (some k)):=by
      have hb:=(H6.out.2.1.grown Gc.out.1).blk
      have hg:=ae wc k 10 (.slice d1' N d2')
      refine ⟨Gc.out.1,hb.store 10 _,LRow.set Gc.out.2.1 aR hb (by decide) (by decide) hg,aO Gc.out.2.2.1 hb (by decide) hg,Gc.out.2.2.2.grown hg fun e=>?_,hg⟩
      simp at e
      subst e
      exact absurd (aw hb Gc.out.2.2.2) (by decide)
     generalize wc.setCell ⟨k,10,none⟩ (.slice d1' N d2')=wf at HZ ⊢
     have u0:wf.cell? ⟨rb,0,none⟩=some (.int .i64 x.id):=HZ.out.2.2.2.2.1.cell 0
     have u1:wf.cell? ⟨rb,1,none⟩=some (.int .i64 2):=HZ.out.2.2.2.2.1.cell 1
     have u2:wf.cell? ⟨rb,2,none⟩=some (.slice none 0 0):=HZ.out.2.2.2.2.1.cell 2
     obtain ⟨wl,hwl,HL⟩:=al1 wf #[.int .i64 x.id,.int .i64 2,.slice none 0 0] 78
     obtain ⟨gl,hgl⟩:∃x,wf.heap.size=x:=⟨_,rfl⟩
     rw [hgl] at HL
     have HGL:Hid (wf.heap.size=gl):=hgl
     go_wp2_with fail
     try rw [hwl]
     try rw [hgl]
     clear hwl hgl
     go_ret
     obtain ⟨z1,z2,z3,z4⟩:=HQ.out
     have hjl:j<s.dcs.length:=by have:=HN.out.1;have:=HLJ.out;omega
     have hxx:s.dcs[j]=x:=HX.out
     obtain ⟨sp1,sp2⟩:=ib z4 hjl (by rw [hxx];exact HXN.out)
     have hd6:=H6.out.2.1
     have hl:(aX (endF (isR s m.tell)) s.L s.L.length).length=s.L.length:=bS _ _ _
     have hgz:w.grownBy wf none:=ai (aa hd6.gr HZ.out.1) HZ.out.2.2.2.2.2 (by intro y hy;have:=hd6.lo;simp at hy;omega)
     refine ⟨_,rfl,?_,⟨.slice d1' N d2',?_,?_,hd6.lo,aa hgz HL.out.2.1⟩,?_⟩
     ·rw [z1,fL s _ _ z4 z3,sp2,hxx]
      have hgA:A.heap.size<=gl:=by have:=HGL.out;have:=HZ.out.1.size;have:=H6.out.1.size;have:=HZ.out.2.2.2.2.2.size;omega
      refine ⟨[[.int .i64 x.id,.int .i64 2,.slice none 0 0]],⟨rfl,.inr ⟨gl,1,_,rfl,hgA,HL.out.1,Nat.le_refl _,by decide,rfl,rfl⟩⟩,rfl,by simp,fun i hi hi'=>?_⟩
      have:i=0:=by simp at hi;omega
      subst this
      exact ⟨_,rfl,HZ.out.2.2.2.1.grown HL.out.2.1⟩
     ·rw [z2]
      have hb:=HZ.out.2.1.grown HL.out.2.1 (by simp)
      unfold docC at hb ⊢
      show Blk _ k 51 #[_,_,_,_,_,_,_,_,_,_,_,_,_,_,_,_,.int .i64 ((aX (endF (isR s m.tell)) s.L s.L.length).length:Nat)]
      rw [hl]
      exact hb
     ·rw [z2,eN s _ _ z4 z3,sp1]
      exact (LRow.grown HZ.out.2.2.1 aR HL.out.2.1).mono HD.out.1.gr.size
     ·exact aL (aD (aa H6.out.1 HZ.out.1)) (aL (bI (H6.out.2.1.grown HZ.out.1).blk (.inl rfl) HZ.out.2.2.2.2.2) (aD HL.out.2.1))
    ·obtain ⟨w9,hw5,H5⟩:=al1 w8 #[.int .i64 0,.int .i64 0,.slice none 0 0] 78
     obtain ⟨rb,hrb⟩:∃x,w8.heap.size=x:=⟨_,rfl⟩
     rw [hrb] at H5
     have HRB:Hid (w8.heap.size=rb):=hrb
     go_wp2_with fail
     try rw [hw5]
     try rw [hrb]
     clear hw5 hrb
     have G9:Hid (w6.grownBy w9 none/\Blk w9 rb 78 #[.int .i64 0,.int .i64 0,.slice none 0 0]/\A.heap.size<=rb/\w6.heap.size<=rb):=⟨aa G8.out H5.out.2.1,H5.out.1,by have:=HRB.out;have:=H6.out.1.size;have:=G8.out.size;omega,by have:=HRB.out;have:=G8.out.size;omega⟩
     clear H5 HRB
     refine hK.out _ _ (fun _=>G9.out.1) ?_
     clear hK K
     try simp only [pN]
     refine wO 10 rfl fun K hK=>?_
     refine gC w9 _ _ rfl w9.heap.size (.slice none 0 0) [] (.slice a1 a2 a3) m.tell.answer rfl rfl (Own.nil _ _) (H6.out.2.2.2.1.grown G9.out.1) (by have:=HD.out.2.2.2.1;simp;omega) (Nat.le_refl _) ?_
     intro v9 wz hv9 hg9 _
     have hg9':w9.grownBy wz none:=hg9
     rw [List.nil_append] at hv9
     obtain ⟨e1,e2,e3,rfl⟩:=bQ hv9
     have HZ9:Hid (w6.grownBy wz none/\Disk.Own wz A.heap.size (.slice e1 e2 e3) m.tell.answer/\Blk wz rb 78 #[.int .i64 0,.int .i64 0,.slice none 0 0]/\A.heap.size<=rb/\w6.heap.size<=rb):=⟨aa G9.out.1 hg9',hv9.mono (Nat.le_trans H6.out.1.size G9.out.1.size),G9.out.2.1.grown hg9' (by simp),G9.out.2.2.1,G9.out.2.2.2⟩
     clear hv9 hg9 hg9'
     refine hK.out _ _ (fun _=>HZ9.out.1) ?_
     clear hK K
     try simp only [pN]
     have J:Idx [11]:=trivial
     iterate 1 (refine tK J (HZ9.out.1) rfl rfl (fun wk hk=>by obtain ⟨k0,k1,k2,k3,k4,k5⟩:=HC.out wk hk;go_simp;try rfl) ?_;replace J:=J.tl;try simp only [pN])
     refine wO 13 rfl fun K hK=>?_
     have r0:wz.cell? ⟨rb,0,none⟩=some (.int .i64 0):=HZ9.out.2.2.1.cell 0
     have r1:wz.cell? ⟨rb,1,none⟩=some (.int .i64 0):=HZ9.out.2.2.1.cell 1
     have r2:wz.cell? ⟨rb,2,none⟩=some (.slice none 0 0):=HZ9.out.2.2.1.cell 2
     have r3:=HZ9.out.2.2.1.free 0
     have r4:=HZ9.out.2.2.1.free 1
     have r5:=HZ9.out.2.2.1.free 2
     go_wp2_with fail
     clear r0 r1 r2 r3 r4 r5
     have HS:Hid (Blk (((wz.setCell ⟨rb,0,none⟩ (.int .i64 x.id)).setCell ⟨rb,1,none⟩ (.int .i64 1)).setCell ⟨rb,2,none⟩ (.slice e1 e2 e3)) rb 78 #[.int .i64 x.id,.int .i64 1,.slice e1 e2 e3]/\wz.grownBy (((wz.setCell ⟨rb,0,none⟩ (.int .i64 x.id)).setCell ⟨rb,1,none⟩ (.int .i64 1)).setCell ⟨rb,2,none⟩ (.slice e1 e2 e3)) (some rb)):=⟨((HZ9.out.2.2.1.store 0 _).store 1 _).store 2 _,aa (ae _ _ _ _) (aa (ae _ _ _ _) (ae _ _ _ _))⟩
     generalize (((wz.setCell ⟨rb,0,none⟩ (.int .i64 x.id)).setCell ⟨rb,1,none⟩ (.int .i64 1)).setCell ⟨rb,2,none⟩ (.slice e1 e2 e3))=wy at HS ⊢
     have HY:Hid (w6.grownBy wy none/\Disk.Own wy A.heap.size (.slice e1 e2 e3) m.tell.answer/\Blk wy rb 78 #[.int .i64 x.id,.int .i64 1,.slice e1 e2 e3]/\A.heap.size<=rb/\w6.heap.size<=rb):=⟨ai HZ9.out.1 HS.out.2 (by intro y hy;have:=HZ9.out.2.2.2.2;simp at hy;omega),aO HZ9.out.2.1 HZ9.out.2.2.1 (by decide) HS.out.2,HS.out.1,HZ9.out.2.2.2.1,HZ9.out.2.2.2.2⟩
     refine hK.out _ _ (fun _=>HY.out.1) ?_
     clear hK K
     try simp only [pN]
     refine wD ?_
     refine (‹∀(a:Act) (w:World),Code.wp Tryz.prog _ _ a w->_› _ _ ?_)
     have t0:wy.cell? ⟨tb,0,none⟩=some (.int .i64 m.tell.kind):=(HC.out wy HY.out.1).2.2.2.1
     have t1:wy.cell? ⟨k,10,none⟩=some (.slice (some ⟨g,0,none⟩) n cap):=(HC.out wy HY.out.1).1
     have t2:wy.cell? ⟨g,j*5,none⟩=some (.int .i64 x.id):=(HC.out wy HY.out.1).2.1
     have r0:wy.cell? ⟨rb,0,none⟩=some (.int .i64 x.id):=HY.out.2.2.1.cell 0
     have r1:wy.cell? ⟨rb,1,none⟩=some (.int .i64 1):=HY.out.2.2.1.cell 1
     have r2:wy.cell? ⟨rb,2,none⟩=some (.slice e1 e2 e3):=HY.out.2.2.1.cell 2
     have r3:=HY.out.2.2.1.free 0
     have r4:=HY.out.2.2.1.free 1
     have r5:=HY.out.2.2.1.free 2
     go_upto_region 21 with fail
     clear t0 t1 t2 r0 r1 r2 r3 r4 r5
     have HS2:Hid (Blk (((wy.setCell ⟨rb,0,none⟩ (.int .i64 x.id)).setCell ⟨rb,1,none⟩ (.int .i64 2)).setCell ⟨rb,2,none⟩ (.slice none 0 0)) rb 78 #[.int .i64 x.id,.int .i64 2,.slice none 0 0]/\wy.grownBy (((wy.setCell ⟨rb,0,none⟩ (.int .i64 x.id)).setCell ⟨rb,1,none⟩ (.int .i64 2)).setCell ⟨rb,2,none⟩ (.slice none 0 0)) (some rb)):=⟨((HY.out.2.2.1.store 0 _).store 1 _).store 2 _,aa (ae _ _ _ _) (aa (ae _ _ _ _) (ae _ _ _ _))⟩
     generalize (((wy.setCell ⟨rb,0,none⟩ (.int .i64 x.id)).setCell ⟨rb,1,none⟩ (.int .i64 2)).setCell ⟨rb,2,none⟩ (.slice none 0 0))=wv at HS2 ⊢
     replace HY:Hid (w6.grownBy wv none/\True/\Blk wv rb 78 #[.int .i64 x.id,.int .i64 2,.slice none 0 0]/\A.heap.size<=rb/\w6.heap.size<=rb):=⟨ai HY.out.1 HS2.out.2 (by intro y hy;have:=HY.out.2.2.2.2;simp at hy;omega),trivial,HS2.out.1,HY.out.2.2.2.1,HY.out.2.2.2.2⟩
     have hrow:=LRow.grown H6.out.2.1.row aR HY.out.1
     rw [HN.out.1] at hrow
     obtain ⟨vs,hp1,hp2⟩:=gm hrow j (by have:=HN.out.1;have:=HLJ.out;omega)
     obtain ⟨off,hsl,hoff⟩:=ic g n cap j (by have:=HLJ.out;omega)
     have HPP:Hid (Part wv g 0 (s.dcs.take j) (vs.take j)/\Part wv g off (s.dcs.drop (j+1)) (vs.drop (j+1))/\(∀w,(Instr.slice 49 (.slice (some ⟨g,0,none⟩) n cap) (some (.int .i64 ((j:Int)+1))) none none).run Tryz.prog w=.ok (.slice (some ⟨g,off,none⟩) (n-(j+1)) (cap-(j+1))) w)/\j<=cap/\(s.dcs.take j).length=j/\(s.dcs.drop (j+1)).length=n-(j+1)):=by
      have hcap:=jc hrow
      have h1:=HLJ.out
      have h2:=HN.out.1
      refine ⟨hp1,?_,hsl,by omega,by rw [List.length_take];omega,by rw [List.length_drop];omega⟩
      by_cases hlast:j+1<n
      ·rw [hoff hlast hcap]
       exact hp2
      ·have e1:s.dcs.drop (j+1)=[]:=List.drop_eq_nil_of_le (by omega)
       have e2:vs.drop (j+1)=[]:=List.eq_nil_of_length_eq_zero (by rw [hp2.len,e1];rfl)
       rw [e1,e2]
       exact ⟨rfl,by simp,fun j hj=>absurd hj (by simp),by simp⟩
     clear hrow hp1 hp2 hsl hoff
     have HYX:Hid (w6.grownBy wv none/\True/\Blk wv rb 78 #[.int .i64 x.id,.int .i64 2,.slice none 0 0]/\True/\True/\wv.grownBy wv none):=⟨HY.out.1,trivial,HY.out.2.2.1,trivial,trivial,aj _ _⟩
     refine ag 18 (fun y=>w6.grownBy y none) (by kernel_rfl) ?_
     have Ga:Hid (w6.grownBy wv.drew none/\wv.grownBy wv.drew none):=⟨aa HYX.out.1 (af _ _),af _ _⟩
     generalize wv.drew=wa at Ga ⊢
     have J:Idx [0,1,2,3,4,5,6,8,9,10,11,12,13,14]:=trivial
     iterate 14 (refine tK J (Ga.out.1) rfl rfl (fun wk hk=>by obtain ⟨k0,k1,k2,k3,k4,k5⟩:=HC.out wk hk;have s1:=ea g n cap j HPP.out.2.2.2.1 wk;have s2:=HPP.out.2.2.1 wk;go_simp;try rfl) ?_;replace J:=J.tl;try simp only [pN])
     refine wO 7 rfl fun K hK=>?_
     have hpa:=HPP.out.1.grown (aa HYX.out.2.2.2.2.2 Ga.out.2)
     refine fm wa _ _ rfl A.heap.size (.slice none 0 0) [] g 0 cap (s.dcs.take j) (vs.take j) rfl (by rw [HPP.out.2.2.2.2.1];rfl) (br _ _) hpa (by have:=HN.out;have:=HLJ.out;have:=HPP.out.2.2.2.2.1;simp;omega) (Nat.le_trans H6.out.1.size Ga.out.1.size) ?_
     intro vb wb hvb hgb hnb
     have hgb':wa.grownBy wb none:=hgb
     rw [List.nil_append] at hvb
     have Gb:Hid (w6.grownBy wb none/\wv.grownBy wb none/\DRow wb A.heap.size vb (s.dcs.take j)):=⟨aa Ga.out.1 hgb',aa Ga.out.2 hgb',hvb⟩
     have HNB:Hid (∀q,vb.ownBlock=some q->w6.heap.size<=q):=fun q hq=>by
      rcases hnb q hq with e | e
      ·simp [Value.ownBlock] at e
      ·have:=Ga.out.1.size;omega
     obtain ⟨b1,b2,rfl⟩:=DRow.shape hvb
     clear hvb hgb hgb' hpa hnb
     refine hK.out _ _ (fun _=>Gb.out.1) ?_
     clear hK K
     try simp only [pN]
     refine wO 15 rfl fun K hK=>?_
     have hpb:=HPP.out.2.1.grown (aa HYX.out.2.2.2.2.2 Gb.out.2.1)
     refine fm wb _ _ rfl A.heap.size (.slice b1 (s.dcs.take j).length b2) (s.dcs.take j) g off (cap-(j+1)) (s.dcs.drop (j+1)) (vs.drop (j+1)) rfl (by rw [HPP.out.2.2.2.2.2];rfl) Gb.out.2.2 hpb (by have:=HN.out;have:=HPP.out.2.2.2.2;omega) (Nat.le_trans H6.out.1.size Gb.out.1.size) ?_
     intro vc wc hvc hgc _
     have Gc:Hid (w6.grownBy wc none/\DRow wc A.heap.size vc (s.dcs.take j ++ s.dcs.drop (j+1))/\Disk.Own wc A.heap.size (.slice none 0 0) []/\Blk wc rb 78 #[.int .i64 x.id,.int .i64 2,.slice none 0 0]):=by
      have h1:=aa HYX.out.2.2.2.2.2 Gb.out.2.1
      have hb:=HYX.out.2.2.1.grown h1 (by simp)
      have ho:Disk.Own wb A.heap.size (.slice none 0 0) []:=Own.nil _ _
      cases e:(Value.slice b1 (s.dcs.take j).length b2).ownBlock with
      | none =>
       rw [e] at hgc
       exact ⟨aa Gb.out.1 hgc,hvc,ho.grown hgc,hb.grown hgc (by simp)⟩
      | some q =>
       have hq:=HNB.out q e
       obtain ⟨_,C,hC⟩:=Gb.out.2.2.blk q e
       rw [e] at hgc
       refine ⟨ai Gb.out.1 hgc (by intro y hy;simp at hy;omega),hvc,aO ho hC (by decide) hgc,hb.grown hgc fun e=>?_⟩
       simp at e
       subst e
       exact absurd (aw hb hC) (by decide)
     obtain ⟨d1',d2',rfl⟩:=DRow.shape hvc
     obtain ⟨N,hNN⟩:∃N,(s.dcs.take j ++ s.dcs.drop (j+1)).length=N:=⟨_,rfl⟩
     rw [hNN] at Gc ⊢
     clear hvc hgc hpb hNN
     refine hK.out _ _ (fun _=>Gc.out.1) ?_
     clear hK K
     try simp only [pN]
     have J:Idx [16,17]:=trivial
     iterate 2 (refine tK J (Gc.out.1) rfl rfl (fun wk hk=>by obtain ⟨k0,k1,k2,k3,k4,k5⟩:=HC.out wk hk;have s1:=ea g n cap j HPP.out.2.2.2.1 wk;have s2:=HPP.out.2.2.1 wk;go_simp;try rfl) ?_;replace J:=J.tl;try simp only [pN])
     refine wO 18 rfl fun K hK=>?_
     have x10:=(HC.out wc Gc.out.1).1
     have hbk:=(H6.out.2.1.grown Gc.out.1).blk
     have f10:=hbk.free 10
     clear hbk
     go_wp2_with fail
     refine hK.out _ _ (fun h=>absurd rfl h) ?_
     clear hK K x10 f10
     try simp only [pN]
     refine wD ?_
     refine (‹∀(a:Act) (w:World),Code.wp Tryz.prog _ _ a w->_› _ _ ?_)
     have HZ:Hid (w6.grownBy wc none/\Blk (wc.setCell ⟨k,10,none⟩ (.slice d1' N d2')) k 51 (docC s c (.slice d1' N d2'))/\DRow (wc.setCell ⟨k,10,none⟩ (.slice d1' N d2')) A.heap.size (.slice d1' N d2') (s.dcs.take j ++ s.dcs.drop (j+1))/\Disk.Own (wc.setCell ⟨k,10,none⟩ (.slice d1' N d2')) A.heap.size (.slice none 0 0) []/\Blk (wc.setCell ⟨k,10,none⟩ (.slice d1' N d2')) rb 78 #[.int .i64 x.id,.int .i64 2,.slice none 0 0]/\wc.grownBy (wc.setCell ⟨k,10,none⟩ (.slice d1' N d2')) (some k)):=by
      have hb:=(H6.out.2.1.grown Gc.out.1).blk
      have hg:=ae wc k 10 (.slice d1' N d2')
      refine ⟨Gc.out.1,hb.store 10 _,LRow.set Gc.out.2.1 aR hb (by decide) (by decide) hg,aO Gc.out.2.2.1 hb (by decide) hg,Gc.out.2.2.2.grown hg fun e=>?_,hg⟩
      simp at e
      subst e
      exact absurd (aw hb Gc.out.2.2.2) (by decide)
     generalize wc.setCell ⟨k,10,none⟩ (.slice d1' N d2')=wf at HZ ⊢
     have u0:wf.cell? ⟨rb,0,none⟩=some (.int .i64 x.id):=HZ.out.2.2.2.2.1.cell 0
     have u1:wf.cell? ⟨rb,1,none⟩=some (.int .i64 2):=HZ.out.2.2.2.2.1.cell 1
     have u2:wf.cell? ⟨rb,2,none⟩=some (.slice none 0 0):=HZ.out.2.2.2.2.1.cell 2
     obtain ⟨wl,hwl,HL⟩:=al1 wf #[.int .i64 x.id,.int .i64 2,.slice none 0 0] 78
     obtain ⟨gl,hgl⟩:∃x,wf.heap.size=x:=⟨_,rfl⟩
     rw [hgl] at HL
     have HGL:Hid (wf.heap.size=gl):=hgl
     go_wp2_with fail
     try rw [hwl]
     try rw [hgl]
     clear hwl hgl
     go_ret
     obtain ⟨z1,z2,z3,z4⟩:=HQ.out
     have hjl:j<s.dcs.length:=by have:=HN.out.1;have:=HLJ.out;omega
     have hxx:s.dcs[j]=x:=HX.out
     obtain ⟨sp1,sp2⟩:=ib z4 hjl (by rw [hxx];exact HXN.out)
     have hd6:=H6.out.2.1
     have hl:(aX (endF (isR s m.tell)) s.L s.L.length).length=s.L.length:=bS _ _ _
     have hgz:w.grownBy wf none:=ai (aa hd6.gr HZ.out.1) HZ.out.2.2.2.2.2 (by intro y hy;have:=hd6.lo;simp at hy;omega)
     refine ⟨_,rfl,?_,⟨.slice d1' N d2',?_,?_,hd6.lo,aa hgz HL.out.2.1⟩,?_⟩
     ·rw [z1,fL s _ _ z4 z3,sp2,hxx]
      have hgA:A.heap.size<=gl:=by have:=HGL.out;have:=HZ.out.1.size;have:=H6.out.1.size;have:=HZ.out.2.2.2.2.2.size;omega
      refine ⟨[[.int .i64 x.id,.int .i64 2,.slice none 0 0]],⟨rfl,.inr ⟨gl,1,_,rfl,hgA,HL.out.1,Nat.le_refl _,by decide,rfl,rfl⟩⟩,rfl,by simp,fun i hi hi'=>?_⟩
      have:i=0:=by simp at hi;omega
      subst this
      exact ⟨_,rfl,HZ.out.2.2.2.1.grown HL.out.2.1⟩
     ·rw [z2]
      have hb:=HZ.out.2.1.grown HL.out.2.1 (by simp)
      unfold docC at hb ⊢
      show Blk _ k 51 #[_,_,_,_,_,_,_,_,_,_,_,_,_,_,_,_,.int .i64 ((aX (endF (isR s m.tell)) s.L s.L.length).length:Nat)]
      rw [hl]
      exact hb
     ·rw [z2,eN s _ _ z4 z3,sp1]
      exact (LRow.grown HZ.out.2.2.1 aR HL.out.2.1).mono HD.out.1.gr.size
     ·exact aL (aD (aa H6.out.1 HZ.out.1)) (aL (bI (H6.out.2.1.grown HZ.out.1).blk (.inl rfl) HZ.out.2.2.2.2.2) (aD HL.out.2.1))
   ·have HXN:Hid (x.num≠m.tell.number):=hxn
    have f1:(x.num==m.tell.number)=false:=by rw [beq_eq_false_iff_ne];exact hxn
    clear hxn
    go_upto_region 17 with fail
    clear c10
    refine ag 1000 (fun y=>w6.grownBy y none) (by kernel_rfl) ?_
    have G7:Hid (w6.grownBy wr.drew none):=aa G.out.1 (af _ _)
    generalize wr.drew=w7 at G7 ⊢
    have J:Idx [0,1,2,3,4,5,6,7,8,9,10]:=trivial
    iterate 11 (refine tK J (G7.out) rfl rfl (fun wk hk=>by obtain ⟨k0,k1,k2,k3,k4,k5⟩:=HC.out wk hk;go_simp;try rfl) ?_;replace J:=J.tl;try simp only [pN])
    refine wD ?_
    refine (‹∀(a:Act) (w:World),Code.wp Tryz.prog _ _ a w->_› _ _ ?_)
    go_wp2_with fail
    go_roundw
    case rel =>
     refine ⟨j+1,by go_num,by have:=HLJ.out;omega,G7.out,fun i h hi=>?_⟩
     by_cases e:i=j
     ·subst e
      rw [HX.out]
      exact HXN.out
     ·exact G.out.2 i h (by omega)
    case measure=>have:=HLJ.out;simp [intOf];omega
  ·have i1:¬(j:Int)<(n:Int):=by omega
   have hjn:j=s.dcs.length:=by have:=HN.out.1;omega
   have HZ:Hid (bV s m=[]/\(ch s m).dcs=s.dcs/\ch s m=s.ended (isR s m.tell)):=by
    have hno:∀r ∈ s.dcs,decide (r.num=m.tell.number)=false:=fun r hr=>by
     obtain ⟨i,hi,rfl⟩:=List.mem_iff_getElem.1 hr
     exact decide_eq_false (G.out.2 i hi (by omega))
    obtain ⟨z1,z2,z3,z4⟩:=HQ.out
    refine ⟨?_,?_,z2⟩
    ·rw [z1,fL s _ _ z4 z3,List.filter_eq_nil_iff.2 fun r hr=>by rw [hno r hr];simp]
     rfl
    ·rw [z2,eN s _ _ z4 z3]
     exact List.filter_eq_self.2 fun r hr=>by rw [hno r hr];rfl
   clear hjn
   go_wp2_with fail
   go_ret
   have hd:=H6.out.2.1.grown G.out.1
   have hl:(aX (endF (isR s m.tell)) s.L s.L.length).length=s.L.length:=bS _ _ _
   refine ⟨_,rfl,by rw [HZ.out.1];exact a_ _ _,⟨.slice ao s.dcs.length cap,?_,?_,hd.lo,hd.gr⟩,aD (aa H6.out.1 G.out.1)⟩
   ·rw [HZ.out.2.2]
    have hb:=hd.blk
    unfold docC at hb ⊢
    show Blk _ k 51 #[_,_,_,_,_,_,_,_,_,_,_,_,_,_,_,_,.int .i64 ((aX (endF (isR s m.tell)) s.L s.L.length).length:Nat)]
    rw [hl]
    exact hb
   ·rw [HZ.out.2.1]
    exact hd.row
variable {s:CS}
theorem iG {β:Type}{g:Nat->Cr->List β}{L M:List (Option Cr)}:∀k,(∀i,i<k->L[i]? = M[i]?)->gather g L k=gather g M k
 | 0,_=>rfl
 | k+1,h=>by
  rw [gather,gather,iG k fun i hi=>h i (by omega),h k (by omega)]
def CS.gv (s:CS)(j:Nat):CS:=⟨s.num,s.size,s.most,s.tmo,s.tok,s.asked,s.askAt,s.ses,s.L ++ (s.wt.take j).map some,s.wt.drop j,s.last,s.now⟩
theorem rA (s:CS):s.gv 0=s:=by cases s;simp [CS.gv]
theorem rB (s:CS)(j:Nat):lead (s.gv j).L=lead s.L:=l8 _ _
theorem gK {j:Nat}(hj:j<=s.wt.length):(s.gv j).L.length=s.L.length+j:=by
 simp [CS.gv]
 omega
theorem Okc.gv (h:Okc s)(h0:1<=s.ses)(j:Nat):Okc (s.gv j):=by
 have mem:∀c,(some c ∈ (s.gv j).L\/c ∈ (s.gv j).wt)->some c ∈ s.L\/c ∈ s.wt:=fun c h=>by
  rcases h with h | h
  ·simp [CS.gv] at h
   rcases h with h | h
   ·exact .inl h
   ·have h2:=List.mem_of_mem_take h
    simp at h2
    exact .inr h2
  ·exact .inr (List.mem_of_mem_drop h)
 refine ⟨h.num,h.size,h.most,h.tmo,h.tok,h.askAt,h.ses,fun e=>?_,?_,h.now,?_,fun c hc=>h.call c (mem c hc),fun c hc=>h.wait c (List.mem_of_mem_drop hc)⟩
 ·have:s.ses=0:=e
  omega
 ·have:=h.last
  simp [CS.gv]
  omega
 ·have:=h.few
  have e:=l_ s.L (s.wt.take j)
  simp only [CS.gv] at e ⊢
  rw [e,List.length_take,List.length_drop]
  omega
def CS.n0 (s:CS):Nat:=(gather numG s.L s.L.length).length
theorem iH (s:CS):s.dcs.length=s.n0+s.wt.length:=by unfold CS.dcs CS.n0;rw [List.length_append,List.length_map]
theorem np {j:Nat}(hj:j<=s.wt.length):(gather numG (s.gv j).L (s.gv j).L.length).length=s.n0+j:=by
 induction j with
 | zero=>rw [rA];rfl
 | succ j ih =>
  have ih:=ih (by omega)
  rw [gK hj,<-Nat.add_assoc,gather]
  rw [gK (by omega)] at ih
  have e1:gather numG (s.gv (j+1)).L (s.L.length+j)=gather numG (s.gv j).L (s.L.length+j):=by
   refine iG _ fun i hi=>?_
   simp only [CS.gv]
   by_cases h:i<s.L.length
   ·rw [List.getElem?_append_left h,List.getElem?_append_left h]
   ·rw [List.getElem?_append_right (by omega),List.getElem?_append_right (by omega),List.getElem?_map,List.getElem?_map,List.getElem?_take,List.getElem?_take,if_pos (by omega),if_pos (by omega)]
  have e2:(s.gv (j+1)).L[s.L.length+j]? = some (some (s.wt[j]'(by omega))):=by
   simp only [CS.gv]
   rw [List.getElem?_append_right (by omega),List.getElem?_map,List.getElem?_take,if_pos (by omega)]
   simp
  rw [e2,List.length_append,e1,ih]
  simp [numG]
  omega
theorem BD {j:Nat}(hj:j<s.wt.length):∃P,(s.gv j).dcs=P ++ (cG (s.wt[j]'hj) :: (s.wt.drop (j+1)).map cG)/\P.length=s.n0+j/\(s.gv (j+1)).dcs=P ++ (⟨(s.wt[j]'hj).id,((s.L.length+j+1:Nat):Int),(s.wt[j]'hj).tm,(s.wt[j]'hj).was,(s.wt[j]'hj).ops⟩ :: (s.wt.drop (j+1)).map cG):=by
 refine ⟨gather numG (s.gv j).L (s.gv j).L.length,?_,np (by omega),?_⟩
 ·unfold CS.dcs
  congr 1
  show (s.wt.drop j).map cG=_
  rw [List.drop_eq_getElem_cons hj]
  rfl
 ·unfold CS.dcs
  rw [gK (by omega),gK (by omega),<-Nat.add_assoc,gather]
  have e1:gather numG (s.gv (j+1)).L (s.L.length+j)=gather numG (s.gv j).L (s.L.length+j):=by
   refine iG _ fun i hi=>?_
   simp only [CS.gv]
   by_cases h:i<s.L.length
   ·rw [List.getElem?_append_left h,List.getElem?_append_left h]
   ·rw [List.getElem?_append_right (by omega),List.getElem?_append_right (by omega),List.getElem?_map,List.getElem?_map,List.getElem?_take,List.getElem?_take,if_pos (by omega),if_pos (by omega)]
  have e2:(s.gv (j+1)).L[s.L.length+j]? = some (some (s.wt[j]'hj)):=by
   simp only [CS.gv]
   rw [List.getElem?_append_right (by omega),List.getElem?_map,List.getElem?_take,if_pos (by omega)]
   simp
  rw [e1,e2,List.append_assoc]
  rfl
theorem zo {j:Nat}(hj:j<s.wt.length)(hw:(s.wt[j]'hj).was=false/\(s.wt[j]'hj).tm=0):∃h:s.n0+j<(s.gv j).dcs.length,(s.gv j).dcs[s.n0+j].num=0/\(s.gv (j+1)).dcs=(s.gv j).dcs.set (s.n0+j) ⟨(s.gv j).dcs[s.n0+j].id,((s.L.length+j+1:Nat):Int),(s.gv j).dcs[s.n0+j].tm,(s.gv j).dcs[s.n0+j].was,(s.gv j).dcs[s.n0+j].ops⟩:=by
 obtain ⟨P,h1,h2,h3⟩:=BD hj
 have hl:s.n0+j<(s.gv j).dcs.length:=by rw [h1,List.length_append,h2];simp
 have hx:(s.gv j).dcs[s.n0+j]=cG (s.wt[j]'hj):=by
  have:(s.gv j).dcs[s.n0+j]? = some (cG (s.wt[j]'hj)):=by rw [h1,List.getElem?_append_right (by omega),h2];simp
  rw [List.getElem?_eq_getElem hl] at this
  exact Option.some.inj this
 refine ⟨hl,by rw [hx];rfl,?_⟩
 rw [hx,h3,h1,<-h2,List.set_append_right _ _ (Nat.le_refl _),Nat.sub_self,List.set_cons_zero]
 simp only [cG,hw.1,hw.2]
theorem BE {j i:Nat}(hj:j<=s.wt.length)(hi:i<(s.gv j).dcs.length):(s.n0+j<=i->(s.gv j).dcs[i].num=0)/\(i<s.n0+j->0<(s.gv j).dcs[i].num):=by
 have hn:=np hj
 have e:(s.gv j).dcs=gather numG (s.gv j).L (s.gv j).L.length ++ ((s.wt.drop j).map cG):=rfl
 refine ⟨fun h=>?_,fun h=>?_⟩
 ·have:(s.gv j).dcs[i] ∈ (s.wt.drop j).map cG:=by
   have h1:(gather numG (s.gv j).L (s.gv j).L.length ++ ((s.wt.drop j).map cG))[i]'(by rw [<-e];exact hi)=((s.wt.drop j).map cG)[i-(gather numG (s.gv j).L (s.gv j).L.length).length]'(by rw [e,List.length_append] at hi;omega):=List.getElem_append_right (by omega)
   simp only [e,h1]
   exact List.getElem_mem _
  obtain ⟨c,_,hc⟩:=List.mem_map.1 this
  rw [<-hc]
  rfl
 ·have h1:(gather numG (s.gv j).L (s.gv j).L.length ++ ((s.wt.drop j).map cG))[i]'(by rw [<-e];exact hi)=(gather numG (s.gv j).L (s.gv j).L.length)[i]'(by omega):=List.getElem_append_left (by omega)
  simp only [e,h1]
  exact ((jz _ _).2 _ (List.getElem_mem _)).2
theorem rC {j:Nat}(hj:j<=s.wt.length):(s.gv j).dcs.length=s.dcs.length:=by
 rw [iH s]
 unfold CS.dcs
 rw [List.length_append,np hj,List.length_map]
 simp [CS.gv]
 omega
def ep (now:Int)(tmo t:Nat)(r:Dr):Dr:=if 0<r.num/\r.num<=(t:Int)/\due r.was r.tm now tmo=true then ⟨r.id,r.num,now,true,r.ops⟩ else r
theorem qB (now:Int)(tmo t:Nat)(r:Dr):(ep now tmo t r).num=r.num:=by unfold ep;split <;> rfl
def CS.upto (s:CS)(t:Nat):CS:=s.out (aX (dh s) s.L t)
theorem o_ (s:CS)(t:Nat):(s.upto t).L.length=s.L.length:=bS _ _ _
theorem eX (s:CS)(t:Nat):(s.upto t).dcs=s.dcs.map (ep s.now s.tmo t):=by
 have key:∀k,gather numG (aX (dh s) s.L t) k=(gather numG s.L k).map (ep s.now s.tmo t):=by
  intro k
  induction k with
  | zero=>rfl
  | succ k ih =>
   rw [gather,gather,List.map_append,ih,bC]
   cases s.L[k]? with
   | none=>rfl
   | some o =>
    cases o with
    | none =>
     by_cases h:k<t
     ·simp [h]
     ·simp [h]
    | some c =>
     by_cases h:k<t
     ·have h2:0<((k+1:Nat):Int)/\((k+1:Nat):Int)<=(t:Int):=by omega
      simp only [Option.map_some,h,if_true,Option.bind_some,dh,numG,List.map_cons,List.map_nil,ep,stamp,h2,true_and]
      by_cases hd:due c.was c.tm s.now s.tmo=true
      ·rw [if_pos hd,if_pos hd]
      ·rw [if_neg hd,if_neg hd]
     ·have h2:¬((k+1:Nat):Int)<=(t:Int):=by omega
      simp only [Option.map_some,h,if_false,numG,List.map_cons,List.map_nil,ep,h2,false_and,and_false]
 unfold CS.dcs
 rw [List.map_append]
 congr 1
 ·rw [o_]
  exact key _
 ·show s.wt.map cG=_
  rw [List.map_map]
  refine List.map_congr_left fun c _=>?_
  simp [ep,cG]
theorem qC {now:Int}{tmo t:Nat}{r:Dr}(h:r.num≠((t+1:Nat):Int)):ep now tmo (t+1) r=ep now tmo t r:=by
 unfold ep
 by_cases h1:r.num<=(t:Int)
 ·have h2:r.num<=((t+1:Nat):Int):=by omega
  simp only [h1,h2]
 ·have h2:¬r.num<=((t+1:Nat):Int):=by omega
  simp only [h1,h2]
theorem tG {k:Nat}(h:∀(i:Nat) (hi:i<s.dcs.length),s.dcs[i].num≠((k+1:Nat):Int)):s.upto (k+1)=s.upto k/\gather (bJ s) s.L (k+1)=gather (bJ s) s.L k:=by
 have hn:∀c,s.L[k]?≠some (some c):=fun c hc=>by
  have hk:=(List.getElem?_eq_some_iff.1 hc).1
  have hm:(⟨c.id,((k+1:Nat):Int),c.tm,c.was,c.ops⟩:Dr) ∈ s.dcs:=by
   unfold CS.dcs
   refine List.mem_append.2 (.inl ?_)
   have key:∀m,k<m->(⟨c.id,((k+1:Nat):Int),c.tm,c.was,c.ops⟩:Dr) ∈ gather numG s.L m:=by
    intro m
    induction m with
    | zero=>intro h;omega
    | succ m ih =>
     intro hm
     rw [gather]
     by_cases e:k=m
     ·subst e
      rw [hc]
      exact List.mem_append.2 (.inr (by simp [numG]))
     ·exact List.mem_append.2 (.inl (ih (by omega)))
   exact key _ hk
  obtain ⟨i,hi,e⟩:=List.mem_iff_getElem.1 hm
  exact h i hi (by rw [e])
 constructor
 ·unfold CS.upto
  congr 1
  apply List.ext_getElem?
  intro i
  rw [bC,bC]
  by_cases e:i=k
  ·subst e
   cases e2:s.L[i]? with
   | none=>rfl
   | some o =>
    cases o with
    | none=>simp
    | some c=>exact absurd e2 (hn c)
  ·by_cases h1:i<k
   ·have:i<k+1:=by omega
    simp [h1,this]
   ·have:¬i<k+1:=by omega
    simp [h1,this]
 ·rw [gather]
  split
  ·rename_i c e
   exact absurd e (hn c)
  ·simp
theorem zq {k i:Nat}(hi:i<s.dcs.length)(h:s.dcs[i].num=((k+1:Nat):Int)):∃(c:Cr) (hi':i<(s.upto k).dcs.length),s.L[k]? = some (some c)/\(s.upto k).dcs[i]=⟨c.id,((k+1:Nat):Int),c.tm,c.was,c.ops⟩/\gather (bJ s) s.L (k+1)=gather (bJ s) s.L k ++ bJ s k c/\(due c.was c.tm s.now s.tmo=true->(s.upto (k+1)).dcs=(s.upto k).dcs.set i ⟨c.id,((k+1:Nat):Int),s.now,true,c.ops⟩)/\(due c.was c.tm s.now s.tmo=false->s.upto (k+1)=s.upto k):=by
 have hm:s.dcs[i] ∈ s.dcs:=List.getElem_mem hi
 rcases nj hm with ⟨k',c,h1,h2,h3⟩ | ⟨c,_,h3⟩
 ·have e:k'=k:=by rw [h3] at h;simp at h;omega
  subst e
  have hx:(s.upto k').dcs[i]'(by rw [eX,List.length_map];exact hi)=⟨c.id,((k'+1:Nat):Int),c.tm,c.was,c.ops⟩:=by
   have:∀h',(s.dcs.map (ep s.now s.tmo k'))[i]'h'=⟨c.id,((k'+1:Nat):Int),c.tm,c.was,c.ops⟩:=fun h'=>by
    rw [List.getElem_map,h3]
    unfold ep
    exact if_neg (by dsimp only;omega)
   simp only [eX]
   exact this _
  refine ⟨c,by rw [eX,List.length_map];exact hi,h2,hx,?_,fun hd=>?_,fun hd=>?_⟩
  ·rw [gather,h2]
  ·rw [eX,eX]
   apply List.ext_getElem
   ·simp
   ·intro i' a b
    rw [List.length_map] at a
    by_cases e:i=i'
    ·subst e
     rw [List.getElem_set_self,List.getElem_map,h3]
     unfold ep
     rw [if_pos ⟨by dsimp only;omega,by dsimp only;omega,hd⟩]
    ·rw [List.getElem_set_ne e,List.getElem_map,List.getElem_map]
     refine qC fun h'=>?_
     have hr:=lv s
     rw [List.pairwise_iff_getElem] at hr
     rcases Nat.lt_or_gt_of_ne e with hlt | hlt
     ·exact hr i i' hi a hlt (by rw [h'];omega) (by rw [h,h'])
     ·exact hr i' i a hi hlt (by rw [h];omega) (by rw [h,h'])
  ·unfold CS.upto
   congr 1
   apply List.ext_getElem?
   intro i'
   rw [bC,bC]
   by_cases e:i'=k'
   ·subst e
    rw [h2]
    simp [dh,stamp,hd]
   ·by_cases h1:i'<k'
    ·have:i'<k'+1:=by omega
     simp [h1,this]
    ·have:¬i'<k'+1:=by omega
     simp [h1,this]
 ·rw [h3] at h
  simp [cG] at h
  omega
theorem Okc.upto (h:Okc s)(t:Nat)(h1:1<=s.ses):Okc (s.upto t):=h.sendUp h1 t
theorem pa {c:Nat}:∀(vs:List (List Value)),(∀x ∈ vs,x.length=c)->∀(j:Nat) (hj:j<vs.length) (o:Nat),o<c->∀y,vs.flatten.set (j*c+o) y=(vs.set j ((vs[j]'hj).set o y)).flatten
 | [],_,j,hj,_,_,_=>absurd hj (by simp)
 | x :: vs,h,0,_,o,ho,y=>by
  have:=h x (by simp)
  rw [List.flatten_cons,List.set_cons_zero,List.flatten_cons,Nat.zero_mul,Nat.zero_add,List.set_append_left _ _ (by omega)]
  rfl
 | x :: vs,h,j+1,hj,o,ho,y=>by
  have hx:=h x (by simp)
  rw [List.flatten_cons,List.set_cons_succ,List.flatten_cons,List.set_append_right _ _ (by rw [hx,Nat.add_mul];omega)]
  have e:(j+1)*c+o-x.length=j*c+o:=by rw [hx,Nat.add_mul];omega
  rw [e,pa vs (fun z hz=>h z (by simp [hz])) j (by simpa using hj) o ho y]
  rfl
theorem jB {α:Type}{t c:Nat}{R:World->List Value->α->Prop}{T:Nat->Prop}{w:World}{B g n cap:Nat}{l:List α}(h:LRow t c R w B (.slice (some ⟨g,0,none⟩) n cap) l)(hs:Stab T R)(hT:¬T t)(j:Nat)(hj:j<l.length)(o:Nat)(ho:o<c)(y:Value)(a:α)(ha:∀x w',R w' x l[j]->R w' (x.set o y) a) :
  LRow t c R (w.setCell ⟨g,j*c+o,none⟩ y) B (.slice (some ⟨g,0,none⟩) n cap) (l.set j a)/\w.grownBy (w.setCell ⟨g,j*c+o,none⟩ y) (some g):=by
 have hn:n=l.length:=by obtain ⟨x,y,e⟩:=h.shape;simp at e;exact e.2.1
 subst hn
 obtain ⟨vs,h1,h2,h3,h4⟩:=h
 obtain ⟨cur,hb⟩:=bp h1 (k:=g) rfl
 obtain ⟨k1,k2⟩:=h1.stored (j*c+o) y
 have keep:∀{y' b},R w y' b->R (w.setCell ⟨g,j*c+o,none⟩ y) y' b:=fun hy=>hs.2 _ _ _ _ _ _ _ hy hb hT k2
 refine ⟨⟨vs.set j ((vs[j]'(by omega)).set o y),?_,by simp [h2],?_,fun i hi hi'=>?_⟩,k2⟩
 ·rw [pa vs h3 j (by omega) o ho y] at k1
  simpa using k1
 ·intro z hz
  rcases List.mem_or_eq_of_mem_set hz with hz | rfl
  ·exact h3 z hz
  ·rw [List.length_set]
   exact h3 _ (List.getElem_mem _)
 ·by_cases e:j=i
  ·subst e
   simpa using ha _ _ (keep (h4 j (by omega) hj))
  ·rw [List.getElem_set_ne e,List.getElem_set_ne e]
   exact keep (h4 i (by simpa using hi) (by simpa using hi'))
theorem jC {w:World}{B g n cap:Nat}{l:List Dr}(h:DRow w B (.slice (some ⟨g,0,none⟩) n cap) l)(p:Nat):w.frozen? ⟨g,p,none⟩=false:=by
 obtain ⟨vs,h1,_⟩:=h
 obtain ⟨cur,hb⟩:=bp h1 (k:=g) rfl
 exact Blk.free hb p
variable {s:CS} {w A A':World} {k:Nat} {c:PCfg} {v:Value}
noncomputable def b12:Code:=Tryz.f12.body.getD .skip
noncomputable def out12:Code:=cW (cB (cR (cL (cR (cR (cR (cR (cR (cR (cR (cR b12)))))))))))
noncomputable def bdO12:Code:=cB (cL (cR out12))
noncomputable def in12:Code:=cW (cB (cR bdO12))
noncomputable def bdI12:Code:=cB (cL (cR in12))
noncomputable def rs12:Code:=cR (cR bdI12)
theorem wS:out12=.seq (cL out12) (.seq (.block 3 bdO12) (cR (cR out12))):=rfl
theorem wT:bdO12=.seq (cL bdO12) (.block 4 (.loop in12)):=rfl
theorem zr:in12=.seq (cL in12) (.seq (.block 5 bdI12) (cR (cR in12))):=rfl
theorem wU:bdI12=.seq (cL bdI12) (.seq (cL (cR bdI12)) rs12):=rfl
theorem t215 (t:Array Value)(h:t.size=215):t=#[sl t 0,sl t 1,sl t 2,sl t 3,sl t 4,sl t 5,sl t 6,sl t 7,sl t 8,sl t 9,sl t 10,sl t 11,sl t 12,sl t 13,sl t 14,sl t 15,sl t 16,sl t 17,sl t 18,sl t 19,sl t 20,sl t 21,sl t 22,sl t 23,sl t 24,sl t 25,sl t 26,sl t 27,sl t 28,sl t 29,sl t 30,sl t 31,sl t 32,sl t 33,sl t 34,sl t 35,sl t 36,sl t 37,sl t 38,sl t 39,sl t 40,sl t 41,sl t 42,sl t 43,sl t 44,sl t 45,sl t 46,sl t 47,sl t 48,sl t 49,sl t 50,sl t 51,sl t 52,sl t 53,sl t 54,sl t 55,sl t 56,sl t 57,sl t 58,sl t 59,sl t 60,sl t 61,sl t 62,sl t 63,sl t 64,sl t 65,sl t 66,sl t 67,sl t 68,sl t 69,sl t 70,sl t 71,sl t 72,sl t 73,sl t 74,sl t 75,sl t 76,sl t 77,sl t 78,sl t 79,sl t 80,sl t 81,sl t 82,sl t 83,sl t 84,sl t 85,sl t 86,sl t 87,sl t 88,sl t 89,sl t 90,sl t 91,sl t 92,sl t 93,sl t 94,sl t 95,sl t 96,sl t 97,sl t 98,sl t 99,sl t 100,sl t 101,sl t 102,sl t 103,sl t 104,sl t 105,sl t 106,sl t 107,sl t 108,sl t 109,sl t 110,sl t 111,sl t 112,sl t 113,sl t 114,sl t 115,sl t 116,sl t 117,sl t 118,sl t 119,sl t 120,sl t 121,sl t 122,sl t 123,sl t 124,sl t 125,sl t 126,sl t 127,sl t 128,sl t 129,sl t 130,sl t 131,sl t 132,sl t 133,sl t 134,sl t 135,sl t 136,sl t 137,sl t 138,sl t 139,sl t 140,sl t 141,sl t 142,sl t 143,sl t 144,sl t 145,sl t 146,sl t 147,sl t 148,sl t 149,sl t 150,sl t 151,sl t 152,sl t 153,sl t 154,sl t 155,sl t 156,sl t 157,sl t 158,sl t 159,sl t 160,sl t 161,sl t 162,sl t 163,sl t 164,sl t 165,sl t 166,sl t 167,sl t 168,sl t 169,sl t 170,sl t 171,sl t 172,sl t 173,sl t 174,sl t 175,sl t 176,sl t 177,sl t 178,sl t 179,sl t 180,sl t 181,sl t 182,sl t 183,sl t 184,sl t 185,sl t 186,sl t 187,sl t 188,sl t 189,sl t 190,sl t 191,sl t 192,sl t 193,sl t 194,sl t 195,sl t 196,sl t 197,sl t 198,sl t 199,sl t 200,sl t 201,sl t 202,sl t 203,sl t 204,sl t 205,sl t 206,sl t 207,sl t 208,sl t 209,sl t 210,sl t 211,sl t 212,sl t 213,sl t 214]:=by
 have h1:t.toList=(List.range 215).map (sl t):=by
  apply List.ext_getElem
  ·simp [h]
  ·intro i h1 h2
   simp [sl] at h1 ⊢
   rw [Array.getElem?_eq_getElem h1]
   rfl
 have h2:(List.range 215).map (sl t)=[sl t 0,sl t 1,sl t 2,sl t 3,sl t 4,sl t 5,sl t 6,sl t 7,sl t 8,sl t 9,sl t 10,sl t 11,sl t 12,sl t 13,sl t 14,sl t 15,sl t 16,sl t 17,sl t 18,sl t 19,sl t 20,sl t 21,sl t 22,sl t 23,sl t 24,sl t 25,sl t 26,sl t 27,sl t 28,sl t 29,sl t 30,sl t 31,sl t 32,sl t 33,sl t 34,sl t 35,sl t 36,sl t 37,sl t 38,sl t 39,sl t 40,sl t 41,sl t 42,sl t 43,sl t 44,sl t 45,sl t 46,sl t 47,sl t 48,sl t 49,sl t 50,sl t 51,sl t 52,sl t 53,sl t 54,sl t 55,sl t 56,sl t 57,sl t 58,sl t 59,sl t 60,sl t 61,sl t 62,sl t 63,sl t 64,sl t 65,sl t 66,sl t 67,sl t 68,sl t 69,sl t 70,sl t 71,sl t 72,sl t 73,sl t 74,sl t 75,sl t 76,sl t 77,sl t 78,sl t 79,sl t 80,sl t 81,sl t 82,sl t 83,sl t 84,sl t 85,sl t 86,sl t 87,sl t 88,sl t 89,sl t 90,sl t 91,sl t 92,sl t 93,sl t 94,sl t 95,sl t 96,sl t 97,sl t 98,sl t 99,sl t 100,sl t 101,sl t 102,sl t 103,sl t 104,sl t 105,sl t 106,sl t 107,sl t 108,sl t 109,sl t 110,sl t 111,sl t 112,sl t 113,sl t 114,sl t 115,sl t 116,sl t 117,sl t 118,sl t 119,sl t 120,sl t 121,sl t 122,sl t 123,sl t 124,sl t 125,sl t 126,sl t 127,sl t 128,sl t 129,sl t 130,sl t 131,sl t 132,sl t 133,sl t 134,sl t 135,sl t 136,sl t 137,sl t 138,sl t 139,sl t 140,sl t 141,sl t 142,sl t 143,sl t 144,sl t 145,sl t 146,sl t 147,sl t 148,sl t 149,sl t 150,sl t 151,sl t 152,sl t 153,sl t 154,sl t 155,sl t 156,sl t 157,sl t 158,sl t 159,sl t 160,sl t 161,sl t 162,sl t 163,sl t 164,sl t 165,sl t 166,sl t 167,sl t 168,sl t 169,sl t 170,sl t 171,sl t 172,sl t 173,sl t 174,sl t 175,sl t 176,sl t 177,sl t 178,sl t 179,sl t 180,sl t 181,sl t 182,sl t 183,sl t 184,sl t 185,sl t 186,sl t 187,sl t 188,sl t 189,sl t 190,sl t 191,sl t 192,sl t 193,sl t 194,sl t 195,sl t 196,sl t 197,sl t 198,sl t 199,sl t 200,sl t 201,sl t 202,sl t 203,sl t 204,sl t 205,sl t 206,sl t 207,sl t 208,sl t 209,sl t 210,sl t 211,sl t 212,sl t 213,sl t 214]:=rfl
 rw [h2] at h1
 exact Array.toList_inj.1 h1
structure S12 (a:Act)(v0 v1 v6 v8 v9 v10:Value):Prop where
 size:a.tmps.size=215
 defers:a.defers=[]
 e0:sl a.tmps 0=v0
 e1:sl a.tmps 1=v1
 e6:sl a.tmps 6=v6
 e8:sl a.tmps 8=v8
 e9:sl a.tmps 9=v9
 e10:sl a.tmps 10=v10
theorem S12.eq {a:Act}{v0 v1 v6 v8 v9 v10:Value}(h:S12 a v0 v1 v6 v8 v9 v10):∃t:Array Value,a={ tmps:=#[v0,v1,sl t 2,sl t 3,sl t 4,sl t 5,v6,sl t 7,v8,v9,v10,sl t 11,sl t 12,sl t 13,sl t 14,sl t 15,sl t 16,sl t 17,sl t 18,sl t 19,sl t 20,sl t 21,sl t 22,sl t 23,sl t 24,sl t 25,sl t 26,sl t 27,sl t 28,sl t 29,sl t 30,sl t 31,sl t 32,sl t 33,sl t 34,sl t 35,sl t 36,sl t 37,sl t 38,sl t 39,sl t 40,sl t 41,sl t 42,sl t 43,sl t 44,sl t 45,sl t 46,sl t 47,sl t 48,sl t 49,sl t 50,sl t 51,sl t 52,sl t 53,sl t 54,sl t 55,sl t 56,sl t 57,sl t 58,sl t 59,sl t 60,sl t 61,sl t 62,sl t 63,sl t 64,sl t 65,sl t 66,sl t 67,sl t 68,sl t 69,sl t 70,sl t 71,sl t 72,sl t 73,sl t 74,sl t 75,sl t 76,sl t 77,sl t 78,sl t 79,sl t 80,sl t 81,sl t 82,sl t 83,sl t 84,sl t 85,sl t 86,sl t 87,sl t 88,sl t 89,sl t 90,sl t 91,sl t 92,sl t 93,sl t 94,sl t 95,sl t 96,sl t 97,sl t 98,sl t 99,sl t 100,sl t 101,sl t 102,sl t 103,sl t 104,sl t 105,sl t 106,sl t 107,sl t 108,sl t 109,sl t 110,sl t 111,sl t 112,sl t 113,sl t 114,sl t 115,sl t 116,sl t 117,sl t 118,sl t 119,sl t 120,sl t 121,sl t 122,sl t 123,sl t 124,sl t 125,sl t 126,sl t 127,sl t 128,sl t 129,sl t 130,sl t 131,sl t 132,sl t 133,sl t 134,sl t 135,sl t 136,sl t 137,sl t 138,sl t 139,sl t 140,sl t 141,sl t 142,sl t 143,sl t 144,sl t 145,sl t 146,sl t 147,sl t 148,sl t 149,sl t 150,sl t 151,sl t 152,sl t 153,sl t 154,sl t 155,sl t 156,sl t 157,sl t 158,sl t 159,sl t 160,sl t 161,sl t 162,sl t 163,sl t 164,sl t 165,sl t 166,sl t 167,sl t 168,sl t 169,sl t 170,sl t 171,sl t 172,sl t 173,sl t 174,sl t 175,sl t 176,sl t 177,sl t 178,sl t 179,sl t 180,sl t 181,sl t 182,sl t 183,sl t 184,sl t 185,sl t 186,sl t 187,sl t 188,sl t 189,sl t 190,sl t 191,sl t 192,sl t 193,sl t 194,sl t 195,sl t 196,sl t 197,sl t 198,sl t 199,sl t 200,sl t 201,sl t 202,sl t 203,sl t 204,sl t 205,sl t 206,sl t 207,sl t 208,sl t 209,sl t 210,sl t 211,sl t 212,sl t 213,sl t 214],defers:=[] }:=by
 obtain ⟨t,d⟩:=a
 obtain ⟨h1,h2,h3,h4,h5,h6,h7,h8⟩:=h
 dsimp only at h1 h2 h3 h4 h5 h6 h7 h8
 refine ⟨t,?_⟩
 rw [h2]
 have e:=t215 t h1
 rw [h3,h4,h5,h6,h7,h8] at e
 exact congrArg (fun x=>Act.mk x []) e
structure X12 (a:Act)(v0 v1 v6 v8 v9 v10 v11 v180:Value):Prop where
 size:a.tmps.size=215
 defers:a.defers=[]
 e0:sl a.tmps 0=v0
 e1:sl a.tmps 1=v1
 e6:sl a.tmps 6=v6
 e8:sl a.tmps 8=v8
 e9:sl a.tmps 9=v9
 e10:sl a.tmps 10=v10
 e11:sl a.tmps 11=v11
 e180:sl a.tmps 180=v180
theorem X12.eq {a:Act}{v0 v1 v6 v8 v9 v10 v11 v180:Value}(h:X12 a v0 v1 v6 v8 v9 v10 v11 v180):∃t:Array Value,a={ tmps:=#[v0,v1,sl t 2,sl t 3,sl t 4,sl t 5,v6,sl t 7,v8,v9,v10,v11,sl t 12,sl t 13,sl t 14,sl t 15,sl t 16,sl t 17,sl t 18,sl t 19,sl t 20,sl t 21,sl t 22,sl t 23,sl t 24,sl t 25,sl t 26,sl t 27,sl t 28,sl t 29,sl t 30,sl t 31,sl t 32,sl t 33,sl t 34,sl t 35,sl t 36,sl t 37,sl t 38,sl t 39,sl t 40,sl t 41,sl t 42,sl t 43,sl t 44,sl t 45,sl t 46,sl t 47,sl t 48,sl t 49,sl t 50,sl t 51,sl t 52,sl t 53,sl t 54,sl t 55,sl t 56,sl t 57,sl t 58,sl t 59,sl t 60,sl t 61,sl t 62,sl t 63,sl t 64,sl t 65,sl t 66,sl t 67,sl t 68,sl t 69,sl t 70,sl t 71,sl t 72,sl t 73,sl t 74,sl t 75,sl t 76,sl t 77,sl t 78,sl t 79,sl t 80,sl t 81,sl t 82,sl t 83,sl t 84,sl t 85,sl t 86,sl t 87,sl t 88,sl t 89,sl t 90,sl t 91,sl t 92,sl t 93,sl t 94,sl t 95,sl t 96,sl t 97,sl t 98,sl t 99,sl t 100,sl t 101,sl t 102,sl t 103,sl t 104,sl t 105,sl t 106,sl t 107,sl t 108,sl t 109,sl t 110,sl t 111,sl t 112,sl t 113,sl t 114,sl t 115,sl t 116,sl t 117,sl t 118,sl t 119,sl t 120,sl t 121,sl t 122,sl t 123,sl t 124,sl t 125,sl t 126,sl t 127,sl t 128,sl t 129,sl t 130,sl t 131,sl t 132,sl t 133,sl t 134,sl t 135,sl t 136,sl t 137,sl t 138,sl t 139,sl t 140,sl t 141,sl t 142,sl t 143,sl t 144,sl t 145,sl t 146,sl t 147,sl t 148,sl t 149,sl t 150,sl t 151,sl t 152,sl t 153,sl t 154,sl t 155,sl t 156,sl t 157,sl t 158,sl t 159,sl t 160,sl t 161,sl t 162,sl t 163,sl t 164,sl t 165,sl t 166,sl t 167,sl t 168,sl t 169,sl t 170,sl t 171,sl t 172,sl t 173,sl t 174,sl t 175,sl t 176,sl t 177,sl t 178,sl t 179,v180,sl t 181,sl t 182,sl t 183,sl t 184,sl t 185,sl t 186,sl t 187,sl t 188,sl t 189,sl t 190,sl t 191,sl t 192,sl t 193,sl t 194,sl t 195,sl t 196,sl t 197,sl t 198,sl t 199,sl t 200,sl t 201,sl t 202,sl t 203,sl t 204,sl t 205,sl t 206,sl t 207,sl t 208,sl t 209,sl t 210,sl t 211,sl t 212,sl t 213,sl t 214],defers:=[] }:=by
 obtain ⟨t,d⟩:=a
 obtain ⟨h1,h2,h3,h4,h5,h6,h7,h8,h9,h10⟩:=h
 dsimp only at h1 h2 h3 h4 h5 h6 h7 h8 h9 h10
 refine ⟨t,?_⟩
 rw [h2]
 have e:=t215 t h1
 rw [h3,h4,h5,h6,h7,h8,h9,h10] at e
 exact congrArg (fun x=>Act.mk x []) e
structure D12 (w A0 A:World)(k:Nat)(c:PCfg)(v:Value)(s:CS)(vl:Value)(l:List PMsg):Prop where
 dm:Dm w A k c v s
 ms:aF A A0.heap.size vl l
 kp:cH A0 A
 lo:A0.heap.size<=A.heap.size
 k0:k<A0.heap.size
theorem D12.grown {A0:World}{vl:Value}{l:List PMsg}(h:D12 w A0 A k c v s vl l)(hg:A.grownBy A' none):D12 w A0 A' k c v s vl l :=
 ⟨h.dm.grown hg,h.ms.grown hg,aL h.kp (aD hg),Nat.le_trans h.lo hg.size,h.k0⟩
theorem ns {r:Dr}(hok:Okc s)(h:r ∈ s.dcs):0<=r.tm/\r.tm<=s.now:=by
 rcases nj h with ⟨k,c,h1,h2,rfl⟩ | ⟨c,_,rfl⟩
 ·have:=hok.call c (.inl (List.mem_iff_getElem?.2 ⟨k,h2⟩))
  exact ⟨this.2.2.1,this.2.2.2.1⟩
 ·have:=hok.now
  simp [cG]
  omega
theorem tH (was:Bool)(tm now:Int)(tmo:Nat):(was=false/\due was tm now tmo=true)\/(was=true/\(tmo:Int)<=now-tm/\due was tm now tmo=true)\/(was=true/\¬(tmo:Int)<=now-tm/\due was tm now tmo=false):=by
 cases was
 ·exact .inl ⟨rfl,by simp [due]⟩
 ·by_cases h:(tmo:Int)<=now-tm
  ·exact .inr (.inl ⟨rfl,h,by simp [due];omega⟩)
  ·exact .inr (.inr ⟨rfl,h,by simp [due];omega⟩)
theorem wV (a:Act)(w A0 A:World)(k:Nat)(c:PCfg)(v:Value)(s:CS)(vl:Value)(l:List PMsg)(mk n:Int)(i:Nat)(hS:S12 a (.pointer (some ⟨k,0,none⟩)) (.int .i64 s.now) vl (.int .i64 mk) (.int .i64 n) (.int .i64 (i:Nat)))(h:D12 w A0 A k c v s vl l)(hi:i<s.dcs.length)(hok:Okc s)(h1:s.dcs[i].num≠n)
  (REST:Code) (Q:Exit->Act->World->Prop) (hk:∀a' A' xb y1 y2 y3,X12 a' (.pointer (some ⟨k,0,none⟩)) (.int .i64 s.now) vl (.int .i64 mk) (.int .i64 n) (.int .i64 (i:Nat)) (.pointer (some ⟨xb,0,none⟩)) (.bool false)->D12 w A0 A' k c v s vl l->A.heap.size<=xb->(∃C,Blk A' xb 93 C/\C[4]? = some (.slice y1 y2 y3))->aA A' 0 (.slice y1 y2 y3) s.dcs[i].ops->REST.wp Tryz.prog Q a' A') :
  (Code.seq (cL bdI12) (.seq (cL (cR bdI12)) REST)).wp Tryz.prog Q a A:=by
 have HD:Hid (D12 w A0 A k c v s vl l):=h
 have HK:Hid (∀a' A' xb y1 y2 y3,X12 a' (.pointer (some ⟨k,0,none⟩)) (.int .i64 s.now) vl (.int .i64 mk) (.int .i64 n) (.int .i64 (i:Nat)) (.pointer (some ⟨xb,0,none⟩)) (.bool false)->D12 w A0 A' k c v s vl l->A.heap.size<=xb->(∃C,Blk A' xb 93 C/\C[4]? = some (.slice y1 y2 y3))->aA A' 0 (.slice y1 y2 y3) s.dcs[i].ops->REST.wp Tryz.prog Q a' A'):=hk
 obtain ⟨t,rfl⟩:=hS.eq
 obtain ⟨g,cap,y1,y2,y3,rfl,q0,q1,q2,q3,q4,q5⟩:=dK h.dm.row i hi
 have ht:=ns hok (List.getElem_mem hi)
 obtain ⟨x,hx⟩:∃x,s.dcs[i]=x:=⟨_,rfl⟩
 obtain ⟨N,hN⟩:∃N,s.dcs.length=N:=⟨_,rfl⟩
 rw [hx] at q0 q1 q2 q3 q5 ht HK h1
 have c10:A.cell? ⟨k,10,none⟩=some (.slice (some ⟨g,0,none⟩) N cap):=by rw [<-hN];exact h.dm.blk.cell 10
 have j1:(i:Int)<(N:Int):=by omega
 have j2:(0:Int)<=(i:Int):=by omega
 have d1:IntKind.i64.wrap (s.now-x.tm)=s.now-x.tm:=by have:=hok.now;rw [IntKind.wrap_i64];omega
 have HO:Hid (aA A 0 (.slice y1 y2 y3) x.ops):=q5
 have f1:(x.num==n)=false:=by rw [beq_eq_false_iff_ne];exact h1
 clear h1
 clear hS h hi hok hk hx hN q5 ht
 unfold bdI12 in12 bdO12 out12 b12
 dsimp only [Tryz.f12,Option.getD,cL,cR,cB,cW]
 go_upto_region 27 with fail
 obtain ⟨w1,hw1,H1⟩:=al1 A #[.int .i64 x.id,.int .i64 x.num,.int .i64 x.tm,.bool x.was,.slice y1 y2 y3] 93
 obtain ⟨xb,hxb⟩:∃x,A.heap.size=x:=⟨_,rfl⟩
 rw [hw1]
 rw [hxb] at H1 ⊢
 have HXB:Hid (A.heap.size=xb):=hxb
 clear hw1 hxb q0 q1 q2 q3 q4 c10 j1 j2
 have HC:Hid (∀y,w1.grownBy y none->y.cell? ⟨xb,1,none⟩=some (.int .i64 x.num)/\y.cell? ⟨xb,2,none⟩=some (.int .i64 x.tm)/\y.cell? ⟨xb,3,none⟩=some (.bool x.was)/\y.cell? ⟨k,6,none⟩=some (.int .i64 s.tmo)):=fun y hy=>⟨(H1.out.1.grown hy (by simp)).cell 1,(H1.out.1.grown hy (by simp)).cell 2,(H1.out.1.grown hy (by simp)).cell 3,((HD.out.dm.grown H1.out.2.1).grown hy).blk.cell 6⟩
 refine wp_region_noPanic ?_
 refine ag 1000 (fun y=>w1.grownBy y none) (by kernel_rfl) ?_
 have G2:Hid (w1.grownBy w1.drew none):=af _ _
 generalize w1.drew=w2 at G2 ⊢
 have J:Idx [0,1,2,3,4]:=trivial
 iterate 5 (refine tK J (G2.out) rfl rfl (fun wk hk=>by obtain ⟨k1,k2,k3,k6⟩:=HC.out wk hk;go_simp;try rfl) ?_;replace J:=J.tl;try simp only [pN])
 have J:Idx [5,6,7,8,9,10,11,12,13,14,15,16,17,18,19]:=trivial
 iterate 15 (refine sk J (G2.out) rfl rfl ?_;replace J:=J.tl;try simp only [pN])
 have J:Idx [20]:=trivial
 iterate 1 (refine tK J (G2.out) rfl rfl (fun wk hk=>by obtain ⟨k1,k2,k3,k6⟩:=HC.out wk hk;go_simp;try rfl) ?_;replace J:=J.tl;try simp only [pN])
 refine wD ?_
 refine (‹∀(a:Act) (w:World),Code.wp Tryz.prog _ _ a w->_› _ _ ?_)
 have hg:=aa H1.out.2.1 G2.out
 have hb2:=H1.out.1.grown G2.out (by simp)
 refine HK.out _ w2 xb y1 y2 y3 ⟨rfl,rfl,rfl,rfl,rfl,rfl,rfl,rfl,rfl,by first | rfl | (simp [sl, *];done)⟩ (HD.out.grown hg) (Nat.le_of_eq HXB.out) ⟨_,hb2,rfl⟩ (HO.out.grown hg)
theorem wW (a:Act)(w A0 A:World)(k:Nat)(c:PCfg)(v:Value)(s:CS)(vl:Value)(l:List PMsg)(mk n:Int)(i:Nat)(hS:S12 a (.pointer (some ⟨k,0,none⟩)) (.int .i64 s.now) vl (.int .i64 mk) (.int .i64 n) (.int .i64 (i:Nat)))(h:D12 w A0 A k c v s vl l)(hi:i<s.dcs.length)(hok:Okc s)(h1:s.dcs[i].num=n)(h2:s.dcs[i].was=false)
  (REST:Code) (Q:Exit->Act->World->Prop) (hk:∀a' A' xb y1 y2 y3,X12 a' (.pointer (some ⟨k,0,none⟩)) (.int .i64 s.now) vl (.int .i64 mk) (.int .i64 n) (.int .i64 (i:Nat)) (.pointer (some ⟨xb,0,none⟩)) (.bool true)->D12 w A0 A' k c v s vl l->A.heap.size<=xb->(∃C,Blk A' xb 93 C/\C[4]? = some (.slice y1 y2 y3))->aA A' 0 (.slice y1 y2 y3) s.dcs[i].ops->REST.wp Tryz.prog Q a' A') :
  (Code.seq (cL bdI12) (.seq (cL (cR bdI12)) REST)).wp Tryz.prog Q a A:=by
 have HD:Hid (D12 w A0 A k c v s vl l):=h
 have HK:Hid (∀a' A' xb y1 y2 y3,X12 a' (.pointer (some ⟨k,0,none⟩)) (.int .i64 s.now) vl (.int .i64 mk) (.int .i64 n) (.int .i64 (i:Nat)) (.pointer (some ⟨xb,0,none⟩)) (.bool true)->D12 w A0 A' k c v s vl l->A.heap.size<=xb->(∃C,Blk A' xb 93 C/\C[4]? = some (.slice y1 y2 y3))->aA A' 0 (.slice y1 y2 y3) s.dcs[i].ops->REST.wp Tryz.prog Q a' A'):=hk
 obtain ⟨t,rfl⟩:=hS.eq
 obtain ⟨g,cap,y1,y2,y3,rfl,q0,q1,q2,q3,q4,q5⟩:=dK h.dm.row i hi
 have ht:=ns hok (List.getElem_mem hi)
 obtain ⟨x,hx⟩:∃x,s.dcs[i]=x:=⟨_,rfl⟩
 obtain ⟨N,hN⟩:∃N,s.dcs.length=N:=⟨_,rfl⟩
 rw [hx] at q0 q1 q2 q3 q5 ht HK h1 h2
 have c10:A.cell? ⟨k,10,none⟩=some (.slice (some ⟨g,0,none⟩) N cap):=by rw [<-hN];exact h.dm.blk.cell 10
 have j1:(i:Int)<(N:Int):=by omega
 have j2:(0:Int)<=(i:Int):=by omega
 have d1:IntKind.i64.wrap (s.now-x.tm)=s.now-x.tm:=by have:=hok.now;rw [IntKind.wrap_i64];omega
 have HO:Hid (aA A 0 (.slice y1 y2 y3) x.ops):=q5
 have f1:(x.num==n)=true:=by rw [h1];simp
 rw [h2] at q3
 clear h1 h2
 clear hS h hi hok hk hx hN q5 ht
 unfold bdI12 in12 bdO12 out12 b12
 dsimp only [Tryz.f12,Option.getD,cL,cR,cB,cW]
 go_upto_region 27 with fail
 obtain ⟨w1,hw1,H1⟩:=al1 A #[.int .i64 x.id,.int .i64 x.num,.int .i64 x.tm,.bool false,.slice y1 y2 y3] 93
 obtain ⟨xb,hxb⟩:∃x,A.heap.size=x:=⟨_,rfl⟩
 rw [hw1]
 rw [hxb] at H1 ⊢
 have HXB:Hid (A.heap.size=xb):=hxb
 clear hw1 hxb q0 q1 q2 q3 q4 c10 j1 j2
 have HC:Hid (∀y,w1.grownBy y none->y.cell? ⟨xb,1,none⟩=some (.int .i64 x.num)/\y.cell? ⟨xb,2,none⟩=some (.int .i64 x.tm)/\y.cell? ⟨xb,3,none⟩=some (.bool false)/\y.cell? ⟨k,6,none⟩=some (.int .i64 s.tmo)):=fun y hy=>⟨(H1.out.1.grown hy (by simp)).cell 1,(H1.out.1.grown hy (by simp)).cell 2,(H1.out.1.grown hy (by simp)).cell 3,((HD.out.dm.grown H1.out.2.1).grown hy).blk.cell 6⟩
 refine wp_region_noPanic ?_
 refine ag 1000 (fun y=>w1.grownBy y none) (by kernel_rfl) ?_
 have G2:Hid (w1.grownBy w1.drew none):=af _ _
 generalize w1.drew=w2 at G2 ⊢
 have J:Idx [0,1,2,3,4,5,6,7,8]:=trivial
 iterate 9 (refine tK J (G2.out) rfl rfl (fun wk hk=>by obtain ⟨k1,k2,k3,k6⟩:=HC.out wk hk;go_simp;try rfl) ?_;replace J:=J.tl;try simp only [pN])
 have J:Idx [9,10,11,12,13,14,15,16,17,18]:=trivial
 iterate 10 (refine sk J (G2.out) rfl rfl ?_;replace J:=J.tl;try simp only [pN])
 have J:Idx [19,20]:=trivial
 iterate 2 (refine tK J (G2.out) rfl rfl (fun wk hk=>by obtain ⟨k1,k2,k3,k6⟩:=HC.out wk hk;go_simp;try rfl) ?_;replace J:=J.tl;try simp only [pN])
 refine wD ?_
 refine (‹∀(a:Act) (w:World),Code.wp Tryz.prog _ _ a w->_› _ _ ?_)
 have hg:=aa H1.out.2.1 G2.out
 have hb2:=H1.out.1.grown G2.out (by simp)
 refine HK.out _ w2 xb y1 y2 y3 ⟨rfl,rfl,rfl,rfl,rfl,rfl,rfl,rfl,rfl,by first | rfl | (simp [sl, *];done)⟩ (HD.out.grown hg) (Nat.le_of_eq HXB.out) ⟨_,hb2,rfl⟩ (HO.out.grown hg)
theorem wX (a:Act)(w A0 A:World)(k:Nat)(c:PCfg)(v:Value)(s:CS)(vl:Value)(l:List PMsg)(mk n:Int)(i:Nat)(hS:S12 a (.pointer (some ⟨k,0,none⟩)) (.int .i64 s.now) vl (.int .i64 mk) (.int .i64 n) (.int .i64 (i:Nat)))(h:D12 w A0 A k c v s vl l)(hi:i<s.dcs.length)(hok:Okc s)(h1:s.dcs[i].num=n)(h2:s.dcs[i].was=true)(h3:(s.tmo:Int)<=s.now-s.dcs[i].tm)
  (REST:Code) (Q:Exit->Act->World->Prop) (hk:∀a' A' xb y1 y2 y3,X12 a' (.pointer (some ⟨k,0,none⟩)) (.int .i64 s.now) vl (.int .i64 mk) (.int .i64 n) (.int .i64 (i:Nat)) (.pointer (some ⟨xb,0,none⟩)) (.bool true)->D12 w A0 A' k c v s vl l->A.heap.size<=xb->(∃C,Blk A' xb 93 C/\C[4]? = some (.slice y1 y2 y3))->aA A' 0 (.slice y1 y2 y3) s.dcs[i].ops->REST.wp Tryz.prog Q a' A') :
  (Code.seq (cL bdI12) (.seq (cL (cR bdI12)) REST)).wp Tryz.prog Q a A:=by
 have HD:Hid (D12 w A0 A k c v s vl l):=h
 have HK:Hid (∀a' A' xb y1 y2 y3,X12 a' (.pointer (some ⟨k,0,none⟩)) (.int .i64 s.now) vl (.int .i64 mk) (.int .i64 n) (.int .i64 (i:Nat)) (.pointer (some ⟨xb,0,none⟩)) (.bool true)->D12 w A0 A' k c v s vl l->A.heap.size<=xb->(∃C,Blk A' xb 93 C/\C[4]? = some (.slice y1 y2 y3))->aA A' 0 (.slice y1 y2 y3) s.dcs[i].ops->REST.wp Tryz.prog Q a' A'):=hk
 obtain ⟨t,rfl⟩:=hS.eq
 obtain ⟨g,cap,y1,y2,y3,rfl,q0,q1,q2,q3,q4,q5⟩:=dK h.dm.row i hi
 have ht:=ns hok (List.getElem_mem hi)
 obtain ⟨x,hx⟩:∃x,s.dcs[i]=x:=⟨_,rfl⟩
 obtain ⟨N,hN⟩:∃N,s.dcs.length=N:=⟨_,rfl⟩
 rw [hx] at q0 q1 q2 q3 q5 ht HK h1 h2 h3
 have c10:A.cell? ⟨k,10,none⟩=some (.slice (some ⟨g,0,none⟩) N cap):=by rw [<-hN];exact h.dm.blk.cell 10
 have j1:(i:Int)<(N:Int):=by omega
 have j2:(0:Int)<=(i:Int):=by omega
 have d1:IntKind.i64.wrap (s.now-x.tm)=s.now-x.tm:=by have:=hok.now;rw [IntKind.wrap_i64];omega
 have HO:Hid (aA A 0 (.slice y1 y2 y3) x.ops):=q5
 have f1:(x.num==n)=true:=by rw [h1];simp
 rw [h2] at q3
 clear h1 h2
 clear hS h hi hok hk hx hN q5 ht
 unfold bdI12 in12 bdO12 out12 b12
 dsimp only [Tryz.f12,Option.getD,cL,cR,cB,cW]
 go_upto_region 27 with fail
 obtain ⟨w1,hw1,H1⟩:=al1 A #[.int .i64 x.id,.int .i64 x.num,.int .i64 x.tm,.bool true,.slice y1 y2 y3] 93
 obtain ⟨xb,hxb⟩:∃x,A.heap.size=x:=⟨_,rfl⟩
 rw [hw1]
 rw [hxb] at H1 ⊢
 have HXB:Hid (A.heap.size=xb):=hxb
 clear hw1 hxb q0 q1 q2 q3 q4 c10 j1 j2
 have HC:Hid (∀y,w1.grownBy y none->y.cell? ⟨xb,1,none⟩=some (.int .i64 x.num)/\y.cell? ⟨xb,2,none⟩=some (.int .i64 x.tm)/\y.cell? ⟨xb,3,none⟩=some (.bool true)/\y.cell? ⟨k,6,none⟩=some (.int .i64 s.tmo)):=fun y hy=>⟨(H1.out.1.grown hy (by simp)).cell 1,(H1.out.1.grown hy (by simp)).cell 2,(H1.out.1.grown hy (by simp)).cell 3,((HD.out.dm.grown H1.out.2.1).grown hy).blk.cell 6⟩
 refine wp_region_noPanic ?_
 refine ag 1000 (fun y=>w1.grownBy y none) (by kernel_rfl) ?_
 have G2:Hid (w1.grownBy w1.drew none):=af _ _
 generalize w1.drew=w2 at G2 ⊢
 have J:Idx [0,1,2,3,4,5,6,7,8,9,10,11,12,13,14,15,16,17,18,19,20]:=trivial
 iterate 21 (refine tK J (G2.out) rfl rfl (fun wk hk=>by obtain ⟨k1,k2,k3,k6⟩:=HC.out wk hk;go_simp;try rfl) ?_;replace J:=J.tl;try simp only [pN])
 refine wD ?_
 refine (‹∀(a:Act) (w:World),Code.wp Tryz.prog _ _ a w->_› _ _ ?_)
 have hg:=aa H1.out.2.1 G2.out
 have hb2:=H1.out.1.grown G2.out (by simp)
 refine HK.out _ w2 xb y1 y2 y3 ⟨rfl,rfl,rfl,rfl,rfl,rfl,rfl,rfl,rfl,by first | rfl | (simp [sl, *];done)⟩ (HD.out.grown hg) (Nat.le_of_eq HXB.out) ⟨_,hb2,rfl⟩ (HO.out.grown hg)
theorem wY (a:Act)(w A0 A:World)(k:Nat)(c:PCfg)(v:Value)(s:CS)(vl:Value)(l:List PMsg)(mk n:Int)(i:Nat)(hS:S12 a (.pointer (some ⟨k,0,none⟩)) (.int .i64 s.now) vl (.int .i64 mk) (.int .i64 n) (.int .i64 (i:Nat)))(h:D12 w A0 A k c v s vl l)(hi:i<s.dcs.length)(hok:Okc s)(h1:s.dcs[i].num=n)(h2:s.dcs[i].was=true)(h3:¬(s.tmo:Int)<=s.now-s.dcs[i].tm)
  (REST:Code) (Q:Exit->Act->World->Prop) (hk:∀a' A' xb y1 y2 y3,X12 a' (.pointer (some ⟨k,0,none⟩)) (.int .i64 s.now) vl (.int .i64 mk) (.int .i64 n) (.int .i64 (i:Nat)) (.pointer (some ⟨xb,0,none⟩)) (.bool false)->D12 w A0 A' k c v s vl l->A.heap.size<=xb->(∃C,Blk A' xb 93 C/\C[4]? = some (.slice y1 y2 y3))->aA A' 0 (.slice y1 y2 y3) s.dcs[i].ops->REST.wp Tryz.prog Q a' A') :
  (Code.seq (cL bdI12) (.seq (cL (cR bdI12)) REST)).wp Tryz.prog Q a A:=by
 have HD:Hid (D12 w A0 A k c v s vl l):=h
 have HK:Hid (∀a' A' xb y1 y2 y3,X12 a' (.pointer (some ⟨k,0,none⟩)) (.int .i64 s.now) vl (.int .i64 mk) (.int .i64 n) (.int .i64 (i:Nat)) (.pointer (some ⟨xb,0,none⟩)) (.bool false)->D12 w A0 A' k c v s vl l->A.heap.size<=xb->(∃C,Blk A' xb 93 C/\C[4]? = some (.slice y1 y2 y3))->aA A' 0 (.slice y1 y2 y3) s.dcs[i].ops->REST.wp Tryz.prog Q a' A'):=hk
 obtain ⟨t,rfl⟩:=hS.eq
 obtain ⟨g,cap,y1,y2,y3,rfl,q0,q1,q2,q3,q4,q5⟩:=dK h.dm.row i hi
 have ht:=ns hok (List.getElem_mem hi)
 obtain ⟨x,hx⟩:∃x,s.dcs[i]=x:=⟨_,rfl⟩
 obtain ⟨N,hN⟩:∃N,s.dcs.length=N:=⟨_,rfl⟩
 rw [hx] at q0 q1 q2 q3 q5 ht HK h1 h2 h3
 have c10:A.cell? ⟨k,10,none⟩=some (.slice (some ⟨g,0,none⟩) N cap):=by rw [<-hN];exact h.dm.blk.cell 10
 have j1:(i:Int)<(N:Int):=by omega
 have j2:(0:Int)<=(i:Int):=by omega
 have d1:IntKind.i64.wrap (s.now-x.tm)=s.now-x.tm:=by have:=hok.now;rw [IntKind.wrap_i64];omega
 have HO:Hid (aA A 0 (.slice y1 y2 y3) x.ops):=q5
 have f1:(x.num==n)=true:=by rw [h1];simp
 rw [h2] at q3
 clear h1 h2
 clear hS h hi hok hk hx hN q5 ht
 unfold bdI12 in12 bdO12 out12 b12
 dsimp only [Tryz.f12,Option.getD,cL,cR,cB,cW]
 go_upto_region 27 with fail
 obtain ⟨w1,hw1,H1⟩:=al1 A #[.int .i64 x.id,.int .i64 x.num,.int .i64 x.tm,.bool true,.slice y1 y2 y3] 93
 obtain ⟨xb,hxb⟩:∃x,A.heap.size=x:=⟨_,rfl⟩
 rw [hw1]
 rw [hxb] at H1 ⊢
 have HXB:Hid (A.heap.size=xb):=hxb
 clear hw1 hxb q0 q1 q2 q3 q4 c10 j1 j2
 have HC:Hid (∀y,w1.grownBy y none->y.cell? ⟨xb,1,none⟩=some (.int .i64 x.num)/\y.cell? ⟨xb,2,none⟩=some (.int .i64 x.tm)/\y.cell? ⟨xb,3,none⟩=some (.bool true)/\y.cell? ⟨k,6,none⟩=some (.int .i64 s.tmo)):=fun y hy=>⟨(H1.out.1.grown hy (by simp)).cell 1,(H1.out.1.grown hy (by simp)).cell 2,(H1.out.1.grown hy (by simp)).cell 3,((HD.out.dm.grown H1.out.2.1).grown hy).blk.cell 6⟩
 refine wp_region_noPanic ?_
 refine ag 1000 (fun y=>w1.grownBy y none) (by kernel_rfl) ?_
 have G2:Hid (w1.grownBy w1.drew none):=af _ _
 generalize w1.drew=w2 at G2 ⊢
 have J:Idx [0,1,2,3,4,5,6,7,8,9,10,11,12,13,14,15,16,17,18,19,20]:=trivial
 iterate 21 (refine tK J (G2.out) rfl rfl (fun wk hk=>by obtain ⟨k1,k2,k3,k6⟩:=HC.out wk hk;go_simp;try rfl) ?_;replace J:=J.tl;try simp only [pN])
 refine wD ?_
 refine (‹∀(a:Act) (w:World),Code.wp Tryz.prog _ _ a w->_› _ _ ?_)
 have hg:=aa H1.out.2.1 G2.out
 have hb2:=H1.out.1.grown G2.out (by simp)
 refine HK.out _ w2 xb y1 y2 y3 ⟨rfl,rfl,rfl,rfl,rfl,rfl,rfl,rfl,rfl,by first | rfl | (simp [sl, *];done)⟩ (HD.out.grown hg) (Nat.le_of_eq HXB.out) ⟨_,hb2,rfl⟩ (HO.out.grown hg)
def pb (s:CS)(n mk:Int)(ops:List POp):PMsg:=⟨1,s.num,⟨2,0,s.ses,n,mk,ops⟩,bf⟩
theorem BF (a:Act)(w A0 A:World)(k:Nat)(c:PCfg)(v:Value)(s s':CS)(vl:Value)(l:List PMsg)(mk n:Int)(i xb:Nat)(y1:Option Addr)(y2 y3:Nat)(id num tm:Int)(was:Bool)(ops:List POp)
  (hX:X12 a (.pointer (some ⟨k,0,none⟩)) (.int .i64 s.now) vl (.int .i64 mk) (.int .i64 n) (.int .i64 (i:Nat)) (.pointer (some ⟨xb,0,none⟩)) (.bool true)) (h:D12 w A0 A k c v s vl l) (hi:i<s.dcs.length)
  (hb:∃C,Blk A xb 93 C/\C[4]? = some (.slice y1 y2 y3)) (hne:v.ownBlock≠some xb) (ho:aA A 0 (.slice y1 y2 y3) ops) (hfit:Fit ops) (hl:l.length<=1000000000000)
  (hx:s.dcs[i]=⟨id,num,tm,was,ops⟩) (hs:s'.dcs=s.dcs.set i ⟨id,num,s.now,true,ops⟩) (hc:∀v,docC s' c v=docC s c v) :
  rs12.wp Tryz.prog (At4 fun a' A'=>∃vl',S12 a' (.pointer (some ⟨k,0,none⟩)) (.int .i64 s.now) vl' (.int .i64 mk) (.int .i64 n) (.int .i64 (i:Nat))/\D12 w A0 A' k c v s' vl' (l ++ [pb s n mk ops])) a A:=by
 obtain ⟨t,rfl⟩:=hX.eq
 obtain ⟨g,cap,z1,z2,z3,rfl,q0,q1,q2,q3,q4,q5⟩:=dK h.dm.row i hi
 obtain ⟨C,hC,hC4⟩:=hb
 obtain ⟨vo,vn,vc,rfl,hvn⟩:=h.ms.slice
 have HD:Hid (D12 w A0 A k c (.slice (some ⟨g,0,none⟩) s.dcs.length cap) s (.slice vo vn vc) l/\Blk A xb 93 C/\C[4]? = some (.slice y1 y2 y3)/\g≠xb/\aA A 0 (.slice y1 y2 y3) ops/\Fit ops/\l.length<=1000000000000):=⟨h,hC,hC4,by simpa [Value.ownBlock] using hne,ho,hfit,hl⟩
 have HS:Hid (s'.dcs=s.dcs.set i ⟨id,num,s.now,true,ops⟩/\∀v,docC s' c v=docC s c v):=⟨hs,hc⟩
 have HI:Hid (i<s.dcs.length):=hi
 have HX:Hid ((s.dcs[i]'(HI.out))=⟨id,num,tm,was,ops⟩):=hx
 obtain ⟨N,hN⟩:∃N,s.dcs.length=N:=⟨_,rfl⟩
 have HN:Hid (s.dcs.length=N):=hN
 have HVN:Hid (vn=l.length):=hvn
 have c10:A.cell? ⟨k,10,none⟩=some (.slice (some ⟨g,0,none⟩) N cap):=by rw [<-hN];exact h.dm.blk.cell 10
 have j1:(i:Int)<(N:Int):=by omega
 have j2:(0:Int)<=(i:Int):=by omega
 have f3:=jC h.dm.row (i*5+3)
 rw [hx] at q3
 clear hX h hs hc hi hx hN hC hC4 hne ho hfit hl hvn q0 q1 q2 q4 q5
 unfold rs12 bdI12 in12 bdO12 out12 b12
 dsimp only [Tryz.f12,Option.getD,cL,cR,cB,cW]
 go_upto_region 29 with fail
 have H1:Hid (DRow (A.setCell ⟨g,i*5+3,none⟩ (.bool true)) w.heap.size (.slice (some ⟨g,0,none⟩) N cap) (s.dcs.set i ⟨id,num,tm,true,ops⟩)/\A.grownBy (A.setCell ⟨g,i*5+3,none⟩ (.bool true)) (some g)):=by
  have hr:=HD.out.1.dm.row
  rw [HN.out] at hr
  exact jB hr aR (by decide) i HI.out 3 (by decide) (.bool true) _ fun x w' hx=>by
   obtain ⟨ov,rfl,h⟩:=hx
   have e:=HX.out
   exact ⟨ov,by simp [e],by simpa [e] using h⟩
 generalize A.setCell ⟨g,i*5+3,none⟩ (.bool true)=w1 at H1 ⊢
 have hb1:Blk w1 k 51 _:=HD.out.1.dm.blk.grown H1.out.2 (fun e=>by
  have e':g=k:=by simpa using e
  obtain ⟨C',hC'⟩:=(HD.out.1.dm.row.blk g rfl).2
  rw [e'] at hC'
  exact absurd (aw HD.out.1.dm.blk hC') (by decide))
 clear c10 q3 f3
 have c10:w1.cell? ⟨k,10,none⟩=some (.slice (some ⟨g,0,none⟩) N cap):=by rw [<-HN.out];exact hb1.cell 10
 clear hb1
 obtain ⟨g',cap',u1,u2,u3,e,p0,p1,p2,p3,p4,p5⟩:=dK H1.out.1 i (by rw [List.length_set];exact HI.out)
 simp at e
 obtain ⟨rfl,_,rfl⟩:=e
 have f2:=jC H1.out.1 (i*5+2)
 clear p0 p1 p3 p4 p5
 go_upto_region 30 with fail
 have H2:Hid (DRow (w1.setCell ⟨g,i*5+2,none⟩ (.int .i64 s.now)) w.heap.size (.slice (some ⟨g,0,none⟩) N cap) (s.dcs.set i ⟨id,num,s.now,true,ops⟩)/\A.grownBy (w1.setCell ⟨g,i*5+2,none⟩ (.int .i64 s.now)) (some g)):=by
  have hr:=H1.out.1
  obtain ⟨r1,r2⟩:=jB hr aR (by decide) i (by rw [List.length_set];exact HI.out) 2 (by decide) (.int .i64 s.now) ⟨id,num,s.now,true,ops⟩ fun x w' hx=>by
   obtain ⟨ov,rfl,h⟩:=hx
   rw [List.getElem_set_self] at h ⊢
   exact ⟨ov,rfl,h⟩
  rw [List.set_set] at r1
  exact ⟨r1,aa H1.out.2 r2⟩
 generalize w1.setCell ⟨g,i*5+2,none⟩ (.int .i64 s.now)=w2 at H2 ⊢
 clear c10 p2 f2 j1 j2
 have HG:Hid (∃C',Blk A g 93 C'):=(HD.out.1.dm.row.blk g rfl).2
 have H3:Hid (D12 w A0 w2 k c (.slice (some ⟨g,0,none⟩) s.dcs.length cap) s' (.slice vo vn vc) l/\Blk w2 xb 93 C/\aA w2 0 (.slice y1 y2 y3) ops):=by
  obtain ⟨C',hC'⟩:=HG.out
  obtain ⟨⟨b1,b2,b3,b4⟩,hm,hk,hlo,hk0⟩:=HD.out.1
  have hgw:w.heap.size<=g:=((LRow.lt b2) g rfl).1
  refine ⟨⟨⟨?_,?_,b3,ai b4 H2.out.2 (by intro x hx;simp at hx;omega)⟩,hm.set hC' (by decide) (by decide) (by decide) H2.out.2,aL hk (bI hC' (.inr rfl) H2.out.2),Nat.le_trans hlo H2.out.2.size,hk0⟩,HD.out.2.1.grown H2.out.2 (by have:=HD.out.2.2.2.1;simpa using fun e=>this e),HD.out.2.2.2.2.1.set hC' (by decide) (by decide) H2.out.2⟩
  ·rw [HS.out.2]
   exact b1.grown H2.out.2 (fun e=>by
    simp at e
    subst e
    exact absurd (aw b1 hC') (by decide))
  ·rw [HS.out.1,HN.out]
   exact H2.out.1
 have HRD:Hid (∀y,w2.grownBy y (Value.slice vo vn vc).ownBlock->y.cell? ⟨k,0,none⟩=some (.int .i64 s.num)/\y.cell? ⟨k,11,none⟩=some (.int .i64 s.ses)/\y.cell? ⟨xb,4,none⟩=some (.slice y1 y2 y3)):=by
  intro y hy
  have ne:∀{t:Nat} {C:Array Value} {x:Nat},Blk w2 x t C->t≠45->(Value.slice vo vn vc).ownBlock≠some x:=fun hx ht e=>by
   obtain ⟨⟨vs,h1,_⟩,_⟩:=H3.out.1.ms
   obtain ⟨C,hC⟩:=bp h1 e
   exact ht (aw hx hC)
  have hb:=H3.out.1.dm.blk
  rw [HS.out.2] at hb
  refine ⟨(hb.grown hy (ne hb (by decide))).cell 0,(hb.grown hy (ne hb (by decide))).cell 11,?_⟩
  rw [(H3.out.2.1.grown hy (ne H3.out.2.1 (by decide))).cell]
  exact HD.out.2.2.1
 refine ag 1000 (fun y=>w2.grownBy y (Value.slice vo vn vc).ownBlock) (by kernel_rfl) ?_
 have G2:Hid (w2.grownBy w2.drew none):=af _ _
 generalize w2.drew=wd at G2 ⊢
 have J:Idx [0,1,2,3,4,5,6,7,8,9,10,11,12]:=trivial
 iterate 13 (refine tK J ((aC G2.out)) rfl rfl (fun wk hk=>by obtain ⟨k0,k11,k4⟩:=HRD.out wk hk;go_simp;try rfl) ?_;replace J:=J.tl;try simp only [pN])
 refine wO 13 rfl fun K hK=>?_
 go_wp2_with fail
 refine (pE (.slice y1 y2 y3) ops wd (H3.out.2.2.grown G2.out).ops HD.out.2.2.2.2.2.1).mono ?_
 rintro e w5 ⟨u,rfl,hu,hg⟩
 obtain ⟨uo,un,uc,rfl⟩:=dz hu
 have H5:Hid (w2.grownBy w5 none/\aA w5 A0.heap.size (.slice uo un uc) ops):=⟨aa G2.out hg,hu.mono (Nat.le_trans H3.out.1.lo G2.out.size)⟩
 clear hu hg
 go_wp2_with fail
 refine hK.out _ _ (fun _=>aC H5.out.1) ?_
 clear hK K
 try simp only [pN]
 have J:Idx [14,15]:=trivial
 iterate 2 (refine tK J ((aC H5.out.1)) rfl rfl (fun wk hk=>by obtain ⟨k0,k11,k4⟩:=HRD.out wk hk;go_simp;try rfl) ?_;replace J:=J.tl;try simp only [pN])
 refine wO 16 rfl fun K hK=>?_
 obtain ⟨w8,hw8,H8'⟩:=al1 w5 #[.int .i64 1,.int .i64 s.num,.int .i64 2,.int .i64 0,.int .i64 s.ses,.int .i64 n,.int .i64 mk,.slice uo un uc,.int .i64 0,.int .i64 0,.int .i64 0,.int .i64 0,.slice none 0 0] 45
 obtain ⟨p8,hp8⟩:∃x,w5.heap.size=x:=⟨_,rfl⟩
 rw [hp8] at H8'
 have HW8:Hid (w5.alloc (.cells #[.int .i64 1,.int .i64 s.num,.int .i64 2,.int .i64 0,.int .i64 s.ses,.int .i64 n,.int .i64 mk,.slice uo un uc,.int .i64 0,.int .i64 0,.int .i64 0,.int .i64 0,.slice none 0 0] 45)=w8/\w5.heap.size=p8):=⟨hw8,hp8⟩
 clear hw8 hp8
 go_wp2_with fail
 rw [HW8.out.1,HW8.out.2]
 have H8:Hid (MB w8 p8 (.slice uo un uc) (.slice none 0 0) (pb s n mk ops)/\w2.grownBy w8 none/\aA w8 A0.heap.size (.slice uo un uc) ops):=⟨H8'.out.1,aa H5.out.1 H8'.out.2.1,H5.out.2.grown H8'.out.2.1⟩
 clear HW8 H8'
 refine hK.out _ _ (fun _=>aC H8.out.2.1) ?_
 clear hK K
 try simp only [pN]
 refine wO 17 rfl fun K hK=>?_
 refine ja w8 _ _ rfl A0.heap.size (.slice vo vn vc) l (pb s n mk ops) p8 _ _ rfl rfl (H3.out.1.ms.grown H8.out.2.1) H8.out.1 H8.out.2.2 (Own.nil _ _) (by have:=HD.out.2.2.2.2.2.2;omega) (Nat.le_trans H3.out.1.lo H8.out.2.1.size) ?_
 intro g' cap' w10 hr hg hgg
 have H10:Hid (aF w10 A0.heap.size (.slice (some ⟨g',0,none⟩) (l.length+1) cap') (l ++ [pb s n mk ops])/\w2.grownBy w10 (Value.slice vo vn vc).ownBlock):=⟨hr,aa (aC H8.out.2.1) hg⟩
 clear hr hg hgg
 refine hK.out _ _ (fun _=>H10.out.2) ?_
 clear hK K
 try simp only [pN]
 have J:Idx [18]:=trivial
 iterate 1 (refine tK J (H10.out.2) rfl rfl (fun wk hk=>by obtain ⟨k0,k11,k4⟩:=HRD.out wk hk;go_simp;try rfl) ?_;replace J:=J.tl;try simp only [pN])
 refine wD ?_
 refine ⟨_,⟨rfl,rfl,rfl,rfl,rfl,rfl,rfl,rfl⟩,?_⟩
 obtain ⟨⟨b1,b2,b3,b4⟩,hm,hk,hlo,hk0⟩:=H3.out.1
 have hbl:∀q,(Value.slice vo vn vc).ownBlock=some q->A0.heap.size<=q/\∃C,Blk w2 q 45 C:=fun q hq=>by
  obtain ⟨⟨vs,h1,_⟩,_⟩:=hm
  exact ⟨(World.ownsRow.lt h1 q hq).1,bp h1 hq⟩
 have hf:Fr w2 w10 (fun i=>(Value.slice vo vn vc).ownBlock=some i):=Fr.of H10.out.2 fun k hk=>hk
 have hw:w.grownBy w10 none:=by
  cases e:(Value.slice vo vn vc).ownBlock with
  | none=>have h:=H10.out.2;rw [e] at h;exact aa b4 h
  | some q =>
   have h:=H10.out.2
   rw [e] at h
   obtain ⟨q1,_⟩:=hbl q e
   exact ai b4 h (by intro x hx;simp at hx;have:=b3;omega)
 have hD:Dm w w10 k c (.slice (some ⟨g,0,none⟩) s.dcs.length cap) s':=Dm.beside ⟨b1,b2,b3,b4⟩ hf (fun i hi=>by
  obtain ⟨_,C,hC⟩:=hbl i hi
  exact ⟨45,C,hC,by decide,by decide⟩) (fun i hi=>by
  obtain ⟨_,C,hC⟩:=hbl i hi
  exact ⟨45,C,hC,by unfold DT;omega⟩) hw
 refine ⟨hD,H10.out.1,?_,Nat.le_trans hlo H10.out.2.size,hk0⟩
 exact Fr.trans hk (hf.mono fun i hi=>hi) fun i hi=>.inr (by
  have h1:(Value.slice vo vn vc).ownBlock=some i:=hi
  obtain ⟨q1,_⟩:=hbl i h1
  exact q1)
variable {s:CS} {w A A':World} {k:Nat} {c:PCfg} {v:Value}
def lz (s:CS)(m i t:Nat):Prop:=(t=m/\∀(i':Nat) (h:i'<s.dcs.length),i'<i->s.dcs[i'].num≠((m+1:Nat):Int))\/(t=m+1/\∃(i':Nat) (h:i'<s.dcs.length),i'<i/\s.dcs[i'].num=((m+1:Nat):Int))
def In12 (w A0:World)(k:Nat)(c:PCfg)(v:Value)(s:CS)(m i j:Nat)(a:Act)(A:World):Prop :=
 ∃t vl,S12 a (.pointer (some ⟨k,0,none⟩)) (.int .i64 s.now) vl (.int .i64 (lead s.L:Nat)) (.int .i64 ((m+1:Nat):Int)) (.int .i64 (i:Nat))/\D12 w A0 A k c v (s.upto t) vl (gather (bJ s) s.L t)/\lz s m j t/\t<=s.L.length
theorem jD (s:CS)(t:Nat)(c:PCfg)(v:Value):docC (s.upto t) c v=docC s c v:=by
 have:=o_ s t
 unfold docC
 rw [this]
 rfl
theorem jE (s:CS)(t:Nat):(s.upto t).dcs.length=s.dcs.length:=by rw [eX,List.length_map]
theorem wZ (s:CS)(t i:Nat)(h:i<(s.upto t).dcs.length):(s.upto t).dcs[i].num=(s.dcs[i]'(by rw [jE] at h;exact h)).num:=by
 simp only [eX,List.getElem_map]
 exact qB _ _ _ _
theorem tI (s:CS)(t:Nat):(gather (bJ s) s.L t).length<=t:=dq (fun k c=>by unfold bJ;split <;> simp) t
theorem BG (a:Act)(w A0 A:World)(k:Nat)(c:PCfg)(v:Value)(s:CS)(m i:Nat)(hok:Okc s)(h1:1<=s.ses)(hm:m<s.L.length)(hi:i<s.dcs.length)(h:In12 w A0 k c v s m i i a A) :
  bdI12.wp Tryz.prog (At4 (In12 w A0 k c v s m i (i+1))) a A:=by
 obtain ⟨t,vl,hS,hD,hF,htl⟩:=h
 have hokt:=hok.upto t h1
 have hit:i<(s.upto t).dcs.length:=by rw [jE];exact hi
 have hlen:=hok.last
 rw [wU]
 have stay:∀t',s.upto t'=s.upto t->gather (bJ s) s.L t'=gather (bJ s) s.L t->lz s m (i+1) t'->t'<=s.L.length->∀a' A' xb,X12 a' (.pointer (some ⟨k,0,none⟩)) (.int .i64 s.now) vl (.int .i64 (lead s.L:Nat)) (.int .i64 ((m+1:Nat):Int)) (.int .i64 (i:Nat)) (.pointer (some ⟨xb,0,none⟩)) (.bool false)->D12 w A0 A' k c v (s.upto t) vl (gather (bJ s) s.L t)->rs12.wp Tryz.prog (At4 (In12 w A0 k c v s m i (i+1))) a' A':=by
  intro t' e1 e2 e3 e4 a' A' xb hX hD'
  have HD:Hid (D12 w A0 A' k c v (s.upto t') vl (gather (bJ s) s.L t')/\lz s m (i+1) t'/\t'<=s.L.length):=⟨by rw [e1,e2];exact hD',e3,e4⟩
  obtain ⟨q,rfl⟩:=hX.eq
  clear hX hD' hS hD hF hokt hit e1 e2 e3 e4 hok h1 hm hi hlen htl
  unfold rs12 bdI12 in12 bdO12 out12 b12
  dsimp only [Tryz.f12,Option.getD,cL,cR,cB,cW]
  go_wp2_with fail
  exact ⟨t',vl,⟨rfl,rfl,rfl,rfl,rfl,rfl,rfl,rfl⟩,HD.out⟩
 by_cases hn:s.dcs[i].num=((m+1:Nat):Int)
 ·have htm:t=m:=by
   rcases hF with ⟨e,_⟩ | ⟨_,i',hi',hlt,e⟩
   ·exact e
   ·exfalso
    have hr:=lv s
    rw [List.pairwise_iff_getElem] at hr
    exact hr i' i hi' hi hlt (by rw [hn];omega) (by rw [e,hn])
  subst htm
  obtain ⟨cr,hi2,hL,hx,hg,hdue,hnot⟩:=zq hi hn
  have hfar:lz s t (i+1) (t+1):=.inr ⟨rfl,i,hi,by omega,hn⟩
  have hcr:=hok.call cr (.inl (List.mem_iff_getElem?.2 ⟨t,hL⟩))
  have hxn:(s.upto t).dcs[i].num=((t+1:Nat):Int):=by rw [hx]
  have hxw:(s.upto t).dcs[i].was=cr.was:=by rw [hx]
  have hxt:(s.upto t).dcs[i].tm=cr.tm:=by rw [hx]
  have hxo:(s.upto t).dcs[i].ops=cr.ops:=by rw [hx]
  have go:due cr.was cr.tm s.now s.tmo=true->∀a' A' xb y1 y2 y3,X12 a' (.pointer (some ⟨k,0,none⟩)) (.int .i64 (s.upto t).now) vl (.int .i64 (lead s.L:Nat)) (.int .i64 ((t+1:Nat):Int)) (.int .i64 (i:Nat)) (.pointer (some ⟨xb,0,none⟩)) (.bool true)->D12 w A0 A' k c v (s.upto t) vl (gather (bJ s) s.L t)->A.heap.size<=xb->(∃C,Blk A' xb 93 C/\C[4]? = some (.slice y1 y2 y3))->aA A' 0 (.slice y1 y2 y3) (s.upto t).dcs[i].ops->rs12.wp Tryz.prog (At4 (In12 w A0 k c v s t i (i+1))) a' A':=by
   intro hd a' A' xb y1 y2 y3 hX hD' hxb hC ho
   rw [hxo] at ho
   have hne:v.ownBlock≠some xb:=fun e=>by
    have:=(LRow.lt hD.dm.row xb e).2
    omega
   refine Code.wp_mono ?_ (BF a' w A0 A' k c v (s.upto t) (s.upto (t+1)) vl _ _ _ i xb y1 y2 y3 cr.id ((t+1:Nat):Int) cr.tm cr.was cr.ops hX hD' hi2 hC hne ho (ry hcr.1) (by have:=tI s t;omega) hx (hdue hd) (fun v=>by rw [jD,jD]))
   rintro e a2 A2 h2
   cases e with
   | normal =>
    obtain ⟨vl',hS2,hD2⟩:=h2
    refine ⟨t+1,vl',hS2,?_,hfar,hm⟩
    have e:gather (bJ s) s.L (t+1)=gather (bJ s) s.L t ++ [pb (s.upto t) ((t+1:Nat):Int) (lead s.L:Nat) cr.ops]:=by
     rw [hg]
     unfold bJ
     rw [if_pos hd]
     rfl
    rw [e]
    exact hD2
   | _=>exact h2.elim
  rcases tH cr.was cr.tm s.now s.tmo with ⟨d1,d2⟩ | ⟨d1,d2,d3⟩ | ⟨d1,d2,d3⟩
  ·exact wW a w A0 A k c v (s.upto t) vl _ _ _ i hS hD hit hokt hxn (by rw [hxw,d1]) rs12 _ (go d2)
  ·exact wX a w A0 A k c v (s.upto t) vl _ _ _ i hS hD hit hokt hxn (by rw [hxw,d1]) (by rw [hxt];exact d2) rs12 _ (go d3)
  ·refine wY a w A0 A k c v (s.upto t) vl _ _ _ i hS hD hit hokt hxn (by rw [hxw,d1]) (by rw [hxt];exact d2) rs12 _ ?_
   intro a' A' xb y1 y2 y3 hX hD' _ _ _
   exact stay (t+1) (hnot d3) (by rw [hg];unfold bJ;rw [if_neg (by rw [d3];decide)];simp) hfar hm a' A' xb hX hD'
 ·have hxn:(s.upto t).dcs[i].num≠((m+1:Nat):Int):=by rw [wZ];exact hn
  have hfar:lz s m (i+1) t:=by
   rcases hF with ⟨e,h⟩ | ⟨e,i',hi',hlt,h⟩
   ·refine .inl ⟨e,fun i' hi' hlt=>?_⟩
    by_cases e2:i'=i
    ·subst e2
     exact hn
    ·exact h i' hi' (by omega)
   ·exact .inr ⟨e,i',hi',by omega,h⟩
  refine wV a w A0 A k c v (s.upto t) vl _ _ _ i hS hD hit hokt hxn rs12 _ ?_
  intro a' A' xb y1 y2 y3 hX hD' _ _ _
  exact stay t rfl rfl hfar htl a' A' xb hX hD'
def BH (w A0:World)(k:Nat)(c:PCfg)(v:Value)(s:CS)(m i:Nat):Exit->Act->World->Prop
 | .normal,a,W=>In12 w A0 k c v s m i i a W/\i<s.dcs.length
 | .exit q,a,W=>In12 w A0 k c v s m i i a W/\q=4/\s.dcs.length<=i
 | _,_,_=>False
theorem BI (a:Act)(w A0 A:World)(k:Nat)(c:PCfg)(v:Value)(s:CS)(m i:Nat)(h:In12 w A0 k c v s m i i a A):(cL in12).wp Tryz.prog (BH w A0 k c v s m i) a A:=by
 obtain ⟨t,vl,hS,hD,hF,htl⟩:=h
 obtain ⟨ao,cap,rfl⟩:=hD.dm.sl
 obtain ⟨n,hn⟩:∃n,s.dcs.length=n:=⟨_,rfl⟩
 have e:(s.upto t).dcs.length=n:=by rw [jE];exact hn
 rw [e] at hD ⊢
 have HD:Hid (D12 w A0 A k c (.slice ao n cap) (s.upto t) vl (gather (bJ s) s.L t)/\lz s m i t/\t<=s.L.length/\s.dcs.length=n):=⟨hD,hF,htl,hn⟩
 have c10:A.cell? ⟨k,10,none⟩=some (.slice ao n cap):=hD.dm.blk.cell 10
 obtain ⟨q,rfl⟩:=hS.eq
 clear hS hD hF htl hn e
 unfold in12 bdO12 out12 b12
 dsimp only [Tryz.f12,Option.getD,cL,cR,cB,cW]
 by_cases z1:i<n
 ·have j1:(i:Int)<(n:Int):=by omega
  go_wp2_with fail
  exact ⟨⟨t,vl,⟨rfl,rfl,rfl,rfl,rfl,rfl,rfl,rfl⟩,HD.out.1,HD.out.2.1,HD.out.2.2.1⟩,by rw [HD.out.2.2.2];exact z1⟩
 ·have j1:¬(i:Int)<(n:Int):=by omega
  go_wp2_with fail
  exact ⟨⟨t,vl,⟨rfl,rfl,rfl,rfl,rfl,rfl,rfl,rfl⟩,HD.out.1,HD.out.2.1,HD.out.2.2.1⟩,rfl,by rw [HD.out.2.2.2];omega⟩
theorem Cp (a:Act)(w A0 A:World)(k:Nat)(c:PCfg)(v:Value)(s:CS)(m i:Nat)(hi:i<=2000000000000)(h:In12 w A0 k c v s m i (i+1) a A):(cR (cR in12)).wp Tryz.prog (At4 (In12 w A0 k c v s m (i+1) (i+1))) a A:=by
 obtain ⟨t,vl,hS,hD,hF,htl⟩:=h
 have HD:Hid (D12 w A0 A k c v (s.upto t) vl (gather (bJ s) s.L t)/\lz s m (i+1) t/\t<=s.L.length):=⟨hD,hF,htl⟩
 have wi:IntKind.i64.wrap ((i:Int)+1)=((i+1:Nat):Int):=by rw [IntKind.wrap_i64];push_cast;omega
 obtain ⟨q,rfl⟩:=hS.eq
 clear hS hD hF htl hi
 unfold in12 bdO12 out12 b12
 dsimp only [Tryz.f12,Option.getD,cL,cR,cB,cW]
 go_wp2_with fail
 exact ⟨t,vl,⟨rfl,rfl,rfl,rfl,rfl,rfl,rfl,by first | rfl | (simp [sl];done)⟩,HD.out⟩
theorem zt (a:Act)(w A0 A:World)(k:Nat)(c:PCfg)(v:Value)(s:CS)(m:Nat)(hok:Okc s)(h1:1<=s.ses)(hm:m<s.L.length)
  (Q:Exit->Act->World->Prop) (hQ:∀i a W,In12 w A0 k c v s m i i a W->s.dcs.length<=i->Q (.exit 4) a W) (h0:In12 w A0 k c v s m 0 0 a A) :
  (Code.loop in12).wp Tryz.prog Q a A:=by
 have hlen:s.dcs.length<=1000000000000:=by have:=eK s;have:=hok.last;omega
 refine wp_loop (fun a W=>∃i,i<=s.dcs.length/\In12 w A0 k c v s m i i a W) (fun a _=>s.dcs.length-(intOf (sl a.tmps 10)).toNat) ⟨0,Nat.zero_le _,h0⟩ ?_
 rintro a A ⟨i,hi0,ht⟩
 have h10:sl a.tmps 10=.int .i64 (i:Nat):=by
  obtain ⟨_,_,hS,_⟩:=ht
  exact hS.e10
 rw [zr]
 refine wp_seq (Code.wp_mono ?_ (BI a w A0 A k c v s m i ht))
 rintro e a1 w1 h1'
 cases e with
 | normal =>
  obtain ⟨ht1,hi1⟩:=h1'
  refine wp_seq (wp_block (Code.wp_mono ?_ (BG a1 w A0 w1 k c v s m i hok h1 hm hi1 ht1)))
  rintro e a2 w2 h2
  cases e with
  | normal =>
   refine Code.wp_mono ?_ (Cp a2 w A0 w2 k c v s m i (by omega) h2)
   rintro e a3 w3 h3
   cases e with
   | normal =>
    refine ⟨⟨i+1,by omega,h3⟩,?_⟩
    have h10':sl a3.tmps 10=.int .i64 ((i+1:Nat):Int):=by
     obtain ⟨_,_,hS,_⟩:=h3
     exact hS.e10
    show s.dcs.length-(intOf (sl a3.tmps 10)).toNat<s.dcs.length-(intOf (sl a.tmps 10)).toNat
    rw [h10',h10]
    simp [intOf]
    omega
   | _=>exact h3.elim
  | _=>exact h2.elim
 | exit q =>
  obtain ⟨ht1,rfl,hle⟩:=h1'
  exact hQ _ _ _ ht1 hle
 | _=>exact h1'.elim
def gL (w A0:World)(k:Nat)(c:PCfg)(v:Value)(s:CS)(m t:Nat)(a:Act)(A:World):Prop :=
 ∃vl v10,S12 a (.pointer (some ⟨k,0,none⟩)) (.int .i64 s.now) vl (.int .i64 (lead s.L:Nat)) (.int .i64 ((m+1:Nat):Int)) v10/\D12 w A0 A k c v (s.upto t) vl (gather (bJ s) s.L t)/\t<=s.L.length
def zu (w A0:World)(k:Nat)(c:PCfg)(v:Value)(s:CS)(m:Nat):Exit->Act->World->Prop
 | .normal,a,W=>gL w A0 k c v s m m a W/\m<s.L.length
 | .exit q,a,W=>gL w A0 k c v s m m a W/\q=2/\s.L.length<=m
 | _,_,_=>False
theorem zv (a:Act)(w A0 A:World)(k:Nat)(c:PCfg)(v:Value)(s:CS)(m:Nat)(h:gL w A0 k c v s m m a A):(cL out12).wp Tryz.prog (zu w A0 k c v s m) a A:=by
 obtain ⟨vl,v10,hS,hD,htl⟩:=h
 obtain ⟨n,hn⟩:∃n,s.L.length=n:=⟨_,rfl⟩
 have HD:Hid (D12 w A0 A k c v (s.upto m) vl (gather (bJ s) s.L m)/\m<=s.L.length/\s.L.length=n):=⟨hD,htl,hn⟩
 have c16:A.cell? ⟨k,16,none⟩=some (.int .i64 (n:Nat)):=by
  have h:=hD.dm.blk
  rw [jD] at h
  rw [<-hn]
  exact h.cell 16
 obtain ⟨q,rfl⟩:=hS.eq
 have hm:m<=n:=by rw [<-hn];exact htl
 clear hS hD htl hn
 unfold out12 b12
 dsimp only [Tryz.f12,Option.getD,cL,cR,cB,cW]
 by_cases z1:m<n
 ·have j1:((m:Int)+1)<=(n:Int):=by omega
  have j2:(((m+1:Nat):Int))<=(n:Int):=by omega
  go_wp2_with fail
  exact ⟨⟨vl,v10,⟨rfl,rfl,rfl,rfl,rfl,rfl,rfl,rfl⟩,HD.out.1,HD.out.2.1⟩,by rw [HD.out.2.2];exact z1⟩
 ·have j1:¬((m:Int)+1)<=(n:Int):=by omega
  have j2:¬(((m+1:Nat):Int))<=(n:Int):=by omega
  go_wp2_with fail
  exact ⟨⟨vl,v10,⟨rfl,rfl,rfl,rfl,rfl,rfl,rfl,rfl⟩,HD.out.1,HD.out.2.1⟩,rfl,by rw [HD.out.2.2];omega⟩
theorem zw (a:Act)(w A0 A:World)(k:Nat)(c:PCfg)(v:Value)(s:CS)(m:Nat)(h:gL w A0 k c v s m m a A):(cL bdO12).wp Tryz.prog (At4 (In12 w A0 k c v s m 0 0)) a A:=by
 obtain ⟨vl,v10,hS,hD,htl⟩:=h
 have HD:Hid (D12 w A0 A k c v (s.upto m) vl (gather (bJ s) s.L m)/\m<=s.L.length):=⟨hD,htl⟩
 obtain ⟨q,rfl⟩:=hS.eq
 clear hS hD htl
 unfold bdO12 out12 b12
 dsimp only [Tryz.f12,Option.getD,cL,cR,cB,cW]
 go_wp2_with fail
 exact ⟨m,vl,⟨rfl,rfl,rfl,rfl,rfl,rfl,rfl,rfl⟩,HD.out.1,.inl ⟨rfl,fun i' _ h=>absurd h (by omega)⟩,HD.out.2⟩
theorem BJ (a:Act)(w A0 A:World)(k:Nat)(c:PCfg)(v:Value)(s:CS)(m:Nat)(hm:m<=2000000000000)(h:gL w A0 k c v s m (m+1) a A):(cR (cR out12)).wp Tryz.prog (At4 (gL w A0 k c v s (m+1) (m+1))) a A:=by
 obtain ⟨vl,v10,hS,hD,htl⟩:=h
 have HD:Hid (D12 w A0 A k c v (s.upto (m+1)) vl (gather (bJ s) s.L (m+1))/\m+1<=s.L.length):=⟨hD,htl⟩
 have wi:IntKind.i64.wrap ((m:Int)+1+1)=((m+1+1:Nat):Int):=by rw [IntKind.wrap_i64];push_cast;omega
 have wi2:IntKind.i64.wrap (((m+1:Nat):Int)+1)=((m+1+1:Nat):Int):=by rw [IntKind.wrap_i64];push_cast;omega
 obtain ⟨q,rfl⟩:=hS.eq
 clear hS hD htl hm
 unfold out12 b12
 dsimp only [Tryz.f12,Option.getD,cL,cR,cB,cW]
 go_wp2_with fail
 exact ⟨vl,v10,⟨rfl,rfl,rfl,rfl,rfl,rfl,by first | rfl | (simp [sl];done),rfl⟩,HD.out⟩
theorem Cq (a:Act)(w A0 A:World)(k:Nat)(c:PCfg)(v:Value)(s:CS)(m:Nat)(hok:Okc s)(h1:1<=s.ses)(hm:m<s.L.length)(h:gL w A0 k c v s m m a A):(Code.block 3 bdO12).wp Tryz.prog (At4 (gL w A0 k c v s m (m+1))) a A:=by
 refine wp_block ?_
 rw [wT]
 refine wp_seq (Code.wp_mono ?_ (zw a w A0 A k c v s m h))
 rintro e a1 w1 h1'
 cases e with
 | normal =>
  refine wp_block (zt a1 w A0 w1 k c v s m hok h1 hm _ ?_ h1')
  rintro i a W ⟨t,vl,hS,hD,hF,htl⟩ hle
  refine ⟨vl,_,hS,?_,hm⟩
  rcases hF with ⟨rfl,h⟩ | ⟨rfl,_⟩
  ·obtain ⟨e1,e2⟩:=tG (s:=s) (k:=t) fun i' hi'=>h i' hi' (by omega)
   rw [e1,e2]
   exact hD
  ·exact hD
 | _=>exact h1'.elim
theorem zx (a:Act)(w A0 A:World)(k:Nat)(c:PCfg)(v:Value)(s:CS)(m0:Nat)(hok:Okc s)(h1:1<=s.ses)
  (Q:Exit->Act->World->Prop) (hQ:∀m a W,gL w A0 k c v s m m a W->s.L.length<=m->Q (.exit 2) a W) (h0:gL w A0 k c v s m0 m0 a A) :
  (Code.loop out12).wp Tryz.prog Q a A:=by
 have hlen:=hok.last
 refine wp_loop (fun a W=>∃m,m<=s.L.length/\gL w A0 k c v s m m a W) (fun a _=>s.L.length+1-(intOf (sl a.tmps 9)).toNat) ⟨m0,by obtain ⟨_,_,_,_,h⟩:=h0;exact h,h0⟩ ?_
 rintro a A ⟨m,hm0,ht⟩
 have h9:sl a.tmps 9=.int .i64 ((m+1:Nat):Int):=by
  obtain ⟨_,_,hS,_⟩:=ht
  exact hS.e9
 rw [wS]
 refine wp_seq (Code.wp_mono ?_ (zv a w A0 A k c v s m ht))
 rintro e a1 w1 h1'
 cases e with
 | normal =>
  obtain ⟨ht1,hm1⟩:=h1'
  refine wp_seq (Code.wp_mono ?_ (Cq a1 w A0 w1 k c v s m hok h1 hm1 ht1))
  rintro e a2 w2 h2
  cases e with
  | normal =>
   refine Code.wp_mono ?_ (BJ a2 w A0 w2 k c v s m (by omega) h2)
   rintro e a3 w3 h3
   cases e with
   | normal =>
    refine ⟨⟨m+1,by omega,h3⟩,?_⟩
    have h9':sl a3.tmps 9=.int .i64 ((m+1+1:Nat):Int):=by
     obtain ⟨_,_,hS,_⟩:=h3
     exact hS.e9
    show s.L.length+1-(intOf (sl a3.tmps 9)).toNat<s.L.length+1-(intOf (sl a.tmps 9)).toNat
    rw [h9',h9]
    simp [intOf]
    omega
   | _=>exact h3.elim
  | _=>exact h2.elim
 | exit q =>
  obtain ⟨ht1,rfl,hle⟩:=h1'
  exact hQ _ _ _ ht1 hle
 | _=>exact h1'.elim
end Go.Proofs.YtanoabliahcbeaaGreat.Wn
