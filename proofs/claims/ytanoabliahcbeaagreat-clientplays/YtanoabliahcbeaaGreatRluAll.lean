import Derived.Test.YtanoabliahcbeaaGreatRakAll
set_option maxHeartbeats 8000000
set_option maxRecDepth 100000
namespace Go.Proofs.YtanoabliahcbeaaGreat.Wn
open Go.RowKit Disk Table
open _root_.Go.Proofs.YtanoabliahcbeaaGreat.Calls _root_.Go.Proofs.YtanoabliahcbeaaGreat.Command
variable {s:CS} {w A A':World} {k:Nat} {c:PCfg} {v:Value}
noncomputable def b16:Code:=Tryz.f16.body.getD .skip
noncomputable def p16:Code:=cR (cR (cR b16))
noncomputable def q16:Code:=cR (cR p16)
noncomputable def a16:Code:=cR (cR q16)
theorem f16_eq:Tryz.f16.body=some (.seq (cL b16) (.seq (cL (cR b16)) (.seq (cL (cR (cR b16))) p16))):=rfl
theorem p16_eq:p16=.seq (cL p16) (.seq (cL (cR p16)) q16):=rfl
theorem q16_eq:q16=.seq (cL q16) (.seq (cL (cR q16)) a16):=rfl
def row149 (f:Nat->Value):Array Value:=#[f 0,f 1,f 2,f 3,f 4,f 5,f 6,f 7,f 8,f 9,f 10,f 11,f 12,f 13,f 14,f 15,f 16,f 17,f 18,f 19,f 20,f 21,f 22,f 23,f 24,f 25,f 26,f 27,f 28,f 29,f 30,f 31,f 32,f 33,f 34,f 35,f 36,f 37,f 38,f 39,f 40,f 41,f 42,f 43,f 44,f 45,f 46,f 47,f 48,f 49,f 50,f 51,f 52,f 53,f 54,f 55,f 56,f 57,f 58,f 59,f 60,f 61,f 62,f 63,f 64,f 65,f 66,f 67,f 68,f 69,f 70,f 71,f 72,f 73,f 74,f 75,f 76,f 77,f 78,f 79,f 80,f 81,f 82,f 83,f 84,f 85,f 86,f 87,f 88,f 89,f 90,f 91,f 92,f 93,f 94,f 95,f 96,f 97,f 98,f 99,f 100,f 101,f 102,f 103,f 104,f 105,f 106,f 107,f 108,f 109,f 110,f 111,f 112,f 113,f 114,f 115,f 116,f 117,f 118,f 119,f 120,f 121,f 122,f 123,f 124,f 125,f 126,f 127,f 128,f 129,f 130,f 131,f 132,f 133,f 134,f 135,f 136,f 137,f 138,f 139,f 140,f 141,f 142,f 143,f 144,f 145,f 146,f 147,f 148]
theorem t149 (t:Array Value)(h:t.size=149):t=row149 (sl t):=by
 have h1:t.toList=(List.range 149).map (sl t):=by
  apply List.ext_getElem
  ·simp [h]
  ·intro i h1 h2
   simp [sl] at h1 ⊢
   rw [Array.getElem?_eq_getElem h1]
   rfl
 exact Array.toList_inj.1 h1
structure S16 (a:Act)(v0 v4 v5:Value):Prop where
 size:a.tmps.size=149
 defers:a.defers=[]
 e0:sl a.tmps 0=v0
 e4:sl a.tmps 4=v4
 e5:sl a.tmps 5=v5
theorem S16.eq {a:Act}{v0 v4 v5:Value}(h:S16 a v0 v4 v5):∃f:Nat->Value,f 0=v0/\f 4=v4/\f 5=v5/\a={ tmps:=row149 f,defers:=[] }:=by
 obtain ⟨t,d⟩:=a
 have e:=t149 t h.size
 have e2:d=[]:=h.defers
 refine ⟨sl t,h.e0,h.e4,h.e5,?_⟩
 rw [e2]
 exact congrArg (fun x=>Act.mk x []) e
def End16 (P:Ending->World->Prop):Exit->Act->World->Prop
 | .ret,a,w=>a.defers=[]/\P (.returned (sl a.tmps 4)) w
 | _,_,_=>False
structure X16 (w A W:World)(k:Nat)(c:PCfg)(v:Value)(s:CS)(m:PMsg)(tb:Nat)(a1:Option Addr)(a2 a3:Nat):Prop where
 dm:Dm w W k c v s
 gr:A.grownBy W none
 ok:Okc s
 tok:s.tok<=3999999999999992
 tell:Blk W tb 43 #[.int .i64 m.tell.kind,.int .i64 m.tell.token,.int .i64 m.tell.session,.int .i64 m.tell.number,.slice a1 a2 a3]
 ans:Seg W (.slice a1 a2 a3) m.tell.answer
 len:m.tell.answer.length<=140737488355328
 hrs:hears s m=true
 wA:w.heap.size<=A.heap.size
theorem X16.grown {W W':World}{m:PMsg}{tb:Nat}{a1:Option Addr}{a2 a3:Nat}(h:X16 w A W k c v s m tb a1 a2 a3)(hg:W.grownBy W' none):X16 w A W' k c v s m tb a1 a2 a3 :=
 ⟨h.dm.grown hg,grown_trans h.gr hg,h.ok,h.tok,h.tell.grown hg (by simp),h.ans.grown hg,h.len,h.hrs,h.wA⟩
theorem X16.kinds {W:World}{m:PMsg}{tb:Nat}{a1:Option Addr}{a2 a3:Nat}(h:X16 w A W k c v s m tb a1 a2 a3):m.kind=2/\m.client=(s.num:Int)/\okM m=true:=by
 have hn:=h.hrs
 unfold hears at hn
 simp only [Bool.and_eq_true,decide_eq_true_eq] at hn
 exact ⟨hn.1.1,hn.1.2,hn.2⟩
theorem X16.cells {W:World}{m:PMsg}{tb:Nat}{a1:Option Addr}{a2 a3:Nat}(h:X16 w A W k c v s m tb a1 a2 a3):∀y,W.grownBy y none->y.cell? ⟨tb,0,none⟩=some (.int .i64 m.tell.kind)/\y.cell? ⟨tb,1,none⟩=some (.int .i64 m.tell.token)/\y.cell? ⟨tb,2,none⟩=some (.int .i64 m.tell.session)/\y.cell? ⟨k,11,none⟩=some (.int .i64 s.ses)/\y.cell? ⟨k,12,none⟩=some (.int .i64 s.tok):=fun y hy=>by
 have h1:=h.tell.grown hy (by simp)
 have h2:=(h.dm.grown hy).blk
 exact ⟨h1.cell 0,h1.cell 1,h1.cell 2,h2.cell 11,h2.cell 12⟩
theorem X16.quiet {W:World}{m:PMsg}{tb:Nat}{a1:Option Addr}{a2 a3:Nat}(h:X16 w A W k c v s m tb a1 a2 a3)(hc:s.ses=0/\¬(m.tell.kind=1/\m.tell.token=s.tok)\/s.ses≠0/\(m.tell.session≠s.ses\/(m.tell.kind≠3/\m.tell.kind≠4/\m.tell.kind≠5))):RHearP w A k c s m (.returned (.slice none 0 0)) W:=by
 have hk:=h.kinds
 have hq:=still_of h.ok (okM_tell hk.2.2 hk.1).2 hc
 have h0:=heard h.hrs
 refine ⟨_,rfl,?_,?_,keepD_grown h.gr⟩
 ·rw [h0.1,hq.1]
  exact rets_nil _ _
 ·rw [h0.2,hq.2]
  exact ⟨_,h.dm⟩
theorem hear_of (A:World)(o1:Option Addr)(o2 o3:Nat)(a1:Option Addr)(a2 a3:Nat)(m:PMsg)(h:Dm w A k c v s)(hok:Okc s)(ho:Ops A (.slice o1 o2 o3) m.ask.ops)(ha:Seg A (.slice a1 a2 a3) m.tell.answer)(hl:m.tell.answer.length<=140737488355328)(ht:s.tok<=3999999999999992)(hn:hears s m=true)
  (hk:∀a W tb,S16 a (.pointer (some ⟨k,0,none⟩)) (.slice none 0 0) (.pointer (some ⟨tb,0,none⟩))->X16 w A W k c v s m tb a1 a2 a3->p16.wp Tryz.prog (End16 (RHearP w A k c s m)) a W):Calls Tryz.prog 16 #[.pointer (some ⟨k,0,none⟩),msgV (.slice o1 o2 o3) (.slice a1 a2 a3) m] A (RHearP w A k c s m):=by
 have HD:Hid (Dm w A k c v s/\Ops A (.slice o1 o2 o3) m.ask.ops/\Seg A (.slice a1 a2 a3) m.tell.answer/\m.tell.answer.length<=140737488355328/\Okc s/\s.tok<=3999999999999992/\hears s m=true):=⟨h,ho,ha,hl,hok,ht,hn⟩
 have HKK:Hid (∀a W tb,S16 a (.pointer (some ⟨k,0,none⟩)) (.slice none 0 0) (.pointer (some ⟨tb,0,none⟩))->X16 w A W k c v s m tb a1 a2 a3->p16.wp Tryz.prog (End16 (RHearP w A k c s m)) a W):=hk
 have e3:m.kind=2/\m.client=(s.num:Int)/\okM m=true:=by
  unfold hears at hn
  simp only [Bool.and_eq_true,decide_eq_true_eq] at hn
  exact ⟨hn.1.1,hn.1.2,hn.2⟩
 have HE:Hid (okM m=true):=e3.2.2
 obtain ⟨w1,hw1,H1⟩:=al1 A #[.int .i64 m.kind,.int .i64 m.client,.int .i64 m.ask.kind,.int .i64 m.ask.token,.int .i64 m.ask.session,.int .i64 m.ask.number,.int .i64 m.ask.mark,.slice o1 o2 o3,.int .i64 m.tell.kind,.int .i64 m.tell.token,.int .i64 m.tell.session,.int .i64 m.tell.number,.slice a1 a2 a3] 45
 obtain ⟨mb,hmb⟩:∃x,A.heap.size=x:=⟨_,rfl⟩
 rw [hmb] at H1
 have HK:Hid (∀y,w1.grownBy y none->MB y mb (.slice o1 o2 o3) (.slice a1 a2 a3) m/\y.cell? ⟨k,0,none⟩=some (.int .i64 s.num)):=fun y hy=>⟨MB.grown H1.out.1 hy,((h.grown H1.out.2.1).grown hy).blk.cell 0⟩
 have n1:(m.kind != 2)=false:=by simp [e3.1]
 have n2:(m.client != (s.num:Int))=false:=by simp [e3.2.1]
 clear h ho ha hl hok ht hn e3 hk
 unfold msgV
 refine calls_of_wp Tryz.func16 f16_eq ?_
 simp only [Tryz.ntmps16,List.size_toArray,List.length_cons,List.length_nil,Nat.reduceAdd,Nat.reduceSub,Array.replicate_succ,Array.replicate_zero,List.push_toArray,List.append_toArray,List.nil_append,List.cons_append]
 obtain ⟨R,hR⟩:∃R,bodyPost Tryz.prog Tryz.f16 (RHearP w A k c s m)=R:=⟨_,rfl⟩
 rw [hR]
 have HR:Hid (∀(e:Exit) (a:Act) (w':World),End16 (RHearP w A k c s m) e a w'->R e a w'):=by
  intro e a w' h1
  rw [<-hR]
  cases e with
  | ret=>exact ⟨h1.1,_,results_tmp rfl _ _ _,by first | exact h1.2 | simpa [sl] using h1.2⟩
  | _=>exact h1.elim
 clear hR
 unfold b16
 dsimp only [Tryz.f16,Option.getD,cL,cR]
 go_upto_region 1 with fail
 try rw [hw1]
 try rw [hmb]
 clear hw1 hmb
 refine wp_region_noPanic ?_
 refine wp_region_hold 1000 (fun y=>w1.grownBy y none) (by kernel_rfl) ?_
 have w2G:Hid (A.grownBy w1.drew none/\w1.grownBy w1.drew none):=⟨grown_trans H1.out.2.1 (grown_drew _ _),grown_drew _ _⟩
 generalize w1.drew=w2 at w2G ⊢
 have J:Idx [0,1,2,3,4,5,6,7,8,9,10,11,12,13,14,15,16,17]:=trivial
 iterate 18 (refine tK J (w2G.out.2) rfl rfl (fun wk hk=>by obtain ⟨hm,k0⟩:=HK.out wk hk;obtain ⟨p0,p1,p2,p3,p4,p5,p6,p7,p8,p9,p10,p11,p12⟩:=MB.cells hm;go_simp;try rfl) ?_;replace J:=J.tl;try simp only [pN])
 clear J
 refine wpHold_one (i:=18) rfl (by kernel_rfl) (by rfl) (fun K hK=>?_)
 go_wp2_with fail
 refine (may13 (.slice o1 o2 o3) (.slice a1 a2 a3) m w2 (HD.out.2.1.grown w2G.out.1) (HD.out.2.2.1.grown w2G.out.1) HD.out.2.2.2.1).mono ?_
 rintro e w3 ⟨rfl,hg⟩
 rw [HE.out]
 have w3G:Hid (A.grownBy w3 none/\w1.grownBy w3 none):=⟨grown_trans w2G.out.1 hg,grown_trans w2G.out.2 hg⟩
 clear hg
 go_wp2_with fail
 refine hK.out _ _ (fun _=>w3G.out.2) ?_
 clear hK K
 try simp only [pN]
 have J:Idx [19,20]:=trivial
 iterate 2 (refine tK J (w3G.out.2) rfl rfl (fun wk hk=>by obtain ⟨hm,k0⟩:=HK.out wk hk;obtain ⟨p0,p1,p2,p3,p4,p5,p6,p7,p8,p9,p10,p11,p12⟩:=MB.cells hm;go_simp;try rfl) ?_;replace J:=J.tl;try simp only [pN])
 clear J
 refine wpHold_done (by kernel_rfl) ?_
 refine (‹∀(a:Act) (w:World),Code.wp Tryz.prog _ _ a w->_› _ _ ?_)
 clear n1 n2
 obtain ⟨q0,q1,q2,q3,q4,q5,q6,q7,q8,q9,q10,q11,q12⟩:=MB.cells (HK.out w3 w3G.out.2).1
 clear q0 q1 q2 q3 q4 q5 q6 q7
 go_wp2_with fail
 obtain ⟨w4,hw4,H4⟩:=al1 w3 #[.int .i64 m.tell.kind,.int .i64 m.tell.token,.int .i64 m.tell.session,.int .i64 m.tell.number,.slice a1 a2 a3] 43
 obtain ⟨tb,htb⟩:∃x,w3.heap.size=x:=⟨_,rfl⟩
 try rw [hw4]
 try rw [htb]
 rw [htb] at H4
 have hg:=grown_trans w3G.out.1 H4.out.2.1
 exact Code.wp_mono (fun e a w' h=>HR.out e a w' h) (HKK.out _ w4 tb ⟨rfl,rfl,rfl,rfl,rfl⟩ ⟨HD.out.1.grown hg,hg,HD.out.2.2.2.2.1,HD.out.2.2.2.2.2.1,H4.out.1,HD.out.2.2.1.grown hg,HD.out.2.2.2.1,HD.out.2.2.2.2.2.2,HD.out.1.gr.size⟩)
theorem look16 (a:Act)(W:World)(tb:Nat)(a1:Option Addr)(a2 a3:Nat)(m:PMsg)(hS:S16 a (.pointer (some ⟨k,0,none⟩)) (.slice none 0 0) (.pointer (some ⟨tb,0,none⟩)))(hX:X16 w A W k c v s m tb a1 a2 a3)(hc:¬(m.tell.kind=1/\s.ses=0/\m.tell.token=s.tok))(REST:Code)(P:Ending->World->Prop)(hk:∀a' W',S16 a' (.pointer (some ⟨k,0,none⟩)) (.slice none 0 0) (.pointer (some ⟨tb,0,none⟩))->X16 w A W' k c v s m tb a1 a2 a3->REST.wp Tryz.prog (End16 P) a' W'):(Code.seq (cL p16) REST).wp Tryz.prog (End16 P) a W:=by
 have HK:Hid (∀a' W',S16 a' (.pointer (some ⟨k,0,none⟩)) (.slice none 0 0) (.pointer (some ⟨tb,0,none⟩))->X16 w A W' k c v s m tb a1 a2 a3->REST.wp Tryz.prog (End16 P) a' W'):=hk
 clear hk
 obtain ⟨t,sl0,sl4,sl5,rfl⟩:=hS.eq
 unfold row149
 rw [sl0,sl4,sl5]
 clear sl0 sl4 sl5
 have HX:Hid (X16 w A W k c v s m tb a1 a2 a3):=hX
 clear hS hX
 unfold p16 b16
 dsimp only [Tryz.f16,Option.getD,cL,cR]
 by_cases h1:m.tell.kind=1
 ·have f1:(m.tell.kind==1)=true:=by rw [h1];rfl
  by_cases h0:s.ses=0
  ·have f2:(s.ses==0)=true:=by rw [h0];rfl
   have f3:(m.tell.token==s.tok)=false:=by rw [beq_eq_false_iff_ne];exact fun e=>hc ⟨h1,h0,e⟩
   clear h1 h0 hc
   go_upto_region 4 with fail
   refine wp_region_noPanic ?_
   refine wp_region_hold 1000 (fun y=>W.grownBy y none) (by kernel_rfl) ?_
   have G5:Hid (W.grownBy W.drew none):=grown_drew _ _
   generalize W.drew=w5 at G5 ⊢
   have J:Idx [0,1,2,3,4,5,6,7,8,9,10,11,12,13,14,15,16,17,18]:=trivial
   iterate 19 (refine tK J (G5.out) rfl rfl (fun wk hk=>by obtain ⟨k0,k1,k2,k3,k4⟩:=HX.out.cells wk hk;go_simp;try rfl) ?_;replace J:=J.tl;try simp only [pN])
   clear J
   refine wpHold_done (by kernel_rfl) ?_
   refine (‹∀(a:Act) (w:World),Code.wp Tryz.prog _ _ a w->_› _ _ ?_)
   go_wp2_with fail
   exact HK.out _ w5 ⟨rfl,rfl,rfl,rfl,rfl⟩ (HX.out.grown G5.out)
  ·have f2:(s.ses==0)=false:=by rw [beq_eq_false_iff_ne];exact h0
   clear h1 h0 hc
   go_upto_region 4 with fail
   refine wp_region_noPanic ?_
   refine wp_region_hold 1000 (fun y=>W.grownBy y none) (by kernel_rfl) ?_
   have G5:Hid (W.grownBy W.drew none):=grown_drew _ _
   generalize W.drew=w5 at G5 ⊢
   have J:Idx [0,1,2,3,4,5,6,7,8,9,10]:=trivial
   iterate 11 (refine tK J (G5.out) rfl rfl (fun wk hk=>by obtain ⟨k0,k1,k2,k3,k4⟩:=HX.out.cells wk hk;go_simp;try rfl) ?_;replace J:=J.tl;try simp only [pN])
   clear J
   have J:Idx [11,12,13,14,15,16,17]:=trivial
   iterate 7 (refine sk J (G5.out) rfl rfl ?_;replace J:=J.tl;try simp only [pN])
   clear J
   have J:Idx [18]:=trivial
   iterate 1 (refine tK J (G5.out) rfl rfl (fun wk hk=>by obtain ⟨k0,k1,k2,k3,k4⟩:=HX.out.cells wk hk;go_simp;try rfl) ?_;replace J:=J.tl;try simp only [pN])
   clear J
   refine wpHold_done (by kernel_rfl) ?_
   refine (‹∀(a:Act) (w:World),Code.wp Tryz.prog _ _ a w->_› _ _ ?_)
   go_wp2_with fail
   exact HK.out _ w5 ⟨rfl,rfl,rfl,rfl,rfl⟩ (HX.out.grown G5.out)
 ·have f1:(m.tell.kind==1)=false:=by rw [beq_eq_false_iff_ne];exact h1
  clear h1 hc
  go_upto_region 4 with fail
  refine wp_region_noPanic ?_
  refine wp_region_hold 1000 (fun y=>W.grownBy y none) (by kernel_rfl) ?_
  have G5:Hid (W.grownBy W.drew none):=grown_drew _ _
  generalize W.drew=w5 at G5 ⊢
  have J:Idx [0,1,2,3]:=trivial
  iterate 4 (refine tK J (G5.out) rfl rfl (fun wk hk=>by obtain ⟨k0,k1,k2,k3,k4⟩:=HX.out.cells wk hk;go_simp;try rfl) ?_;replace J:=J.tl;try simp only [pN])
  clear J
  have J:Idx [4,5,6,7,8]:=trivial
  iterate 5 (refine sk J (G5.out) rfl rfl ?_;replace J:=J.tl;try simp only [pN])
  clear J
  have J:Idx [9,10]:=trivial
  iterate 2 (refine tK J (G5.out) rfl rfl (fun wk hk=>by obtain ⟨k0,k1,k2,k3,k4⟩:=HX.out.cells wk hk;go_simp;try rfl) ?_;replace J:=J.tl;try simp only [pN])
  clear J
  have J:Idx [11,12,13,14,15,16,17]:=trivial
  iterate 7 (refine sk J (G5.out) rfl rfl ?_;replace J:=J.tl;try simp only [pN])
  clear J
  have J:Idx [18]:=trivial
  iterate 1 (refine tK J (G5.out) rfl rfl (fun wk hk=>by obtain ⟨k0,k1,k2,k3,k4⟩:=HX.out.cells wk hk;go_simp;try rfl) ?_;replace J:=J.tl;try simp only [pN])
  clear J
  refine wpHold_done (by kernel_rfl) ?_
  refine (‹∀(a:Act) (w:World),Code.wp Tryz.prog _ _ a w->_› _ _ ?_)
  go_wp2_with fail
  exact HK.out _ w5 ⟨rfl,rfl,rfl,rfl,rfl⟩ (HX.out.grown G5.out)
theorem open16 (a:Act)(W:World)(tb:Nat)(a1:Option Addr)(a2 a3:Nat)(m:PMsg)(hS:S16 a (.pointer (some ⟨k,0,none⟩)) (.slice none 0 0) (.pointer (some ⟨tb,0,none⟩)))(hX:X16 w A W k c v s m tb a1 a2 a3)(h1:m.tell.kind=1)(h0:s.ses=0)(h2:m.tell.token=s.tok)(REST:Code):(Code.seq (cL p16) REST).wp Tryz.prog (End16 (RHearP w A k c s m)) a W:=by
 have HQ:Hid (hearL s m=[]/\hearS s m=s.opened m.tell.session/\s.L=[]):=by
  have hq0:=heard hX.hrs
  rw [hq0.1,hq0.2]
  unfold tellL tellS openedS
  rw [if_neg (by omega),if_neg (by omega),if_neg (by omega),if_pos h1,if_pos ⟨h0,h2⟩]
  exact ⟨rfl,rfl,hX.ok.none h0⟩
 have f1:(m.tell.kind==1)=true:=by rw [h1];rfl
 have f2:(s.ses==0)=true:=by rw [h0];rfl
 have f3:(m.tell.token==s.tok)=true:=by rw [h2];simp
 clear h1 h0 h2
 obtain ⟨t,sl0,sl4,sl5,rfl⟩:=hS.eq
 unfold row149
 rw [sl0,sl4,sl5]
 clear sl0 sl4 sl5
 have HX:Hid (X16 w A W k c v s m tb a1 a2 a3):=hX
 clear hS hX
 unfold p16 b16
 dsimp only [Tryz.f16,Option.getD,cL,cR]
 go_upto_region 4 with fail
 refine wp_region_noPanic ?_
 refine wp_region_hold 1000 (fun y=>W.grownBy y none) (by kernel_rfl) ?_
 have G5:Hid (W.grownBy W.drew none):=grown_drew _ _
 generalize W.drew=w5 at G5 ⊢
 have J:Idx [0,1,2,3,4,5,6,7,8,9,10,11,12,13,14,15,16,17,18]:=trivial
 iterate 19 (refine tK J (G5.out) rfl rfl (fun wk hk=>by obtain ⟨k0,k1,k2,k3,k4⟩:=HX.out.cells wk hk;go_simp;try rfl) ?_;replace J:=J.tl;try simp only [pN])
 clear J
 refine wpHold_done (by kernel_rfl) ?_
 refine (‹∀(a:Act) (w:World),Code.wp Tryz.prog _ _ a w->_› _ _ ?_)
 have HX5:Hid (X16 w A w5 k c v s m tb a1 a2 a3):=HX.out.grown G5.out
 obtain ⟨k0,k1,k2,k3,k4⟩:=HX5.out.cells w5 (grown_refl _ _)
 have hb:=HX5.out.dm.blk
 have k5:w5.cell? ⟨k,16,none⟩=some (.int .i64 (s.L.length:Nat)):=hb.cell 16
 have f11:=hb.free 11
 have f16:=hb.free 16
 have HB:Hid (Blk ((w5.setCell ⟨k,11,none⟩ (.int .i64 m.tell.session)).setCell ⟨k,16,none⟩ (.int .i64 0)) k 51 (docC (s.opened m.tell.session) c v)/\w5.grownBy ((w5.setCell ⟨k,11,none⟩ (.int .i64 m.tell.session)).setCell ⟨k,16,none⟩ (.int .i64 0)) (some k)) :=
  ⟨(hb.store 11 _).store 16 _,grown_trans (grown_setCell _ _ _ _) (grown_setCell _ _ _ _)⟩
 clear hb
 go_upto_region 7 with fail
 generalize (w5.setCell ⟨k,11,none⟩ (.int .i64 m.tell.session)).setCell ⟨k,16,none⟩ (.int .i64 0)=w6 at HB ⊢
 clear k0 k1 k2 k3 k4 k5 f11 f16
 go_wp2_with fail
 have hq:=HQ.out
 have hd5:=HX5.out.dm
 refine ⟨rfl,_,rfl,by rw [hq.1];exact rets_nil _ _,?_,keepD_trans (keepD_grown HX5.out.gr) (keepD_own hd5.blk (.inl rfl) HB.out.2)⟩
 rw [hq.2.1]
 refine ⟨v,HB.out.1,?_,hd5.lo,grown_new hd5.gr HB.out.2 (by intro x hx;have:=hd5.lo;simp at hx;omega)⟩
 have hr:=LRow.set hd5.row drR_stab hd5.blk (by decide) (by decide) HB.out.2
 have e:(s.opened m.tell.session).dcs=s.dcs:=by simp [CS.dcs,CS.opened,hq.2.2]
 rw [e]
 exact hr
theorem ses16 (a:Act)(W:World)(tb:Nat)(a1:Option Addr)(a2 a3:Nat)(m:PMsg)(hS:S16 a (.pointer (some ⟨k,0,none⟩)) (.slice none 0 0) (.pointer (some ⟨tb,0,none⟩)))(hX:X16 w A W k c v s m tb a1 a2 a3)(h0:s.ses≠0)(h2:m.tell.session=s.ses)(REST:Code)(P:Ending->World->Prop)(hk:∀a' W',S16 a' (.pointer (some ⟨k,0,none⟩)) (.slice none 0 0) (.pointer (some ⟨tb,0,none⟩))->X16 w A W' k c v s m tb a1 a2 a3->REST.wp Tryz.prog (End16 P) a' W'):(Code.seq (cL (cR p16)) REST).wp Tryz.prog (End16 P) a W:=by
 have HK:Hid (∀a' W',S16 a' (.pointer (some ⟨k,0,none⟩)) (.slice none 0 0) (.pointer (some ⟨tb,0,none⟩))->X16 w A W' k c v s m tb a1 a2 a3->REST.wp Tryz.prog (End16 P) a' W'):=hk
 have f2:(s.ses==0)=false:=by rw [beq_eq_false_iff_ne];exact h0
 have f3:(m.tell.session != s.ses)=false:=by simp;exact h2
 clear hk h0 h2
 obtain ⟨t,sl0,sl4,sl5,rfl⟩:=hS.eq
 unfold row149
 rw [sl0,sl4,sl5]
 clear sl0 sl4 sl5
 have HX:Hid (X16 w A W k c v s m tb a1 a2 a3):=hX
 clear hS hX
 unfold p16 b16
 dsimp only [Tryz.f16,Option.getD,cL,cR]
 go_upto_region 8 with fail
 refine wp_region_noPanic ?_
 refine wp_region_hold 1000 (fun y=>W.grownBy y none) (by kernel_rfl) ?_
 have G5:Hid (W.grownBy W.drew none):=grown_drew _ _
 generalize W.drew=w5 at G5 ⊢
 have J:Idx [0,1,2,3,4,5,6,7,8,9,10,11,12,13]:=trivial
 iterate 14 (refine tK J (G5.out) rfl rfl (fun wk hk=>by obtain ⟨k0,k1,k2,k3,k4⟩:=HX.out.cells wk hk;go_simp;try rfl) ?_;replace J:=J.tl;try simp only [pN])
 clear J
 refine wpHold_done (by kernel_rfl) ?_
 refine (‹∀(a:Act) (w:World),Code.wp Tryz.prog _ _ a w->_› _ _ ?_)
 go_wp2_with fail
 exact HK.out _ w5 ⟨rfl,rfl,rfl,rfl,rfl⟩ (HX.out.grown G5.out)
theorem noses16 (a:Act)(W:World)(tb:Nat)(a1:Option Addr)(a2 a3:Nat)(m:PMsg)(hS:S16 a (.pointer (some ⟨k,0,none⟩)) (.slice none 0 0) (.pointer (some ⟨tb,0,none⟩)))(hX:X16 w A W k c v s m tb a1 a2 a3)(hc:s.ses=0/\¬(m.tell.kind=1/\m.tell.token=s.tok)\/s.ses≠0/\m.tell.session≠s.ses)(REST:Code):(Code.seq (cL (cR p16)) REST).wp Tryz.prog (End16 (RHearP w A k c s m)) a W:=by
 have HC:Hid (s.ses=0/\¬(m.tell.kind=1/\m.tell.token=s.tok)\/s.ses≠0/\(m.tell.session≠s.ses\/(m.tell.kind≠3/\m.tell.kind≠4/\m.tell.kind≠5))):=hc.imp id fun h=>⟨h.1,.inl h.2⟩
 obtain ⟨t,sl0,sl4,sl5,rfl⟩:=hS.eq
 unfold row149
 rw [sl0,sl4,sl5]
 clear sl0 sl4 sl5
 have HX:Hid (X16 w A W k c v s m tb a1 a2 a3):=hX
 clear hS hX
 unfold p16 b16
 dsimp only [Tryz.f16,Option.getD,cL,cR]
 by_cases h0:s.ses=0
 ·have f2:(s.ses==0)=true:=by rw [h0];rfl
  clear h0 hc
  go_upto_region 8 with fail
  refine wp_region_noPanic ?_
  refine wp_region_hold 1000 (fun y=>W.grownBy y none) (by kernel_rfl) ?_
  have G5:Hid (W.grownBy W.drew none):=grown_drew _ _
  generalize W.drew=w5 at G5 ⊢
  have J:Idx [0,1,2,3,4,5]:=trivial
  iterate 6 (refine tK J (G5.out) rfl rfl (fun wk hk=>by obtain ⟨k0,k1,k2,k3,k4⟩:=HX.out.cells wk hk;go_simp;try rfl) ?_;replace J:=J.tl;try simp only [pN])
  clear J
  have J:Idx [6,7,8,9,10,11,12]:=trivial
  iterate 7 (refine sk J (G5.out) rfl rfl ?_;replace J:=J.tl;try simp only [pN])
  clear J
  have J:Idx [13]:=trivial
  iterate 1 (refine tK J (G5.out) rfl rfl (fun wk hk=>by obtain ⟨k0,k1,k2,k3,k4⟩:=HX.out.cells wk hk;go_simp;try rfl) ?_;replace J:=J.tl;try simp only [pN])
  clear J
  refine wpHold_done (by kernel_rfl) ?_
  refine (‹∀(a:Act) (w:World),Code.wp Tryz.prog _ _ a w->_› _ _ ?_)
  go_wp2_with fail
  exact ⟨rfl,(HX.out.grown G5.out).quiet HC.out⟩
 ·have f2:(s.ses==0)=false:=by rw [beq_eq_false_iff_ne];exact h0
  have f3:(m.tell.session != s.ses)=true:=by simp;rcases hc with h | h;exact absurd h.1 h0;exact h.2
  clear h0 hc
  go_upto_region 8 with fail
  refine wp_region_noPanic ?_
  refine wp_region_hold 1000 (fun y=>W.grownBy y none) (by kernel_rfl) ?_
  have G5:Hid (W.grownBy W.drew none):=grown_drew _ _
  generalize W.drew=w5 at G5 ⊢
  have J:Idx [0,1,2,3,4,5,6,7,8,9,10,11,12,13]:=trivial
  iterate 14 (refine tK J (G5.out) rfl rfl (fun wk hk=>by obtain ⟨k0,k1,k2,k3,k4⟩:=HX.out.cells wk hk;go_simp;try rfl) ?_;replace J:=J.tl;try simp only [pN])
  clear J
  refine wpHold_done (by kernel_rfl) ?_
  refine (‹∀(a:Act) (w:World),Code.wp Tryz.prog _ _ a w->_› _ _ ?_)
  go_wp2_with fail
  exact ⟨rfl,(HX.out.grown G5.out).quiet HC.out⟩
theorem gone16 (a:Act)(W:World)(tb:Nat)(a1:Option Addr)(a2 a3:Nat)(m:PMsg)(hS:S16 a (.pointer (some ⟨k,0,none⟩)) (.slice none 0 0) (.pointer (some ⟨tb,0,none⟩)))(hX:X16 w A W k c v s m tb a1 a2 a3)(h1:m.tell.kind=4)(_h0:s.ses≠0)(h2:m.tell.session=s.ses):q16.wp Tryz.prog (End16 (RHearP w A k c s m)) a W:=by
 have HQ:Hid (hearL s m=s.rets (fun _=>true) 2 []/\hearS s m=s.lost):=by
  have hq0:=heard hX.hrs
  rw [hq0.1,hq0.2]
  unfold tellL tellS goneL goneS
  rw [if_neg (by omega),if_pos h1,if_pos h2,if_neg (by omega),if_neg (by omega),if_pos h1,if_pos h2]
  exact ⟨rfl,rfl⟩
 have g1:(m.tell.kind==4)=true:=by rw [h1];rfl
 clear h1 _h0 h2
 obtain ⟨k0,k1,k2,k3,k4⟩:=hX.cells W (grown_refl _ _)
 obtain ⟨t,sl0,sl4,sl5,rfl⟩:=hS.eq
 unfold row149
 rw [sl0,sl4,sl5]
 clear sl0 sl4 sl5
 have HX:Hid (X16 w A W k c v s m tb a1 a2 a3):=hX
 clear hS hX
 unfold q16 p16 b16
 dsimp only [Tryz.f16,Option.getD,cL,cR]
 go_wp2_with fail
 refine (rgone42 W HX.out.dm HX.out.ok HX.out.tok).mono ?_
 rintro e w7 ⟨u,rfl,hu,hd,hkd⟩
 obtain ⟨u1,u2,u3,rfl⟩:=hu.slice
 have HF:Hid (Rets w7 A.heap.size (.slice u1 u2 u3) (hearL s m)/\Doc w w7 k c (hearS s m)/\KeepD A w7):=by
  rw [HQ.out.1,HQ.out.2]
  exact ⟨hu.mono HX.out.gr.size,hd,keepD_trans (keepD_grown HX.out.gr) hkd⟩
 clear hu hd hkd
 go_wp2_with fail
 exact ⟨rfl,_,rfl,HF.out⟩
theorem other16 (a:Act)(W:World)(tb:Nat)(a1:Option Addr)(a2 a3:Nat)(m:PMsg)(hS:S16 a (.pointer (some ⟨k,0,none⟩)) (.slice none 0 0) (.pointer (some ⟨tb,0,none⟩)))(hX:X16 w A W k c v s m tb a1 a2 a3)(h0:s.ses≠0)(h3:m.tell.kind≠3)(h4:m.tell.kind≠4)(h5:m.tell.kind≠5):q16.wp Tryz.prog (End16 (RHearP w A k c s m)) a W:=by
 have HC:Hid (s.ses=0/\¬(m.tell.kind=1/\m.tell.token=s.tok)\/s.ses≠0/\(m.tell.session≠s.ses\/(m.tell.kind≠3/\m.tell.kind≠4/\m.tell.kind≠5))):=.inr ⟨h0,.inr ⟨h3,h4,h5⟩⟩
 have g1:(m.tell.kind==4)=false:=by rw [beq_eq_false_iff_ne];exact h4
 have g2:(m.tell.kind != 3)=true:=by simp;exact h3
 have g3:(m.tell.kind != 5)=true:=by simp;exact h5
 clear h0 h3 h4 h5
 obtain ⟨k0,k1,k2,k3,k4⟩:=hX.cells W (grown_refl _ _)
 obtain ⟨t,sl0,sl4,sl5,rfl⟩:=hS.eq
 unfold row149
 rw [sl0,sl4,sl5]
 clear sl0 sl4 sl5
 have HX:Hid (X16 w A W k c v s m tb a1 a2 a3):=hX
 clear hS hX
 unfold q16 p16 b16
 dsimp only [Tryz.f16,Option.getD,cL,cR]
 go_wp2_with fail
 exact ⟨rfl,HX.out.quiet HC.out⟩
theorem call16 (a:Act)(W:World)(tb:Nat)(a1:Option Addr)(a2 a3:Nat)(m:PMsg)(hS:S16 a (.pointer (some ⟨k,0,none⟩)) (.slice none 0 0) (.pointer (some ⟨tb,0,none⟩)))(hX:X16 w A W k c v s m tb a1 a2 a3)(hc:m.tell.kind=3\/m.tell.kind=5)(REST:Code)(P:Ending->World->Prop)(hk:∀a' W',S16 a' (.pointer (some ⟨k,0,none⟩)) (.slice none 0 0) (.pointer (some ⟨tb,0,none⟩))->X16 w A W' k c v s m tb a1 a2 a3->REST.wp Tryz.prog (End16 P) a' W'):(Code.seq (cL q16) (.seq (cL (cR q16)) REST)).wp Tryz.prog (End16 P) a W:=by
 have HK:Hid (∀a' W',S16 a' (.pointer (some ⟨k,0,none⟩)) (.slice none 0 0) (.pointer (some ⟨tb,0,none⟩))->X16 w A W' k c v s m tb a1 a2 a3->REST.wp Tryz.prog (End16 P) a' W'):=hk
 clear hk
 obtain ⟨kd,hkd⟩:∃x,m.tell.kind=x:=⟨_,rfl⟩
 obtain ⟨k0,k1,k2,k3,k4⟩:=hX.cells W (grown_refl _ _)
 rw [hkd] at hc k0
 clear hkd k1 k2 k3 k4
 obtain ⟨t,sl0,sl4,sl5,rfl⟩:=hS.eq
 unfold row149
 rw [sl0,sl4,sl5]
 clear sl0 sl4 sl5
 have HX:Hid (X16 w A W k c v s m tb a1 a2 a3):=hX
 clear hS hX
 unfold q16 p16 b16
 dsimp only [Tryz.f16,Option.getD,cL,cR]
 rcases hc with rfl | rfl
 ·go_wp2_with fail
  exact HK.out _ W ⟨rfl,rfl,rfl,rfl,rfl⟩ HX.out
 ·go_wp2_with fail
  exact HK.out _ W ⟨rfl,rfl,rfl,rfl,rfl⟩ HX.out
theorem info_parts5 {e:Nat}{z:Value}{n by':Nat}(h:(Tryz.prog.info? e).map (fun i=>(i.zero,i.size,i.bytes))=some (some z,n,by')):∃i,Tryz.prog.info? e=some i/\i.zero=some z/\i.size=n/\i.bytes=by':=by
 cases hi:Tryz.prog.info? e with
 | none=>rw [hi] at h;cases h
 | some i =>
  rw [hi] at h
  simp at h
  exact ⟨i,rfl,h.1,h.2.1,h.2.2⟩
structure Part (w:World)(g off:Nat)(l:List Dr)(vs:List (List Value)):Prop where
 len:vs.length=l.length
 five:∀x ∈ vs,x.length=5
 row:∀j (h:j<vs.length) (h':j<l.length),drR w vs[j] l[j]
 cells:∀j u,vs.flatten[j]? = some u->w.cell? ⟨g,off+j,none⟩=some u
theorem drR_one {w:World}{x:List Value}{r:Dr}(h:drR w x r):∀y ∈ x,y.oneCell'=true:=by
 obtain ⟨ov,rfl,ho⟩:=h
 obtain ⟨y1,y2,y3,rfl,_⟩:=ho.slice
 simp [Value.oneCell']
theorem Part.one {w:World}{g off:Nat}{l:List Dr}{vs:List (List Value)}(h:Part w g off l vs):∀y ∈ vs.flatten,y.oneCell'=true:=by
 intro y hy
 obtain ⟨x,hx,hyx⟩:=List.mem_flatten.1 hy
 obtain ⟨j,hj,rfl⟩:=List.mem_iff_getElem.1 hx
 exact drR_one (h.row j hj (by rw [<-h.len];exact hj)) y hyx
theorem Part.flat {w:World}{g off:Nat}{l:List Dr}{vs:List (List Value)}(h:Part w g off l vs):vs.flatten.length=l.length*5:=by
 have key:∀vs:List (List Value),(∀x ∈ vs,x.length=5)->vs.flatten.length=vs.length*5:=by
  intro vs
  induction vs with
  | nil=>intro _;rfl
  | cons x r ih =>
   intro hx
   rw [List.flatten_cons,List.length_append,hx x (by simp),ih fun y hy=>hx y (by simp [hy]),List.length_cons]
   omega
 rw [key vs h.five,h.len]
theorem drows_join {w w':World}{B:Nat}{v v':Value}{l l':List Dr}{vs vs':List (List Value)}{g off:Nat}(h1:w.ownsRow B 93 5 v l.length vs.flatten)(h2:vs.length=l.length)(h3:∀x ∈ vs,x.length=5)(h4:∀j (h:j<vs.length) (h':j<l.length),drR w vs[j] l[j])(hp:Part w g off l' vs')(hg:w.grownBy w' v.ownBlock)(hr:w'.ownsRow B 93 5 v' (l.length+l'.length) (vs.flatten ++ vs'.flatten)):DRow w' B v' (l ++ l'):=by
 have keep:∀{y b},drR w y b->drR w' y b:=by
  intro y b hy
  cases hv:v.ownBlock with
  | none=>rw [hv] at hg;exact drR_stab.1 _ _ _ _ hy hg
  | some k =>
   rw [hv] at hg
   obtain ⟨cur,hb⟩:=owns_blk h1 hv
   exact drR_stab.2 _ _ _ _ _ _ _ hy hb (by decide) hg
 refine ⟨vs ++ vs',by rw [List.flatten_append,List.length_append];exact hr,by rw [List.length_append,List.length_append,h2,hp.len],fun x hx=>?_,fun j hj hj'=>?_⟩
 ·rcases List.mem_append.1 hx with hx | hx
  ·exact h3 x hx
  ·exact hp.five x hx
 ·by_cases hlt:j<vs.length
  ·rw [List.getElem_append_left hlt,List.getElem_append_left (by omega)]
   exact keep (h4 j hlt (by omega))
  ·rw [List.getElem_append_right (by omega),List.getElem_append_right (by omega)]
   simp only [h2]
   have hl:=hp.len
   rw [List.length_append] at hj hj'
   exact keep (hp.row (j-l.length) (by omega) (by omega))
theorem appD_wp {o:Oper}{a:Act}{K:Act->World->Prop}{Q:Exit->Act->World->Prop}(w:World)(s x:Operand)
  (ho:o.op=.call { callee:=.builtin .append,args:=#[s,x],argTypes:=#[49,49] })
  (B:Nat) (v:Value) (l:List Dr) (g0 off cap:Nat) (l':List Dr) (vs':List (List Value)) (hs:a.eval s=v) (hx:a.eval x=.slice (some ⟨g0,off,none⟩) l'.length cap) (hown:DRow w B v l) (hp:Part w g0 off l' vs') (hb:l.length+l'.length<=2000000000000) (hB:B<=w.heap.size)
  (h:∀v' w',DRow w' B v' (l ++ l')->w.grownBy w' v.ownBlock->(∀k,v'.ownBlock=some k->v.ownBlock=some k\/w.heap.size<=k)->K (a.put o.dst v') w'):o.wp Tryz.prog a w K Q:=by
 obtain ⟨i0,hi,hz0,hz1,hz2⟩:=info_parts5 info93
 obtain ⟨vs,e1,e2,e3,e4⟩:=hown
 by_cases hm:0<l'.length
 ·refine wp_append_lies w s x 49 ho B 93 i0 _ 5 56 Tryz.underlying49 hi hz0 hz1 hz2 rfl (by decide) v l.length vs.flatten hs e1 ⟨g0,off,none⟩ l'.length cap vs'.flatten hx hp.flat (fun j u hj=>?_) hp.one hm (by unfold maxLen;omega) (by omega) hB w.heap.size rfl ?_
  ·rw [add_addr]
   exact hp.cells j u hj
  ·intro g' cap' w' r2 r3 r4 _
   refine h _ w' (drows_join e1 e2 e3 e4 hp r3 r2) r3 fun k hk=>?_
   simp [Value.ownBlock] at hk
   subst hk
   rcases r4 with r4 | r4
   ·exact .inl r4
   ·exact .inr (by omega)
 ·have hl0:l'=[]:=List.eq_nil_of_length_eq_zero (by omega)
  subst hl0
  rcases e1.2 with ⟨rfl,hn⟩ | ⟨g,c,C,rfl,hBg,hbk,hlc,hcm,_⟩
  ·have hl:l=[]:=List.eq_nil_of_length_eq_zero hn
   subst hl
   have hv0:vs=[]:=List.eq_nil_of_length_eq_zero (by simpa using e2)
   subst hv0
   refine wp_append_own w s x 49 ho w.heap.size 93 i0 _ 5 56 Tryz.underlying49 hi hz0 hz1 hz2 rfl (by decide) _ 0 [] hs (World.ownsRow_nil _ _ _ _) ⟨g0,off,none⟩ 0 cap [] hx rfl (by simp) (by simp) (by unfold maxLen;omega) (by omega) (Nat.le_refl _) ?_
   intro v' w' h1 h2 _
   refine h v' w' ⟨[],?_,rfl,by simp,fun j hj=>absurd hj (by simp)⟩ h2 fun k hk=>.inr (World.ownsRow.lt h1 k hk).1
   refine ⟨rfl,?_⟩
   rcases h1.2 with q | ⟨q1,q2,q3,q4,q5,q6⟩
   ·exact .inl q
   ·exact .inr ⟨q1,q2,q3,q4,Nat.le_trans hB q5,q6⟩
  ·refine wp_append_own_spare w s x 49 ho B 93 i0 5 Tryz.underlying49 hi hz1 g l.length c vs.flatten hs e1 ⟨g0,off,none⟩ 0 cap [] hx rfl (by simp) (by simp) (by omega) ?_
   intro w' h1 h2
   have hp0:Part w g0 off [] ([]:List (List Value)):=⟨rfl,by simp,fun j hj=>absurd hj (by simp),by simp⟩
   refine h _ w' (drows_join (vs':=[]) e1 e2 e3 e4 hp0 h2 (by simpa using h1)) h2 fun k hk=>.inl hk
theorem flat5:∀vs:List (List Value),(∀x ∈ vs,x.length=5)->vs.flatten.length=vs.length*5
 | [],_=>rfl
 | x :: r,h=>by
  rw [List.flatten_cons,List.length_append,h x (by simp),flat5 r fun y hy=>h y (by simp [hy]),List.length_cons]
  omega
theorem drow_parts {w:World}{B g n cap:Nat}{l:List Dr}(h:DRow w B (.slice (some ⟨g,0,none⟩) n cap) l)(j:Nat)(hj:j<l.length):∃vs:List (List Value),Part w g 0 (l.take j) (vs.take j)/\Part w g ((j+1)*5) (l.drop (j+1)) (vs.drop (j+1)):=by
 obtain ⟨vs,h1,h2,h3,h4⟩:=h
 have hcell:∀i u,vs.flatten[i]? = some u->w.cell? ⟨g,i,none⟩=some u:=by
  intro i u hu
  rcases h1.2 with ⟨e,_⟩ | ⟨g',cap',cur,e,hb,hg,q1,q2,q3,q4⟩
  ·simp at e
  ·simp at e
   obtain ⟨rfl,_,rfl⟩:=e
   have hbk:Blk w g 93 cur:=hg
   rw [hbk.cell,<-Array.getElem?_toList]
   have hl:=flat5 vs h3
   have hi:=(List.getElem?_eq_some_iff.1 hu).1
   rw [<-q4,List.getElem?_take] at hu
   split at hu
   ·exact hu
   ·cases hu
 refine ⟨vs,⟨by simp [h2],fun x hx=>h3 x (List.mem_of_mem_take hx),fun i a b=>?_,fun i u hu=>?_⟩,⟨by simp [h2],fun x hx=>h3 x (List.mem_of_mem_drop hx),fun i a b=>?_,fun i u hu=>?_⟩⟩
 ·rw [List.getElem_take,List.getElem_take]
  exact h4 i _ _
 ·rw [Nat.zero_add]
  refine hcell i u ?_
  have hi:=(List.getElem?_eq_some_iff.1 hu).1
  conv=>lhs;rw [<-List.take_append_drop j vs,List.flatten_append]
  rw [List.getElem?_append_left hi]
  exact hu
 ·rw [List.getElem_drop,List.getElem_drop]
  exact h4 _ _ _
 ·refine hcell _ u ?_
  have hl:(vs.take (j+1)).flatten.length=(j+1)*5:=by
   rw [flat5 _ fun x hx=>h3 x (List.mem_of_mem_take hx),List.length_take]
   omega
  conv=>lhs;rw [<-List.take_append_drop (j+1) vs,List.flatten_append]
  rw [List.getElem?_append_right (by omega),hl]
  have:(j+1)*5+i-(j+1)*5=i:=by omega
  rw [this]
  exact hu
theorem el49:Tryz.prog.elem 49=93:=by simp [Program.elem,Tryz.underlying49]
theorem ut49e:Tryz.prog.underlying 49=some (.slice (Tryz.prog.elem 49)):=by rw [el49];exact Tryz.underlying49
theorem sz93 (w:World):(sizeOf 93).run Tryz.prog w=.ok 5 w:=by kernel_rfl
theorem slice49_h (g n cap j:Nat)(h1:j<=cap)(w:World):(Instr.slice 49 (.slice (some ⟨g,0,none⟩) n cap) none (some (.int .i64 (j:Int))) none).run Tryz.prog w=.ok (.slice (some ⟨g,0,none⟩) j cap) w:=by
 rw [run_slice_h _ 49 (some ⟨g,0,none⟩) n cap ut49e .i64 j (by omega) (by omega),el49,sz93]
 simp [Result.andThen,sliced]
 intro _
 exact add_addr g 0 0
theorem slice49_l (g n cap j:Nat)(h1:j+1<=n):∃off,(∀w,(Instr.slice 49 (.slice (some ⟨g,0,none⟩) n cap) (some (.int .i64 ((j:Int)+1))) none none).run Tryz.prog w=.ok (.slice (some ⟨g,off,none⟩) (n-(j+1)) (cap-(j+1))) w)/\(j+1<n->n<=cap->off=(j+1)*5):=by
 refine ⟨if cap=j+1 then 0 else (j+1)*5,fun w=>?_,fun h h2=>if_neg (by omega)⟩
 have hc:(j:Int)+1=((j+1:Nat):Int):=by push_cast;rfl
 rw [hc,run_slice_l _ 49 (some ⟨g,0,none⟩) n cap ut49e .i64 (j+1:Nat) (by omega) (by omega),el49,sz93]
 have ht:(((j+1:Nat):Int)).toNat=j+1:=by omega
 simp only [Result.andThen,sliced,ht]
 by_cases h:cap=j+1
 ·simp [h]
 ·simp [h,add_addr]
theorem Part.grown {w w':World}{g off:Nat}{l:List Dr}{vs:List (List Value)}(h:Part w g off l vs)(hg:w.grownBy w' none):Part w' g off l vs :=
 ⟨h.len,h.five,fun j a b=>drR_stab.1 _ _ _ _ (h.row j a b) hg,fun j u hu=>hg.cell (h.cells j u hu) (by simp)⟩
theorem drow_cap {w:World}{B g n cap:Nat}{l:List Dr}(h:DRow w B (.slice (some ⟨g,0,none⟩) n cap) l):n<=cap:=by
 obtain ⟨vs,h1,_⟩:=h
 rcases h1.2 with ⟨e,_⟩ | ⟨g',cap',cur,e,hb,hg,q1,q2,q3,q4⟩
 ·simp at e
 ·simp at e
  obtain ⟨_,rfl,rfl⟩:=e
  exact q1
theorem okM_num {m:PMsg}(h:okM m=true)(hk:m.kind=2)(h3:m.tell.kind=3\/m.tell.kind=5):1<=m.tell.number:=by
 unfold okM at h
 simp only [Bool.and_eq_true] at h
 obtain ⟨_,h⟩:=h
 rw [if_neg (by omega)] at h
 simp only [Bool.and_eq_true,decide_eq_true_eq] at h
 have h2:=h.1.2
 unfold okR at h2
 rcases h3 with h3 | h3
 ·rw [if_neg (by omega),if_neg (by omega),if_pos h3] at h2
  simp at h2
  omega
 ·rw [if_neg (by omega),if_neg (by omega),if_neg (by omega),if_neg (by omega),if_pos (.inl h3)] at h2
  simp at h2
  omega
variable {s:CS} {w A A':World} {k:Nat} {c:PCfg} {v:Value}
def cT:Code->Code | .cond _ a _=>a | c=>c
def cE:Code->Code | .cond _ _ b=>b | c=>c
noncomputable def t16:Code:=cR (cT (cR (cB (cL (cR (cW (cB (cR (cL a16)))))))))
noncomputable def u16:Code:=cR t16
theorem t16_eq:t16=.seq (cL t16) u16:=rfl
structure T16 (a:Act)(v0 v5 v6 v7:Value):Prop where
 size:a.tmps.size=149
 defers:a.defers=[]
 e0:sl a.tmps 0=v0
 e5:sl a.tmps 5=v5
 e6:sl a.tmps 6=v6
 e7:sl a.tmps 7=v7
theorem T16.eq {a:Act}{v0 v5 v6 v7:Value}(h:T16 a v0 v5 v6 v7):∃f:Nat->Value,f 0=v0/\f 5=v5/\f 6=v6/\f 7=v7/\a={ tmps:=row149 f,defers:=[] }:=by
 obtain ⟨t,d⟩:=a
 have e:=t149 t h.size
 have e2:d=[]:=h.defers
 refine ⟨sl t,h.e0,h.e5,h.e6,h.e7,?_⟩
 rw [e2]
 exact congrArg (fun x=>Act.mk x []) e
structure F16 (w A W:World)(k:Nat)(c:PCfg)(v:Value)(s:CS)(m:PMsg)(j rb:Nat)(what:Int)(ans:Bs)(av:Value):Prop where
 dm:Dm w W k c v s
 gr:A.grownBy W none
 ok:Okc s
 lt:j<s.dcs.length
 num:s.dcs[j].num=m.tell.number
 box:Blk W rb 78 #[.int .i64 s.dcs[j].id,.int .i64 what,av]
 own:Disk.Own W A.heap.size av ans
 lo:A.heap.size<=rb
 wlo:w.heap.size<=A.heap.size
 r2:hearS s m=s.ended (isR s m.tell)
 r3:∀k,isR s m.tell k=decide (m.tell.number=((k+1:Nat):Int))
 r4:0<m.tell.number
theorem fin16 (a:Act)(W:World)(tv:Value)(m:PMsg)(j rb:Nat)(what:Int)(ans:Bs)(o1:Option Addr)(o2 o3:Nat)(hT:T16 a (.pointer (some ⟨k,0,none⟩)) tv (.int .i64 (j:Nat)) (.pointer (some ⟨rb,0,none⟩)))(hF:F16 w A W k c v s m j rb what ans (.slice o1 o2 o3))(hr:hearL s m=s.rets (isR s m.tell) what ans):u16.wp Tryz.prog (End16 (RHearP w A k c s m)) a W:=by
 obtain ⟨t,sl0,sl5,sl6,sl7,rfl⟩:=hT.eq
 unfold row149
 rw [sl0,sl5,sl6,sl7]
 clear sl0 sl5 sl6 sl7
 obtain ⟨g,cap,hv⟩:∃g cap,v=.slice (some ⟨g,0,none⟩) s.dcs.length cap:=by
  obtain ⟨g,cap,_,_,_,e,_⟩:=drow_at hF.dm.row j hF.lt
  exact ⟨g,cap,e⟩
 subst hv
 have HR1:Hid (hearL s m=s.rets (isR s m.tell) what ans):=hr
 obtain ⟨n,hn⟩:∃n,s.dcs.length=n:=⟨_,rfl⟩
 have HF:Hid (F16 w A W k c (.slice (some ⟨g,0,none⟩) s.dcs.length cap) s m j rb what ans (.slice o1 o2 o3)):=hF
 have HN:Hid (s.dcs.length=n/\n<=1000000000000/\j<n):=⟨hn,by have:=dcs_len s;have:=hF.ok.last;omega,by have:=hF.lt;omega⟩
 have d1:IntKind.i64.wrap ((j:Int)+1)=(j:Int)+1:=by have:=HN.out;rw [IntKind.wrap_i64];omega
 have i1:(0:Int)<=(j:Int):=by omega
 have HC:Hid (∀y,W.grownBy y none->y.cell? ⟨k,10,none⟩=some (.slice (some ⟨g,0,none⟩) n cap)):=fun y hy=>by
  rw [<-HN.out.1]
  exact (HF.out.dm.grown hy).blk.cell 10
 have hrow:=hF.dm.row
 rw [hn] at hrow
 obtain ⟨vs,hp1,hp2⟩:=drow_parts hrow j hF.lt
 obtain ⟨off,hsl,hoff⟩:=slice49_l g n cap j (by have:=HN.out;omega)
 have HPP:Hid (Part W g 0 (s.dcs.take j) (vs.take j)/\Part W g off (s.dcs.drop (j+1)) (vs.drop (j+1))/\(∀w,(Instr.slice 49 (.slice (some ⟨g,0,none⟩) n cap) (some (.int .i64 ((j:Int)+1))) none none).run Tryz.prog w=.ok (.slice (some ⟨g,off,none⟩) (n-(j+1)) (cap-(j+1))) w)/\j<=cap/\(s.dcs.take j).length=j/\(s.dcs.drop (j+1)).length=n-(j+1)):=by
  have hcap:=drow_cap hrow
  have h2:=HN.out
  refine ⟨hp1,?_,hsl,by omega,by rw [List.length_take];omega,by rw [List.length_drop];omega⟩
  by_cases hlast:j+1<n
  ·rw [hoff hlast hcap]
   exact hp2
  ·have e1:s.dcs.drop (j+1)=[]:=List.drop_eq_nil_of_le (by omega)
   have e2:vs.drop (j+1)=[]:=List.eq_nil_of_length_eq_zero (by rw [hp2.len,e1];rfl)
   rw [e1,e2]
   exact ⟨rfl,by simp,fun j hj=>absurd hj (by simp),by simp⟩
 clear hT hF hr hn hrow hp1 hp2 hsl hoff
 unfold u16 t16 a16 q16 p16 b16
 dsimp only [Tryz.f16,Option.getD,cL,cR,cB,cW,cT]
 go_upto_region 21 with fail
 refine wp_region_hold 18 (fun y=>W.grownBy y none) (by kernel_rfl) ?_
 have Ga:Hid (W.grownBy W.drew none):=grown_drew _ _
 generalize W.drew=wa at Ga ⊢
 have J:Idx [0,1,2,3,4,5,6,8,9,10,11,12,13,14]:=trivial
 iterate 14 (refine tK J (Ga.out) rfl rfl (fun wk hk=>by have k0:=HC.out wk hk;have s1:=slice49_h g n cap j HPP.out.2.2.2.1 wk;have s2:=HPP.out.2.2.1 wk;go_simp;try rfl) ?_;replace J:=J.tl;try simp only [pN])
 clear J
 refine wpHold_one (i:=7) rfl (by kernel_rfl) (by rfl) (fun K hK=>?_)
 refine appD_wp wa _ _ rfl A.heap.size (.slice none 0 0) [] g 0 cap (s.dcs.take j) (vs.take j) rfl (by rw [HPP.out.2.2.2.2.1];rfl) (lrow_nil _ _) (HPP.out.1.grown Ga.out) (by have:=HN.out;have:=HPP.out.2.2.2.2.1;simp;omega) (Nat.le_trans HF.out.gr.size Ga.out.size) ?_
 intro vb wb hvb hgb hnb
 have hgb':wa.grownBy wb none:=hgb
 rw [List.nil_append] at hvb
 have Gb:Hid (W.grownBy wb none/\DRow wb A.heap.size vb (s.dcs.take j)):=⟨grown_trans Ga.out hgb',hvb⟩
 have HNB:Hid (∀q,vb.ownBlock=some q->W.heap.size<=q):=fun q hq=>by
  rcases hnb q hq with e | e
  ·simp [Value.ownBlock] at e
  ·have:=Ga.out.size;omega
 obtain ⟨b1,b2,rfl⟩:=DRow.shape hvb
 clear hvb hgb hgb' hnb
 refine hK.out _ _ (fun _=>Gb.out.1) ?_
 clear hK K
 try simp only [pN]
 refine wpHold_one (i:=15) rfl (by kernel_rfl) (by rfl) (fun K hK=>?_)
 refine appD_wp wb _ _ rfl A.heap.size (.slice b1 (s.dcs.take j).length b2) (s.dcs.take j) g off (cap-(j+1)) (s.dcs.drop (j+1)) (vs.drop (j+1)) rfl (by rw [HPP.out.2.2.2.2.2];rfl) Gb.out.2 (HPP.out.2.1.grown Gb.out.1) (by have:=HN.out;have:=HPP.out.2.2.2.2;omega) (Nat.le_trans HF.out.gr.size Gb.out.1.size) ?_
 intro vc wc hvc hgc _
 have Gc:Hid (W.grownBy wc none/\DRow wc A.heap.size vc (s.dcs.take j ++ s.dcs.drop (j+1))/\Disk.Own wc A.heap.size (.slice o1 o2 o3) ans/\Blk wc rb 78 #[.int .i64 (s.dcs[j]'(HF.out.lt)).id,.int .i64 what,.slice o1 o2 o3]):=by
  have hb:=HF.out.box.grown Gb.out.1 (by simp)
  have ho:=HF.out.own.grown Gb.out.1
  cases e:(Value.slice b1 (s.dcs.take j).length b2).ownBlock with
  | none =>
   rw [e] at hgc
   exact ⟨grown_trans Gb.out.1 hgc,hvc,ho.grown hgc,hb.grown hgc (by simp)⟩
  | some q =>
   have hq:=HNB.out q e
   obtain ⟨_,C,hC⟩:=Gb.out.2.blk q e
   rw [e] at hgc
   refine ⟨grown_new Gb.out.1 hgc (by intro y hy;simp at hy;omega),hvc,own_set ho hC (by decide) hgc,hb.grown hgc fun e=>?_⟩
   simp at e
   subst e
   exact absurd (blk_type hb hC) (by decide)
 obtain ⟨d1',d2',rfl⟩:=DRow.shape hvc
 obtain ⟨N,hNN⟩:∃N,(s.dcs.take j ++ s.dcs.drop (j+1)).length=N:=⟨_,rfl⟩
 rw [hNN] at Gc ⊢
 clear hvc hgc hNN
 refine hK.out _ _ (fun _=>Gc.out.1) ?_
 clear hK K
 try simp only [pN]
 have J:Idx [16,17]:=trivial
 iterate 2 (refine tK J (Gc.out.1) rfl rfl (fun wk hk=>by have k0:=HC.out wk hk;have s1:=slice49_h g n cap j HPP.out.2.2.2.1 wk;have s2:=HPP.out.2.2.1 wk;go_simp;try rfl) ?_;replace J:=J.tl;try simp only [pN])
 clear J
 refine wpHold_one (i:=18) rfl (by kernel_rfl) (by rfl) (fun K hK=>?_)
 have x10:=HC.out wc Gc.out.1
 have f10:=((HF.out.dm.grown Gc.out.1).blk).free 10
 go_wp2_with fail
 refine hK.out _ _ (fun h=>absurd rfl h) ?_
 clear hK K x10 f10
 try simp only [pN]
 refine wpHold_done (by kernel_rfl) ?_
 refine (‹∀(a:Act) (w:World),Code.wp Tryz.prog _ _ a w->_› _ _ ?_)
 have HZ:Hid (Blk (wc.setCell ⟨k,10,none⟩ (.slice d1' N d2')) k 51 (docC s c (.slice d1' N d2'))/\DRow (wc.setCell ⟨k,10,none⟩ (.slice d1' N d2')) A.heap.size (.slice d1' N d2') (s.dcs.take j ++ s.dcs.drop (j+1))/\Disk.Own (wc.setCell ⟨k,10,none⟩ (.slice d1' N d2')) A.heap.size (.slice o1 o2 o3) ans/\Blk (wc.setCell ⟨k,10,none⟩ (.slice d1' N d2')) rb 78 #[.int .i64 (s.dcs[j]'(HF.out.lt)).id,.int .i64 what,.slice o1 o2 o3]/\wc.grownBy (wc.setCell ⟨k,10,none⟩ (.slice d1' N d2')) (some k)):=by
  have hb:=(HF.out.dm.grown Gc.out.1).blk
  have hg:=grown_setCell wc k 10 (.slice d1' N d2')
  refine ⟨hb.store 10 _,LRow.set Gc.out.2.1 drR_stab hb (by decide) (by decide) hg,own_set Gc.out.2.2.1 hb (by decide) hg,Gc.out.2.2.2.grown hg fun e=>?_,hg⟩
  simp at e
  subst e
  exact absurd (blk_type hb Gc.out.2.2.2) (by decide)
 generalize wc.setCell ⟨k,10,none⟩ (.slice d1' N d2')=wf at HZ ⊢
 have u0:=HZ.out.2.2.2.1.cell 0
 have u1:=HZ.out.2.2.2.1.cell 1
 have u2:=HZ.out.2.2.2.1.cell 2
 simp at u0 u1 u2
 obtain ⟨wl,hwl,HL⟩:=al1 wf #[.int .i64 (s.dcs[j]'(HF.out.lt)).id,.int .i64 what,.slice o1 o2 o3] 78
 obtain ⟨gl,hgl⟩:∃x,wf.heap.size=x:=⟨_,rfl⟩
 rw [hgl] at HL
 have HGL:Hid (wf.heap.size=gl):=hgl
 go_wp2_with fail
 try rw [hwl]
 try rw [hgl]
 clear hwl hgl
 have hf:=HF.out
 obtain ⟨sp1,sp2⟩:=dcs_split hf.r4 hf.lt hf.num
 have hd6:=hf.dm
 have hl:(mapUp (endF (isR s m.tell)) s.L s.L.length).length=s.L.length:=mapUp_len _ _ _
 have hgz:w.grownBy wf none:=grown_new (grown_trans hd6.gr Gc.out.1) HZ.out.2.2.2.2 (by intro y hy;have:=hd6.lo;simp at hy;omega)
 refine ⟨rfl,_,rfl,?_,⟨.slice d1' N d2',?_,?_,hd6.lo,grown_trans hgz HL.out.2.1⟩,?_⟩
 ·rw [HR1.out,rets_doc s _ _ hf.r4 hf.r3,sp2]
  have hgA:A.heap.size<=gl:=by have:=HGL.out;have:=Gc.out.1.size;have:=hf.gr.size;have:=HZ.out.2.2.2.2.size;omega
  refine ⟨[[.int .i64 (s.dcs[j]'(HF.out.lt)).id,.int .i64 what,.slice o1 o2 o3]],⟨rfl,.inr ⟨gl,1,_,rfl,hgA,HL.out.1,Nat.le_refl _,by decide,rfl,rfl⟩⟩,rfl,by simp,fun i hi hi'=>?_⟩
  have:i=0:=by simp at hi;omega
  subst this
  exact ⟨_,rfl,HZ.out.2.2.1.grown HL.out.2.1⟩
 ·rw [hf.r2]
  have hb:=HZ.out.1.grown HL.out.2.1 (by simp)
  unfold docC at hb ⊢
  show Blk _ k 51 #[_,_,_,_,_,_,_,_,_,_,_,_,_,_,_,_,.int .i64 ((mapUp (endF (isR s m.tell)) s.L s.L.length).length:Nat)]
  rw [hl]
  exact hb
 ·rw [hf.r2,ended_doc s _ _ hf.r4 hf.r3,sp1]
  exact (LRow.grown HZ.out.2.1 drR_stab HL.out.2.1).mono hf.wlo
 ·exact keepD_trans (keepD_grown (grown_trans hf.gr Gc.out.1)) (keepD_trans (keepD_own (hd6.grown Gc.out.1).blk (.inl rfl) HZ.out.2.2.2.2) (keepD_grown HL.out.2.1))
theorem stale16 (a:Act)(W:World)(tb:Nat)(kd id:Int)(g n cap j rb:Nat)(av:Value)(hT:T16 a (.pointer (some ⟨k,0,none⟩)) (.pointer (some ⟨tb,0,none⟩)) (.int .i64 (j:Nat)) (.pointer (some ⟨rb,0,none⟩)))(hkd:kd=3\/kd=5)(t0:W.cell? ⟨tb,0,none⟩=some (.int .i64 kd))(t1:W.cell? ⟨k,10,none⟩=some (.slice (some ⟨g,0,none⟩) n cap))(t2:W.cell? ⟨g,j*5,none⟩=some (.int .i64 id))(hj:j<n)(hb:Blk W rb 78 #[.int .i64 id,.int .i64 1,av])(REST:Code)(P:Ending->World->Prop)
  (h3:kd=3->∀a',T16 a' (.pointer (some ⟨k,0,none⟩)) (.pointer (some ⟨tb,0,none⟩)) (.int .i64 (j:Nat)) (.pointer (some ⟨rb,0,none⟩))->REST.wp Tryz.prog (End16 P) a' W)
  (h5:kd=5->∀a' W',T16 a' (.pointer (some ⟨k,0,none⟩)) (.pointer (some ⟨tb,0,none⟩)) (.int .i64 (j:Nat)) (.pointer (some ⟨rb,0,none⟩))->W.grownBy W' (some rb)->Blk W' rb 78 #[.int .i64 id,.int .i64 2,.slice none 0 0]->REST.wp Tryz.prog (End16 P) a' W'):(Code.seq (cL t16) REST).wp Tryz.prog (End16 P) a W:=by
 obtain ⟨t,sl0,sl5,sl6,sl7,rfl⟩:=hT.eq
 unfold row149
 rw [sl0,sl5,sl6,sl7]
 clear sl0 sl5 sl6 sl7
 have H3:Hid (Hid (kd=3)->∀a',T16 a' (.pointer (some ⟨k,0,none⟩)) (.pointer (some ⟨tb,0,none⟩)) (.int .i64 (j:Nat)) (.pointer (some ⟨rb,0,none⟩))->REST.wp Tryz.prog (End16 P) a' W):=h3
 have H5:Hid (Hid (kd=5)->∀a' W',T16 a' (.pointer (some ⟨k,0,none⟩)) (.pointer (some ⟨tb,0,none⟩)) (.int .i64 (j:Nat)) (.pointer (some ⟨rb,0,none⟩))->W.grownBy W' (some rb)->Blk W' rb 78 #[.int .i64 id,.int .i64 2,.slice none 0 0]->REST.wp Tryz.prog (End16 P) a' W'):=h5
 have i1:(j:Int)<(n:Int):=by omega
 have i2:(0:Int)<=(j:Int):=by omega
 have r0:W.cell? ⟨rb,0,none⟩=some (.int .i64 id):=hb.cell 0
 have r1:W.cell? ⟨rb,1,none⟩=some (.int .i64 1):=hb.cell 1
 have r2:W.cell? ⟨rb,2,none⟩=some av:=hb.cell 2
 have r3:=hb.free 0
 have r4:=hb.free 1
 have r5:=hb.free 2
 have HS:Hid (Blk (((W.setCell ⟨rb,0,none⟩ (.int .i64 id)).setCell ⟨rb,1,none⟩ (.int .i64 2)).setCell ⟨rb,2,none⟩ (.slice none 0 0)) rb 78 #[.int .i64 id,.int .i64 2,.slice none 0 0]/\W.grownBy (((W.setCell ⟨rb,0,none⟩ (.int .i64 id)).setCell ⟨rb,1,none⟩ (.int .i64 2)).setCell ⟨rb,2,none⟩ (.slice none 0 0)) (some rb)):=⟨((hb.store 0 _).store 1 _).store 2 _,grown_trans (grown_setCell _ _ _ _) (grown_trans (grown_setCell _ _ _ _) (grown_setCell _ _ _ _))⟩
 clear hT hb h3 h5 hj
 unfold t16 a16 q16 p16 b16
 dsimp only [Tryz.f16,Option.getD,cL,cR,cB,cW,cT]
 rcases hkd with rfl | rfl
 ·go_wp2_with fail
  exact H3.out (by first | rfl | trivial | (unfold Hid;trivial)) _ ⟨rfl,rfl,rfl,rfl,rfl,rfl⟩
 ·go_wp2_with fail
  exact H5.out (by first | rfl | trivial | (unfold Hid;trivial)) _ _ ⟨rfl,rfl,rfl,rfl,rfl,rfl⟩ HS.out.2 HS.out.1
theorem F16.stale {W W':World}{m:PMsg}{j rb:Nat}{ans:Bs}{av:Value}(h:F16 w A W k c v s m j rb 1 ans av)(hg:W.grownBy W' (some rb))(hb:Blk W' rb 78 #[.int .i64 (s.dcs[j]'h.lt).id,.int .i64 2,.slice none 0 0]):F16 w A W' k c v s m j rb 2 [] (.slice none 0 0):=by
 have hx:=h.box
 have hf:Fr W W' (fun i=>i=rb):=Fr.of hg fun x hx=>by simp at hx;exact hx.symm
 have hw:w.grownBy W' none:=grown_new h.dm.gr hg (by intro x hx;have:=h.lo;have:=h.wlo;simp at hx;omega)
 exact ⟨h.dm.beside hf (fun i hi=>by
  have hi':i=rb:=hi
  subst hi'
  exact ⟨78,_,hx,by decide,by decide⟩) (fun i hi=>by
  have hi':i=rb:=hi
  subst hi'
  exact ⟨78,_,hx,by unfold DT;omega⟩) hw,grown_new h.gr hg (by intro x hx;have:=h.lo;simp at hx;omega),h.ok,h.lt,h.num,hb,Own.nil _ _,h.lo,h.wlo,h.r2,h.r3,h.r4⟩
theorem found16 (a:Act)(W:World)(tb:Nat)(a1:Option Addr)(a2 a3:Nat)(m:PMsg)(j rb:Nat)(o1:Option Addr)(o2 o3:Nat)(hT:T16 a (.pointer (some ⟨k,0,none⟩)) (.pointer (some ⟨tb,0,none⟩)) (.int .i64 (j:Nat)) (.pointer (some ⟨rb,0,none⟩)))(hk:m.tell.kind=3\/m.tell.kind=5)(hX:X16 w A W k c v s m tb a1 a2 a3)
  (hF:F16 w A W k c v s m j rb 1 m.tell.answer (.slice o1 o2 o3)) (h3:m.tell.kind=3->hearL s m=s.rets (isR s m.tell) 1 m.tell.answer) (h5:m.tell.kind=5->hearL s m=s.rets (isR s m.tell) 2 []):t16.wp Tryz.prog (End16 (RHearP w A k c s m)) a W:=by
 obtain ⟨g,cap,y1,y2,y3,hv,q0,_⟩:=drow_at hF.dm.row j hF.lt
 have c10:W.cell? ⟨k,10,none⟩=some v:=hF.dm.blk.cell 10
 rw [hv] at c10
 rw [t16_eq]
 refine stale16 a W tb m.tell.kind _ g s.dcs.length cap j rb _ hT hk (hX.tell.cell 0) c10 q0 hF.lt hF.box _ _ (fun e a' hT'=>fin16 a' W _ m j rb 1 _ o1 o2 o3 hT' hF (h3 e)) fun e a' W' hT' hg hb=>?_
 exact fin16 a' W' _ m j rb 2 [] none 0 0 hT' (hF.stale hg hb) (h5 e)
theorem ans16 (a:Act)(W:World)(tb:Nat)(a1:Option Addr)(a2 a3:Nat)(m:PMsg)(hS:S16 a (.pointer (some ⟨k,0,none⟩)) (.slice none 0 0) (.pointer (some ⟨tb,0,none⟩)))(hX:X16 w A W k c v s m tb a1 a2 a3)(hkd:m.tell.kind=3\/m.tell.kind=5)(_h0:s.ses≠0)(h2:m.tell.session=s.ses):a16.wp Tryz.prog (End16 (RHearP w A k c s m)) a W:=by
 have hkk:=hX.kinds
 have hnum:=okM_num hkk.2.2 hkk.1 hkd
 have HQ:Hid ((m.tell.kind=3->hearL s m=s.rets (isR s m.tell) 1 m.tell.answer)/\(m.tell.kind=5->hearL s m=s.rets (isR s m.tell) 2 [])/\hearS s m=s.ended (isR s m.tell)/\(∀k,isR s m.tell k=decide (m.tell.number=((k+1:Nat):Int)))/\0<m.tell.number):=by
  have hq0:=heard hX.hrs
  rw [hq0.1,hq0.2]
  refine ⟨fun h1=>?_,fun h1=>?_,?_,fun k=>?_,by omega⟩
  ·unfold tellL
   rw [if_pos h1]
  ·unfold tellL
   rw [if_neg (by omega),if_neg (by omega),if_pos h1]
  ·unfold tellS
   rcases hkd with h1 | h1
   ·rw [if_neg (by omega),if_pos h1]
   ·rw [if_neg (by omega),if_neg (by omega),if_neg (by omega),if_pos h1]
  ·unfold isR
   rw [decide_eq_true h2]
   simp
 have HKD:Hid (m.tell.kind=3\/m.tell.kind=5):=hkd
 obtain ⟨t,sl0,sl4,sl5,rfl⟩:=hS.eq
 unfold row149
 rw [sl0,sl4,sl5]
 clear sl0 sl4 sl5
 obtain ⟨ao,cap,rfl⟩:=hX.dm.sl
 obtain ⟨n,hn⟩:∃n,s.dcs.length=n:=⟨_,rfl⟩
 have HX:Hid (X16 w A W k c (.slice ao s.dcs.length cap) s m tb a1 a2 a3):=hX
 have HN:Hid (s.dcs.length=n/\n<=1000000000000):=⟨hn,by have:=dcs_len s;have:=hX.ok.last;omega⟩
 have c10:W.cell? ⟨k,10,none⟩=some (.slice ao n cap):=by rw [<-hn];exact hX.dm.blk.cell 10
 clear hS hX hn hkk hnum hkd _h0 h2
 unfold a16 q16 p16 b16
 dsimp only [Tryz.f16,Option.getD,cL,cR]
 go_wp2_with fail
 go_loopw [6] (fun q wr=>∃j:Nat,q=.int .i64 (j:Nat)/\j<=n/\Hid (W.grownBy wr none/\∀i (h:i<s.dcs.length),i<j->s.dcs[i].num≠m.tell.number)) (fun q _=>n-(intOf q).toNat)
 case atStart=>exact ⟨0,rfl,Nat.zero_le _,grown_refl _ _,fun i h hi=>absurd hi (by omega)⟩
 case round =>
  obtain ⟨j,rfl,hj,G⟩:=hrel
  replace c10:=G.out.1.cell c10 (by simp)
  by_cases hlt:j<n
  ·have i1:(j:Int)<(n:Int):=by omega
   have i2:(0:Int)<=(j:Int):=by omega
   have HLJ:Hid (j<s.dcs.length):=by have:=HN.out.1;unfold Hid;omega
   have d1:IntKind.i64.wrap ((j:Int)+1)=(j:Int)+1:=by have:=HN.out;rw [IntKind.wrap_i64];omega
   obtain ⟨g,cap',y1,y2,y3,e,q0,q1,q2,q3,q4,q5⟩:=drow_at HX.out.dm.row j HLJ.out
   simp at e
   obtain ⟨rfl,rfl⟩:=e
   obtain ⟨xi,hxi⟩:∃x,(s.dcs[j]'(HLJ.out)).id=x:=⟨_,rfl⟩
   obtain ⟨xn,hxn⟩:∃x,(s.dcs[j]'(HLJ.out)).num=x:=⟨_,rfl⟩
   rw [hxi] at q0
   rw [hxn] at q1
   have HXI:Hid ((s.dcs[j]'(HLJ.out)).id=xi/\(s.dcs[j]'(HLJ.out)).num=xn):=⟨hxi,hxn⟩
   have HC:Hid (∀wk,W.grownBy wk none->wk.cell? ⟨k,10,none⟩=some (.slice (some ⟨g,0,none⟩) n cap)/\wk.cell? ⟨g,j*5,none⟩=some (.int .i64 xi)/\wk.cell? ⟨g,j*5+1,none⟩=some (.int .i64 xn)/\wk.cell? ⟨tb,3,none⟩=some (.int .i64 m.tell.number)/\wk.cell? ⟨tb,4,none⟩=some (.slice a1 a2 a3)):=fun wk hk=>by
    have ht:=HX.out.tell.grown hk (by simp)
    exact ⟨by rw [<-HN.out.1];exact (HX.out.dm.grown hk).blk.cell 10,hk.cell q0 (by simp),hk.cell q1 (by simp),ht.cell 3,ht.cell 4⟩
   clear q0 q1 q2 q3 q4 q5 hxi hxn
   go_upto_region 17 with fail
   clear c10
   refine wp_region_hold 1000 (fun y=>W.grownBy y none) (by kernel_rfl) ?_
   have G7:Hid (W.grownBy wr.drew none):=grown_trans G.out.1 (grown_drew _ _)
   generalize wr.drew=w7 at G7 ⊢
   by_cases hxn:xn=m.tell.number
   ·have HXN:Hid (xn=m.tell.number):=hxn
    have f1:(xn==m.tell.number)=true:=by rw [hxn];simp
    clear hxn
    have J:Idx [0,1,2,3,4,5,6,7,8,9,10]:=trivial
    iterate 11 (refine tK J (G7.out) rfl rfl (fun wk hk=>by obtain ⟨k0,k1,k2,k3,k4⟩:=HC.out wk hk;go_simp;try rfl) ?_;replace J:=J.tl;try simp only [pN])
    clear J
    refine wpHold_done (by kernel_rfl) ?_
    refine (‹∀(a:Act) (w:World),Code.wp Tryz.prog _ _ a w->_› _ _ ?_)
    clear f1
    have HFIN:Hid (∀(a':Act) (wz wy:World) (rb:Nat) (e1:Option Addr) (e2 e3:Nat),T16 a' (.pointer (some ⟨k,0,none⟩)) (.pointer (some ⟨tb,0,none⟩)) (.int .i64 (j:Nat)) (.pointer (some ⟨rb,0,none⟩))->W.grownBy wz none->Disk.Own wz A.heap.size (.slice e1 e2 e3) m.tell.answer->W.heap.size<=rb->Blk wz rb 78 #[.int .i64 0,.int .i64 0,.slice none 0 0]->wy=((wz.setCell ⟨rb,0,none⟩ (.int .i64 xi)).setCell ⟨rb,1,none⟩ (.int .i64 1)).setCell ⟨rb,2,none⟩ (.slice e1 e2 e3)->t16.wp Tryz.prog (End16 (RHearP w A k c s m)) a' wy):=by
     intro a' wz wy rb e1 e2 e3 hT hz ho hrb hb hy
     have hb2:Blk wy rb 78 #[.int .i64 xi,.int .i64 1,.slice e1 e2 e3]:=by rw [hy];exact ((hb.store 0 _).store 1 _).store 2 _
     have hgy:wz.grownBy wy (some rb):=by rw [hy];exact grown_trans (grown_setCell _ _ _ _) (grown_trans (grown_setCell _ _ _ _) (grown_setCell _ _ _ _))
     have hx:=HX.out.grown (grown_new hz hgy (by intro y hy;simp at hy;omega))
     have hs:=HX.out.gr.size
     have hs2:=HX.out.dm.gr.size
     have hbb:Blk wy rb 78 #[.int .i64 (s.dcs[j]'(HLJ.out)).id,.int .i64 1,.slice e1 e2 e3]:=by rw [HXI.out.1];exact hb2
     exact found16 a' wy tb a1 a2 a3 m j rb e1 e2 e3 hT HKD.out hx ⟨hx.dm,hx.gr,hx.ok,HLJ.out,by rw [HXI.out.2];exact HXN.out,hbb,own_set ho hb (by decide) hgy,by omega,HX.out.wA,HQ.out.2.2.1,HQ.out.2.2.2.1,HQ.out.2.2.2.2⟩ HQ.out.1 HQ.out.2.1
    have HL:Hid (m.tell.answer.length<=140737488355328/\A.heap.size<=W.heap.size):=⟨HX.out.len,HX.out.gr.size⟩
    go_upto_region 18 with fail
    refine wp_region_hold 1000 (fun y=>W.grownBy y none) (by kernel_rfl) ?_
    have G8:Hid (W.grownBy w7.drew none):=grown_trans G7.out (grown_drew _ _)
    generalize w7.drew=w8 at G8 ⊢
    have J:Idx [0,1,2,3,4,5,6,7,8,9]:=trivial
    iterate 10 (refine tK J (G8.out) rfl rfl (fun wk hk=>by obtain ⟨k0,k1,k2,k3,k4⟩:=HC.out wk hk;go_simp;try rfl) ?_;replace J:=J.tl;try simp only [pN])
    clear J
    refine wpHold_two (i:=10) (j:=12) rfl rfl (by kernel_rfl) (by rfl) (by rfl) (fun K hK=>?_) (fun K hK=>?_)
    ·refine app22_wp w8 _ _ rfl w8.heap.size (.slice none 0 0) [] (.slice a1 a2 a3) m.tell.answer rfl rfl (Own.nil _ _) (HX.out.ans.grown G8.out) (by have:=HL.out.1;simp;omega) (Nat.le_refl _) ?_
     intro v9 w9 hv9 hg9 _
     have hg9':w8.grownBy w9 none:=hg9
     rw [List.nil_append] at hv9
     obtain ⟨e1,e2,e3,rfl⟩:=isSl_on hv9
     have G9:Hid (W.grownBy w9 none/\Disk.Own w9 A.heap.size (.slice e1 e2 e3) m.tell.answer):=⟨grown_trans G8.out hg9',hv9.mono (Nat.le_trans HL.out.2 G8.out.size)⟩
     clear hv9 hg9 hg9'
     refine hK.out _ _ (fun _=>G9.out.1) ?_
     clear hK K
     try simp only [pN]
     have J:Idx [11]:=trivial
     iterate 1 (refine tK J (G9.out.1) rfl rfl (fun wk hk=>by obtain ⟨k0,k1,k2,k3,k4⟩:=HC.out wk hk;go_simp;try rfl) ?_;replace J:=J.tl;try simp only [pN])
     clear J
     refine wpHold_one (i:=12) rfl (by kernel_rfl) (by rfl) (fun K hK=>?_)
     obtain ⟨wz,hw5,H5⟩:=al1 w9 #[.int .i64 0,.int .i64 0,.slice none 0 0] 78
     obtain ⟨rb,hrb⟩:∃x,w9.heap.size=x:=⟨_,rfl⟩
     rw [hrb] at H5
     have HRB:Hid (w9.heap.size=rb):=hrb
     go_wp2_with fail
     try rw [hw5]
     try rw [hrb]
     clear hw5 hrb
     have HZ9:Hid (W.grownBy wz none/\Disk.Own wz A.heap.size (.slice e1 e2 e3) m.tell.answer/\W.heap.size<=rb/\Blk wz rb 78 #[.int .i64 0,.int .i64 0,.slice none 0 0]):=⟨grown_trans G9.out.1 H5.out.2.1,G9.out.2.grown H5.out.2.1,by have:=HRB.out;have:=G9.out.1.size;omega,H5.out.1⟩
     clear H5 HRB
     refine hK.out _ _ (fun _=>HZ9.out.1) ?_
     clear hK K
     try simp only [pN]
     refine wpHold_one (i:=13) rfl (by kernel_rfl) (by rfl) (fun K hK=>?_)
     have r0:wz.cell? ⟨rb,0,none⟩=some (.int .i64 0):=HZ9.out.2.2.2.cell 0
     have r1:wz.cell? ⟨rb,1,none⟩=some (.int .i64 0):=HZ9.out.2.2.2.cell 1
     have r2:wz.cell? ⟨rb,2,none⟩=some (.slice none 0 0):=HZ9.out.2.2.2.cell 2
     have r3:=HZ9.out.2.2.2.free 0
     have r4:=HZ9.out.2.2.2.free 1
     have r5:=HZ9.out.2.2.2.free 2
     go_wp2_with fail
     clear r0 r1 r2 r3 r4 r5
     obtain ⟨wy,hwy⟩:∃x,(((wz.setCell ⟨rb,0,none⟩ (.int .i64 xi)).setCell ⟨rb,1,none⟩ (.int .i64 1)).setCell ⟨rb,2,none⟩ (.slice e1 e2 e3))=x:=⟨_,rfl⟩
     rw [hwy]
     have HY:Hid (W.grownBy wy none/\wy=((wz.setCell ⟨rb,0,none⟩ (.int .i64 xi)).setCell ⟨rb,1,none⟩ (.int .i64 1)).setCell ⟨rb,2,none⟩ (.slice e1 e2 e3)):=by
      refine ⟨?_,hwy.symm⟩
      rw [<-hwy]
      exact grown_new HZ9.out.1 (grown_trans (grown_setCell _ rb _ _) (grown_trans (grown_setCell _ rb _ _) (grown_setCell _ rb _ _))) (by intro y hy;have:=HZ9.out.2.2.1;simp at hy;omega)
     clear hwy
     refine hK.out _ _ (fun _=>HY.out.1) ?_
     clear hK K
     try simp only [pN]
     refine wpHold_done (by kernel_rfl) ?_
     refine (‹∀(a:Act) (w:World),Code.wp Tryz.prog _ _ a w->_› _ _ ?_)
     exact Code.wp_mono (fun e a w h=>by cases e <;> first | exact h | exact h.elim) (HFIN.out _ wz wy rb e1 e2 e3 ⟨rfl,rfl,rfl,rfl,rfl,rfl⟩ HZ9.out.1 HZ9.out.2.1 HZ9.out.2.2.1 HZ9.out.2.2.2 HY.out.2)
    ·obtain ⟨w9,hw5,H5⟩:=al1 w8 #[.int .i64 0,.int .i64 0,.slice none 0 0] 78
     obtain ⟨rb,hrb⟩:∃x,w8.heap.size=x:=⟨_,rfl⟩
     rw [hrb] at H5
     have HRB:Hid (w8.heap.size=rb):=hrb
     go_wp2_with fail
     try rw [hw5]
     try rw [hrb]
     clear hw5 hrb
     have G9:Hid (W.grownBy w9 none/\W.heap.size<=rb/\Blk w9 rb 78 #[.int .i64 0,.int .i64 0,.slice none 0 0]):=⟨grown_trans G8.out H5.out.2.1,by have:=HRB.out;have:=G8.out.size;omega,H5.out.1⟩
     clear H5 HRB
     refine hK.out _ _ (fun _=>G9.out.1) ?_
     clear hK K
     try simp only [pN]
     refine wpHold_one (i:=10) rfl (by kernel_rfl) (by rfl) (fun K hK=>?_)
     refine app22_wp w9 _ _ rfl w9.heap.size (.slice none 0 0) [] (.slice a1 a2 a3) m.tell.answer rfl rfl (Own.nil _ _) (HX.out.ans.grown G9.out.1) (by have:=HL.out.1;simp;omega) (Nat.le_refl _) ?_
     intro v9 wz hv9 hg9 _
     have hg9':w9.grownBy wz none:=hg9
     rw [List.nil_append] at hv9
     obtain ⟨e1,e2,e3,rfl⟩:=isSl_on hv9
     have HZ9:Hid (W.grownBy wz none/\Disk.Own wz A.heap.size (.slice e1 e2 e3) m.tell.answer/\W.heap.size<=rb/\Blk wz rb 78 #[.int .i64 0,.int .i64 0,.slice none 0 0]):=⟨grown_trans G9.out.1 hg9',hv9.mono (Nat.le_trans HL.out.2 G9.out.1.size),G9.out.2.1,G9.out.2.2.grown hg9' (by simp)⟩
     clear hv9 hg9 hg9'
     refine hK.out _ _ (fun _=>HZ9.out.1) ?_
     clear hK K
     try simp only [pN]
     have J:Idx [11]:=trivial
     iterate 1 (refine tK J (HZ9.out.1) rfl rfl (fun wk hk=>by obtain ⟨k0,k1,k2,k3,k4⟩:=HC.out wk hk;go_simp;try rfl) ?_;replace J:=J.tl;try simp only [pN])
     clear J
     refine wpHold_one (i:=13) rfl (by kernel_rfl) (by rfl) (fun K hK=>?_)
     have r0:wz.cell? ⟨rb,0,none⟩=some (.int .i64 0):=HZ9.out.2.2.2.cell 0
     have r1:wz.cell? ⟨rb,1,none⟩=some (.int .i64 0):=HZ9.out.2.2.2.cell 1
     have r2:wz.cell? ⟨rb,2,none⟩=some (.slice none 0 0):=HZ9.out.2.2.2.cell 2
     have r3:=HZ9.out.2.2.2.free 0
     have r4:=HZ9.out.2.2.2.free 1
     have r5:=HZ9.out.2.2.2.free 2
     go_wp2_with fail
     clear r0 r1 r2 r3 r4 r5
     obtain ⟨wy,hwy⟩:∃x,(((wz.setCell ⟨rb,0,none⟩ (.int .i64 xi)).setCell ⟨rb,1,none⟩ (.int .i64 1)).setCell ⟨rb,2,none⟩ (.slice e1 e2 e3))=x:=⟨_,rfl⟩
     rw [hwy]
     have HY:Hid (W.grownBy wy none/\wy=((wz.setCell ⟨rb,0,none⟩ (.int .i64 xi)).setCell ⟨rb,1,none⟩ (.int .i64 1)).setCell ⟨rb,2,none⟩ (.slice e1 e2 e3)):=by
      refine ⟨?_,hwy.symm⟩
      rw [<-hwy]
      exact grown_new HZ9.out.1 (grown_trans (grown_setCell _ rb _ _) (grown_trans (grown_setCell _ rb _ _) (grown_setCell _ rb _ _))) (by intro y hy;have:=HZ9.out.2.2.1;simp at hy;omega)
     clear hwy
     refine hK.out _ _ (fun _=>HY.out.1) ?_
     clear hK K
     try simp only [pN]
     refine wpHold_done (by kernel_rfl) ?_
     refine (‹∀(a:Act) (w:World),Code.wp Tryz.prog _ _ a w->_› _ _ ?_)
     exact Code.wp_mono (fun e a w h=>by cases e <;> first | exact h | exact h.elim) (HFIN.out _ wz wy rb e1 e2 e3 ⟨rfl,rfl,rfl,rfl,rfl,rfl⟩ HZ9.out.1 HZ9.out.2.1 HZ9.out.2.2.1 HZ9.out.2.2.2 HY.out.2)
   ·have HXN:Hid (xn≠m.tell.number):=hxn
    have f1:(xn==m.tell.number)=false:=by rw [beq_eq_false_iff_ne];exact hxn
    clear hxn
    have J:Idx [0,1,2,3,4,5,6,7,8,9,10]:=trivial
    iterate 11 (refine tK J (G7.out) rfl rfl (fun wk hk=>by obtain ⟨k0,k1,k2,k3,k4⟩:=HC.out wk hk;go_simp;try rfl) ?_;replace J:=J.tl;try simp only [pN])
    clear J
    refine wpHold_done (by kernel_rfl) ?_
    refine (‹∀(a:Act) (w:World),Code.wp Tryz.prog _ _ a w->_› _ _ ?_)
    go_wp2_with fail
    go_roundw
    case rel =>
     refine ⟨j+1,by go_num,by have:=HLJ.out;have:=HN.out.1;omega,G7.out,fun i h hi=>?_⟩
     by_cases e:i=j
     ·subst e
      rw [HXI.out.2]
      exact HXN.out
     ·exact G.out.2 i h (by omega)
    case measure=>have:=HLJ.out;have:=HN.out.1;simp [intOf];omega
  ·have i1:¬(j:Int)<(n:Int):=by omega
   have HZ:Hid (RHearP w A k c s m (.returned (.slice none 0 0)) wr):=by
    have hno:∀r ∈ s.dcs,decide (r.num=m.tell.number)=false:=fun r hr=>by
     obtain ⟨i,hi,rfl⟩:=List.mem_iff_getElem.1 hr
     exact decide_eq_false (G.out.2 i hi (by have:=HN.out.1;omega))
    obtain ⟨z1,z5,z2,z3,z4⟩:=HQ.out
    have hnil:∀what ans,s.rets (isR s m.tell) what ans=[]:=fun what ans=>by
     rw [rets_doc s _ _ z4 z3,List.filter_eq_nil_iff.2 fun r hr=>by rw [hno r hr];simp]
     rfl
    have hL:hearL s m=[]:=by
     rcases HKD.out with h | h
     ·rw [z1 h,hnil]
     ·rw [z5 h,hnil]
    have hd:=HX.out.dm.grown G.out.1
    have hl:(mapUp (endF (isR s m.tell)) s.L s.L.length).length=s.L.length:=mapUp_len _ _ _
    refine ⟨_,rfl,by rw [hL];exact rets_nil _ _,⟨.slice ao s.dcs.length cap,?_,?_,hd.lo,hd.gr⟩,keepD_grown (grown_trans HX.out.gr G.out.1)⟩
    ·rw [z2]
     have hb:=hd.blk
     unfold docC at hb ⊢
     show Blk _ k 51 #[_,_,_,_,_,_,_,_,_,_,_,_,_,_,_,_,.int .i64 ((mapUp (endF (isR s m.tell)) s.L s.L.length).length:Nat)]
     rw [hl]
     exact hb
    ·rw [z2,ended_doc s _ _ z4 z3,List.filter_eq_self.2 fun r hr=>by rw [hno r hr];rfl]
     exact hd.row
   clear hlt
   go_wp2_with fail
   exact ⟨rfl,HZ.out⟩
variable {s:CS}
theorem gather_ext {β:Type}{g:Nat->Cr->List β}{L M:List (Option Cr)}:∀k,(∀i,i<k->L[i]? = M[i]?)->gather g L k=gather g M k
 | 0,_=>rfl
 | k+1,h=>by
  rw [gather,gather,gather_ext k fun i hi=>h i (by omega),h k (by omega)]
def CS.gv (s:CS)(j:Nat):CS:=⟨s.num,s.size,s.most,s.tmo,s.tok,s.asked,s.askAt,s.ses,s.L ++ (s.wt.take j).map some,s.wt.drop j,s.last,s.now⟩
theorem gv_zero (s:CS):s.gv 0=s:=by cases s;simp [CS.gv]
theorem gv_lead (s:CS)(j:Nat):lead (s.gv j).L=lead s.L:=lead_more _ _
theorem gv_len {j:Nat}(hj:j<=s.wt.length):(s.gv j).L.length=s.L.length+j:=by
 simp [CS.gv]
 omega
theorem Okc.gv (h:Okc s)(h0:1<=s.ses)(j:Nat):Okc (s.gv j):=by
 have mem:∀c,(some c ∈ (s.gv j).L\/c ∈ (s.gv j).wt)->some c ∈ s.L\/c ∈ s.wt:=fun c h=>by
  rcases h with h | h
  ·simp [CS.gv] at h
   rcases h with h | h
   ·exact .inl h
   ·have h2:=List.mem_of_mem_take h
    simp at h2
    exact .inr h2
  ·exact .inr (List.mem_of_mem_drop h)
 refine ⟨h.num,h.size,h.most,h.tmo,h.tok,h.askAt,h.ses,fun e=>?_,?_,h.now,?_,fun c hc=>h.call c (mem c hc),fun c hc=>h.wait c (List.mem_of_mem_drop hc)⟩
 ·have:s.ses=0:=e
  omega
 ·have:=h.last
  simp [CS.gv]
  omega
 ·have:=h.few
  have e:=outN_more s.L (s.wt.take j)
  simp only [CS.gv] at e ⊢
  rw [e,List.length_take,List.length_drop]
  omega
def CS.n0 (s:CS):Nat:=(gather numG s.L s.L.length).length
theorem n0_dcs (s:CS):s.dcs.length=s.n0+s.wt.length:=by unfold CS.dcs CS.n0;rw [List.length_append,List.length_map]
theorem gv_nums {j:Nat}(hj:j<=s.wt.length):(gather numG (s.gv j).L (s.gv j).L.length).length=s.n0+j:=by
 induction j with
 | zero=>rw [gv_zero];rfl
 | succ j ih =>
  have ih:=ih (by omega)
  rw [gv_len hj,<-Nat.add_assoc,gather]
  rw [gv_len (by omega)] at ih
  have e1:gather numG (s.gv (j+1)).L (s.L.length+j)=gather numG (s.gv j).L (s.L.length+j):=by
   refine gather_ext _ fun i hi=>?_
   simp only [CS.gv]
   by_cases h:i<s.L.length
   ·rw [List.getElem?_append_left h,List.getElem?_append_left h]
   ·rw [List.getElem?_append_right (by omega),List.getElem?_append_right (by omega),List.getElem?_map,List.getElem?_map,List.getElem?_take,List.getElem?_take,if_pos (by omega),if_pos (by omega)]
  have e2:(s.gv (j+1)).L[s.L.length+j]? = some (some (s.wt[j]'(by omega))):=by
   simp only [CS.gv]
   rw [List.getElem?_append_right (by omega),List.getElem?_map,List.getElem?_take,if_pos (by omega)]
   simp
  rw [e2,List.length_append,e1,ih]
  simp [numG]
  omega
theorem gv_dcs {j:Nat}(hj:j<s.wt.length):∃P,(s.gv j).dcs=P ++ (waitD (s.wt[j]'hj) :: (s.wt.drop (j+1)).map waitD)/\P.length=s.n0+j/\(s.gv (j+1)).dcs=P ++ (⟨(s.wt[j]'hj).id,((s.L.length+j+1:Nat):Int),(s.wt[j]'hj).tm,(s.wt[j]'hj).was,(s.wt[j]'hj).ops⟩ :: (s.wt.drop (j+1)).map waitD):=by
 refine ⟨gather numG (s.gv j).L (s.gv j).L.length,?_,gv_nums (by omega),?_⟩
 ·unfold CS.dcs
  congr 1
  show (s.wt.drop j).map waitD=_
  rw [List.drop_eq_getElem_cons hj]
  rfl
 ·unfold CS.dcs
  rw [gv_len (by omega),gv_len (by omega),<-Nat.add_assoc,gather]
  have e1:gather numG (s.gv (j+1)).L (s.L.length+j)=gather numG (s.gv j).L (s.L.length+j):=by
   refine gather_ext _ fun i hi=>?_
   simp only [CS.gv]
   by_cases h:i<s.L.length
   ·rw [List.getElem?_append_left h,List.getElem?_append_left h]
   ·rw [List.getElem?_append_right (by omega),List.getElem?_append_right (by omega),List.getElem?_map,List.getElem?_map,List.getElem?_take,List.getElem?_take,if_pos (by omega),if_pos (by omega)]
  have e2:(s.gv (j+1)).L[s.L.length+j]? = some (some (s.wt[j]'hj)):=by
   simp only [CS.gv]
   rw [List.getElem?_append_right (by omega),List.getElem?_map,List.getElem?_take,if_pos (by omega)]
   simp
  rw [e1,e2,List.append_assoc]
  rfl
theorem gv_step {j:Nat}(hj:j<s.wt.length)(hw:(s.wt[j]'hj).was=false/\(s.wt[j]'hj).tm=0):∃h:s.n0+j<(s.gv j).dcs.length,(s.gv j).dcs[s.n0+j].num=0/\(s.gv (j+1)).dcs=(s.gv j).dcs.set (s.n0+j) ⟨(s.gv j).dcs[s.n0+j].id,((s.L.length+j+1:Nat):Int),(s.gv j).dcs[s.n0+j].tm,(s.gv j).dcs[s.n0+j].was,(s.gv j).dcs[s.n0+j].ops⟩:=by
 obtain ⟨P,h1,h2,h3⟩:=gv_dcs hj
 have hl:s.n0+j<(s.gv j).dcs.length:=by rw [h1,List.length_append,h2];simp
 have hx:(s.gv j).dcs[s.n0+j]=waitD (s.wt[j]'hj):=by
  have:(s.gv j).dcs[s.n0+j]? = some (waitD (s.wt[j]'hj)):=by rw [h1,List.getElem?_append_right (by omega),h2];simp
  rw [List.getElem?_eq_getElem hl] at this
  exact Option.some.inj this
 refine ⟨hl,by rw [hx];rfl,?_⟩
 rw [hx,h3,h1,<-h2,List.set_append_right _ _ (Nat.le_refl _),Nat.sub_self,List.set_cons_zero]
 simp only [waitD,hw.1,hw.2]
theorem gv_num {j i:Nat}(hj:j<=s.wt.length)(hi:i<(s.gv j).dcs.length):(s.n0+j<=i->(s.gv j).dcs[i].num=0)/\(i<s.n0+j->0<(s.gv j).dcs[i].num):=by
 have hn:=gv_nums hj
 have e:(s.gv j).dcs=gather numG (s.gv j).L (s.gv j).L.length ++ ((s.wt.drop j).map waitD):=rfl
 refine ⟨fun h=>?_,fun h=>?_⟩
 ·have:(s.gv j).dcs[i] ∈ (s.wt.drop j).map waitD:=by
   have h1:(gather numG (s.gv j).L (s.gv j).L.length ++ ((s.wt.drop j).map waitD))[i]'(by rw [<-e];exact hi)=((s.wt.drop j).map waitD)[i-(gather numG (s.gv j).L (s.gv j).L.length).length]'(by rw [e,List.length_append] at hi;omega):=List.getElem_append_right (by omega)
   simp only [e,h1]
   exact List.getElem_mem _
  obtain ⟨c,_,hc⟩:=List.mem_map.1 this
  rw [<-hc]
  rfl
 ·have h1:(gather numG (s.gv j).L (s.gv j).L.length ++ ((s.wt.drop j).map waitD))[i]'(by rw [<-e];exact hi)=(gather numG (s.gv j).L (s.gv j).L.length)[i]'(by omega):=List.getElem_append_left (by omega)
  simp only [e,h1]
  exact ((nums_rise _ _).2 _ (List.getElem_mem _)).2
theorem gv_dlen {j:Nat}(hj:j<=s.wt.length):(s.gv j).dcs.length=s.dcs.length:=by
 rw [n0_dcs s]
 unfold CS.dcs
 rw [List.length_append,gv_nums hj,List.length_map]
 simp [CS.gv]
 omega
def stampD (now:Int)(tmo t:Nat)(r:Dr):Dr:=if 0<r.num/\r.num<=(t:Int)/\due r.was r.tm now tmo=true then ⟨r.id,r.num,now,true,r.ops⟩ else r
theorem stampD_num (now:Int)(tmo t:Nat)(r:Dr):(stampD now tmo t r).num=r.num:=by unfold stampD;split <;> rfl
def CS.upto (s:CS)(t:Nat):CS:=s.out (mapUp (sendF s) s.L t)
theorem upto_len (s:CS)(t:Nat):(s.upto t).L.length=s.L.length:=mapUp_len _ _ _
theorem upto_dcs (s:CS)(t:Nat):(s.upto t).dcs=s.dcs.map (stampD s.now s.tmo t):=by
 have key:∀k,gather numG (mapUp (sendF s) s.L t) k=(gather numG s.L k).map (stampD s.now s.tmo t):=by
  intro k
  induction k with
  | zero=>rfl
  | succ k ih =>
   rw [gather,gather,List.map_append,ih,mapUp_get]
   cases s.L[k]? with
   | none=>rfl
   | some o =>
    cases o with
    | none =>
     by_cases h:k<t
     ·simp [h]
     ·simp [h]
    | some c =>
     by_cases h:k<t
     ·have h2:0<((k+1:Nat):Int)/\((k+1:Nat):Int)<=(t:Int):=by omega
      simp only [Option.map_some,h,if_true,Option.bind_some,sendF,numG,List.map_cons,List.map_nil,stampD,stamp,h2,true_and]
      by_cases hd:due c.was c.tm s.now s.tmo=true
      ·rw [if_pos hd,if_pos hd]
      ·rw [if_neg hd,if_neg hd]
     ·have h2:¬((k+1:Nat):Int)<=(t:Int):=by omega
      simp only [Option.map_some,h,if_false,numG,List.map_cons,List.map_nil,stampD,h2,false_and,and_false]
 unfold CS.dcs
 rw [List.map_append]
 congr 1
 ·rw [upto_len]
  exact key _
 ·show s.wt.map waitD=_
  rw [List.map_map]
  refine List.map_congr_left fun c _=>?_
  simp [stampD,waitD]
theorem stampD_far {now:Int}{tmo t:Nat}{r:Dr}(h:r.num≠((t+1:Nat):Int)):stampD now tmo (t+1) r=stampD now tmo t r:=by
 unfold stampD
 by_cases h1:r.num<=(t:Int)
 ·have h2:r.num<=((t+1:Nat):Int):=by omega
  simp only [h1,h2]
 ·have h2:¬r.num<=((t+1:Nat):Int):=by omega
  simp only [h1,h2]
theorem upto_none {k:Nat}(h:∀(i:Nat) (hi:i<s.dcs.length),s.dcs[i].num≠((k+1:Nat):Int)):s.upto (k+1)=s.upto k/\gather (sendG s) s.L (k+1)=gather (sendG s) s.L k:=by
 have hn:∀c,s.L[k]?≠some (some c):=fun c hc=>by
  have hk:=(List.getElem?_eq_some_iff.1 hc).1
  have hm:(⟨c.id,((k+1:Nat):Int),c.tm,c.was,c.ops⟩:Dr) ∈ s.dcs:=by
   unfold CS.dcs
   refine List.mem_append.2 (.inl ?_)
   have key:∀m,k<m->(⟨c.id,((k+1:Nat):Int),c.tm,c.was,c.ops⟩:Dr) ∈ gather numG s.L m:=by
    intro m
    induction m with
    | zero=>intro h;omega
    | succ m ih =>
     intro hm
     rw [gather]
     by_cases e:k=m
     ·subst e
      rw [hc]
      exact List.mem_append.2 (.inr (by simp [numG]))
     ·exact List.mem_append.2 (.inl (ih (by omega)))
   exact key _ hk
  obtain ⟨i,hi,e⟩:=List.mem_iff_getElem.1 hm
  exact h i hi (by rw [e])
 constructor
 ·unfold CS.upto
  congr 1
  apply List.ext_getElem?
  intro i
  rw [mapUp_get,mapUp_get]
  by_cases e:i=k
  ·subst e
   cases e2:s.L[i]? with
   | none=>rfl
   | some o =>
    cases o with
    | none=>simp
    | some c=>exact absurd e2 (hn c)
  ·by_cases h1:i<k
   ·have:i<k+1:=by omega
    simp [h1,this]
   ·have:¬i<k+1:=by omega
    simp [h1,this]
 ·rw [gather]
  split
  ·rename_i c e
   exact absurd e (hn c)
  ·simp
theorem upto_at {k i:Nat}(hi:i<s.dcs.length)(h:s.dcs[i].num=((k+1:Nat):Int)):∃(c:Cr) (hi':i<(s.upto k).dcs.length),s.L[k]? = some (some c)/\(s.upto k).dcs[i]=⟨c.id,((k+1:Nat):Int),c.tm,c.was,c.ops⟩/\gather (sendG s) s.L (k+1)=gather (sendG s) s.L k ++ sendG s k c/\(due c.was c.tm s.now s.tmo=true->(s.upto (k+1)).dcs=(s.upto k).dcs.set i ⟨c.id,((k+1:Nat):Int),s.now,true,c.ops⟩)/\(due c.was c.tm s.now s.tmo=false->s.upto (k+1)=s.upto k):=by
 have hm:s.dcs[i] ∈ s.dcs:=List.getElem_mem hi
 rcases dcs_mem hm with ⟨k',c,h1,h2,h3⟩ | ⟨c,_,h3⟩
 ·have e:k'=k:=by rw [h3] at h;simp at h;omega
  subst e
  have hx:(s.upto k').dcs[i]'(by rw [upto_dcs,List.length_map];exact hi)=⟨c.id,((k'+1:Nat):Int),c.tm,c.was,c.ops⟩:=by
   have:∀h',(s.dcs.map (stampD s.now s.tmo k'))[i]'h'=⟨c.id,((k'+1:Nat):Int),c.tm,c.was,c.ops⟩:=fun h'=>by
    rw [List.getElem_map,h3]
    unfold stampD
    exact if_neg (by dsimp only;omega)
   simp only [upto_dcs]
   exact this _
  refine ⟨c,by rw [upto_dcs,List.length_map];exact hi,h2,hx,?_,fun hd=>?_,fun hd=>?_⟩
  ·rw [gather,h2]
  ·rw [upto_dcs,upto_dcs]
   apply List.ext_getElem
   ·simp
   ·intro i' a b
    rw [List.length_map] at a
    by_cases e:i=i'
    ·subst e
     rw [List.getElem_set_self,List.getElem_map,h3]
     unfold stampD
     rw [if_pos ⟨by dsimp only;omega,by dsimp only;omega,hd⟩]
    ·rw [List.getElem_set_ne e,List.getElem_map,List.getElem_map]
     refine stampD_far fun h'=>?_
     have hr:=dcs_rise s
     rw [List.pairwise_iff_getElem] at hr
     rcases Nat.lt_or_gt_of_ne e with hlt | hlt
     ·exact hr i i' hi a hlt (by rw [h'];omega) (by rw [h,h'])
     ·exact hr i' i a hi hlt (by rw [h];omega) (by rw [h,h'])
  ·unfold CS.upto
   congr 1
   apply List.ext_getElem?
   intro i'
   rw [mapUp_get,mapUp_get]
   by_cases e:i'=k'
   ·subst e
    rw [h2]
    simp [sendF,stamp,hd]
   ·by_cases h1:i'<k'
    ·have:i'<k'+1:=by omega
     simp [h1,this]
    ·have:¬i'<k'+1:=by omega
     simp [h1,this]
 ·rw [h3] at h
  simp [waitD] at h
  omega
theorem Okc.upto (h:Okc s)(t:Nat)(h1:1<=s.ses):Okc (s.upto t):=h.sendUp h1 t
theorem flat_set {c:Nat}:∀(vs:List (List Value)),(∀x ∈ vs,x.length=c)->∀(j:Nat) (hj:j<vs.length) (o:Nat),o<c->∀y,vs.flatten.set (j*c+o) y=(vs.set j ((vs[j]'hj).set o y)).flatten
 | [],_,j,hj,_,_,_=>absurd hj (by simp)
 | x :: vs,h,0,_,o,ho,y=>by
  have:=h x (by simp)
  rw [List.flatten_cons,List.set_cons_zero,List.flatten_cons,Nat.zero_mul,Nat.zero_add,List.set_append_left _ _ (by omega)]
  rfl
 | x :: vs,h,j+1,hj,o,ho,y=>by
  have hx:=h x (by simp)
  rw [List.flatten_cons,List.set_cons_succ,List.flatten_cons,List.set_append_right _ _ (by rw [hx,Nat.add_mul];omega)]
  have e:(j+1)*c+o-x.length=j*c+o:=by rw [hx,Nat.add_mul];omega
  rw [e,flat_set vs (fun z hz=>h z (by simp [hz])) j (by simpa using hj) o ho y]
  rfl
theorem lrow_cell {α:Type}{t c:Nat}{R:World->List Value->α->Prop}{T:Nat->Prop}{w:World}{B g n cap:Nat}{l:List α}(h:LRow t c R w B (.slice (some ⟨g,0,none⟩) n cap) l)(hs:Stab T R)(hT:¬T t)(j:Nat)(hj:j<l.length)(o:Nat)(ho:o<c)(y:Value)(a:α)(ha:∀x w',R w' x l[j]->R w' (x.set o y) a) :
  LRow t c R (w.setCell ⟨g,j*c+o,none⟩ y) B (.slice (some ⟨g,0,none⟩) n cap) (l.set j a)/\w.grownBy (w.setCell ⟨g,j*c+o,none⟩ y) (some g):=by
 have hn:n=l.length:=by obtain ⟨x,y,e⟩:=h.shape;simp at e;exact e.2.1
 subst hn
 obtain ⟨vs,h1,h2,h3,h4⟩:=h
 obtain ⟨cur,hb⟩:=owns_blk h1 (k:=g) rfl
 obtain ⟨k1,k2⟩:=h1.stored (j*c+o) y
 have keep:∀{y' b},R w y' b->R (w.setCell ⟨g,j*c+o,none⟩ y) y' b:=fun hy=>hs.2 _ _ _ _ _ _ _ hy hb hT k2
 refine ⟨⟨vs.set j ((vs[j]'(by omega)).set o y),?_,by simp [h2],?_,fun i hi hi'=>?_⟩,k2⟩
 ·rw [flat_set vs h3 j (by omega) o ho y] at k1
  simpa using k1
 ·intro z hz
  rcases List.mem_or_eq_of_mem_set hz with hz | rfl
  ·exact h3 z hz
  ·rw [List.length_set]
   exact h3 _ (List.getElem_mem _)
 ·by_cases e:j=i
  ·subst e
   simpa using ha _ _ (keep (h4 j (by omega) hj))
  ·rw [List.getElem_set_ne e,List.getElem_set_ne e]
   exact keep (h4 i (by simpa using hi) (by simpa using hi'))
theorem drow_free {w:World}{B g n cap:Nat}{l:List Dr}(h:DRow w B (.slice (some ⟨g,0,none⟩) n cap) l)(p:Nat):w.frozen? ⟨g,p,none⟩=false:=by
 obtain ⟨vs,h1,_⟩:=h
 obtain ⟨cur,hb⟩:=owns_blk h1 (k:=g) rfl
 exact Blk.free hb p
variable {s:CS} {w A A':World} {k:Nat} {c:PCfg} {v:Value}
noncomputable def b12:Code:=Tryz.f12.body.getD .skip
noncomputable def out12:Code:=cW (cB (cR (cL (cR (cR (cR (cR (cR (cR (cR (cR b12)))))))))))
noncomputable def bdO12:Code:=cB (cL (cR out12))
noncomputable def in12:Code:=cW (cB (cR bdO12))
noncomputable def bdI12:Code:=cB (cL (cR in12))
noncomputable def rs12:Code:=cR (cR bdI12)
theorem out12_eq:out12=.seq (cL out12) (.seq (.block 3 bdO12) (cR (cR out12))):=rfl
theorem bdO12_eq:bdO12=.seq (cL bdO12) (.block 4 (.loop in12)):=rfl
theorem in12_eq:in12=.seq (cL in12) (.seq (.block 5 bdI12) (cR (cR in12))):=rfl
theorem bdI12_eq:bdI12=.seq (cL bdI12) (.seq (cL (cR bdI12)) rs12):=rfl
def row215 (f:Nat->Value):Array Value:=#[f 0,f 1,f 2,f 3,f 4,f 5,f 6,f 7,f 8,f 9,f 10,f 11,f 12,f 13,f 14,f 15,f 16,f 17,f 18,f 19,f 20,f 21,f 22,f 23,f 24,f 25,f 26,f 27,f 28,f 29,f 30,f 31,f 32,f 33,f 34,f 35,f 36,f 37,f 38,f 39,f 40,f 41,f 42,f 43,f 44,f 45,f 46,f 47,f 48,f 49,f 50,f 51,f 52,f 53,f 54,f 55,f 56,f 57,f 58,f 59,f 60,f 61,f 62,f 63,f 64,f 65,f 66,f 67,f 68,f 69,f 70,f 71,f 72,f 73,f 74,f 75,f 76,f 77,f 78,f 79,f 80,f 81,f 82,f 83,f 84,f 85,f 86,f 87,f 88,f 89,f 90,f 91,f 92,f 93,f 94,f 95,f 96,f 97,f 98,f 99,f 100,f 101,f 102,f 103,f 104,f 105,f 106,f 107,f 108,f 109,f 110,f 111,f 112,f 113,f 114,f 115,f 116,f 117,f 118,f 119,f 120,f 121,f 122,f 123,f 124,f 125,f 126,f 127,f 128,f 129,f 130,f 131,f 132,f 133,f 134,f 135,f 136,f 137,f 138,f 139,f 140,f 141,f 142,f 143,f 144,f 145,f 146,f 147,f 148,f 149,f 150,f 151,f 152,f 153,f 154,f 155,f 156,f 157,f 158,f 159,f 160,f 161,f 162,f 163,f 164,f 165,f 166,f 167,f 168,f 169,f 170,f 171,f 172,f 173,f 174,f 175,f 176,f 177,f 178,f 179,f 180,f 181,f 182,f 183,f 184,f 185,f 186,f 187,f 188,f 189,f 190,f 191,f 192,f 193,f 194,f 195,f 196,f 197,f 198,f 199,f 200,f 201,f 202,f 203,f 204,f 205,f 206,f 207,f 208,f 209,f 210,f 211,f 212,f 213,f 214]
theorem t215 (t:Array Value)(h:t.size=215):t=row215 (sl t):=by
 have h1:t.toList=(List.range 215).map (sl t):=by
  apply List.ext_getElem
  ·simp [h]
  ·intro i h1 h2
   simp [sl] at h1 ⊢
   rw [Array.getElem?_eq_getElem h1]
   rfl
 exact Array.toList_inj.1 h1
structure S12 (a:Act)(v0 v1 v6 v8 v9 v10:Value):Prop where
 size:a.tmps.size=215
 defers:a.defers=[]
 e0:sl a.tmps 0=v0
 e1:sl a.tmps 1=v1
 e6:sl a.tmps 6=v6
 e8:sl a.tmps 8=v8
 e9:sl a.tmps 9=v9
 e10:sl a.tmps 10=v10
theorem S12.eq {a:Act}{v0 v1 v6 v8 v9 v10:Value}(h:S12 a v0 v1 v6 v8 v9 v10):∃f:Nat->Value,f 0=v0/\f 1=v1/\f 6=v6/\f 8=v8/\f 9=v9/\f 10=v10/\a={ tmps:=row215 f,defers:=[] }:=by
 obtain ⟨t,d⟩:=a
 have e:=t215 t h.size
 have e2:d=[]:=h.defers
 refine ⟨sl t,h.e0,h.e1,h.e6,h.e8,h.e9,h.e10,?_⟩
 rw [e2]
 exact congrArg (fun x=>Act.mk x []) e
structure X12 (a:Act)(v0 v1 v6 v8 v9 v10 v11 v180:Value):Prop where
 size:a.tmps.size=215
 defers:a.defers=[]
 e0:sl a.tmps 0=v0
 e1:sl a.tmps 1=v1
 e6:sl a.tmps 6=v6
 e8:sl a.tmps 8=v8
 e9:sl a.tmps 9=v9
 e10:sl a.tmps 10=v10
 e11:sl a.tmps 11=v11
 e180:sl a.tmps 180=v180
theorem X12.eq {a:Act}{v0 v1 v6 v8 v9 v10 v11 v180:Value}(h:X12 a v0 v1 v6 v8 v9 v10 v11 v180):∃f:Nat->Value,f 0=v0/\f 1=v1/\f 6=v6/\f 8=v8/\f 9=v9/\f 10=v10/\f 11=v11/\f 180=v180/\a={ tmps:=row215 f,defers:=[] }:=by
 obtain ⟨t,d⟩:=a
 have e:=t215 t h.size
 have e2:d=[]:=h.defers
 refine ⟨sl t,h.e0,h.e1,h.e6,h.e8,h.e9,h.e10,h.e11,h.e180,?_⟩
 rw [e2]
 exact congrArg (fun x=>Act.mk x []) e
structure D12 (w A0 A:World)(k:Nat)(c:PCfg)(v:Value)(s:CS)(vl:Value)(l:List PMsg):Prop where
 dm:Dm w A k c v s
 ms:MsgsOwn A A0.heap.size vl l
 kp:KeepD A0 A
 lo:A0.heap.size<=A.heap.size
 k0:k<A0.heap.size
theorem D12.grown {A0:World}{vl:Value}{l:List PMsg}(h:D12 w A0 A k c v s vl l)(hg:A.grownBy A' none):D12 w A0 A' k c v s vl l :=
 ⟨h.dm.grown hg,h.ms.grown hg,keepD_trans h.kp (keepD_grown hg),Nat.le_trans h.lo hg.size,h.k0⟩
theorem dcs_tm {r:Dr}(hok:Okc s)(h:r ∈ s.dcs):0<=r.tm/\r.tm<=s.now:=by
 rcases dcs_mem h with ⟨k,c,h1,h2,rfl⟩ | ⟨c,_,rfl⟩
 ·have:=hok.call c (.inl (List.mem_iff_getElem?.2 ⟨k,h2⟩))
  exact ⟨this.2.2.1,this.2.2.2.1⟩
 ·have:=hok.now
  simp [waitD]
  omega
theorem due_cases (was:Bool)(tm now:Int)(tmo:Nat):(was=false/\due was tm now tmo=true)\/(was=true/\(tmo:Int)<=now-tm/\due was tm now tmo=true)\/(was=true/\¬(tmo:Int)<=now-tm/\due was tm now tmo=false):=by
 cases was
 ·exact .inl ⟨rfl,by simp [due]⟩
 ·by_cases h:(tmo:Int)<=now-tm
  ·exact .inr (.inl ⟨rfl,h,by simp [due];omega⟩)
  ·exact .inr (.inr ⟨rfl,h,by simp [due];omega⟩)
theorem fore12 (a:Act)(w A0 A:World)(k:Nat)(c:PCfg)(v:Value)(s:CS)(vl:Value)(l:List PMsg)(mk n:Int)(i:Nat)(hS:S12 a (.pointer (some ⟨k,0,none⟩)) (.int .i64 s.now) vl (.int .i64 mk) (.int .i64 n) (.int .i64 (i:Nat)))(h:D12 w A0 A k c v s vl l)(hi:i<s.dcs.length)(hok:Okc s)
  (REST:Code) (Q:Exit->Act->World->Prop) (hk:∀a' A' xb y1 y2 y3,X12 a' (.pointer (some ⟨k,0,none⟩)) (.int .i64 s.now) vl (.int .i64 mk) (.int .i64 n) (.int .i64 (i:Nat)) (.pointer (some ⟨xb,0,none⟩)) (.bool (decide (s.dcs[i].num=n) && due s.dcs[i].was s.dcs[i].tm s.now s.tmo))->D12 w A0 A' k c v s vl l->A.heap.size<=xb->(∃C,Blk A' xb 93 C/\C[4]? = some (.slice y1 y2 y3))->OpsOwn A' 0 (.slice y1 y2 y3) s.dcs[i].ops->REST.wp Tryz.prog Q a' A') :
  (Code.seq (cL bdI12) (.seq (cL (cR bdI12)) REST)).wp Tryz.prog Q a A:=by
 have HD:Hid (D12 w A0 A k c v s vl l):=h
 have HK:Hid (∀a' A' xb y1 y2 y3,X12 a' (.pointer (some ⟨k,0,none⟩)) (.int .i64 s.now) vl (.int .i64 mk) (.int .i64 n) (.int .i64 (i:Nat)) (.pointer (some ⟨xb,0,none⟩)) (.bool (decide (s.dcs[i].num=n) && due s.dcs[i].was s.dcs[i].tm s.now s.tmo))->D12 w A0 A' k c v s vl l->A.heap.size<=xb->(∃C,Blk A' xb 93 C/\C[4]? = some (.slice y1 y2 y3))->OpsOwn A' 0 (.slice y1 y2 y3) s.dcs[i].ops->REST.wp Tryz.prog Q a' A'):=hk
 obtain ⟨t,sl0,sl1,sl6,sl8,sl9,sl10,rfl⟩:=hS.eq
 unfold row215
 rw [sl0,sl1,sl6,sl8,sl9,sl10]
 clear sl0 sl1 sl6 sl8 sl9 sl10
 obtain ⟨g,cap,y1,y2,y3,rfl,q0,q1,q2,q3,q4,q5⟩:=drow_at h.dm.row i hi
 have ht:=dcs_tm hok (List.getElem_mem hi)
 obtain ⟨⟨xi,xn,xt,xw,xo⟩,hx⟩:∃x,s.dcs[i]=x:=⟨_,rfl⟩
 obtain ⟨N,hN⟩:∃N,s.dcs.length=N:=⟨_,rfl⟩
 rw [hx] at q0 q1 q2 q3 q5 ht HK
 dsimp only at q0 q1 q2 q3 q5 ht HK
 have c10:A.cell? ⟨k,10,none⟩=some (.slice (some ⟨g,0,none⟩) N cap):=by rw [<-hN];exact h.dm.blk.cell 10
 have j1:(i:Int)<(N:Int):=by omega
 have j2:(0:Int)<=(i:Int):=by omega
 have d1:IntKind.i64.wrap (s.now-xt)=s.now-xt:=by have:=hok.now;rw [IntKind.wrap_i64];omega
 have HO:Hid (OpsOwn A 0 (.slice y1 y2 y3) xo):=q5
 clear hS h hi hok hk hx hN q5 ht
 unfold bdI12 in12 bdO12 out12 b12
 dsimp only [Tryz.f12,Option.getD,cL,cR,cB,cW]
 go_upto_region 27 with fail
 obtain ⟨w1,hw1,H1⟩:=al1 A #[.int .i64 xi,.int .i64 xn,.int .i64 xt,.bool xw,.slice y1 y2 y3] 93
 obtain ⟨xb,hxb⟩:∃x,A.heap.size=x:=⟨_,rfl⟩
 rw [hw1]
 rw [hxb] at H1 ⊢
 have HXB:Hid (A.heap.size=xb):=hxb
 clear hw1 hxb q0 q1 q2 q3 q4 c10 j1 j2
 have HC:Hid (∀y,w1.grownBy y none->y.cell? ⟨xb,1,none⟩=some (.int .i64 xn)/\y.cell? ⟨xb,2,none⟩=some (.int .i64 xt)/\y.cell? ⟨xb,3,none⟩=some (.bool xw)/\y.cell? ⟨k,6,none⟩=some (.int .i64 s.tmo)):=fun y hy=>⟨(H1.out.1.grown hy (by simp)).cell 1,(H1.out.1.grown hy (by simp)).cell 2,(H1.out.1.grown hy (by simp)).cell 3,((HD.out.dm.grown H1.out.2.1).grown hy).blk.cell 6⟩
 refine wp_region_noPanic ?_
 refine wp_region_hold 1000 (fun y=>w1.grownBy y none) (by kernel_rfl) ?_
 have G2:Hid (w1.grownBy w1.drew none):=grown_drew _ _
 generalize w1.drew=w2 at G2 ⊢
 have HE:Hid (D12 w A0 w2 k c (.slice (some ⟨g,0,none⟩) s.dcs.length cap) s vl l/\A.heap.size<=xb/\(∃C,Blk w2 xb 93 C/\C[4]? = some (.slice y1 y2 y3))/\OpsOwn w2 0 (.slice y1 y2 y3) xo) :=
  ⟨HD.out.grown (grown_trans H1.out.2.1 G2.out),Nat.le_of_eq HXB.out,⟨_,H1.out.1.grown G2.out (by simp),rfl⟩,HO.out.grown (grown_trans H1.out.2.1 G2.out)⟩
 rw [HXB.out] at HE HK
 by_cases h1:xn=n
 ·subst h1
  rcases due_cases xw xt s.now s.tmo with ⟨rfl,h2⟩ | ⟨rfl,h3,h2⟩ | ⟨rfl,h3,h2⟩
  ·have hb:(decide (xn=xn) && due false xt s.now s.tmo)=true:=by rw [h2];simp
   clear h2
   rw [hb] at HK
   clear hb
   have J:Idx [0,1,2,3,4,5,6,7,8]:=trivial
   iterate 9 (refine tK J (G2.out) rfl rfl (fun wk hk=>by obtain ⟨k1,k2,k3,k6⟩:=HC.out wk hk;go_simp;try rfl) ?_;replace J:=J.tl;try simp only [pN])
   clear J
   have J:Idx [9,10,11,12,13,14,15,16,17,18]:=trivial
   iterate 10 (refine sk J (G2.out) rfl rfl ?_;replace J:=J.tl;try simp only [pN])
   clear J
   have J:Idx [19,20]:=trivial
   iterate 2 (refine tK J (G2.out) rfl rfl (fun wk hk=>by obtain ⟨k1,k2,k3,k6⟩:=HC.out wk hk;go_simp;try rfl) ?_;replace J:=J.tl;try simp only [pN])
   clear J
   refine wpHold_done (by kernel_rfl) ?_
   refine (‹∀(a:Act) (w:World),Code.wp Tryz.prog _ _ a w->_› _ _ ?_)
   exact HK.out _ w2 xb y1 y2 y3 ⟨rfl,rfl,rfl,rfl,rfl,rfl,rfl,rfl,rfl,by first | rfl | (simp [sl, *];done)⟩ HE.out.1 HE.out.2.1 HE.out.2.2.1 HE.out.2.2.2
  ·have hb:(decide (xn=xn) && due true xt s.now s.tmo)=true:=by rw [h2];simp
   clear h2
   rw [hb] at HK
   clear hb
   have J:Idx [0,1,2,3,4,5,6,7,8,9,10,11,12,13,14,15,16,17,18,19,20]:=trivial
   iterate 21 (refine tK J (G2.out) rfl rfl (fun wk hk=>by obtain ⟨k1,k2,k3,k6⟩:=HC.out wk hk;go_simp;try rfl) ?_;replace J:=J.tl;try simp only [pN])
   clear J
   refine wpHold_done (by kernel_rfl) ?_
   refine (‹∀(a:Act) (w:World),Code.wp Tryz.prog _ _ a w->_› _ _ ?_)
   exact HK.out _ w2 xb y1 y2 y3 ⟨rfl,rfl,rfl,rfl,rfl,rfl,rfl,rfl,rfl,by first | rfl | (simp [sl, *];done)⟩ HE.out.1 HE.out.2.1 HE.out.2.2.1 HE.out.2.2.2
  ·have hb:(decide (xn=xn) && due true xt s.now s.tmo)=false:=by rw [h2];simp
   clear h2
   rw [hb] at HK
   clear hb
   have J:Idx [0,1,2,3,4,5,6,7,8,9,10,11,12,13,14,15,16,17,18,19,20]:=trivial
   iterate 21 (refine tK J (G2.out) rfl rfl (fun wk hk=>by obtain ⟨k1,k2,k3,k6⟩:=HC.out wk hk;go_simp;try rfl) ?_;replace J:=J.tl;try simp only [pN])
   clear J
   refine wpHold_done (by kernel_rfl) ?_
   refine (‹∀(a:Act) (w:World),Code.wp Tryz.prog _ _ a w->_› _ _ ?_)
   exact HK.out _ w2 xb y1 y2 y3 ⟨rfl,rfl,rfl,rfl,rfl,rfl,rfl,rfl,rfl,by first | rfl | (simp [sl, *];done)⟩ HE.out.1 HE.out.2.1 HE.out.2.2.1 HE.out.2.2.2
 ·have f1:(xn==n)=false:=by rw [beq_eq_false_iff_ne];exact h1
  have hb:(decide (xn=n) && due xw xt s.now s.tmo)=false:=by rw [decide_eq_false h1];rfl
  clear h1
  rw [hb] at HK
  clear hb
  have J:Idx [0,1,2,3,4]:=trivial
  iterate 5 (refine tK J (G2.out) rfl rfl (fun wk hk=>by obtain ⟨k1,k2,k3,k6⟩:=HC.out wk hk;go_simp;try rfl) ?_;replace J:=J.tl;try simp only [pN])
  clear J
  have J:Idx [5,6,7,8,9,10,11,12,13,14,15,16,17,18,19]:=trivial
  iterate 15 (refine sk J (G2.out) rfl rfl ?_;replace J:=J.tl;try simp only [pN])
  clear J
  have J:Idx [20]:=trivial
  iterate 1 (refine tK J (G2.out) rfl rfl (fun wk hk=>by obtain ⟨k1,k2,k3,k6⟩:=HC.out wk hk;go_simp;try rfl) ?_;replace J:=J.tl;try simp only [pN])
  clear J
  refine wpHold_done (by kernel_rfl) ?_
  refine (‹∀(a:Act) (w:World),Code.wp Tryz.prog _ _ a w->_› _ _ ?_)
  exact HK.out _ w2 xb y1 y2 y3 ⟨rfl,rfl,rfl,rfl,rfl,rfl,rfl,rfl,rfl,by first | rfl | (simp [sl, *];done)⟩ HE.out.1 HE.out.2.1 HE.out.2.2.1 HE.out.2.2.2
def askMs (s:CS)(n mk:Int)(ops:List POp):PMsg:=⟨1,s.num,⟨2,0,s.ses,n,mk,ops⟩,zeroR⟩
theorem send12 (a:Act)(w A0 A:World)(k:Nat)(c:PCfg)(v:Value)(s s':CS)(vl:Value)(l:List PMsg)(mk n:Int)(i xb:Nat)(y1:Option Addr)(y2 y3:Nat)(id num tm:Int)(was:Bool)(ops:List POp)
  (hX:X12 a (.pointer (some ⟨k,0,none⟩)) (.int .i64 s.now) vl (.int .i64 mk) (.int .i64 n) (.int .i64 (i:Nat)) (.pointer (some ⟨xb,0,none⟩)) (.bool true)) (h:D12 w A0 A k c v s vl l) (hi:i<s.dcs.length)
  (hb:∃C,Blk A xb 93 C/\C[4]? = some (.slice y1 y2 y3)) (hne:v.ownBlock≠some xb) (ho:OpsOwn A 0 (.slice y1 y2 y3) ops) (hfit:Fit ops) (hl:l.length<=1000000000000)
  (hx:s.dcs[i]=⟨id,num,tm,was,ops⟩) (hs:s'.dcs=s.dcs.set i ⟨id,num,s.now,true,ops⟩) (hc:∀v,docC s' c v=docC s c v) :
  rs12.wp Tryz.prog (At4 fun a' A'=>∃vl',S12 a' (.pointer (some ⟨k,0,none⟩)) (.int .i64 s.now) vl' (.int .i64 mk) (.int .i64 n) (.int .i64 (i:Nat))/\D12 w A0 A' k c v s' vl' (l ++ [askMs s n mk ops])) a A:=by
 obtain ⟨t,sl0,sl1,sl6,sl8,sl9,sl10,sl11,sl180,rfl⟩:=hX.eq
 unfold row215
 rw [sl0,sl1,sl6,sl8,sl9,sl10,sl11,sl180]
 clear sl0 sl1 sl6 sl8 sl9 sl10 sl11 sl180
 obtain ⟨g,cap,z1,z2,z3,rfl,q0,q1,q2,q3,q4,q5⟩:=drow_at h.dm.row i hi
 obtain ⟨C,hC,hC4⟩:=hb
 obtain ⟨vo,vn,vc,rfl,hvn⟩:=h.ms.slice
 have HD:Hid (D12 w A0 A k c (.slice (some ⟨g,0,none⟩) s.dcs.length cap) s (.slice vo vn vc) l/\Blk A xb 93 C/\C[4]? = some (.slice y1 y2 y3)/\g≠xb/\OpsOwn A 0 (.slice y1 y2 y3) ops/\Fit ops/\l.length<=1000000000000):=⟨h,hC,hC4,by simpa [Value.ownBlock] using hne,ho,hfit,hl⟩
 have HS:Hid (s'.dcs=s.dcs.set i ⟨id,num,s.now,true,ops⟩/\∀v,docC s' c v=docC s c v):=⟨hs,hc⟩
 have HI:Hid (i<s.dcs.length):=hi
 have HX:Hid ((s.dcs[i]'(HI.out))=⟨id,num,tm,was,ops⟩):=hx
 obtain ⟨N,hN⟩:∃N,s.dcs.length=N:=⟨_,rfl⟩
 have HN:Hid (s.dcs.length=N):=hN
 have HVN:Hid (vn=l.length):=hvn
 have c10:A.cell? ⟨k,10,none⟩=some (.slice (some ⟨g,0,none⟩) N cap):=by rw [<-hN];exact h.dm.blk.cell 10
 have j1:(i:Int)<(N:Int):=by omega
 have j2:(0:Int)<=(i:Int):=by omega
 have f3:=drow_free h.dm.row (i*5+3)
 rw [hx] at q3
 clear hX h hs hc hi hx hN hC hC4 hne ho hfit hl hvn q0 q1 q2 q4 q5
 unfold rs12 bdI12 in12 bdO12 out12 b12
 dsimp only [Tryz.f12,Option.getD,cL,cR,cB,cW]
 go_upto_region 29 with fail
 have H1:Hid (DRow (A.setCell ⟨g,i*5+3,none⟩ (.bool true)) w.heap.size (.slice (some ⟨g,0,none⟩) N cap) (s.dcs.set i ⟨id,num,tm,true,ops⟩)/\A.grownBy (A.setCell ⟨g,i*5+3,none⟩ (.bool true)) (some g)):=by
  have hr:=HD.out.1.dm.row
  rw [HN.out] at hr
  exact lrow_cell hr drR_stab (by decide) i HI.out 3 (by decide) (.bool true) _ fun x w' hx=>by
   obtain ⟨ov,rfl,h⟩:=hx
   have e:=HX.out
   exact ⟨ov,by simp [e],by simpa [e] using h⟩
 generalize A.setCell ⟨g,i*5+3,none⟩ (.bool true)=w1 at H1 ⊢
 have hb1:Blk w1 k 51 _:=HD.out.1.dm.blk.grown H1.out.2 (fun e=>by
  have e':g=k:=by simpa using e
  obtain ⟨C',hC'⟩:=(HD.out.1.dm.row.blk g rfl).2
  rw [e'] at hC'
  exact absurd (blk_type HD.out.1.dm.blk hC') (by decide))
 clear c10 q3 f3
 have c10:w1.cell? ⟨k,10,none⟩=some (.slice (some ⟨g,0,none⟩) N cap):=by rw [<-HN.out];exact hb1.cell 10
 clear hb1
 obtain ⟨g',cap',u1,u2,u3,e,p0,p1,p2,p3,p4,p5⟩:=drow_at H1.out.1 i (by rw [List.length_set];exact HI.out)
 simp at e
 obtain ⟨rfl,_,rfl⟩:=e
 have f2:=drow_free H1.out.1 (i*5+2)
 clear p0 p1 p3 p4 p5
 go_upto_region 30 with fail
 have H2:Hid (DRow (w1.setCell ⟨g,i*5+2,none⟩ (.int .i64 s.now)) w.heap.size (.slice (some ⟨g,0,none⟩) N cap) (s.dcs.set i ⟨id,num,s.now,true,ops⟩)/\A.grownBy (w1.setCell ⟨g,i*5+2,none⟩ (.int .i64 s.now)) (some g)):=by
  have hr:=H1.out.1
  obtain ⟨r1,r2⟩:=lrow_cell hr drR_stab (by decide) i (by rw [List.length_set];exact HI.out) 2 (by decide) (.int .i64 s.now) ⟨id,num,s.now,true,ops⟩ fun x w' hx=>by
   obtain ⟨ov,rfl,h⟩:=hx
   rw [List.getElem_set_self] at h ⊢
   exact ⟨ov,rfl,h⟩
  rw [List.set_set] at r1
  exact ⟨r1,grown_trans H1.out.2 r2⟩
 generalize w1.setCell ⟨g,i*5+2,none⟩ (.int .i64 s.now)=w2 at H2 ⊢
 clear c10 p2 f2 j1 j2
 have HG:Hid (∃C',Blk A g 93 C'):=(HD.out.1.dm.row.blk g rfl).2
 have H3:Hid (D12 w A0 w2 k c (.slice (some ⟨g,0,none⟩) s.dcs.length cap) s' (.slice vo vn vc) l/\Blk w2 xb 93 C/\OpsOwn w2 0 (.slice y1 y2 y3) ops):=by
  obtain ⟨C',hC'⟩:=HG.out
  obtain ⟨⟨b1,b2,b3,b4⟩,hm,hk,hlo,hk0⟩:=HD.out.1
  have hgw:w.heap.size<=g:=((LRow.lt b2) g rfl).1
  refine ⟨⟨⟨?_,?_,b3,grown_new b4 H2.out.2 (by intro x hx;simp at hx;omega)⟩,hm.set hC' (by decide) (by decide) (by decide) H2.out.2,keepD_trans hk (keepD_own hC' (.inr rfl) H2.out.2),Nat.le_trans hlo H2.out.2.size,hk0⟩,HD.out.2.1.grown H2.out.2 (by have:=HD.out.2.2.2.1;simpa using fun e=>this e),HD.out.2.2.2.2.1.set hC' (by decide) (by decide) H2.out.2⟩
  ·rw [HS.out.2]
   exact b1.grown H2.out.2 (fun e=>by
    simp at e
    subst e
    exact absurd (blk_type b1 hC') (by decide))
  ·rw [HS.out.1,HN.out]
   exact H2.out.1
 have HRD:Hid (∀y,w2.grownBy y (Value.slice vo vn vc).ownBlock->y.cell? ⟨k,0,none⟩=some (.int .i64 s.num)/\y.cell? ⟨k,11,none⟩=some (.int .i64 s.ses)/\y.cell? ⟨xb,4,none⟩=some (.slice y1 y2 y3)):=by
  intro y hy
  have ne:∀{t:Nat} {C:Array Value} {x:Nat},Blk w2 x t C->t≠45->(Value.slice vo vn vc).ownBlock≠some x:=fun hx ht e=>by
   obtain ⟨⟨vs,h1,_⟩,_⟩:=H3.out.1.ms
   obtain ⟨C,hC⟩:=owns_blk h1 e
   exact ht (blk_type hx hC)
  have hb:=H3.out.1.dm.blk
  rw [HS.out.2] at hb
  refine ⟨(hb.grown hy (ne hb (by decide))).cell 0,(hb.grown hy (ne hb (by decide))).cell 11,?_⟩
  rw [(H3.out.2.1.grown hy (ne H3.out.2.1 (by decide))).cell]
  exact HD.out.2.2.1
 refine wp_region_hold 1000 (fun y=>w2.grownBy y (Value.slice vo vn vc).ownBlock) (by kernel_rfl) ?_
 have G2:Hid (w2.grownBy w2.drew none):=grown_drew _ _
 generalize w2.drew=wd at G2 ⊢
 have J:Idx [0,1,2,3,4,5,6,7,8,9,10,11,12]:=trivial
 iterate 13 (refine tK J ((grown_mono G2.out)) rfl rfl (fun wk hk=>by obtain ⟨k0,k11,k4⟩:=HRD.out wk hk;go_simp;try rfl) ?_;replace J:=J.tl;try simp only [pN])
 clear J
 refine wpHold_one (i:=13) rfl (by kernel_rfl) (by rfl) (fun K hK=>?_)
 go_wp2_with fail
 refine (copy11 (.slice y1 y2 y3) ops wd (H3.out.2.2.grown G2.out).ops HD.out.2.2.2.2.2.1).mono ?_
 rintro e w5 ⟨u,rfl,hu,hg⟩
 obtain ⟨uo,un,uc,rfl⟩:=isSl_ow hu
 have H5:Hid (w2.grownBy w5 none/\OpsOwn w5 A0.heap.size (.slice uo un uc) ops):=⟨grown_trans G2.out hg,hu.mono (Nat.le_trans H3.out.1.lo G2.out.size)⟩
 clear hu hg
 go_wp2_with fail
 refine hK.out _ _ (fun _=>grown_mono H5.out.1) ?_
 clear hK K
 try simp only [pN]
 have J:Idx [14,15]:=trivial
 iterate 2 (refine tK J ((grown_mono H5.out.1)) rfl rfl (fun wk hk=>by obtain ⟨k0,k11,k4⟩:=HRD.out wk hk;go_simp;try rfl) ?_;replace J:=J.tl;try simp only [pN])
 clear J
 refine wpHold_one (i:=16) rfl (by kernel_rfl) (by rfl) (fun K hK=>?_)
 obtain ⟨w8,hw8,H8'⟩:=al1 w5 #[.int .i64 1,.int .i64 s.num,.int .i64 2,.int .i64 0,.int .i64 s.ses,.int .i64 n,.int .i64 mk,.slice uo un uc,.int .i64 0,.int .i64 0,.int .i64 0,.int .i64 0,.slice none 0 0] 45
 obtain ⟨p8,hp8⟩:∃x,w5.heap.size=x:=⟨_,rfl⟩
 rw [hp8] at H8'
 have HW8:Hid (w5.alloc (.cells #[.int .i64 1,.int .i64 s.num,.int .i64 2,.int .i64 0,.int .i64 s.ses,.int .i64 n,.int .i64 mk,.slice uo un uc,.int .i64 0,.int .i64 0,.int .i64 0,.int .i64 0,.slice none 0 0] 45)=w8/\w5.heap.size=p8):=⟨hw8,hp8⟩
 clear hw8 hp8
 go_wp2_with fail
 rw [HW8.out.1,HW8.out.2]
 have H8:Hid (MB w8 p8 (.slice uo un uc) (.slice none 0 0) (askMs s n mk ops)/\w2.grownBy w8 none/\OpsOwn w8 A0.heap.size (.slice uo un uc) ops):=⟨H8'.out.1,grown_trans H5.out.1 H8'.out.2.1,H5.out.2.grown H8'.out.2.1⟩
 clear HW8 H8'
 refine hK.out _ _ (fun _=>grown_mono H8.out.2.1) ?_
 clear hK K
 try simp only [pN]
 refine wpHold_one (i:=17) rfl (by kernel_rfl) (by rfl) (fun K hK=>?_)
 refine app34_wp w8 _ _ rfl A0.heap.size (.slice vo vn vc) l (askMs s n mk ops) p8 _ _ rfl rfl (H3.out.1.ms.grown H8.out.2.1) H8.out.1 H8.out.2.2 (Own.nil _ _) (by have:=HD.out.2.2.2.2.2.2;omega) (Nat.le_trans H3.out.1.lo H8.out.2.1.size) ?_
 intro g' cap' w10 hr hg hgg
 have H10:Hid (MsgsOwn w10 A0.heap.size (.slice (some ⟨g',0,none⟩) (l.length+1) cap') (l ++ [askMs s n mk ops])/\w2.grownBy w10 (Value.slice vo vn vc).ownBlock):=⟨hr,grown_trans (grown_mono H8.out.2.1) hg⟩
 clear hr hg hgg
 refine hK.out _ _ (fun _=>H10.out.2) ?_
 clear hK K
 try simp only [pN]
 have J:Idx [18]:=trivial
 iterate 1 (refine tK J (H10.out.2) rfl rfl (fun wk hk=>by obtain ⟨k0,k11,k4⟩:=HRD.out wk hk;go_simp;try rfl) ?_;replace J:=J.tl;try simp only [pN])
 clear J
 refine wpHold_done (by kernel_rfl) ?_
 refine ⟨_,⟨rfl,rfl,rfl,rfl,rfl,rfl,rfl,rfl⟩,?_⟩
 obtain ⟨⟨b1,b2,b3,b4⟩,hm,hk,hlo,hk0⟩:=H3.out.1
 have hbl:∀q,(Value.slice vo vn vc).ownBlock=some q->A0.heap.size<=q/\∃C,Blk w2 q 45 C:=fun q hq=>by
  obtain ⟨⟨vs,h1,_⟩,_⟩:=hm
  exact ⟨(World.ownsRow.lt h1 q hq).1,owns_blk h1 hq⟩
 have hf:Fr w2 w10 (fun i=>(Value.slice vo vn vc).ownBlock=some i):=Fr.of H10.out.2 fun k hk=>hk
 have hw:w.grownBy w10 none:=by
  cases e:(Value.slice vo vn vc).ownBlock with
  | none=>have h:=H10.out.2;rw [e] at h;exact grown_trans b4 h
  | some q =>
   have h:=H10.out.2
   rw [e] at h
   obtain ⟨q1,_⟩:=hbl q e
   exact grown_new b4 h (by intro x hx;simp at hx;have:=b3;omega)
 have hD:Dm w w10 k c (.slice (some ⟨g,0,none⟩) s.dcs.length cap) s':=Dm.beside ⟨b1,b2,b3,b4⟩ hf (fun i hi=>by
  obtain ⟨_,C,hC⟩:=hbl i hi
  exact ⟨45,C,hC,by decide,by decide⟩) (fun i hi=>by
  obtain ⟨_,C,hC⟩:=hbl i hi
  exact ⟨45,C,hC,by unfold DT;omega⟩) hw
 refine ⟨hD,H10.out.1,?_,Nat.le_trans hlo H10.out.2.size,hk0⟩
 exact Fr.trans hk (hf.mono fun i hi=>hi) fun i hi=>.inr (by
  have h1:(Value.slice vo vn vc).ownBlock=some i:=hi
  obtain ⟨q1,_⟩:=hbl i h1
  exact q1)
variable {s:CS} {w A A':World} {k:Nat} {c:PCfg} {v:Value}
def Far12 (s:CS)(m i t:Nat):Prop:=(t=m/\∀(i':Nat) (h:i'<s.dcs.length),i'<i->s.dcs[i'].num≠((m+1:Nat):Int))\/(t=m+1/\∃(i':Nat) (h:i'<s.dcs.length),i'<i/\s.dcs[i'].num=((m+1:Nat):Int))
def In12 (w A0:World)(k:Nat)(c:PCfg)(v:Value)(s:CS)(m i j:Nat)(a:Act)(A:World):Prop :=
 ∃t vl,S12 a (.pointer (some ⟨k,0,none⟩)) (.int .i64 s.now) vl (.int .i64 (lead s.L:Nat)) (.int .i64 ((m+1:Nat):Int)) (.int .i64 (i:Nat))/\D12 w A0 A k c v (s.upto t) vl (gather (sendG s) s.L t)/\Far12 s m j t/\t<=s.L.length
theorem upto_docC (s:CS)(t:Nat)(c:PCfg)(v:Value):docC (s.upto t) c v=docC s c v:=by
 have:=upto_len s t
 unfold docC
 rw [this]
 rfl
theorem upto_dlen (s:CS)(t:Nat):(s.upto t).dcs.length=s.dcs.length:=by rw [upto_dcs,List.length_map]
theorem upto_num (s:CS)(t i:Nat)(h:i<(s.upto t).dcs.length):(s.upto t).dcs[i].num=(s.dcs[i]'(by rw [upto_dlen] at h;exact h)).num:=by
 simp only [upto_dcs,List.getElem_map]
 exact stampD_num _ _ _ _
theorem gsend_len (s:CS)(t:Nat):(gather (sendG s) s.L t).length<=t:=gather_len (fun k c=>by unfold sendG;split <;> simp) t
theorem body12 (a:Act)(w A0 A:World)(k:Nat)(c:PCfg)(v:Value)(s:CS)(m i:Nat)(hok:Okc s)(h1:1<=s.ses)(hm:m<s.L.length)(hi:i<s.dcs.length)(h:In12 w A0 k c v s m i i a A) :
  bdI12.wp Tryz.prog (At4 (In12 w A0 k c v s m i (i+1))) a A:=by
 obtain ⟨t,vl,hS,hD,hF,htl⟩:=h
 have hokt:=hok.upto t h1
 have hit:i<(s.upto t).dcs.length:=by rw [upto_dlen];exact hi
 have hlen:=hok.last
 rw [bdI12_eq]
 have stay:∀t',s.upto t'=s.upto t->gather (sendG s) s.L t'=gather (sendG s) s.L t->Far12 s m (i+1) t'->t'<=s.L.length->∀a' A' xb,X12 a' (.pointer (some ⟨k,0,none⟩)) (.int .i64 s.now) vl (.int .i64 (lead s.L:Nat)) (.int .i64 ((m+1:Nat):Int)) (.int .i64 (i:Nat)) (.pointer (some ⟨xb,0,none⟩)) (.bool false)->D12 w A0 A' k c v (s.upto t) vl (gather (sendG s) s.L t)->rs12.wp Tryz.prog (At4 (In12 w A0 k c v s m i (i+1))) a' A':=by
  intro t' e1 e2 e3 e4 a' A' xb hX hD'
  have HD:Hid (D12 w A0 A' k c v (s.upto t') vl (gather (sendG s) s.L t')/\Far12 s m (i+1) t'/\t'<=s.L.length):=⟨by rw [e1,e2];exact hD',e3,e4⟩
  obtain ⟨q,sl0,sl1,sl6,sl8,sl9,sl10,sl11,sl180,rfl⟩:=hX.eq
  unfold row215
  rw [sl0,sl1,sl6,sl8,sl9,sl10,sl11,sl180]
  clear sl0 sl1 sl6 sl8 sl9 sl10 sl11 sl180
  clear hX hD' hS hD hF hokt hit e1 e2 e3 e4 hok h1 hm hi hlen htl
  unfold rs12 bdI12 in12 bdO12 out12 b12
  dsimp only [Tryz.f12,Option.getD,cL,cR,cB,cW]
  go_wp2_with fail
  exact ⟨t',vl,⟨rfl,rfl,rfl,rfl,rfl,rfl,rfl,rfl⟩,HD.out⟩
 by_cases hn:s.dcs[i].num=((m+1:Nat):Int)
 ·have htm:t=m:=by
   rcases hF with ⟨e,_⟩ | ⟨_,i',hi',hlt,e⟩
   ·exact e
   ·exfalso
    have hr:=dcs_rise s
    rw [List.pairwise_iff_getElem] at hr
    exact hr i' i hi' hi hlt (by rw [hn];omega) (by rw [e,hn])
  subst htm
  obtain ⟨cr,hi2,hL,hx,hg,hdue,hnot⟩:=upto_at hi hn
  have hfar:Far12 s t (i+1) (t+1):=.inr ⟨rfl,i,hi,by omega,hn⟩
  have hcr:=hok.call cr (.inl (List.mem_iff_getElem?.2 ⟨t,hL⟩))
  have hxo:(s.upto t).dcs[i].ops=cr.ops:=by rw [hx]
  have go:due cr.was cr.tm s.now s.tmo=true->∀a' A' xb y1 y2 y3,X12 a' (.pointer (some ⟨k,0,none⟩)) (.int .i64 (s.upto t).now) vl (.int .i64 (lead s.L:Nat)) (.int .i64 ((t+1:Nat):Int)) (.int .i64 (i:Nat)) (.pointer (some ⟨xb,0,none⟩)) (.bool true)->D12 w A0 A' k c v (s.upto t) vl (gather (sendG s) s.L t)->A.heap.size<=xb->(∃C,Blk A' xb 93 C/\C[4]? = some (.slice y1 y2 y3))->OpsOwn A' 0 (.slice y1 y2 y3) (s.upto t).dcs[i].ops->rs12.wp Tryz.prog (At4 (In12 w A0 k c v s t i (i+1))) a' A':=by
   intro hd a' A' xb y1 y2 y3 hX hD' hxb hC ho
   rw [hxo] at ho
   have hne:v.ownBlock≠some xb:=fun e=>by
    have:=(LRow.lt hD.dm.row xb e).2
    omega
   refine Code.wp_mono ?_ (send12 a' w A0 A' k c v (s.upto t) (s.upto (t+1)) vl _ _ _ i xb y1 y2 y3 cr.id ((t+1:Nat):Int) cr.tm cr.was cr.ops hX hD' hi2 hC hne ho (may_fit hcr.1) (by have:=gsend_len s t;omega) hx (hdue hd) (fun v=>by rw [upto_docC,upto_docC]))
   rintro e a2 A2 h2
   cases e with
   | normal =>
    obtain ⟨vl',hS2,hD2⟩:=h2
    refine ⟨t+1,vl',hS2,?_,hfar,hm⟩
    have e:gather (sendG s) s.L (t+1)=gather (sendG s) s.L t ++ [askMs (s.upto t) ((t+1:Nat):Int) (lead s.L:Nat) cr.ops]:=by
     rw [hg]
     unfold sendG
     rw [if_pos hd]
     rfl
    rw [e]
    exact hD2
   | _=>exact h2.elim
  refine fore12 a w A0 A k c v (s.upto t) vl _ _ _ i hS hD hit hokt rs12 _ ?_
  intro a' A' xb y1 y2 y3 hX hD' hxb hC ho
  cases hd:due cr.was cr.tm s.now s.tmo with
  | true =>
   have e:(decide ((s.upto t).dcs[i].num=((t+1:Nat):Int)) && due (s.upto t).dcs[i].was (s.upto t).dcs[i].tm (s.upto t).now (s.upto t).tmo)=true:=by
    rw [hx]
    show (decide _ && due cr.was cr.tm s.now s.tmo)=true
    rw [hd]
    simp
   rw [e] at hX
   exact go hd a' A' xb y1 y2 y3 hX hD' hxb hC ho
  | false =>
   have e:(decide ((s.upto t).dcs[i].num=((t+1:Nat):Int)) && due (s.upto t).dcs[i].was (s.upto t).dcs[i].tm (s.upto t).now (s.upto t).tmo)=false:=by
    rw [hx]
    show (decide _ && due cr.was cr.tm s.now s.tmo)=false
    rw [hd]
    simp
   rw [e] at hX
   exact stay (t+1) (hnot hd) (by rw [hg];unfold sendG;rw [if_neg (by rw [hd];decide)];simp) hfar hm a' A' xb hX hD'
 ·have hxn:(s.upto t).dcs[i].num≠((m+1:Nat):Int):=by rw [upto_num];exact hn
  have hfar:Far12 s m (i+1) t:=by
   rcases hF with ⟨e,h⟩ | ⟨e,i',hi',hlt,h⟩
   ·refine .inl ⟨e,fun i' hi' hlt=>?_⟩
    by_cases e2:i'=i
    ·subst e2
     exact hn
    ·exact h i' hi' (by omega)
   ·exact .inr ⟨e,i',hi',by omega,h⟩
  refine fore12 a w A0 A k c v (s.upto t) vl _ _ _ i hS hD hit hokt rs12 _ ?_
  intro a' A' xb y1 y2 y3 hX hD' _ _ _
  rw [decide_eq_false hxn,Bool.false_and] at hX
  exact stay t rfl rfl hfar htl a' A' xb hX hD'
def Head12 (w A0:World)(k:Nat)(c:PCfg)(v:Value)(s:CS)(m i:Nat):Exit->Act->World->Prop
 | .normal,a,W=>In12 w A0 k c v s m i i a W/\i<s.dcs.length
 | .exit q,a,W=>In12 w A0 k c v s m i i a W/\q=4/\s.dcs.length<=i
 | _,_,_=>False
theorem head12 (a:Act)(w A0 A:World)(k:Nat)(c:PCfg)(v:Value)(s:CS)(m i:Nat)(h:In12 w A0 k c v s m i i a A):(cL in12).wp Tryz.prog (Head12 w A0 k c v s m i) a A:=by
 obtain ⟨t,vl,hS,hD,hF,htl⟩:=h
 obtain ⟨ao,cap,rfl⟩:=hD.dm.sl
 obtain ⟨n,hn⟩:∃n,s.dcs.length=n:=⟨_,rfl⟩
 have e:(s.upto t).dcs.length=n:=by rw [upto_dlen];exact hn
 rw [e] at hD ⊢
 have HD:Hid (D12 w A0 A k c (.slice ao n cap) (s.upto t) vl (gather (sendG s) s.L t)/\Far12 s m i t/\t<=s.L.length/\s.dcs.length=n):=⟨hD,hF,htl,hn⟩
 have c10:A.cell? ⟨k,10,none⟩=some (.slice ao n cap):=hD.dm.blk.cell 10
 obtain ⟨q,sl0,sl1,sl6,sl8,sl9,sl10,rfl⟩:=hS.eq
 unfold row215
 rw [sl0,sl1,sl6,sl8,sl9,sl10]
 clear sl0 sl1 sl6 sl8 sl9 sl10
 clear hS hD hF htl hn e
 unfold in12 bdO12 out12 b12
 dsimp only [Tryz.f12,Option.getD,cL,cR,cB,cW]
 by_cases z1:i<n
 ·have j1:(i:Int)<(n:Int):=by omega
  go_wp2_with fail
  exact ⟨⟨t,vl,⟨rfl,rfl,rfl,rfl,rfl,rfl,rfl,rfl⟩,HD.out.1,HD.out.2.1,HD.out.2.2.1⟩,by rw [HD.out.2.2.2];exact z1⟩
 ·have j1:¬(i:Int)<(n:Int):=by omega
  go_wp2_with fail
  exact ⟨⟨t,vl,⟨rfl,rfl,rfl,rfl,rfl,rfl,rfl,rfl⟩,HD.out.1,HD.out.2.1,HD.out.2.2.1⟩,rfl,by rw [HD.out.2.2.2];omega⟩
theorem inc12 (a:Act)(w A0 A:World)(k:Nat)(c:PCfg)(v:Value)(s:CS)(m i:Nat)(hi:i<=2000000000000)(h:In12 w A0 k c v s m i (i+1) a A):(cR (cR in12)).wp Tryz.prog (At4 (In12 w A0 k c v s m (i+1) (i+1))) a A:=by
 obtain ⟨t,vl,hS,hD,hF,htl⟩:=h
 have HD:Hid (D12 w A0 A k c v (s.upto t) vl (gather (sendG s) s.L t)/\Far12 s m (i+1) t/\t<=s.L.length):=⟨hD,hF,htl⟩
 have wi:IntKind.i64.wrap ((i:Int)+1)=((i+1:Nat):Int):=by rw [IntKind.wrap_i64];push_cast;omega
 obtain ⟨q,sl0,sl1,sl6,sl8,sl9,sl10,rfl⟩:=hS.eq
 unfold row215
 rw [sl0,sl1,sl6,sl8,sl9,sl10]
 clear sl0 sl1 sl6 sl8 sl9 sl10
 clear hS hD hF htl hi
 unfold in12 bdO12 out12 b12
 dsimp only [Tryz.f12,Option.getD,cL,cR,cB,cW]
 go_wp2_with fail
 exact ⟨t,vl,⟨rfl,rfl,rfl,rfl,rfl,rfl,rfl,by first | rfl | (simp [sl];done)⟩,HD.out⟩
theorem loopI12 (a:Act)(w A0 A:World)(k:Nat)(c:PCfg)(v:Value)(s:CS)(m:Nat)(hok:Okc s)(h1:1<=s.ses)(hm:m<s.L.length)
  (Q:Exit->Act->World->Prop) (hQ:∀i a W,In12 w A0 k c v s m i i a W->s.dcs.length<=i->Q (.exit 4) a W) (h0:In12 w A0 k c v s m 0 0 a A) :
  (Code.loop in12).wp Tryz.prog Q a A:=by
 have hlen:s.dcs.length<=1000000000000:=by have:=dcs_len s;have:=hok.last;omega
 refine wp_loop (fun a W=>∃i,i<=s.dcs.length/\In12 w A0 k c v s m i i a W) (fun a _=>s.dcs.length-(intOf (sl a.tmps 10)).toNat) ⟨0,Nat.zero_le _,h0⟩ ?_
 rintro a A ⟨i,hi0,ht⟩
 have h10:sl a.tmps 10=.int .i64 (i:Nat):=by
  obtain ⟨_,_,hS,_⟩:=ht
  exact hS.e10
 rw [in12_eq]
 refine wp_seq (Code.wp_mono ?_ (head12 a w A0 A k c v s m i ht))
 rintro e a1 w1 h1'
 cases e with
 | normal =>
  obtain ⟨ht1,hi1⟩:=h1'
  refine wp_seq (wp_block (Code.wp_mono ?_ (body12 a1 w A0 w1 k c v s m i hok h1 hm hi1 ht1)))
  rintro e a2 w2 h2
  cases e with
  | normal =>
   refine Code.wp_mono ?_ (inc12 a2 w A0 w2 k c v s m i (by omega) h2)
   rintro e a3 w3 h3
   cases e with
   | normal =>
    refine ⟨⟨i+1,by omega,h3⟩,?_⟩
    have h10':sl a3.tmps 10=.int .i64 ((i+1:Nat):Int):=by
     obtain ⟨_,_,hS,_⟩:=h3
     exact hS.e10
    show s.dcs.length-(intOf (sl a3.tmps 10)).toNat<s.dcs.length-(intOf (sl a.tmps 10)).toNat
    rw [h10',h10]
    simp [intOf]
    omega
   | _=>exact h3.elim
  | _=>exact h2.elim
 | exit q =>
  obtain ⟨ht1,rfl,hle⟩:=h1'
  exact hQ _ _ _ ht1 hle
 | _=>exact h1'.elim
def Out12 (w A0:World)(k:Nat)(c:PCfg)(v:Value)(s:CS)(m t:Nat)(a:Act)(A:World):Prop :=
 ∃vl v10,S12 a (.pointer (some ⟨k,0,none⟩)) (.int .i64 s.now) vl (.int .i64 (lead s.L:Nat)) (.int .i64 ((m+1:Nat):Int)) v10/\D12 w A0 A k c v (s.upto t) vl (gather (sendG s) s.L t)/\t<=s.L.length
def HeadO12 (w A0:World)(k:Nat)(c:PCfg)(v:Value)(s:CS)(m:Nat):Exit->Act->World->Prop
 | .normal,a,W=>Out12 w A0 k c v s m m a W/\m<s.L.length
 | .exit q,a,W=>Out12 w A0 k c v s m m a W/\q=2/\s.L.length<=m
 | _,_,_=>False
theorem headO12 (a:Act)(w A0 A:World)(k:Nat)(c:PCfg)(v:Value)(s:CS)(m:Nat)(h:Out12 w A0 k c v s m m a A):(cL out12).wp Tryz.prog (HeadO12 w A0 k c v s m) a A:=by
 obtain ⟨vl,v10,hS,hD,htl⟩:=h
 obtain ⟨n,hn⟩:∃n,s.L.length=n:=⟨_,rfl⟩
 have HD:Hid (D12 w A0 A k c v (s.upto m) vl (gather (sendG s) s.L m)/\m<=s.L.length/\s.L.length=n):=⟨hD,htl,hn⟩
 have c16:A.cell? ⟨k,16,none⟩=some (.int .i64 (n:Nat)):=by
  have h:=hD.dm.blk
  rw [upto_docC] at h
  rw [<-hn]
  exact h.cell 16
 obtain ⟨q,sl0,sl1,sl6,sl8,sl9,sl10,rfl⟩:=hS.eq
 unfold row215
 rw [sl0,sl1,sl6,sl8,sl9,sl10]
 clear sl0 sl1 sl6 sl8 sl9 sl10
 have hm:m<=n:=by rw [<-hn];exact htl
 clear hS hD htl hn
 unfold out12 b12
 dsimp only [Tryz.f12,Option.getD,cL,cR,cB,cW]
 by_cases z1:m<n
 ·have j1:((m:Int)+1)<=(n:Int):=by omega
  have j2:(((m+1:Nat):Int))<=(n:Int):=by omega
  go_wp2_with fail
  exact ⟨⟨vl,v10,⟨rfl,rfl,rfl,rfl,rfl,rfl,rfl,rfl⟩,HD.out.1,HD.out.2.1⟩,by rw [HD.out.2.2];exact z1⟩
 ·have j1:¬((m:Int)+1)<=(n:Int):=by omega
  have j2:¬(((m+1:Nat):Int))<=(n:Int):=by omega
  go_wp2_with fail
  exact ⟨⟨vl,v10,⟨rfl,rfl,rfl,rfl,rfl,rfl,rfl,rfl⟩,HD.out.1,HD.out.2.1⟩,rfl,by rw [HD.out.2.2];omega⟩
theorem first12 (a:Act)(w A0 A:World)(k:Nat)(c:PCfg)(v:Value)(s:CS)(m:Nat)(h:Out12 w A0 k c v s m m a A):(cL bdO12).wp Tryz.prog (At4 (In12 w A0 k c v s m 0 0)) a A:=by
 obtain ⟨vl,v10,hS,hD,htl⟩:=h
 have HD:Hid (D12 w A0 A k c v (s.upto m) vl (gather (sendG s) s.L m)/\m<=s.L.length):=⟨hD,htl⟩
 obtain ⟨q,sl0,sl1,sl6,sl8,sl9,sl10,rfl⟩:=hS.eq
 unfold row215
 rw [sl0,sl1,sl6,sl8,sl9,sl10]
 clear sl0 sl1 sl6 sl8 sl9 sl10
 clear hS hD htl
 unfold bdO12 out12 b12
 dsimp only [Tryz.f12,Option.getD,cL,cR,cB,cW]
 go_wp2_with fail
 exact ⟨m,vl,⟨rfl,rfl,rfl,rfl,rfl,rfl,rfl,rfl⟩,HD.out.1,.inl ⟨rfl,fun i' _ h=>absurd h (by omega)⟩,HD.out.2⟩
theorem incO12 (a:Act)(w A0 A:World)(k:Nat)(c:PCfg)(v:Value)(s:CS)(m:Nat)(hm:m<=2000000000000)(h:Out12 w A0 k c v s m (m+1) a A):(cR (cR out12)).wp Tryz.prog (At4 (Out12 w A0 k c v s (m+1) (m+1))) a A:=by
 obtain ⟨vl,v10,hS,hD,htl⟩:=h
 have HD:Hid (D12 w A0 A k c v (s.upto (m+1)) vl (gather (sendG s) s.L (m+1))/\m+1<=s.L.length):=⟨hD,htl⟩
 have wi:IntKind.i64.wrap ((m:Int)+1+1)=((m+1+1:Nat):Int):=by rw [IntKind.wrap_i64];push_cast;omega
 have wi2:IntKind.i64.wrap (((m+1:Nat):Int)+1)=((m+1+1:Nat):Int):=by rw [IntKind.wrap_i64];push_cast;omega
 obtain ⟨q,sl0,sl1,sl6,sl8,sl9,sl10,rfl⟩:=hS.eq
 unfold row215
 rw [sl0,sl1,sl6,sl8,sl9,sl10]
 clear sl0 sl1 sl6 sl8 sl9 sl10
 clear hS hD htl hm
 unfold out12 b12
 dsimp only [Tryz.f12,Option.getD,cL,cR,cB,cW]
 go_wp2_with fail
 exact ⟨vl,v10,⟨rfl,rfl,rfl,rfl,rfl,rfl,by first | rfl | (simp [sl];done),rfl⟩,HD.out⟩
theorem one12 (a:Act)(w A0 A:World)(k:Nat)(c:PCfg)(v:Value)(s:CS)(m:Nat)(hok:Okc s)(h1:1<=s.ses)(hm:m<s.L.length)(h:Out12 w A0 k c v s m m a A):(Code.block 3 bdO12).wp Tryz.prog (At4 (Out12 w A0 k c v s m (m+1))) a A:=by
 refine wp_block ?_
 rw [bdO12_eq]
 refine wp_seq (Code.wp_mono ?_ (first12 a w A0 A k c v s m h))
 rintro e a1 w1 h1'
 cases e with
 | normal =>
  refine wp_block (loopI12 a1 w A0 w1 k c v s m hok h1 hm _ ?_ h1')
  rintro i a W ⟨t,vl,hS,hD,hF,htl⟩ hle
  refine ⟨vl,_,hS,?_,hm⟩
  rcases hF with ⟨rfl,h⟩ | ⟨rfl,_⟩
  ·obtain ⟨e1,e2⟩:=upto_none (s:=s) (k:=t) fun i' hi'=>h i' hi' (by omega)
   rw [e1,e2]
   exact hD
  ·exact hD
 | _=>exact h1'.elim
theorem loopO12 (a:Act)(w A0 A:World)(k:Nat)(c:PCfg)(v:Value)(s:CS)(m0:Nat)(hok:Okc s)(h1:1<=s.ses)
  (Q:Exit->Act->World->Prop) (hQ:∀m a W,Out12 w A0 k c v s m m a W->s.L.length<=m->Q (.exit 2) a W) (h0:Out12 w A0 k c v s m0 m0 a A) :
  (Code.loop out12).wp Tryz.prog Q a A:=by
 have hlen:=hok.last
 refine wp_loop (fun a W=>∃m,m<=s.L.length/\Out12 w A0 k c v s m m a W) (fun a _=>s.L.length+1-(intOf (sl a.tmps 9)).toNat) ⟨m0,by obtain ⟨_,_,_,_,h⟩:=h0;exact h,h0⟩ ?_
 rintro a A ⟨m,hm0,ht⟩
 have h9:sl a.tmps 9=.int .i64 ((m+1:Nat):Int):=by
  obtain ⟨_,_,hS,_⟩:=ht
  exact hS.e9
 rw [out12_eq]
 refine wp_seq (Code.wp_mono ?_ (headO12 a w A0 A k c v s m ht))
 rintro e a1 w1 h1'
 cases e with
 | normal =>
  obtain ⟨ht1,hm1⟩:=h1'
  refine wp_seq (Code.wp_mono ?_ (one12 a1 w A0 w1 k c v s m hok h1 hm1 ht1))
  rintro e a2 w2 h2
  cases e with
  | normal =>
   refine Code.wp_mono ?_ (incO12 a2 w A0 w2 k c v s m (by omega) h2)
   rintro e a3 w3 h3
   cases e with
   | normal =>
    refine ⟨⟨m+1,by omega,h3⟩,?_⟩
    have h9':sl a3.tmps 9=.int .i64 ((m+1+1:Nat):Int):=by
     obtain ⟨_,_,hS,_⟩:=h3
     exact hS.e9
    show s.L.length+1-(intOf (sl a3.tmps 9)).toNat<s.L.length+1-(intOf (sl a.tmps 9)).toNat
    rw [h9',h9]
    simp [intOf]
    omega
   | _=>exact h3.elim
  | _=>exact h2.elim
 | exit q =>
  obtain ⟨ht1,rfl,hle⟩:=h1'
  exact hQ _ _ _ ht1 hle
 | _=>exact h1'.elim
end Go.Proofs.YtanoabliahcbeaaGreat.Wn
