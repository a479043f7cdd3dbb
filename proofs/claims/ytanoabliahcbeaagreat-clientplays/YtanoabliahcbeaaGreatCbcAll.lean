import Derived.Test.YtanoabliahcbeaaGreatCpwAll
import Derived.Test.YtanoabliahcbeaaGreatCallsJg
import Derived.Deep.DeepCutAuto
set_option maxHeartbeats 40000000
set_option maxRecDepth 100000
namespace Go.Proofs.YtanoabliahcbeaaGreat.Calls
open Go.RowKit Disk
open Names (Str)
def NewOp (w:World)(o:POp)(e:Ending)(w':World):Prop:=∃k v ol t,e=.returned (opV k v ol t o)/\OpSeg w' k v ol t o/\w.grownBy w' none
theorem newOp_of {w w':World}{o p:POp}{k v ol t:Value}{e:Ending}(he:e=.returned (opV k v ol t p))(hp:p=o)(hs:OpSeg w' k v ol t p)(hg:w.grownBy w' none):NewOp w o e w':=by subst hp;exact ⟨k,v,ol,t,he,hs,hg⟩
theorem opSeg_of {w w':World}{k v ol t:Value}{a:POp}(h:OpSeg w k v ol t a)(hg:w.grownBy w' none){k' v' ol' t':Value}{p:POp}(h1:(k'=k/\p.key=a.key)\/(k'=.slice none 0 0/\p.key=[]))(h2:(v'=v/\p.value=a.value)\/(v'=.slice none 0 0/\p.value=[]))
  (h3:(ol'=ol/\p.old=a.old)\/(ol'=.slice none 0 0/\p.old=[])) (h4:(t'=t/\p.to=a.to)\/(t'=.slice none 0 0/\p.to=[])) (hf:OpIn p):OpSeg w' k' v' ol' t' p:=by
 have hh:=h.grown hg
 refine ⟨?_,?_,?_,?_,hf⟩
 ·rcases h1 with ⟨rfl,e⟩ | ⟨rfl,e⟩ <;> rw [e]
  ·exact hh.key
  ·exact seg_nil _
 ·rcases h2 with ⟨rfl,e⟩ | ⟨rfl,e⟩ <;> rw [e]
  ·exact hh.value
  ·exact seg_nil _
 ·rcases h3 with ⟨rfl,e⟩ | ⟨rfl,e⟩ <;> rw [e]
  ·exact hh.old
  ·exact seg_nil _
 ·rcases h4 with ⟨rfl,e⟩ | ⟨rfl,e⟩ <;> rw [e]
  ·exact hh.to
  ·exact seg_nil _
theorem named_in {a:POp}(h:OpIn a):OpIn (named a):=by
 obtain ⟨h1,h2,h3,h4,h5⟩:=h
 unfold named
 split
 ·exact ⟨h1,h2,by simp,by simp,h5⟩
 ·split
  ·exact ⟨h1,h2,by simp,by simp,h5⟩
  ·split
   ·exact ⟨h1,h2,by simp,by simp,h5⟩
   ·split
    ·exact ⟨h1,h2,h3,h4,h5⟩
    ·exact ⟨by simp,by simp,by simp,by simp,by simp⟩
theorem grown3 (w:World)(a b c:Obj):w.grownBy (((w.alloc a).alloc b).alloc c) none:=grown_trans (World.grownBy_alloc _ _ none) (grown_trans (World.grownBy_alloc _ _ none) (World.grownBy_alloc _ _ none))
theorem named163 (k v ol t:Value)(a:POp)(w:World)(ha:OpSeg w k v ol t a) :
  Calls Tryz.prog 170 #[opV k v ol t a] w (NewOp w (named a)):=by
 have HA:Hid (OpSeg w k v ol t a):=ha
 obtain ⟨a1,a2,a3,a4,b1,b2,b3,b4,e1,e2,e3,e4⟩:=ha.shapes
 have HE:Hid (k=.slice a1 a.key.length b1/\v=.slice a2 a.value.length b2/\ol=.slice a3 a.old.length b3/\t=.slice a4 a.to.length b4):=⟨e1,e2,e3,e4⟩
 have HN:Hid (OpIn (named a)):=named_in ha.fits
 clear ha
 unfold opV Str
 rw [e1,e2,e3,e4]
 clear e1 e2 e3 e4
 obtain ⟨kd,hkd⟩:∃x,x=a.kind:=⟨_,rfl⟩
 have HK:Hid (kd=a.kind):=hkd
 rw [<-hkd]
 clear hkd
 by_cases h1:kd=1
 ·subst h1
  have hp:named a=⟨1,a.table,a.key,[],false,[],[],0⟩:=by unfold named;rw [if_pos (.inl HK.out.symm),<-HK.out]
  rw [hp] at HN
  rw [hp]
  clear hp
  go_enter Tryz.func170,Tryz.ntmps170
  go_wp2_with fail
  refine bodyPost_ret (v:=_) (by simp [results,Tryz.results170,go_sem];rfl) rfl ?_
  exact newOp_of (p:=⟨1,a.table,a.key,[],false,[],[],0⟩) rfl rfl (opSeg_of HA.out (grown3 _ _ _ _) (.inl ⟨HE.out.1.symm,rfl⟩) (.inr ⟨rfl,rfl⟩) (.inr ⟨rfl,rfl⟩) (.inr ⟨rfl,rfl⟩) HN.out) (grown3 _ _ _ _)
 by_cases h3:kd=3
 ·subst h3
  have hp:named a=⟨3,a.table,a.key,[],false,[],[],0⟩:=by unfold named;rw [if_pos (.inr HK.out.symm),<-HK.out]
  rw [hp] at HN
  rw [hp]
  clear hp
  go_enter Tryz.func170,Tryz.ntmps170
  go_wp2_with fail
  refine bodyPost_ret (v:=_) (by simp [results,Tryz.results170,go_sem];rfl) rfl ?_
  exact newOp_of (p:=⟨3,a.table,a.key,[],false,[],[],0⟩) rfl rfl (opSeg_of HA.out (grown3 _ _ _ _) (.inl ⟨HE.out.1.symm,rfl⟩) (.inr ⟨rfl,rfl⟩) (.inr ⟨rfl,rfl⟩) (.inr ⟨rfl,rfl⟩) HN.out) (grown3 _ _ _ _)
 by_cases h2:kd=2
 ·subst h2
  have hp:named a=⟨2,a.table,a.key,a.value,false,[],[],0⟩:=by unfold named;rw [if_neg (by rw [<-HK.out];omega),if_pos HK.out.symm,<-HK.out]
  rw [hp] at HN
  rw [hp]
  clear hp
  go_enter Tryz.func170,Tryz.ntmps170
  go_wp2_with fail
  refine bodyPost_ret (v:=_) (by simp [results,Tryz.results170,go_sem];rfl) rfl ?_
  exact newOp_of (p:=⟨2,a.table,a.key,a.value,false,[],[],0⟩) rfl rfl (opSeg_of HA.out (grown3 _ _ _ _) (.inl ⟨HE.out.1.symm,rfl⟩) (.inl ⟨HE.out.2.1.symm,rfl⟩) (.inr ⟨rfl,rfl⟩) (.inr ⟨rfl,rfl⟩) HN.out) (grown3 _ _ _ _)
 by_cases h4:kd=4
 ·subst h4
  have hp:named a=⟨4,a.table,a.key,a.value,a.has,a.old,[],0⟩:=by unfold named;rw [if_neg (by rw [<-HK.out];omega),if_neg (by rw [<-HK.out];omega),if_pos HK.out.symm,<-HK.out]
  rw [hp] at HN
  rw [hp]
  clear hp
  go_enter Tryz.func170,Tryz.ntmps170
  go_wp2_with fail
  refine wp_region_noPanic ?_
  refine wp_region_hold 1000 (fun x=>x.cell? ⟨w.heap.size,3,none⟩=some (.slice a2 a.value.length b2)/\x.cell? ⟨w.heap.size,4,none⟩=some (.bool a.has)/\x.cell? ⟨w.heap.size,5,none⟩=some (.slice a3 a.old.length b3)) (by kernel_rfl) ?_
  have J:Idx [0,1,2,3,4,5,6]:=trivial
  iterate 7 (refine tK J (by simp [go_sem]) rfl rfl (fun wk hk=>by obtain ⟨q1,q2,q3⟩:=hk;go_simp;try rfl) ?_;replace J:=J.tl;try simp only [pN])
  clear J
  refine wpHold_one (i:=7) rfl (by kernel_rfl) (by rfl) (fun K hK=>?_)
  go_wp2_with fail
  refine hK.out _ _ (fun _=>by simp [go_sem]) ?_
  clear hK K
  try simp only [pN]
  refine tK (i:=8) (l':=[]) trivial (by simp [go_sem]) rfl rfl (fun wk hk=>by obtain ⟨q1,q2,q3⟩:=hk;go_simp;try rfl) ?_
  try simp only [pN]
  refine wpHold_one (i:=9) rfl (by kernel_rfl) (by rfl) (fun K hK=>?_)
  go_wp2_with fail
  refine hK.out _ _ (fun _=>by simp [go_sem]) ?_
  clear hK K
  try simp only [pN]
  refine tK (i:=10) (l':=[]) trivial (by simp [go_sem]) rfl rfl (fun wk hk=>by obtain ⟨q1,q2,q3⟩:=hk;go_simp;try rfl) ?_
  try simp only [pN]
  refine wpHold_one (i:=11) rfl (by kernel_rfl) (by rfl) (fun K hK=>?_)
  go_wp2_with fail
  refine hK.out _ _ (fun _=>by simp [go_sem]) ?_
  clear hK K
  try simp only [pN]
  refine wpHold_done (by kernel_rfl) ?_
  refine (‹∀(a:Act) (w:World),Code.wp Tryz.prog _ _ a w->_› _ _ ?_)
  go_wp2_with fail
  refine bodyPost_ret (v:=_) (by simp [results,Tryz.results170,go_sem];rfl) rfl ?_
  exact newOp_of (p:=⟨4,a.table,a.key,a.value,a.has,a.old,[],0⟩) rfl rfl (opSeg_of HA.out (grown_trans (grown3 _ _ _ _) (grown_drew _ _)) (.inl ⟨HE.out.1.symm,rfl⟩) (.inl ⟨HE.out.2.1.symm,rfl⟩) (.inl ⟨HE.out.2.2.1.symm,rfl⟩) (.inr ⟨rfl,rfl⟩) HN.out) (grown_trans (grown3 _ _ _ _) (grown_drew _ _))
 by_cases h5:kd=5
 ·subst h5
  have hp:named a=⟨5,a.table,a.key,[],false,[],a.to,a.most⟩:=by unfold named;rw [if_neg (by rw [<-HK.out];omega),if_neg (by rw [<-HK.out];omega),if_neg (by rw [<-HK.out];omega),if_pos HK.out.symm,<-HK.out]
  rw [hp] at HN
  rw [hp]
  clear hp
  go_enter Tryz.func170,Tryz.ntmps170
  go_wp2_with fail
  refine wp_region_noPanic ?_
  refine wp_region_hold 1000 (fun x=>x.cell? ⟨w.heap.size,6,none⟩=some (.slice a4 a.to.length b4)/\x.cell? ⟨w.heap.size,7,none⟩=some (.int .i64 a.most)) (by kernel_rfl) ?_
  have J:Idx [0,1,2,3,4]:=trivial
  iterate 5 (refine tK J (by simp [go_sem]) rfl rfl (fun wk hk=>by obtain ⟨q1,q2⟩:=hk;go_simp;try rfl) ?_;replace J:=J.tl;try simp only [pN])
  clear J
  refine wpHold_one (i:=5) rfl (by kernel_rfl) (by rfl) (fun K hK=>?_)
  go_wp2_with fail
  refine hK.out _ _ (fun _=>by simp [go_sem]) ?_
  clear hK K
  try simp only [pN]
  refine tK (i:=6) (l':=[]) trivial (by simp [go_sem]) rfl rfl (fun wk hk=>by obtain ⟨q1,q2⟩:=hk;go_simp;try rfl) ?_
  try simp only [pN]
  refine wpHold_one (i:=7) rfl (by kernel_rfl) (by rfl) (fun K hK=>?_)
  go_wp2_with fail
  refine hK.out _ _ (fun _=>by simp [go_sem]) ?_
  clear hK K
  try simp only [pN]
  refine wpHold_done (by kernel_rfl) ?_
  refine (‹∀(a:Act) (w:World),Code.wp Tryz.prog _ _ a w->_› _ _ ?_)
  go_wp2_with fail
  refine bodyPost_ret (v:=_) (by simp [results,Tryz.results170,go_sem];rfl) rfl ?_
  exact newOp_of (p:=⟨5,a.table,a.key,[],false,[],a.to,a.most⟩) rfl rfl (opSeg_of HA.out (grown_trans (grown3 _ _ _ _) (grown_drew _ _)) (.inl ⟨HE.out.1.symm,rfl⟩) (.inr ⟨rfl,rfl⟩) (.inr ⟨rfl,rfl⟩) (.inl ⟨HE.out.2.2.2.symm,rfl⟩) HN.out) (grown_trans (grown3 _ _ _ _) (grown_drew _ _))
 ·have hp:named a=⟨0,[],[],[],false,[],[],0⟩:=by unfold named;rw [if_neg (by rw [<-HK.out];omega),if_neg (by rw [<-HK.out];omega),if_neg (by rw [<-HK.out];omega),if_neg (by rw [<-HK.out];omega)]
  rw [hp] at HN
  rw [hp]
  clear hp
  go_enter Tryz.func170,Tryz.ntmps170
  go_wp2_with fail
  refine bodyPost_ret (v:=_) (by simp [results,Tryz.results170,go_sem];rfl) rfl ?_
  exact newOp_of (p:=⟨0,[],[],[],false,[],[],0⟩) rfl rfl (opSeg_of HA.out (grown3 _ _ _ _) (.inr ⟨rfl,rfl⟩) (.inr ⟨rfl,rfl⟩) (.inr ⟨rfl,rfl⟩) (.inr ⟨rfl,rfl⟩) HN.out) (grown3 _ _ _ _)
theorem grown_fun {w w':World}(hg:w.grownBy w' none){b j:Nat}{v:Value}(h:w.cell? ⟨b,j,none⟩=some v):w'.cell? ⟨b,j,none⟩=some v:=hg.cell h (by simp)
theorem named163_of (x k v ol t:Value)(a:POp)(w:World)(hx:x=opV k v ol t a)(ha:OpSeg w k v ol t a):Calls Tryz.prog 170 #[x] w (NewOp w (named a)):=by subst hx;exact named163 k v ol t a w ha
theorem same72_of (x k v ol t k' v' ol' t':Value)(a b:POp)(w:World)(hx:x=opV k v ol t a)(ha:OpSeg w k v ol t a)(hb:OpSeg w k' v' ol' t' b) :
  Calls Tryz.prog 169 #[x,opV k' v' ol' t' b] w fun e w'=>e=.returned (.bool (decide (a=b)))/\w.grownBy w' none:=by subst hx;exact same72 k v ol t k' v' ol' t' a b w ha hb
theorem may120 (k v ol t:Value)(a:POp)(w:World)(ha:OpSeg w k v ol t a) :
  Calls Tryz.prog 144 #[opV k v ol t a] w fun e w'=>e=.returned (.bool (mayOp a))/\w.grownBy w' none:=by
 obtain ⟨a1,a2,a3,a4,b1,b2,b3,b4,rfl,rfl,rfl,rfl⟩:=ha.shapes
 have hl1:=ha.key.len
 have hl2:=ha.old.len
 have hl3:=ha.to.len
 obtain ⟨nk,hnk⟩:∃n,n=a.key.length:=⟨_,rfl⟩
 obtain ⟨nv,hnv⟩:∃n,n=a.value.length:=⟨_,rfl⟩
 obtain ⟨no,hno⟩:∃n,n=a.old.length:=⟨_,rfl⟩
 obtain ⟨nt,hnt⟩:∃n,n=a.to.length:=⟨_,rfl⟩
 obtain ⟨kd,hkd⟩:∃n,n=a.kind:=⟨_,rfl⟩
 obtain ⟨ms,hms⟩:∃n,n=a.most:=⟨_,rfl⟩
 obtain ⟨hs,hhs⟩:∃n,n=a.has:=⟨_,rfl⟩
 obtain ⟨bd,hbd⟩:∃n,n=bounds a:=⟨_,rfl⟩
 have HV:Hid (nk=a.key.length/\nv=a.value.length/\no=a.old.length/\nt=a.to.length/\kd=a.kind/\ms=a.most/\hs=a.has/\bd=bounds a):=⟨hnk,hnv,hno,hnt,hkd,hms,hhs,hbd⟩
 rw [<-hnk,<-hnv,<-hno,<-hnt] at ha
 rw [<-hnk] at hl1
 rw [<-hno] at hl2
 rw [<-hnt] at hl3
 unfold opV Str
 rw [<-hnk,<-hnv,<-hno,<-hnt,<-hkd,<-hms,<-hhs]
 have HA:Hid (OpSeg w (.slice a1 nk b1) (.slice a2 nv b2) (.slice a3 no b3) (.slice a4 nt b4) a):=ha
 have HM:Hid (mayOp a=(bd && Names.tabB a.table && Names.valueB a.value && Names.valueB a.old && (hs || decide (no=0)) && decide (nt<=64) && decide (a=named a))):=by rw [hbd,hhs,hno,hnt];rfl
 have HX:Hid (Value.agg #[.int .i64 kd,.string ⟨a.table.toArray⟩,.slice a1 nk b1,.slice a2 nv b2,.bool hs,.slice a3 no b3,.slice a4 nt b4,.int .i64 ms]=opV (.slice a1 nk b1) (.slice a2 nv b2) (.slice a3 no b3) (.slice a4 nt b4) a):=by rw [hkd,hhs,hms];rfl
 clear ha hnk hnv hno hnt hkd hms hhs hbd
 obtain ⟨R,hR⟩:∃R,R=mayOp a:=⟨_,rfl⟩
 rw [<-hR]
 rw [<-hR] at HM
 clear hR
 go_enter Tryz.func144,Tryz.ntmps144
 go_upto_if 9 with (first | (go_at_call 166;refine (Names.key11 _ a.key _ (seg_alloc HA.out.key _)).mono ?_;rintro e w1 ⟨rfl,hw1⟩;rw [hw1];clear hw1))
 obtain ⟨W1,hW1⟩:∃x,x=w.alloc (.cells #[.int .i64 kd,.string ⟨a.table.toArray⟩,.slice a1 nk b1,.slice a2 nv b2,.bool hs,.slice a3 no b3,.slice a4 nt b4,.int .i64 ms] 109):=⟨_,rfl⟩
 have HW:Hid (w.grownBy W1 none):=by rw [hW1];exact World.grownBy_alloc _ _ none
 have HC:Hid (∀x:World,W1.grownBy x none->x.cell? ⟨w.heap.size,0,none⟩=some (.int .i64 kd)/\x.cell? ⟨w.heap.size,1,none⟩=some (.string ⟨a.table.toArray⟩)/\x.cell? ⟨w.heap.size,2,none⟩=some (.slice a1 nk b1)/\x.cell? ⟨w.heap.size,3,none⟩=some (.slice a2 nv b2)/\x.cell? ⟨w.heap.size,4,none⟩=some (.bool hs)/\x.cell? ⟨w.heap.size,5,none⟩=some (.slice a3 no b3)/\x.cell? ⟨w.heap.size,6,none⟩=some (.slice a4 nt b4)/\x.cell? ⟨w.heap.size,7,none⟩=some (.int .i64 ms)):=by
  intro x hx
  have hb:=heap_alloc_new w (.cells #[.int .i64 kd,.string ⟨a.table.toArray⟩,.slice a1 nk b1,.slice a2 nv b2,.bool hs,.slice a3 no b3,.slice a4 nt b4,.int .i64 ms] 109)
  rw [<-hW1] at hb
  refine ⟨grown_fun hx ?_,grown_fun hx ?_,grown_fun hx ?_,grown_fun hx ?_,grown_fun hx ?_,grown_fun hx ?_,grown_fun hx ?_,grown_fun hx ?_⟩ <;> (rw [cell_of_row _ _ _ _ _ _ hb];rfl)
 rw [<-hW1]
 have HE1:Hid (W1=_):=hW1
 clear hW1
 obtain ⟨p0,p1,p2,p3,p4,p5,p6,p7⟩:=HC.out W1 (grown_refl _ _)
 go_cut [3] (fun x wc=>x=.bool bd/\wc=W1)
 case first =>
  have hb:=HV.out.2.2.2.2.2.2.2
  unfold bounds at hb
  rw [<-HV.out.2.2.2.2.1,<-HV.out.1,<-HV.out.2.2.2.2.2.1] at hb
  by_cases h5:kd=5
  ·subst h5
   rw [if_pos rfl] at hb
   have HB:Hid _:=hb
   clear hb
   go_wp2_with fail
   all_goals go_meet
   all_goals (refine ⟨?_,rfl⟩;rw [HB.out];simp_all <;> omega)
  ·rw [if_neg h5] at hb
   rw [<-hb]
   have q:(kd==5)=false:=by simp [h5]
   clear hb
   go_wp2_with fail
   go_meet
   case rel=>exact ⟨rfl,rfl⟩
 case rest =>
 obtain ⟨rfl,hwc⟩:=hcut
 rw [hwc]
 clear hwc wc p0 p1 p2 p3 p4 p5 p6 p7
 cases bd with
 | false =>
  have HR:Hid (R=false):=by rw [HM.out];rfl
  skip
  go_wp2_with fail
  refine wp_region_noPanic ?_
  refine wp_region_hold 1000 (fun x=>W1.grownBy x none) (by kernel_rfl) ?_
  have J:Idx [0,1]:=trivial
  iterate 2 (refine tK J (grown_drew _ _) rfl rfl (fun wk hk=>by obtain ⟨q0,q1,q2,q3,q4,q5,q6,q7⟩:=HC.out wk hk;go_simp;try rfl) ?_;replace J:=J.tl;try simp only [pN])
  clear J
  have J:Idx [2,3,4]:=trivial
  iterate 3 (refine sk J (grown_drew _ _) rfl rfl ?_;replace J:=J.tl;try simp only [pN])
  clear J
  have J:Idx [5,6]:=trivial
  iterate 2 (refine tK J (grown_drew _ _) rfl rfl (fun wk hk=>by obtain ⟨q0,q1,q2,q3,q4,q5,q6,q7⟩:=HC.out wk hk;go_simp;try rfl) ?_;replace J:=J.tl;try simp only [pN])
  clear J
  have J:Idx [7,8,9]:=trivial
  iterate 3 (refine sk J (grown_drew _ _) rfl rfl ?_;replace J:=J.tl;try simp only [pN])
  clear J
  have J:Idx [10,11]:=trivial
  iterate 2 (refine tK J (grown_drew _ _) rfl rfl (fun wk hk=>by obtain ⟨q0,q1,q2,q3,q4,q5,q6,q7⟩:=HC.out wk hk;go_simp;try rfl) ?_;replace J:=J.tl;try simp only [pN])
  clear J
  have J:Idx [12,13,14]:=trivial
  iterate 3 (refine sk J (grown_drew _ _) rfl rfl ?_;replace J:=J.tl;try simp only [pN])
  clear J
  have J:Idx [15,16]:=trivial
  iterate 2 (refine tK J (grown_drew _ _) rfl rfl (fun wk hk=>by obtain ⟨q0,q1,q2,q3,q4,q5,q6,q7⟩:=HC.out wk hk;go_simp;try rfl) ?_;replace J:=J.tl;try simp only [pN])
  clear J
  have J:Idx [17,18,19,20,21,22,23,24]:=trivial
  iterate 8 (refine sk J (grown_drew _ _) rfl rfl ?_;replace J:=J.tl;try simp only [pN])
  clear J
  have J:Idx [25,26]:=trivial
  iterate 2 (refine tK J (grown_drew _ _) rfl rfl (fun wk hk=>by obtain ⟨q0,q1,q2,q3,q4,q5,q6,q7⟩:=HC.out wk hk;go_simp;try rfl) ?_;replace J:=J.tl;try simp only [pN])
  clear J
  have J:Idx [27,28,29,30]:=trivial
  iterate 4 (refine sk J (grown_drew _ _) rfl rfl ?_;replace J:=J.tl;try simp only [pN])
  clear J
  have J:Idx [31,32]:=trivial
  iterate 2 (refine tK J (grown_drew _ _) rfl rfl (fun wk hk=>by obtain ⟨q0,q1,q2,q3,q4,q5,q6,q7⟩:=HC.out wk hk;go_simp;try rfl) ?_;replace J:=J.tl;try simp only [pN])
  clear J
  have J:Idx [33,34,35,36]:=trivial
  iterate 4 (refine sk J (grown_drew _ _) rfl rfl ?_;replace J:=J.tl;try simp only [pN])
  clear J
  have J:Idx [37,38]:=trivial
  iterate 2 (refine tK J (grown_drew _ _) rfl rfl (fun wk hk=>by obtain ⟨q0,q1,q2,q3,q4,q5,q6,q7⟩:=HC.out wk hk;go_simp;try rfl) ?_;replace J:=J.tl;try simp only [pN])
  clear J
  refine wpHold_done (by kernel_rfl) ?_
  refine (‹∀(a:Act) (w:World),Code.wp Tryz.prog _ _ a w->_› _ _ ?_)
  go_wp2_with fail
  go_ret
  exact ⟨by rw [HR.out];rfl,grown_trans HW.out (grown_drew _ _)⟩
 | true =>
 cases hT:Names.tabB a.table with
 | false =>
  have HT:Hid (Names.tabB a.table=false):=hT
  have HR:Hid (R=false):=by rw [HM.out,hT];rfl
  clear hT
  go_wp2_with fail
  refine wp_region_noPanic ?_
  refine wp_region_hold 1000 (fun x=>W1.grownBy x none) (by kernel_rfl) ?_
  have J:Idx [0,1,2,3]:=trivial
  iterate 4 (refine tK J (grown_drew _ _) rfl rfl (fun wk hk=>by obtain ⟨q0,q1,q2,q3,q4,q5,q6,q7⟩:=HC.out wk hk;go_simp;try rfl) ?_;replace J:=J.tl;try simp only [pN])
  clear J
  refine wpHold_one (i:=4) rfl (by kernel_rfl) (by rfl) (fun K hK=>?_)
  go_wp2_with (go_at_call 167;refine (Names.table9 a.table _ HA.out.fits.tl).mono ?_;rintro e w1 ⟨rfl,hw1⟩;rw [hw1,HT.out];clear hw1)
  refine hK.out _ _ (fun _=>grown_drew _ _) ?_
  clear hK K
  try simp only [pN]
  have J:Idx [5,6]:=trivial
  iterate 2 (refine tK J (grown_drew _ _) rfl rfl (fun wk hk=>by obtain ⟨q0,q1,q2,q3,q4,q5,q6,q7⟩:=HC.out wk hk;go_simp;try rfl) ?_;replace J:=J.tl;try simp only [pN])
  clear J
  have J:Idx [7,8,9]:=trivial
  iterate 3 (refine sk J (grown_drew _ _) rfl rfl ?_;replace J:=J.tl;try simp only [pN])
  clear J
  have J:Idx [10,11]:=trivial
  iterate 2 (refine tK J (grown_drew _ _) rfl rfl (fun wk hk=>by obtain ⟨q0,q1,q2,q3,q4,q5,q6,q7⟩:=HC.out wk hk;go_simp;try rfl) ?_;replace J:=J.tl;try simp only [pN])
  clear J
  have J:Idx [12,13,14]:=trivial
  iterate 3 (refine sk J (grown_drew _ _) rfl rfl ?_;replace J:=J.tl;try simp only [pN])
  clear J
  have J:Idx [15,16]:=trivial
  iterate 2 (refine tK J (grown_drew _ _) rfl rfl (fun wk hk=>by obtain ⟨q0,q1,q2,q3,q4,q5,q6,q7⟩:=HC.out wk hk;go_simp;try rfl) ?_;replace J:=J.tl;try simp only [pN])
  clear J
  have J:Idx [17,18,19,20,21,22,23,24]:=trivial
  iterate 8 (refine sk J (grown_drew _ _) rfl rfl ?_;replace J:=J.tl;try simp only [pN])
  clear J
  have J:Idx [25,26]:=trivial
  iterate 2 (refine tK J (grown_drew _ _) rfl rfl (fun wk hk=>by obtain ⟨q0,q1,q2,q3,q4,q5,q6,q7⟩:=HC.out wk hk;go_simp;try rfl) ?_;replace J:=J.tl;try simp only [pN])
  clear J
  have J:Idx [27,28,29,30]:=trivial
  iterate 4 (refine sk J (grown_drew _ _) rfl rfl ?_;replace J:=J.tl;try simp only [pN])
  clear J
  have J:Idx [31,32]:=trivial
  iterate 2 (refine tK J (grown_drew _ _) rfl rfl (fun wk hk=>by obtain ⟨q0,q1,q2,q3,q4,q5,q6,q7⟩:=HC.out wk hk;go_simp;try rfl) ?_;replace J:=J.tl;try simp only [pN])
  clear J
  have J:Idx [33,34,35,36]:=trivial
  iterate 4 (refine sk J (grown_drew _ _) rfl rfl ?_;replace J:=J.tl;try simp only [pN])
  clear J
  have J:Idx [37,38]:=trivial
  iterate 2 (refine tK J (grown_drew _ _) rfl rfl (fun wk hk=>by obtain ⟨q0,q1,q2,q3,q4,q5,q6,q7⟩:=HC.out wk hk;go_simp;try rfl) ?_;replace J:=J.tl;try simp only [pN])
  clear J
  refine wpHold_done (by kernel_rfl) ?_
  refine (‹∀(a:Act) (w:World),Code.wp Tryz.prog _ _ a w->_› _ _ ?_)
  go_wp2_with fail
  go_ret
  exact ⟨by rw [HR.out];rfl,grown_trans HW.out (grown_drew _ _)⟩
 | true =>
 have HT:Hid (Names.tabB a.table=true):=hT
 clear hT
 cases hU:Names.valueB a.value with
 | false =>
  have HU:Hid (Names.valueB a.value=false):=hU
  have HR:Hid (R=false):=by rw [HM.out,HT.out,hU];rfl
  clear hU
  go_wp2_with fail
  refine wp_region_noPanic ?_
  refine wp_region_hold 1000 (fun x=>W1.grownBy x none) (by kernel_rfl) ?_
  have J:Idx [0,1,2,3]:=trivial
  iterate 4 (refine tK J (grown_drew _ _) rfl rfl (fun wk hk=>by obtain ⟨q0,q1,q2,q3,q4,q5,q6,q7⟩:=HC.out wk hk;go_simp;try rfl) ?_;replace J:=J.tl;try simp only [pN])
  clear J
  refine wpHold_one (i:=4) rfl (by kernel_rfl) (by rfl) (fun K hK=>?_)
  go_wp2_with (go_at_call 167;refine (Names.table9 a.table _ HA.out.fits.tl).mono ?_;rintro e w1 ⟨rfl,hw1⟩;rw [hw1,HT.out];clear hw1)
  refine hK.out _ _ (fun _=>grown_drew _ _) ?_
  clear hK K
  try simp only [pN]
  have J:Idx [5,6,7,8]:=trivial
  iterate 4 (refine tK J (grown_drew _ _) rfl rfl (fun wk hk=>by obtain ⟨q0,q1,q2,q3,q4,q5,q6,q7⟩:=HC.out wk hk;go_simp;try rfl) ?_;replace J:=J.tl;try simp only [pN])
  clear J
  refine wpHold_one (i:=9) rfl (by kernel_rfl) (by rfl) (fun K hK=>?_)
  go_wp2_with (go_at_call 168;refine (Names.value13 _ a.value _ (HA.out.value.grown (grown_trans HW.out (grown_drew _ _)))).mono ?_;rintro e w1 ⟨rfl,hw1⟩;rw [hw1,HU.out];clear hw1)
  refine hK.out _ _ (fun _=>grown_drew _ _) ?_
  clear hK K
  try simp only [pN]
  have J:Idx [10,11]:=trivial
  iterate 2 (refine tK J (grown_drew _ _) rfl rfl (fun wk hk=>by obtain ⟨q0,q1,q2,q3,q4,q5,q6,q7⟩:=HC.out wk hk;go_simp;try rfl) ?_;replace J:=J.tl;try simp only [pN])
  clear J
  have J:Idx [12,13,14]:=trivial
  iterate 3 (refine sk J (grown_drew _ _) rfl rfl ?_;replace J:=J.tl;try simp only [pN])
  clear J
  have J:Idx [15,16]:=trivial
  iterate 2 (refine tK J (grown_drew _ _) rfl rfl (fun wk hk=>by obtain ⟨q0,q1,q2,q3,q4,q5,q6,q7⟩:=HC.out wk hk;go_simp;try rfl) ?_;replace J:=J.tl;try simp only [pN])
  clear J
  have J:Idx [17,18,19,20,21,22,23,24]:=trivial
  iterate 8 (refine sk J (grown_drew _ _) rfl rfl ?_;replace J:=J.tl;try simp only [pN])
  clear J
  have J:Idx [25,26]:=trivial
  iterate 2 (refine tK J (grown_drew _ _) rfl rfl (fun wk hk=>by obtain ⟨q0,q1,q2,q3,q4,q5,q6,q7⟩:=HC.out wk hk;go_simp;try rfl) ?_;replace J:=J.tl;try simp only [pN])
  clear J
  have J:Idx [27,28,29,30]:=trivial
  iterate 4 (refine sk J (grown_drew _ _) rfl rfl ?_;replace J:=J.tl;try simp only [pN])
  clear J
  have J:Idx [31,32]:=trivial
  iterate 2 (refine tK J (grown_drew _ _) rfl rfl (fun wk hk=>by obtain ⟨q0,q1,q2,q3,q4,q5,q6,q7⟩:=HC.out wk hk;go_simp;try rfl) ?_;replace J:=J.tl;try simp only [pN])
  clear J
  have J:Idx [33,34,35,36]:=trivial
  iterate 4 (refine sk J (grown_drew _ _) rfl rfl ?_;replace J:=J.tl;try simp only [pN])
  clear J
  have J:Idx [37,38]:=trivial
  iterate 2 (refine tK J (grown_drew _ _) rfl rfl (fun wk hk=>by obtain ⟨q0,q1,q2,q3,q4,q5,q6,q7⟩:=HC.out wk hk;go_simp;try rfl) ?_;replace J:=J.tl;try simp only [pN])
  clear J
  refine wpHold_done (by kernel_rfl) ?_
  refine (‹∀(a:Act) (w:World),Code.wp Tryz.prog _ _ a w->_› _ _ ?_)
  go_wp2_with fail
  go_ret
  exact ⟨by rw [HR.out];rfl,grown_trans HW.out (grown_drew _ _)⟩
 | true =>
 have HU:Hid (Names.valueB a.value=true):=hU
 clear hU
 cases hO:Names.valueB a.old with
 | false =>
  have HO:Hid (Names.valueB a.old=false):=hO
  have HR:Hid (R=false):=by rw [HM.out,HT.out,HU.out,hO];rfl
  clear hO
  go_wp2_with fail
  refine wp_region_noPanic ?_
  refine wp_region_hold 1000 (fun x=>W1.grownBy x none) (by kernel_rfl) ?_
  have J:Idx [0,1,2,3]:=trivial
  iterate 4 (refine tK J (grown_drew _ _) rfl rfl (fun wk hk=>by obtain ⟨q0,q1,q2,q3,q4,q5,q6,q7⟩:=HC.out wk hk;go_simp;try rfl) ?_;replace J:=J.tl;try simp only [pN])
  clear J
  refine wpHold_one (i:=4) rfl (by kernel_rfl) (by rfl) (fun K hK=>?_)
  go_wp2_with (go_at_call 167;refine (Names.table9 a.table _ HA.out.fits.tl).mono ?_;rintro e w1 ⟨rfl,hw1⟩;rw [hw1,HT.out];clear hw1)
  refine hK.out _ _ (fun _=>grown_drew _ _) ?_
  clear hK K
  try simp only [pN]
  have J:Idx [5,6,7,8]:=trivial
  iterate 4 (refine tK J (grown_drew _ _) rfl rfl (fun wk hk=>by obtain ⟨q0,q1,q2,q3,q4,q5,q6,q7⟩:=HC.out wk hk;go_simp;try rfl) ?_;replace J:=J.tl;try simp only [pN])
  clear J
  refine wpHold_one (i:=9) rfl (by kernel_rfl) (by rfl) (fun K hK=>?_)
  go_wp2_with (go_at_call 168;refine (Names.value13 _ a.value _ (HA.out.value.grown (grown_trans HW.out (grown_drew _ _)))).mono ?_;rintro e w1 ⟨rfl,hw1⟩;rw [hw1,HU.out];clear hw1)
  refine hK.out _ _ (fun _=>grown_drew _ _) ?_
  clear hK K
  try simp only [pN]
  have J:Idx [10,11,12,13]:=trivial
  iterate 4 (refine tK J (grown_drew _ _) rfl rfl (fun wk hk=>by obtain ⟨q0,q1,q2,q3,q4,q5,q6,q7⟩:=HC.out wk hk;go_simp;try rfl) ?_;replace J:=J.tl;try simp only [pN])
  clear J
  refine wpHold_one (i:=14) rfl (by kernel_rfl) (by rfl) (fun K hK=>?_)
  go_wp2_with (go_at_call 168;refine (Names.value13 _ a.old _ (HA.out.old.grown (grown_trans HW.out (grown_drew _ _)))).mono ?_;rintro e w1 ⟨rfl,hw1⟩;rw [hw1,HO.out];clear hw1)
  refine hK.out _ _ (fun _=>grown_drew _ _) ?_
  clear hK K
  try simp only [pN]
  have J:Idx [15,16]:=trivial
  iterate 2 (refine tK J (grown_drew _ _) rfl rfl (fun wk hk=>by obtain ⟨q0,q1,q2,q3,q4,q5,q6,q7⟩:=HC.out wk hk;go_simp;try rfl) ?_;replace J:=J.tl;try simp only [pN])
  clear J
  have J:Idx [17,18,19,20,21,22,23,24]:=trivial
  iterate 8 (refine sk J (grown_drew _ _) rfl rfl ?_;replace J:=J.tl;try simp only [pN])
  clear J
  have J:Idx [25,26]:=trivial
  iterate 2 (refine tK J (grown_drew _ _) rfl rfl (fun wk hk=>by obtain ⟨q0,q1,q2,q3,q4,q5,q6,q7⟩:=HC.out wk hk;go_simp;try rfl) ?_;replace J:=J.tl;try simp only [pN])
  clear J
  have J:Idx [27,28,29,30]:=trivial
  iterate 4 (refine sk J (grown_drew _ _) rfl rfl ?_;replace J:=J.tl;try simp only [pN])
  clear J
  have J:Idx [31,32]:=trivial
  iterate 2 (refine tK J (grown_drew _ _) rfl rfl (fun wk hk=>by obtain ⟨q0,q1,q2,q3,q4,q5,q6,q7⟩:=HC.out wk hk;go_simp;try rfl) ?_;replace J:=J.tl;try simp only [pN])
  clear J
  have J:Idx [33,34,35,36]:=trivial
  iterate 4 (refine sk J (grown_drew _ _) rfl rfl ?_;replace J:=J.tl;try simp only [pN])
  clear J
  have J:Idx [37,38]:=trivial
  iterate 2 (refine tK J (grown_drew _ _) rfl rfl (fun wk hk=>by obtain ⟨q0,q1,q2,q3,q4,q5,q6,q7⟩:=HC.out wk hk;go_simp;try rfl) ?_;replace J:=J.tl;try simp only [pN])
  clear J
  refine wpHold_done (by kernel_rfl) ?_
  refine (‹∀(a:Act) (w:World),Code.wp Tryz.prog _ _ a w->_› _ _ ?_)
  go_wp2_with fail
  go_ret
  exact ⟨by rw [HR.out];rfl,grown_trans HW.out (grown_drew _ _)⟩
 | true =>
 have HO:Hid (Names.valueB a.old=true):=hO
 clear hO
 cases hs with
 | false =>
  by_cases h0:no=0
  ·subst h0
   by_cases h6:nt<=64
   ·have i6:(nt:Int)<=64:=by omega
    have HR:Hid (R=decide (a=named a)):=by rw [HM.out,HT.out,HU.out,HO.out];simp [h6,Hid]
    clear h6
    go_wp2_with fail
    refine wp_region_noPanic ?_
    refine wp_region_hold 1000 (fun x=>W1.grownBy x none) (by kernel_rfl) ?_
    have J:Idx [0,1,2,3]:=trivial
    iterate 4 (refine tK J (grown_drew _ _) rfl rfl (fun wk hk=>by obtain ⟨q0,q1,q2,q3,q4,q5,q6,q7⟩:=HC.out wk hk;go_simp;try rfl) ?_;replace J:=J.tl;try simp only [pN])
    clear J
    refine wpHold_one (i:=4) rfl (by kernel_rfl) (by rfl) (fun K hK=>?_)
    go_wp2_with (go_at_call 167;refine (Names.table9 a.table _ HA.out.fits.tl).mono ?_;rintro e w1 ⟨rfl,hw1⟩;rw [hw1,HT.out];clear hw1)
    refine hK.out _ _ (fun _=>grown_drew _ _) ?_
    clear hK K
    try simp only [pN]
    have J:Idx [5,6,7,8]:=trivial
    iterate 4 (refine tK J (grown_drew _ _) rfl rfl (fun wk hk=>by obtain ⟨q0,q1,q2,q3,q4,q5,q6,q7⟩:=HC.out wk hk;go_simp;try rfl) ?_;replace J:=J.tl;try simp only [pN])
    clear J
    refine wpHold_one (i:=9) rfl (by kernel_rfl) (by rfl) (fun K hK=>?_)
    go_wp2_with (go_at_call 168;refine (Names.value13 _ a.value _ (HA.out.value.grown (grown_trans HW.out (grown_drew _ _)))).mono ?_;rintro e w1 ⟨rfl,hw1⟩;rw [hw1,HU.out];clear hw1)
    refine hK.out _ _ (fun _=>grown_drew _ _) ?_
    clear hK K
    try simp only [pN]
    have J:Idx [10,11,12,13]:=trivial
    iterate 4 (refine tK J (grown_drew _ _) rfl rfl (fun wk hk=>by obtain ⟨q0,q1,q2,q3,q4,q5,q6,q7⟩:=HC.out wk hk;go_simp;try rfl) ?_;replace J:=J.tl;try simp only [pN])
    clear J
    refine wpHold_one (i:=14) rfl (by kernel_rfl) (by rfl) (fun K hK=>?_)
    go_wp2_with (go_at_call 168;refine (Names.value13 _ a.old _ (HA.out.old.grown (grown_trans HW.out (grown_drew _ _)))).mono ?_;rintro e w1 ⟨rfl,hw1⟩;rw [hw1,HO.out];clear hw1)
    refine hK.out _ _ (fun _=>grown_drew _ _) ?_
    clear hK K
    try simp only [pN]
    have J:Idx [15,16,17,18,19,20,21,22,23,24,25,26,27,28,29,30,31,32,33,34]:=trivial
    iterate 20 (refine tK J (grown_drew _ _) rfl rfl (fun wk hk=>by obtain ⟨q0,q1,q2,q3,q4,q5,q6,q7⟩:=HC.out wk hk;go_simp;try rfl) ?_;replace J:=J.tl;try simp only [pN])
    clear J
    refine wpHold_one (i:=35) rfl (by kernel_rfl) (by rfl) (fun K hK=>?_)
    go_wp2_with (go_at_call 170;refine (named163_of _ _ _ _ _ a _ HX.out (HA.out.grown (grown_trans HW.out (grown_drew _ _)))).mono ?_)
    rintro e w1 ⟨k',v',ol',t',rfl,hs1,hg1⟩
    have HS1:Hid (OpSeg w1 k' v' ol' t' (named a)):=hs1
    have HG1:Hid (W1.grownBy w1 none):=grown_trans (grown_drew _ _) hg1
    clear hs1 hg1
    go_wp2_with fail
    refine hK.out _ _ (fun _=>HG1.out) ?_
    clear hK K
    try simp only [pN]
    refine wpHold_one (i:=36) rfl (by kernel_rfl) (by rfl) (fun K hK=>?_)
    go_wp2_with (go_at_call 169;refine (same72_of _ _ _ _ _ _ _ _ _ a (named a) _ HX.out (HA.out.grown (grown_trans HW.out HG1.out)) HS1.out).mono ?_)
    rintro e w2 ⟨rfl,hg2⟩
    have HG2:Hid (W1.grownBy w2 none):=grown_trans HG1.out hg2
    clear hg2
    go_wp2_with fail
    refine hK.out _ _ (fun _=>HG2.out) ?_
    clear hK K
    try simp only [pN]
    have J:Idx [37,38]:=trivial
    iterate 2 (refine tK J (HG2.out) rfl rfl (fun wk hk=>by obtain ⟨q0,q1,q2,q3,q4,q5,q6,q7⟩:=HC.out wk hk;go_simp;try rfl) ?_;replace J:=J.tl;try simp only [pN])
    clear J
    refine wpHold_done (by kernel_rfl) ?_
    refine (‹∀(a:Act) (w:World),Code.wp Tryz.prog _ _ a w->_› _ _ ?_)
    go_wp2_with fail
    go_ret
    exact ⟨by rw [HR.out];rfl,grown_trans HW.out HG2.out⟩
   ·have i6:((nt:Int)<=64)=False:=eq_false (by omega)
    have HR:Hid (R=false):=by rw [HM.out,HT.out,HU.out,HO.out];simp [h6,Hid]
    clear h6
    go_wp2_with fail
    refine wp_region_noPanic ?_
    refine wp_region_hold 1000 (fun x=>W1.grownBy x none) (by kernel_rfl) ?_
    have J:Idx [0,1,2,3]:=trivial
    iterate 4 (refine tK J (grown_drew _ _) rfl rfl (fun wk hk=>by obtain ⟨q0,q1,q2,q3,q4,q5,q6,q7⟩:=HC.out wk hk;go_simp;try rfl) ?_;replace J:=J.tl;try simp only [pN])
    clear J
    refine wpHold_one (i:=4) rfl (by kernel_rfl) (by rfl) (fun K hK=>?_)
    go_wp2_with (go_at_call 167;refine (Names.table9 a.table _ HA.out.fits.tl).mono ?_;rintro e w1 ⟨rfl,hw1⟩;rw [hw1,HT.out];clear hw1)
    refine hK.out _ _ (fun _=>grown_drew _ _) ?_
    clear hK K
    try simp only [pN]
    have J:Idx [5,6,7,8]:=trivial
    iterate 4 (refine tK J (grown_drew _ _) rfl rfl (fun wk hk=>by obtain ⟨q0,q1,q2,q3,q4,q5,q6,q7⟩:=HC.out wk hk;go_simp;try rfl) ?_;replace J:=J.tl;try simp only [pN])
    clear J
    refine wpHold_one (i:=9) rfl (by kernel_rfl) (by rfl) (fun K hK=>?_)
    go_wp2_with (go_at_call 168;refine (Names.value13 _ a.value _ (HA.out.value.grown (grown_trans HW.out (grown_drew _ _)))).mono ?_;rintro e w1 ⟨rfl,hw1⟩;rw [hw1,HU.out];clear hw1)
    refine hK.out _ _ (fun _=>grown_drew _ _) ?_
    clear hK K
    try simp only [pN]
    have J:Idx [10,11,12,13]:=trivial
    iterate 4 (refine tK J (grown_drew _ _) rfl rfl (fun wk hk=>by obtain ⟨q0,q1,q2,q3,q4,q5,q6,q7⟩:=HC.out wk hk;go_simp;try rfl) ?_;replace J:=J.tl;try simp only [pN])
    clear J
    refine wpHold_one (i:=14) rfl (by kernel_rfl) (by rfl) (fun K hK=>?_)
    go_wp2_with (go_at_call 168;refine (Names.value13 _ a.old _ (HA.out.old.grown (grown_trans HW.out (grown_drew _ _)))).mono ?_;rintro e w1 ⟨rfl,hw1⟩;rw [hw1,HO.out];clear hw1)
    refine hK.out _ _ (fun _=>grown_drew _ _) ?_
    clear hK K
    try simp only [pN]
    have J:Idx [15,16,17,18,19,20,21,22,23,24,25,26,27,28,29,30,31,32]:=trivial
    iterate 18 (refine tK J (grown_drew _ _) rfl rfl (fun wk hk=>by obtain ⟨q0,q1,q2,q3,q4,q5,q6,q7⟩:=HC.out wk hk;go_simp;try rfl) ?_;replace J:=J.tl;try simp only [pN])
    clear J
    have J:Idx [33,34,35,36]:=trivial
    iterate 4 (refine sk J (grown_drew _ _) rfl rfl ?_;replace J:=J.tl;try simp only [pN])
    clear J
    have J:Idx [37,38]:=trivial
    iterate 2 (refine tK J (grown_drew _ _) rfl rfl (fun wk hk=>by obtain ⟨q0,q1,q2,q3,q4,q5,q6,q7⟩:=HC.out wk hk;go_simp;try rfl) ?_;replace J:=J.tl;try simp only [pN])
    clear J
    refine wpHold_done (by kernel_rfl) ?_
    refine (‹∀(a:Act) (w:World),Code.wp Tryz.prog _ _ a w->_› _ _ ?_)
    go_wp2_with fail
    go_ret
    exact ⟨by rw [HR.out];rfl,grown_trans HW.out (grown_drew _ _)⟩
  ·have i0:((no:Int)==0)=false:=by simp [h0]
   have HR:Hid (R=false):=by rw [HM.out,HT.out,HU.out,HO.out];simp [h0,Hid]
   clear h0
   go_wp2_with fail
   refine wp_region_noPanic ?_
   refine wp_region_hold 1000 (fun x=>W1.grownBy x none) (by kernel_rfl) ?_
   have J:Idx [0,1,2,3]:=trivial
   iterate 4 (refine tK J (grown_drew _ _) rfl rfl (fun wk hk=>by obtain ⟨q0,q1,q2,q3,q4,q5,q6,q7⟩:=HC.out wk hk;go_simp;try rfl) ?_;replace J:=J.tl;try simp only [pN])
   clear J
   refine wpHold_one (i:=4) rfl (by kernel_rfl) (by rfl) (fun K hK=>?_)
   go_wp2_with (go_at_call 167;refine (Names.table9 a.table _ HA.out.fits.tl).mono ?_;rintro e w1 ⟨rfl,hw1⟩;rw [hw1,HT.out];clear hw1)
   refine hK.out _ _ (fun _=>grown_drew _ _) ?_
   clear hK K
   try simp only [pN]
   have J:Idx [5,6,7,8]:=trivial
   iterate 4 (refine tK J (grown_drew _ _) rfl rfl (fun wk hk=>by obtain ⟨q0,q1,q2,q3,q4,q5,q6,q7⟩:=HC.out wk hk;go_simp;try rfl) ?_;replace J:=J.tl;try simp only [pN])
   clear J
   refine wpHold_one (i:=9) rfl (by kernel_rfl) (by rfl) (fun K hK=>?_)
   go_wp2_with (go_at_call 168;refine (Names.value13 _ a.value _ (HA.out.value.grown (grown_trans HW.out (grown_drew _ _)))).mono ?_;rintro e w1 ⟨rfl,hw1⟩;rw [hw1,HU.out];clear hw1)
   refine hK.out _ _ (fun _=>grown_drew _ _) ?_
   clear hK K
   try simp only [pN]
   have J:Idx [10,11,12,13]:=trivial
   iterate 4 (refine tK J (grown_drew _ _) rfl rfl (fun wk hk=>by obtain ⟨q0,q1,q2,q3,q4,q5,q6,q7⟩:=HC.out wk hk;go_simp;try rfl) ?_;replace J:=J.tl;try simp only [pN])
   clear J
   refine wpHold_one (i:=14) rfl (by kernel_rfl) (by rfl) (fun K hK=>?_)
   go_wp2_with (go_at_call 168;refine (Names.value13 _ a.old _ (HA.out.old.grown (grown_trans HW.out (grown_drew _ _)))).mono ?_;rintro e w1 ⟨rfl,hw1⟩;rw [hw1,HO.out];clear hw1)
   refine hK.out _ _ (fun _=>grown_drew _ _) ?_
   clear hK K
   try simp only [pN]
   have J:Idx [15,16,17,18,19,20,21,22,23,24,25,26]:=trivial
   iterate 12 (refine tK J (grown_drew _ _) rfl rfl (fun wk hk=>by obtain ⟨q0,q1,q2,q3,q4,q5,q6,q7⟩:=HC.out wk hk;go_simp;try rfl) ?_;replace J:=J.tl;try simp only [pN])
   clear J
   have J:Idx [27,28,29,30]:=trivial
   iterate 4 (refine sk J (grown_drew _ _) rfl rfl ?_;replace J:=J.tl;try simp only [pN])
   clear J
   have J:Idx [31,32]:=trivial
   iterate 2 (refine tK J (grown_drew _ _) rfl rfl (fun wk hk=>by obtain ⟨q0,q1,q2,q3,q4,q5,q6,q7⟩:=HC.out wk hk;go_simp;try rfl) ?_;replace J:=J.tl;try simp only [pN])
   clear J
   have J:Idx [33,34,35,36]:=trivial
   iterate 4 (refine sk J (grown_drew _ _) rfl rfl ?_;replace J:=J.tl;try simp only [pN])
   clear J
   have J:Idx [37,38]:=trivial
   iterate 2 (refine tK J (grown_drew _ _) rfl rfl (fun wk hk=>by obtain ⟨q0,q1,q2,q3,q4,q5,q6,q7⟩:=HC.out wk hk;go_simp;try rfl) ?_;replace J:=J.tl;try simp only [pN])
   clear J
   refine wpHold_done (by kernel_rfl) ?_
   refine (‹∀(a:Act) (w:World),Code.wp Tryz.prog _ _ a w->_› _ _ ?_)
   go_wp2_with fail
   go_ret
   exact ⟨by rw [HR.out];rfl,grown_trans HW.out (grown_drew _ _)⟩
 | true =>
  by_cases h6:nt<=64
  ·have i6:(nt:Int)<=64:=by omega
   have HR:Hid (R=decide (a=named a)):=by rw [HM.out,HT.out,HU.out,HO.out];simp [h6,Hid]
   clear h6
   go_wp2_with fail
   refine wp_region_noPanic ?_
   refine wp_region_hold 1000 (fun x=>W1.grownBy x none) (by kernel_rfl) ?_
   have J:Idx [0,1,2,3]:=trivial
   iterate 4 (refine tK J (grown_drew _ _) rfl rfl (fun wk hk=>by obtain ⟨q0,q1,q2,q3,q4,q5,q6,q7⟩:=HC.out wk hk;go_simp;try rfl) ?_;replace J:=J.tl;try simp only [pN])
   clear J
   refine wpHold_one (i:=4) rfl (by kernel_rfl) (by rfl) (fun K hK=>?_)
   go_wp2_with (go_at_call 167;refine (Names.table9 a.table _ HA.out.fits.tl).mono ?_;rintro e w1 ⟨rfl,hw1⟩;rw [hw1,HT.out];clear hw1)
   refine hK.out _ _ (fun _=>grown_drew _ _) ?_
   clear hK K
   try simp only [pN]
   have J:Idx [5,6,7,8]:=trivial
   iterate 4 (refine tK J (grown_drew _ _) rfl rfl (fun wk hk=>by obtain ⟨q0,q1,q2,q3,q4,q5,q6,q7⟩:=HC.out wk hk;go_simp;try rfl) ?_;replace J:=J.tl;try simp only [pN])
   clear J
   refine wpHold_one (i:=9) rfl (by kernel_rfl) (by rfl) (fun K hK=>?_)
   go_wp2_with (go_at_call 168;refine (Names.value13 _ a.value _ (HA.out.value.grown (grown_trans HW.out (grown_drew _ _)))).mono ?_;rintro e w1 ⟨rfl,hw1⟩;rw [hw1,HU.out];clear hw1)
   refine hK.out _ _ (fun _=>grown_drew _ _) ?_
   clear hK K
   try simp only [pN]
   have J:Idx [10,11,12,13]:=trivial
   iterate 4 (refine tK J (grown_drew _ _) rfl rfl (fun wk hk=>by obtain ⟨q0,q1,q2,q3,q4,q5,q6,q7⟩:=HC.out wk hk;go_simp;try rfl) ?_;replace J:=J.tl;try simp only [pN])
   clear J
   refine wpHold_one (i:=14) rfl (by kernel_rfl) (by rfl) (fun K hK=>?_)
   go_wp2_with (go_at_call 168;refine (Names.value13 _ a.old _ (HA.out.old.grown (grown_trans HW.out (grown_drew _ _)))).mono ?_;rintro e w1 ⟨rfl,hw1⟩;rw [hw1,HO.out];clear hw1)
   refine hK.out _ _ (fun _=>grown_drew _ _) ?_
   clear hK K
   try simp only [pN]
   have J:Idx [15,16,17,18,19]:=trivial
   iterate 5 (refine tK J (grown_drew _ _) rfl rfl (fun wk hk=>by obtain ⟨q0,q1,q2,q3,q4,q5,q6,q7⟩:=HC.out wk hk;go_simp;try rfl) ?_;replace J:=J.tl;try simp only [pN])
   clear J
   have J:Idx [20,21,22,23]:=trivial
   iterate 4 (refine sk J (grown_drew _ _) rfl rfl ?_;replace J:=J.tl;try simp only [pN])
   clear J
   have J:Idx [24,25,26,27,28,29,30,31,32,33,34]:=trivial
   iterate 11 (refine tK J (grown_drew _ _) rfl rfl (fun wk hk=>by obtain ⟨q0,q1,q2,q3,q4,q5,q6,q7⟩:=HC.out wk hk;go_simp;try rfl) ?_;replace J:=J.tl;try simp only [pN])
   clear J
   refine wpHold_one (i:=35) rfl (by kernel_rfl) (by rfl) (fun K hK=>?_)
   go_wp2_with (go_at_call 170;refine (named163_of _ _ _ _ _ a _ HX.out (HA.out.grown (grown_trans HW.out (grown_drew _ _)))).mono ?_)
   rintro e w1 ⟨k',v',ol',t',rfl,hs1,hg1⟩
   have HS1:Hid (OpSeg w1 k' v' ol' t' (named a)):=hs1
   have HG1:Hid (W1.grownBy w1 none):=grown_trans (grown_drew _ _) hg1
   clear hs1 hg1
   go_wp2_with fail
   refine hK.out _ _ (fun _=>HG1.out) ?_
   clear hK K
   try simp only [pN]
   refine wpHold_one (i:=36) rfl (by kernel_rfl) (by rfl) (fun K hK=>?_)
   go_wp2_with (go_at_call 169;refine (same72_of _ _ _ _ _ _ _ _ _ a (named a) _ HX.out (HA.out.grown (grown_trans HW.out HG1.out)) HS1.out).mono ?_)
   rintro e w2 ⟨rfl,hg2⟩
   have HG2:Hid (W1.grownBy w2 none):=grown_trans HG1.out hg2
   clear hg2
   go_wp2_with fail
   refine hK.out _ _ (fun _=>HG2.out) ?_
   clear hK K
   try simp only [pN]
   have J:Idx [37,38]:=trivial
   iterate 2 (refine tK J (HG2.out) rfl rfl (fun wk hk=>by obtain ⟨q0,q1,q2,q3,q4,q5,q6,q7⟩:=HC.out wk hk;go_simp;try rfl) ?_;replace J:=J.tl;try simp only [pN])
   clear J
   refine wpHold_done (by kernel_rfl) ?_
   refine (‹∀(a:Act) (w:World),Code.wp Tryz.prog _ _ a w->_› _ _ ?_)
   go_wp2_with fail
   go_ret
   exact ⟨by rw [HR.out];rfl,grown_trans HW.out HG2.out⟩
  ·have i6:((nt:Int)<=64)=False:=eq_false (by omega)
   have HR:Hid (R=false):=by rw [HM.out,HT.out,HU.out,HO.out];simp [h6,Hid]
   clear h6
   go_wp2_with fail
   refine wp_region_noPanic ?_
   refine wp_region_hold 1000 (fun x=>W1.grownBy x none) (by kernel_rfl) ?_
   have J:Idx [0,1,2,3]:=trivial
   iterate 4 (refine tK J (grown_drew _ _) rfl rfl (fun wk hk=>by obtain ⟨q0,q1,q2,q3,q4,q5,q6,q7⟩:=HC.out wk hk;go_simp;try rfl) ?_;replace J:=J.tl;try simp only [pN])
   clear J
   refine wpHold_one (i:=4) rfl (by kernel_rfl) (by rfl) (fun K hK=>?_)
   go_wp2_with (go_at_call 167;refine (Names.table9 a.table _ HA.out.fits.tl).mono ?_;rintro e w1 ⟨rfl,hw1⟩;rw [hw1,HT.out];clear hw1)
   refine hK.out _ _ (fun _=>grown_drew _ _) ?_
   clear hK K
   try simp only [pN]
   have J:Idx [5,6,7,8]:=trivial
   iterate 4 (refine tK J (grown_drew _ _) rfl rfl (fun wk hk=>by obtain ⟨q0,q1,q2,q3,q4,q5,q6,q7⟩:=HC.out wk hk;go_simp;try rfl) ?_;replace J:=J.tl;try simp only [pN])
   clear J
   refine wpHold_one (i:=9) rfl (by kernel_rfl) (by rfl) (fun K hK=>?_)
   go_wp2_with (go_at_call 168;refine (Names.value13 _ a.value _ (HA.out.value.grown (grown_trans HW.out (grown_drew _ _)))).mono ?_;rintro e w1 ⟨rfl,hw1⟩;rw [hw1,HU.out];clear hw1)
   refine hK.out _ _ (fun _=>grown_drew _ _) ?_
   clear hK K
   try simp only [pN]
   have J:Idx [10,11,12,13]:=trivial
   iterate 4 (refine tK J (grown_drew _ _) rfl rfl (fun wk hk=>by obtain ⟨q0,q1,q2,q3,q4,q5,q6,q7⟩:=HC.out wk hk;go_simp;try rfl) ?_;replace J:=J.tl;try simp only [pN])
   clear J
   refine wpHold_one (i:=14) rfl (by kernel_rfl) (by rfl) (fun K hK=>?_)
   go_wp2_with (go_at_call 168;refine (Names.value13 _ a.old _ (HA.out.old.grown (grown_trans HW.out (grown_drew _ _)))).mono ?_;rintro e w1 ⟨rfl,hw1⟩;rw [hw1,HO.out];clear hw1)
   refine hK.out _ _ (fun _=>grown_drew _ _) ?_
   clear hK K
   try simp only [pN]
   have J:Idx [15,16,17,18,19]:=trivial
   iterate 5 (refine tK J (grown_drew _ _) rfl rfl (fun wk hk=>by obtain ⟨q0,q1,q2,q3,q4,q5,q6,q7⟩:=HC.out wk hk;go_simp;try rfl) ?_;replace J:=J.tl;try simp only [pN])
   clear J
   have J:Idx [20,21,22,23]:=trivial
   iterate 4 (refine sk J (grown_drew _ _) rfl rfl ?_;replace J:=J.tl;try simp only [pN])
   clear J
   have J:Idx [24,25,26,27,28,29,30,31,32]:=trivial
   iterate 9 (refine tK J (grown_drew _ _) rfl rfl (fun wk hk=>by obtain ⟨q0,q1,q2,q3,q4,q5,q6,q7⟩:=HC.out wk hk;go_simp;try rfl) ?_;replace J:=J.tl;try simp only [pN])
   clear J
   have J:Idx [33,34,35,36]:=trivial
   iterate 4 (refine sk J (grown_drew _ _) rfl rfl ?_;replace J:=J.tl;try simp only [pN])
   clear J
   have J:Idx [37,38]:=trivial
   iterate 2 (refine tK J (grown_drew _ _) rfl rfl (fun wk hk=>by obtain ⟨q0,q1,q2,q3,q4,q5,q6,q7⟩:=HC.out wk hk;go_simp;try rfl) ?_;replace J:=J.tl;try simp only [pN])
   clear J
   refine wpHold_done (by kernel_rfl) ?_
   refine (‹∀(a:Act) (w:World),Code.wp Tryz.prog _ _ a w->_› _ _ ?_)
   go_wp2_with fail
   go_ret
   exact ⟨by rw [HR.out];rfl,grown_trans HW.out (grown_drew _ _)⟩
end Go.Proofs.YtanoabliahcbeaaGreat.Calls
