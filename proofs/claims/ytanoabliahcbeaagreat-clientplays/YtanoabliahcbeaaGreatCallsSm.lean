import Derived.Test.YtanoabliahcbeaaGreatCbcAll
set_option maxHeartbeats 8000000
set_option maxRecDepth 100000
namespace Go.Proofs.YtanoabliahcbeaaGreat.Calls
open Go.RowKit Disk
open Names (Str)
theorem same19 (a b:Value)(A B:List POp)(w:World)(ha:Ops w a A)(hb:Ops w b B) :
  Calls Tryz.prog 94 #[.agg #[a],.agg #[b]] w fun e w'=>e=.returned (.bool (decide (A=B)))/\w.grownBy w' none:=by
 obtain ⟨ao,n,ca,rfl,hna,la,HA⟩:=ops_open ha
 obtain ⟨bo,m,cb,rfl,hnb,lb,HB⟩:=ops_open hb
 have HN:Hid (A.length=n/\B.length=m):=And.intro hna hnb
 clear ha hb hna hnb
 obtain ⟨W0,hW0⟩:∃W,W=(w.alloc (.cells #[.slice ao n ca] 35)).alloc (.cells #[.slice bo m cb] 35):=⟨_,rfl⟩
 have HG:Hid (w.grownBy W0 none/\Blk W0 w.heap.size 35 #[.slice ao n ca]/\Blk W0 (w.heap.size+1) 35 #[.slice bo m cb]):=by
  rw [hW0]
  refine ⟨grown_trans (World.grownBy_alloc _ _ none) (World.grownBy_alloc _ _ none),Blk.grown (heap_alloc_new w _) (World.grownBy_alloc _ _ none) (by simp),?_⟩
  have:=heap_alloc_new (w.alloc (.cells #[.slice ao n ca] 35)) (.cells #[.slice bo m cb] 35)
  simpa [Blk] using this
 have HW:Hid (W0=_):=hW0
 by_cases hnm:n=m
 ·subst hnm
  go_enter Tryz.func94,Tryz.ntmps94
  go_wp2_with fail
  rw [<-hW0]
  clear hW0
  go_loopw [5] (fun i wr=>∃k:Nat,k<=n/\i=.int .i64 k/\W0.grownBy wr none/\Hid ((A.drop k=B.drop k)<->A=B)) (fun i _=>n-(intOf i).toNat)
  case atStart=>exact ⟨0,by omega,rfl,grown_refl _ _,by simp [Hid]⟩
  case round =>
   obtain ⟨k,hk,rfl,hg,hinv⟩:=hrel
   have c0:=(HG.out.2.1.grown hg (by simp)).cell 0
   by_cases hlt:k<n
   ·have hka:k<A.length:=by rw [HN.out.1];omega
    have hkb:k<B.length:=by rw [HN.out.2];omega
    obtain ⟨b1,o1,k1,x1,ol1,t1,rfl,h1,s1⟩:=ops_at (HA.out.grown (grown_trans HG.out.1 hg)) k hka
    obtain ⟨b2,o2,k2,x2,ol2,t2,rfl,h2,s2⟩:=ops_at (HB.out.grown (grown_trans HG.out.1 hg)) k hkb
    have HE:Hid _:=(drop_eq hka hkb)
    obtain ⟨oa,hoa⟩:∃o,o=A[k]:=⟨_,rfl⟩
    obtain ⟨ob,hob⟩:∃o,o=B[k]:=⟨_,rfl⟩
    rw [<-hoa] at h1 s1
    rw [<-hob] at h2 s2
    have HO:Hid (oa=A[k]/\ob=B[k]):=And.intro hoa hob
    clear hoa hob
    obtain ⟨_,_,_,_,_,_,_,_,rfl,rfl,rfl,rfl⟩:=s1.shapes
    obtain ⟨_,_,_,_,_,_,_,_,rfl,rfl,rfl,rfl⟩:=s2.shapes
    have HS:Hid _:=And.intro s1 s2
    have HC:Hid (∀x:World,wr.grownBy x none->x.cell? ⟨w.heap.size,0,none⟩=some (.slice (some ⟨b1,o1,none⟩) n ca)/\x.cell? ⟨w.heap.size+1,0,none⟩=some (.slice (some ⟨b2,o2,none⟩) n cb)/\OpAt x b1 (o1+k*8) oa _ _ _ _/\OpAt x b2 (o2+k*8) ob _ _ _ _):=fun x hx=>⟨((HG.out.2.1.grown hg (by simp)).grown hx (by simp)).cell 0,((HG.out.2.2.grown hg (by simp)).grown hx (by simp)).cell 0,h1.grown hx,h2.grown hx⟩
    have i1:(0:Int)<=(k:Int):=by omega
    have i2:(k:Int)<(n:Int):=by omega
    have HGr:Hid (W0.grownBy wr none):=hg
    clear s1 s2 h1 h2 hg
    go_wp2_with fail
    clear c0
    refine wp_region_noPanic ?_
    refine wp_region_hold 1000 (fun x=>wr.grownBy x none) (by kernel_rfl) ?_
    have J:Idx [0,1,2,3,4,5,6,7,8,9]:=trivial
    iterate 10 (refine tK J (grown_drew _ _) rfl rfl (fun wk hk=>by obtain ⟨q0,q1,⟨r0,r1,r2,r3,r4,r5,r6,r7⟩,⟨s0,s1,s2,s3,s4,s5,s6,s7⟩⟩:=HC.out wk hk;unfold Str at r1 s1;go_simp;try rfl) ?_;replace J:=J.tl;try simp only [pN])
    clear J
    refine wpHold_one (i:=10) rfl (by kernel_rfl) (by rfl) (fun K hK=>?_)
    go_wp2_with (go_at_call 125;refine (sameop43 _ _ _ _ _ _ _ _ oa ob _ (OpSeg.grown HS.out.1 (grown_drew _ _)) (OpSeg.grown HS.out.2 (grown_drew _ _))).mono ?_)
    rintro e w1 ⟨rfl,hg1⟩
    have HG1:Hid (wr.grownBy w1 none):=grown_trans (grown_drew _ _) hg1
    clear hg1
    go_wp2_with fail
    refine hK.out _ _ (fun _=>HG1.out) ?_
    clear hK K
    try simp only [pN]
    refine tK (i:=11) (l':=[]) trivial (HG1.out) rfl rfl (fun wk hk=>by obtain ⟨q0,q1,⟨r0,r1,r2,r3,r4,r5,r6,r7⟩,⟨s0,s1,s2,s3,s4,s5,s6,s7⟩⟩:=HC.out wk hk;unfold Str at r1 s1;go_simp;try rfl) ?_
    try simp only [pN]
    refine wpHold_done (by kernel_rfl) ?_
    refine (‹∀(a:Act) (w:World),Code.wp Tryz.prog _ _ a w->_› _ _ ?_)
    by_cases hab:oa=ob
    ·simp only [hab,decide_true,Bool.not_true]
     go_wp2_with fail
     go_roundw
     case rel=>exact ⟨k+1,by omega,by go_num,grown_trans HGr.out HG1.out,by rw [<-hinv.out,HE.out,<-HO.out.1,<-HO.out.2,hab];simp [Hid]⟩
     case measure=>simp [intOf];omega
    ·simp only [hab,decide_false,Bool.not_false]
     go_wp2_with fail
     go_ret
     refine ⟨?_,grown_trans HG.out.1 (grown_trans HGr.out HG1.out)⟩
     have:¬A=B:=by rw [<-hinv.out,HE.out,<-HO.out.1,<-HO.out.2];exact fun h=>hab h.1
     simp [this]
   ·have e:k=n:=by omega
    subst e
    go_wp2_with fail
    go_ret
    refine ⟨?_,grown_trans HG.out.1 hg⟩
    have:A=B:=by rw [<-hinv.out,List.drop_eq_nil_of_le (by rw [HN.out.1];omega),List.drop_eq_nil_of_le (by rw [HN.out.2];omega)]
    simp [this]
 ·have q:((n:Int) != (m:Int))=true:=by simp;omega
  clear hW0
  go_enter Tryz.func94,Tryz.ntmps94
  go_wp2_with fail
  go_ret
  have:¬A=B:=fun h=>hnm (by rw [<-HN.out.1,<-HN.out.2,h])
  exact ⟨by simp [this],grown_trans (World.grownBy_alloc _ _ none) (World.grownBy_alloc _ _ none)⟩
end Go.Proofs.YtanoabliahcbeaaGreat.Calls
