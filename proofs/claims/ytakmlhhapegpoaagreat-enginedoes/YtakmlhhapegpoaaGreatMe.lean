import Derived.Test.YtakmlhhapegpoaaGreatMcdAll
set_option maxHeartbeats 4000000
set_option maxRecDepth 100000
namespace Go.Proofs.YtakmlhhapegpoaaGreat
open Go.RowKit Disk Table
open Names (Str cmpL keyB valueB tabB)
def aboveD (q:Int × Int)(D:DB):Int:=if q.1<(lenD D:Int) then 2 else if q.2<(sizeD D:Int) then 3 else 0
theorem above49 {X:Nat->Prop}(b:Nat)(q:Int × Int)(D:DB)(hD:GoodD D)(w:World)(h:Eng X w b q D):Calls Tryz.prog 49 #[.pointer (some ⟨b,0,none⟩)] w fun e w'=>e=.returned (.int .i64 (aboveD q D))/\w.grownBy w' none:=by
 obtain ⟨A,hA⟩:∃A,aboveD q D=A:=⟨_,rfl⟩
 rw [hA]
 have HH:Hid (Eng X w b q D/\GoodD D):=⟨h,hD⟩
 have HC:Hid (∀y,w.grownBy y none->y.cell? ⟨b,0,none⟩=some (.int .i64 q.1)/\y.cell? ⟨b,1,none⟩=some (.int .i64 q.2)):=fun y hy=>by
  obtain ⟨m,hb,_⟩:=h
  have:=Blk.grown hb hy (by simp)
  exact ⟨this.cell 0,this.cell 1⟩
 obtain ⟨N,hN⟩:∃N,lenD D=N:=⟨_,rfl⟩
 obtain ⟨S,hS⟩:∃S,sizeD D=S:=⟨_,rfl⟩
 unfold aboveD at hA
 rw [hN,hS] at hA
 have HA:Hid ((if q.1<(N:Int) then (2:Int) else if q.2<(S:Int) then 3 else 0)=A/\lenD D=N/\sizeD D=S):=⟨hA,hN,hS⟩
 clear h hD hA hN hS
 go_enter Tryz.func49,Tryz.ntmps49
 go_wp2_with fail
 refine wp_region_noPanic ?_
 refine wp_region_hold 1000 (fun y=>w.grownBy y none) (by kernel_rfl) ?_
 have G0:Hid (w.grownBy w.drew none):=grown_drew _ _
 generalize w.drew=wd at G0 ⊢
 have J:Idx [0,2,3,4,5,6]:=trivial
 iterate 6 (refine tK J (G0.out) rfl rfl (fun wk hk=>by obtain ⟨m0,m1⟩:=HC.out wk hk;go_simp;try rfl) ?_;replace J:=J.tl;try simp only [pN])
 clear J
 refine wpHold_one (i:=1) rfl (by kernel_rfl) (by rfl) (fun K hK=>?_)
 go_wp2_with (go_at_call 19;refine (len19 b q D HH.out.2 wd (HH.out.1.grown G0.out)).mono ?_)
 rw [HA.out.2.1]
 rintro e w2 ⟨rfl,g2⟩
 have G2:Hid (w.grownBy w2 none):=grown_trans G0.out g2
 clear g2
 go_wp2_with fail
 refine hK.out _ _ (fun _=>G2.out) ?_
 clear hK K
 try simp only [pN]
 have J:Idx [7,8]:=trivial
 iterate 2 (refine tK J (G2.out) rfl rfl (fun wk hk=>by obtain ⟨m0,m1⟩:=HC.out wk hk;go_simp;try rfl) ?_;replace J:=J.tl;try simp only [pN])
 clear J
 refine wpHold_done (by kernel_rfl) ?_
 refine (‹∀(a:Act) (w:World),Code.wp Tryz.prog _ _ a w->_› _ _ ?_)
 by_cases c1:q.1<(N:Int)
 ·go_wp2_with fail
  go_ret
  exact ⟨by rw [<-HA.out.1,if_pos c1];rfl,G2.out⟩
 ·have C1:Hid (¬q.1<(N:Int)):=c1
  go_wp2_with fail
  refine wp_region_noPanic ?_
  refine wp_region_hold 1000 (fun y=>w.grownBy y none) (by kernel_rfl) ?_
  have G3:Hid (w.grownBy w2.drew none):=grown_trans G2.out (grown_drew _ _)
  generalize w2.drew=we at G3 ⊢
  have J:Idx [0,2,3,4,5,6]:=trivial
  iterate 6 (refine tK J (G3.out) rfl rfl (fun wk hk=>by obtain ⟨m0,m1⟩:=HC.out wk hk;go_simp;try rfl) ?_;replace J:=J.tl;try simp only [pN])
  clear J
  refine wpHold_one (i:=1) rfl (by kernel_rfl) (by rfl) (fun K hK=>?_)
  go_wp2_with (go_at_call 20;refine (size20 b q D HH.out.2 we (HH.out.1.grown G3.out)).mono ?_)
  rw [HA.out.2.2]
  rintro e w4 ⟨rfl,g4⟩
  have G4:Hid (w.grownBy w4 none):=grown_trans G3.out g4
  clear g4
  go_wp2_with fail
  refine hK.out _ _ (fun _=>G4.out) ?_
  clear hK K
  try simp only [pN]
  have J:Idx [7,8]:=trivial
  iterate 2 (refine tK J (G4.out) rfl rfl (fun wk hk=>by obtain ⟨m0,m1⟩:=HC.out wk hk;go_simp;try rfl) ?_;replace J:=J.tl;try simp only [pN])
  clear J
  refine wpHold_done (by kernel_rfl) ?_
  refine (‹∀(a:Act) (w:World),Code.wp Tryz.prog _ _ a w->_› _ _ ?_)
  by_cases c2:q.2<(S:Int)
  ·go_wp2_with fail
   go_ret
   exact ⟨by rw [<-HA.out.1,if_neg (by have:=C1.out;omega),if_pos c2];rfl,G4.out⟩
  ·have C2:Hid (¬q.2<(S:Int)):=c2
   go_wp2_with fail
   go_ret
   exact ⟨by rw [<-HA.out.1,if_neg (by have:=C1.out;omega),if_neg (by have:=C2.out;omega)];rfl,G4.out⟩
theorem copy9 (b m:Nat)(q:Int × Int)(w:World)(h:EngB w b q m):Calls Tryz.prog 9 #[.pointer (some ⟨b,0,none⟩)] w fun e w'=>∃c,e=.returned (.pointer (some ⟨c,0,none⟩))/\w.heap.size<=c/\EngB w' c q m/\w.grownBy w' none:=by
 have HB:Hid (EngB w b q m):=h
 have HC:Hid (∀y,w.grownBy y none->y.cell? ⟨b,0,none⟩=some (.int .i64 q.1)/\y.cell? ⟨b,1,none⟩=some (.int .i64 q.2)/\y.cell? ⟨b,2,none⟩=some (.map (some m))):=fun y hy=>by
  have:=Blk.grown h hy (by simp)
  exact ⟨this.cell 0,this.cell 1,this.cell 2⟩
 clear h
 go_enter Tryz.func9,Tryz.ntmps9
 go_wp2_with (go_at_call 31;refine (there31 b m q w HB.out).mono ?_;rintro e w1 ⟨rfl,hw⟩;rw [hw];clear hw)
 refine wp_region_noPanic ?_
 refine wp_region_hold 1000 (fun y=>w.grownBy y none) (by kernel_rfl) ?_
 have G0:Hid (w.grownBy w.drew none):=grown_drew _ _
 generalize w.drew=wd at G0 ⊢
 have J:Idx [0,1,2,3,4,5,6,7,8]:=trivial
 iterate 9 (refine tK J (G0.out) rfl rfl (fun wk hk=>by obtain ⟨m0,m1,m2⟩:=HC.out wk hk;go_simp;try rfl) ?_;replace J:=J.tl;try simp only [pN])
 clear J
 refine wpHold_one (i:=9) rfl (by kernel_rfl) (by rfl) (fun K hK=>?_)
 go_wp2_with fail
 obtain ⟨w3,hw3,H3⟩:=al wd #[.int .i64 q.1,.int .i64 q.2,.map (some m)] 64
 rw [hw3]
 clear hw3
 have G3:Hid (w.grownBy w3 none):=grown_trans G0.out H3.out.2.1
 refine hK.out _ _ (fun _=>G3.out) ?_
 clear hK K
 try simp only [pN]
 refine tK (i:=10) (l':=[]) trivial (G3.out) rfl rfl (fun wk hk=>by obtain ⟨m0,m1,m2⟩:=HC.out wk hk;go_simp;try rfl) ?_
 try simp only [pN]
 refine wpHold_done (by kernel_rfl) ?_
 refine (‹∀(a:Act) (w:World),Code.wp Tryz.prog _ _ a w->_› _ _ ?_)
 go_wp2_with fail
 go_ret
 exact ⟨_,rfl,G0.out.size,H3.out.1,G3.out⟩
end Go.Proofs.YtakmlhhapegpoaaGreat
