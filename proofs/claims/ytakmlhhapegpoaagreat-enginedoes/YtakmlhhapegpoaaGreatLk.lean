import Derived.Test.YtakmlhhapegpoaaGreatMtvAll
set_option maxHeartbeats 8000000
set_option maxRecDepth 100000
namespace Go.Proofs.YtakmlhhapegpoaaGreat
open Go.RowKit Disk Table
open Names (Str cmpL keyB valueB tabB)
open _root_.Go.Proofs.YtakmlhhapegpoaaGreat.Calls (POp POut PRes opV OpSeg mayOp Ops OpAt ops_at ops_open chk rds mayCall)
theorem outs_resN {w:World}{B rb:Nat}{v:Value}{l:List POut}{i j x y:Int}{a a':Option Addr}{n n' c c':Nat}(h:OutsN w B v l)(hr:Blk w rb 49 #[.int .i64 i,.int .i64 j,.slice a n c]):OutsN (((w.setCell ⟨rb,0,none⟩ (.int .i64 x)).setCell ⟨rb,1,none⟩ (.int .i64 y)).setCell ⟨rb,2,none⟩ (.slice a' n' c')) B v l :=
 ((h.off (grown_setCell _ _ _ _) hr (by decide) (by decide) (by decide)).off (grown_setCell _ _ _ _) (hr.store 0 (.int .i64 x)) (by decide) (by decide) (by decide)).off (grown_setCell _ _ _ _) ((hr.store 0 (.int .i64 x)).store 1 (.int .i64 y)) (by decide) (by decide) (by decide)
def LookE (q:Int × Int)(D:DB)(l:List POp)(w:World)(e:Ending)(w':World):Prop :=
 w.grownBy w' none/\((chk l≠0/\e=.returned (.tuple #[resV3 0 0 (.slice none 0 0),.int .i64 (chk l)])) ∨
  (chk l=0/\rds l=false/\e=.returned (.tuple #[resV3 0 0 (.slice none 0 0),.int .i64 2])) ∨
  (chk l=0/\rds l=true/\∃outs D',callD q D [] l=.ok (outs,D')/\∃v,e=.returned (.tuple #[resV3 0 0 v,.int .i64 0])/\OutsN w' w.heap.size v outs) ∨
  (chk l=0/\rds l=true/\∃c n,callD q D [] l=.error (c,n)/\e=.returned (.tuple #[resV3 c n (.slice none 0 0),.int .i64 0])))
theorem look26 {X:Nat->Prop}(b m:Nat)(q:Int × Int)(D:DB)(hD:DbQ q D)(v:Value)(l:List POp)(w:World)(hX:∀g,X g->g<w.heap.size)(hb:EngB w b q m)(hm:EM X w m D)(hv:Ops w v l):Calls Tryz.prog 26 #[.pointer (some ⟨b,0,none⟩),.agg #[v]] w (LookE q D l w):=by
 obtain ⟨ao,n,cap,rfl,hn,hn2,HV⟩:=ops_open hv
 have HH:Hid (DbQ q D/\(∀g,X g->g<w.heap.size)/\EngB w b q m/\EM X w m D):=⟨hD,hX,hb,hm⟩
 obtain ⟨C,hC⟩:∃C,chk l=C:=⟨_,rfl⟩
 have HC0:Hid (chk l=C):=hC
 clear hv hD hX hb hm hn hn2 hC
 go_enter Tryz.func26,Tryz.ntmps26
 go_wp2_with fail
 obtain ⟨w1,hw1,H1⟩:=al w #[.slice ao n cap] 37
 rw [hw1]
 clear hw1
 obtain ⟨w2,hw2,H2⟩:=al w1 #[.int .i64 0,.int .i64 0,.slice none 0 0] 49
 rw [hw2]
 clear hw2
 have s1:=H1.out.2.2
 obtain ⟨rb,hrb⟩:∃rb,w.heap.size+1=rb:=⟨_,rfl⟩
 have HB:Hid (w.grownBy w2 none/\Blk w2 rb 49 #[.int .i64 0,.int .i64 0,.slice none 0 0]/\Blk w2 w.heap.size 37 #[.slice ao n cap]/\w.heap.size<rb):=⟨grown_trans H1.out.2.1 H2.out.2.1,by rw [<-hrb,<-s1];exact H2.out.1,H1.out.1.grown H2.out.2.1 (by simp),by omega⟩
 rw [hrb]
 clear H1 H2 s1 hrb
 have c0:=HB.out.2.2.1.cell 0
 simp at c0
 go_wp2_with fail
 refine (refuses57 b m q (.slice ao n cap) l w2 (Blk.grown HH.out.2.2.1 HB.out.1 (by simp)) (HV.out.grown HB.out.1)).mono ?_
 rw [HC0.out]
 rintro e w3 ⟨rfl,g3⟩
 have G3:Hid (w.grownBy w3 none/\Blk w3 rb 49 #[.int .i64 0,.int .i64 0,.slice none 0 0]):=⟨grown_trans HB.out.1 g3,HB.out.2.1.grown g3 (by simp)⟩
 replace c0:=g3.cell c0 (by simp)
 clear g3
 by_cases hz:C=0
 ·subst hz
  obtain ⟨R,hR⟩:∃R,rds l=R:=⟨_,rfl⟩
  have HRD:Hid (rds l=R):=hR
  clear hR
  go_wp2_with fail
  refine (Calls.reads17 (.slice ao n cap) l w3 (HV.out.grown G3.out.1)).mono ?_
  rw [HRD.out]
  rintro e w4 ⟨rfl,g4⟩
  have G4:Hid (w.grownBy w4 none/\Blk w4 rb 49 #[.int .i64 0,.int .i64 0,.slice none 0 0]):=⟨grown_trans G3.out.1 g4,G3.out.2.grown g4 (by simp)⟩
  replace c0:=g4.cell c0 (by simp)
  clear g4
  cases R with
  | false =>
   have hr:=G4.out.2
   have f0:=hr.free 0
   have f1:=hr.free 1
   have f2:=hr.free 2
   have v0:=hr.cell 0
   have v1:=hr.cell 1
   have v2:=hr.cell 2
   simp at v0 v1 v2
   clear hr
   go_wp2_with fail
   refine bodyPost_ret (v:=_) (res26 rfl rfl (((G4.out.2.store 0 (.int .i64 0)).store 1 (.int .i64 0)).store 2 (.slice none 0 0))) rfl ?_
   exact ⟨grown_s3 G4.out.1 (by have:=HB.out.2.2.2;omega),.inr (.inl ⟨HC0.out,HRD.out,rfl⟩)⟩
  | true =>
   go_wp2_with fail
   refine (behind59 (X:=X) b m q D HH.out.1 (.slice ao n cap) l (chk_may HC0.out).1 (by have:=(chk_may HC0.out).2.2;omega) w4 (fun g hg=>by have:=HH.out.2.1 g hg;have:=G4.out.1.size;omega) (Blk.grown HH.out.2.2.1 G4.out.1 (by simp)) (HH.out.2.2.2.grown G4.out.1) (HV.out.grown G4.out.1)).mono ?_
   rintro e w5 ⟨g5,⟨outs,D1,hcall,hdb,db,u,rfl,hdbl,hE,hO⟩ | ⟨c,k,hcall,db,rfl,hdbl,hE⟩⟩
   ·obtain ⟨au,nu,cu,rfl,_,_,_⟩:=hO.shape
    have H5:Hid (callD q D [] l=.ok (outs,D1)/\OutsN w5 w.heap.size (.slice au nu cu) outs/\w.grownBy w5 none/\Blk w5 rb 49 #[.int .i64 0,.int .i64 0,.slice none 0 0]):=⟨hcall,hO.mono G4.out.1.size,grown_trans G4.out.1 g5,G4.out.2.grown g5 (by simp)⟩
    clear hcall hdb hdbl hE hO g5
    unfold ptr
    obtain ⟨w6,hw6,H6⟩:=al w5 #[.int .i64 0,.int .i64 0,.slice au nu cu] 49
    have hr:=H5.out.2.2.2.grown H6.out.2.1 (by simp)
    have HR6:Hid (Blk w6 rb 49 #[.int .i64 0,.int .i64 0,.slice none 0 0]):=hr
    have k0:=H6.out.1.cell 0
    have k1:=H6.out.1.cell 1
    have k2:=H6.out.1.cell 2
    have f0:=hr.free 0
    have f1:=hr.free 1
    have f2:=hr.free 2
    have v0:=hr.cell 0
    have v1:=hr.cell 1
    have v2:=hr.cell 2
    simp at k0 k1 k2 v0 v1 v2
    clear hr
    go_wp2_with fail
    refine bodyPost_ret (v:=_) (res26 rfl rfl (((HR6.out.store 0 (.int .i64 0)).store 1 (.int .i64 0)).store 2 (.slice au nu cu))) rfl ?_
    exact ⟨grown_s3 (grown_trans H5.out.2.2.1 H6.out.2.1) (by have:=HB.out.2.2.2;omega),.inr (.inr (.inl ⟨HC0.out,HRD.out,outs,D1,H5.out.1,_,rfl,outs_resN (H5.out.2.1.grown H6.out.2.1) HR6.out⟩))⟩
   ·have H5:Hid (callD q D [] l=.error (c,k)/\w.grownBy w5 none/\Blk w5 rb 49 #[.int .i64 0,.int .i64 0,.slice none 0 0]):=⟨hcall,grown_trans G4.out.1 g5,G4.out.2.grown g5 (by simp)⟩
    clear hcall hdbl hE g5
    unfold ptr
    have hr:Blk (w5.alloc (.cells #[.int .i64 c,.int .i64 (k:Int),.slice none 0 0] 49)) rb 49 #[.int .i64 0,.int .i64 0,.slice none 0 0]:=H5.out.2.2.grown (World.grownBy_alloc _ _ none) (by simp)
    have HR6:Hid (Blk (w5.alloc (.cells #[.int .i64 c,.int .i64 (k:Int),.slice none 0 0] 49)) rb 49 #[.int .i64 0,.int .i64 0,.slice none 0 0]):=hr
    have f0:=hr.free 0
    have f1:=hr.free 1
    have f2:=hr.free 2
    have v0:=hr.cell 0
    have v1:=hr.cell 1
    have v2:=hr.cell 2
    simp only [List.getElem?_toArray,List.getElem?_cons_zero,List.getElem?_cons_succ] at v0 v1 v2
    clear hr
    go_wp2_with fail
    refine bodyPost_ret (v:=_) (res26 rfl rfl (((HR6.out.store 0 (.int .i64 c)).store 1 (.int .i64 (k:Int))).store 2 (.slice none 0 0))) rfl ?_
    exact ⟨grown_s3 (grown_trans H5.out.2.1 (World.grownBy_alloc _ _ none)) (by have:=HB.out.2.2.2;omega),.inr (.inr (.inr ⟨HC0.out,HRD.out,c,k,H5.out.1,rfl⟩))⟩
 ·have HZ:Hid (C≠0):=hz
  have a0:(C==0)=false:=by simpa using hz
  have a1:(C=0)=False:=by simpa using hz
  clear hz
  have hr:=G3.out.2
  have f0:=hr.free 0
  have f1:=hr.free 1
  have f2:=hr.free 2
  have v0:=hr.cell 0
  have v1:=hr.cell 1
  have v2:=hr.cell 2
  simp at v0 v1 v2
  clear hr
  go_wp2_with fail
  refine bodyPost_ret (v:=_) (res26 rfl rfl (((G3.out.2.store 0 (.int .i64 0)).store 1 (.int .i64 0)).store 2 (.slice none 0 0))) rfl ?_
  exact ⟨grown_s3 G3.out.1 (by have:=HB.out.2.2.2;omega),.inl ⟨by rw [HC0.out];exact HZ.out,by rw [HC0.out];rfl⟩⟩
end Go.Proofs.YtakmlhhapegpoaaGreat
