import Derived.Test.YtadhfejefpildaaGreatGb
set_option maxHeartbeats 4000000
set_option maxRecDepth 100000
namespace Go.Proofs.YtadhfejefpildaaGreat
open Go.RowKit Disk
open Go.Proofs.YtadhfejefpildaaGreat.Calls
open Go.Proofs.YtadhfejefpildaaGreat.Command
theorem jV (u v:Value)(E:List PEnt)(w:World)(ha:Ents w u E)(hb:Ents w v E)(hE:E.length<=4398046511104):Calls Tryz.prog 51 #[u,v] w fun e w'=>e=.returned (.bool true)/\w.grownBy w' none:=by
 obtain ⟨ao,ac,ea,_⟩:=id ha
 obtain ⟨bo,bc,eb,_⟩:=id hb
 obtain ⟨n,hn⟩:∃n,E.length=n:=⟨_,rfl⟩
 rw [hn] at ea eb hE
 subst ea
 subst eb
 have HS:Hid (Ents w (.slice ao n ac) E/\Ents w (.slice bo n bc) E/\E.length=n):=⟨ha,hb,hn⟩
 clear ha hb hn
 go_enter Tryz.func51,Tryz.ntmps51
 go_wp2_with fail
 go_loopw [5] (fun t wr=>∃k:Nat,t=.int .i64 (k:Int)/\k<=n/\Hid (w.grownBy wr none)) (fun t _=>n-(intOf t).toNat)
 case atStart=>exact ⟨0,rfl,Nat.zero_le _,rfl,rfl,rfl,Nat.le_refl _,fun _ _ _=>rfl⟩
 case round =>
  obtain ⟨k,rfl,hk,HI⟩:=hrel
  by_cases hlt:k<n
  ·have hkE:k<E.length:=by rw [HS.out.2.2];exact hlt
   obtain ⟨ga,oa,p1,p2,p3,rfl,hea,hpa⟩:=dZ (HS.out.1.grown HI.out) k hkE
   obtain ⟨gb,ob,q1,q2,q3,rfl,heb,hpb⟩:=dZ (HS.out.2.1.grown HI.out) k hkE
   obtain ⟨en,hen⟩:∃x,E[k]=x:=⟨_,rfl⟩
   rw [hen] at hea heb hpa hpb
   have HP:Hid (Ops wr (.slice p1 p2 p3) en.2.ops/\Ops wr (.slice q1 q2 q3) en.2.ops):=⟨hpa,hpb⟩
   have HC:Hid (∀y:World,wr.grownBy y none->jB y ga (oa+k*7) p1 p2 p3 en/\jB y gb (ob+k*7) q1 q2 q3 en):=fun y hy=>⟨⟨hy.cell hea.1 (by simp),hy.cell hea.2.1 (by simp),hy.cell hea.2.2.1 (by simp),hy.cell hea.2.2.2.1 (by simp),hy.cell hea.2.2.2.2.1 (by simp),hy.cell hea.2.2.2.2.2.1 (by simp),hy.cell hea.2.2.2.2.2.2 (by simp)⟩,⟨hy.cell heb.1 (by simp),hy.cell heb.2.1 (by simp),hy.cell heb.2.2.1 (by simp),hy.cell heb.2.2.2.1 (by simp),hy.cell heb.2.2.2.2.1 (by simp),hy.cell heb.2.2.2.2.2.1 (by simp),hy.cell heb.2.2.2.2.2.2 (by simp)⟩⟩
   have i0:(0:Int)<=(k:Int):=by omega
   have i1:(k:Int)<(n:Int):=by omega
   have s8:(en.1 != en.1)=false:=by simp
   clear hea heb hpa hpb hen
   go_upto_region 6 with fail
   refine wp_region_noPanic ?_
   refine am 1000 (fun y=>wr.grownBy y none) (by kernel_rfl) ?_
   have G0:Hid (wr.grownBy wr.drew none):=af _ _
   generalize wr.drew=wd at G0 ⊢
   have J:Idx [0,1,2,3,4,5,6,7,8,9,10,11,12,13,14,15,16,17,18,19,20,21]:=trivial
   iterate 22 (refine tK J (G0.out) rfl rfl (fun wk hk=>by obtain ⟨⟨m0,m1,m2,m3,m4,m5,m6⟩,⟨n0,n1,n2,n3,n4,n5,n6⟩⟩:=HC.out wk hk;go_simp;try rfl) ?_;replace J:=J.tl;try simp only [pN])
   refine wO 22 rfl fun K hK=>?_
   go_wp2_with fail
   refine (uQ (.slice p1 p2 p3) (.slice q1 q2 q3) en.2 en.2 wd (HP.out.1.grown G0.out) (HP.out.2.grown G0.out)).mono ?_
   rintro e w2 ⟨rfl,g2'⟩
   have G2:Hid (wr.grownBy w2 none):=aa G0.out g2'
   clear g2'
   go_wp2_with fail
   refine hK.out _ _ (fun _=>G2.out) ?_
   clear hK K
   try simp only [pN]
   have J:Idx [23,24]:=trivial
   iterate 2 (refine tK J (G2.out) rfl rfl (fun wk hk=>by obtain ⟨⟨m0,m1,m2,m3,m4,m5,m6⟩,⟨n0,n1,n2,n3,n4,n5,n6⟩⟩:=HC.out wk hk;go_simp;try rfl) ?_;replace J:=J.tl;try simp only [pN])
   refine wD ?_
   refine (‹∀(a:Act) (w:World),Code.wp Tryz.prog _ _ a w->_› _ _ ?_)
   go_wp2_with fail
   exact ⟨⟨k+1,by go_num,by omega,aa HI.out G2.out⟩,by simp [intOf];omega⟩
  ·go_wp2_with fail
   exact bodyPost_ret (v:=.bool true) (by simp [results,Tryz.results51]) rfl ⟨rfl,HI.out⟩
theorem ll (u v:Value)(E:List PEnt)(g n y:Int)(w:World)(ha:Ents w u E)(hb:Ents w v E)(hE:E.length<=4398046511104):Calls Tryz.prog 18 #[.agg #[u,.int .i64 g,.int .i64 n,.int .i64 y],.agg #[v,.int .i64 g,.int .i64 n,.int .i64 y]] w fun e w'=>e=.returned (.bool true)/\w.grownBy w' none:=by
 obtain ⟨ao,ac,ea,_⟩:=id ha
 obtain ⟨bo,bc,eb,_⟩:=id hb
 obtain ⟨m,hm⟩:∃m,E.length=m:=⟨_,rfl⟩
 rw [hm] at ea eb
 subst ea
 subst eb
 have HS:Hid (Ents w (.slice ao m ac) E/\Ents w (.slice bo m bc) E/\E.length<=4398046511104):=⟨ha,hb,hE⟩
 clear ha hb hm hE
 go_enter Tryz.func18,Tryz.ntmps18
 obtain ⟨w1,hw1,H1⟩:=al1 w #[.slice ao m ac,.int .i64 g,.int .i64 n,.int .i64 y] 38
 obtain ⟨w2,hw2,H2⟩:=al1 w1 #[.slice bo m bc,.int .i64 g,.int .i64 n,.int .i64 y] 38
 go_upto_region 1 with fail
 try rw [hw1]
 try rw [hw2]
 clear hw1 hw2
 obtain ⟨x0,x1,x2,x3⟩:=blk4 (H1.out.1.grown H2.out.2.1 (by simp))
 obtain ⟨y0,y1,y2,y3⟩:=blk4 H2.out.1
 go_wp2_with fail
 refine (jV _ _ E w2 ((HS.out.1.grown H1.out.2.1).grown H2.out.2.1) ((HS.out.2.1.grown H1.out.2.1).grown H2.out.2.1) HS.out.2.2).mono ?_
 rintro e w3 ⟨rfl,g3⟩
 have HG:Hid (w.grownBy w3 none):=aa (aa H1.out.2.1 H2.out.2.1) g3
 have a1:=g3.cell x1 (by simp)
 have a2:=g3.cell x2 (by simp)
 have a3:=g3.cell x3 (by simp)
 have b1:=g3.cell y1 (by simp)
 have b2:=g3.cell y2 (by simp)
 have b3:=g3.cell y3 (by simp)
 clear g3 x0 x1 x2 x3 y0 y1 y2 y3
 go_wp2_with fail
 exact bodyPost_ret (v:=.bool true) (by simp [results,Tryz.results18]) rfl ⟨rfl,HG.out⟩
end Go.Proofs.YtadhfejefpildaaGreat
