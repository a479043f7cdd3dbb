import Derived.Test.YtadhfejefpildaaGreatEh
set_option maxHeartbeats 2000000
set_option maxRecDepth 100000
namespace Go.Proofs.YtadhfejefpildaaGreat
open Go.RowKit Disk
open Go.Proofs.YtadhfejefpildaaGreat.Calls
open Go.Proofs.YtadhfejefpildaaGreat.Command
open Go.Proofs.YtadhfejefpildaaGreat.Frame (Frs)
theorem rec9 (o1:Option Addr)(o2 o3:Nat)(n:Int)(c:PCmd)(w:World)(h:Ops w (.slice o1 o2 o3) c.ops)(hI:InC c)(hok:okE (n,c)=true):Calls Tryz.prog 9 #[entV (.slice o1 o2 o3) (n,c)] w fun e w'=>∃u,e=.returned u/\Disk.Own w' w.heap.size u (Frame.frm 1 (bt (n,c)))/\w.grownBy w' none:=by
 have H0:Hid (Ops w (.slice o1 o2 o3) c.ops/\InC c/\okE (n,c)=true/\1<=n/\n<=4611686018427387904/\okC c=true):=⟨h,hI,hok,bZ.1 hok⟩
 clear h hI hok
 unfold entV entA
 go_enter Tryz.func9,Tryz.ntmps9
 go_upto_region 1 with fail
 obtain ⟨W,hW,HW⟩:=al1 w #[.int .i64 n,.int .i64 c.kind,.int .i64 c.token,.int .i64 c.session,.int .i64 c.number,.int .i64 c.mark,.slice o1 o2 o3] 34
 rw [hW]
 clear hW
 obtain ⟨c0,c1,c2,c3,c4,c5,c6⟩:=blk7 HW.out.1
 have hwr:IntKind.u64.wrap n=n:=by
  have:=H0.out
  unfold IntKind.wrap
  simp [IntKind.bits,IntKind.signed]
  omega
 go_wp2_with fail
 refine (Wire.dP n n.toNat (by have:=H0.out;omega) (by have:=H0.out;omega) _).mono ?_
 rintro e w1 ⟨v,rfl,ov,g1⟩
 obtain ⟨va,vn,vc,ev⟩:=Calls.aB ov
 subst ev
 have H1:Hid (w.grownBy w1 none/\Disk.Own w1 W.heap.size (.slice va vn vc) (Wire.ai n.toNat)/\Blk w1 w.heap.size 34 #[.int .i64 n,.int .i64 c.kind,.int .i64 c.token,.int .i64 c.session,.int .i64 c.number,.int .i64 c.mark,.slice o1 o2 o3]):=⟨aa HW.out.2.1 g1,ov,HW.out.1.grown g1 (by simp)⟩
 clear ov g1 c0 c1 c2 c3 c4 c5 c6 hwr
 obtain ⟨c0,c1,c2,c3,c4,c5,c6⟩:=blk7 H1.out.2.2
 go_wp2_with fail
 refine (gC (.slice o1 o2 o3) c w1 (H0.out.1.grown H1.out.1) H0.out.2.1 H0.out.2.2.2.2.2).mono ?_
 rintro e w2 ⟨u,rfl,ou,g2⟩
 obtain ⟨ua,un,uc,eu⟩:=Calls.aB ou
 subst eu
 have H2:Hid (w.grownBy w2 none/\Disk.Own w2 W.heap.size (.slice va vn vc) (Wire.ai n.toNat)/\Seg w2 (.slice ua un uc) (aS c)/\W.heap.size<=w2.heap.size):=⟨aa H1.out.1 g2,H1.out.2.1.grown g2,ou.seg,by have:=g2.size;have h9:=H1.out.2.2.lt;have:=HW.out.2.2;omega⟩
 clear ou g2 c0 c1 c2 c3 c4 c5 c6 H1
 have HLN:Hid ((Wire.ai n.toNat).length<=10/\(aS c).length<=5000/\(bt (n,c)).length<=5010):=⟨Wire.ay _ (by have:=H0.out;omega),fZ H0.out.2.2.2.2.2 H0.out.2.1,eP H0.out.2.2.1 H0.out.2.1⟩
 go_wp2_with (at_builtin;refine bH w2 rfl _ _ rfl W.heap.size (.slice va vn vc) (Wire.ai n.toNat) (.slice ua un uc) (aS c) rfl rfl H2.out.2.1 H2.out.2.2.1 (by have:=HLN.out;omega) H2.out.2.2.2 ?_)
 intro v' w3 o3' g3 h3
 have o4:Disk.Own w3 W.heap.size v' (bt (n,c)):=o3'
 obtain ⟨xa,xn,xc,ex⟩:=Calls.aB o4
 subst ex
 have H3:Hid (w.grownBy w3 none/\Disk.Own w3 W.heap.size (.slice xa xn xc) (bt (n,c))):=⟨ah H2.out.1 g3 (fun y hy=>by have:=(H2.out.2.1.lt y hy).1;have:=HW.out.2.2;omega),o4⟩
 clear o3' g3 h3 o4
 go_wp2_with fail
 refine (Frame.fM 1 _ (bt (n,c)) w3 (by decide) H3.out.2.seg (by have:=HLN.out;omega)).mono ?_
 rintro e w4 ⟨y,rfl,oy,g4⟩
 have H4:Hid (Disk.Own w4 w.heap.size y (Frame.frm 1 (bt (n,c)))/\w.grownBy w4 none):=⟨oy.mono H3.out.1.size,aa H3.out.1 g4⟩
 obtain ⟨ya,yn,yc,ey⟩:=Calls.aB oy
 subst ey
 clear oy g4
 go_wp2_with fail
 go_ret
 exact ⟨_,rfl,H4.out⟩
structure EntsA (w:World)(v:Value)(E:List PEnt):Prop where
 ents:Ents w v E
 inn:∀e ∈ E,InC e.2
 few:E.length<=1048576
theorem EntsA.grown {w w':World}{v:Value}{E:List PEnt}(h:EntsA w v E)(hg:w.grownBy w' none):EntsA w' v E:=⟨h.ents.grown hg,h.inn,h.few⟩
theorem jB.grown {w w':World}{b off:Nat}{o1:Option Addr}{o2 o3:Nat}{e:PEnt}(h:jB w b off o1 o2 o3 e)(hg:w.grownBy w' none):jB w' b off o1 o2 o3 e:=by
 obtain ⟨g0,g1,g2,g3,g4,g5,g6⟩:=h
 exact ⟨hg.cell g0 (by simp),hg.cell g1 (by simp),hg.cell g2 (by simp),hg.cell g3 (by simp),hg.cell g4 (by simp),hg.cell g5 (by simp),hg.cell g6 (by simp)⟩
theorem jc {E:List PEnt}{k:Nat}(h:k<E.length)(ha:(E.take k).all okE=true)(hk:okE E[k]=true):(E.take (k+1)).all okE=true:=by
 rw [List.take_succ_eq_append_getElem h,List.all_append,ha]
 simp [hk]
theorem jC {x:Int}(h0:0<=x)(h1:x<=4611686018427387904):IntKind.i64.wrap x=x:=by
 unfold IntKind.wrap
 simp [IntKind.bits,IntKind.signed]
 omega
end Go.Proofs.YtadhfejefpildaaGreat
