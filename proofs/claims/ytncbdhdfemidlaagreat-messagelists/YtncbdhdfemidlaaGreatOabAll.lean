import Derived.Test.YtncbdhdfemidlaaGreatNh
set_option maxHeartbeats 4000000
set_option maxRecDepth 100000
namespace Go.Proofs.YtncbdhdfemidlaaGreat
open Go.RowKit Disk
open _root_.Go.Proofs.YtncbdhdfemidlaaGreat.Calls _root_.Go.Proofs.YtncbdhdfemidlaaGreat.Command
theorem over14_some (B g cap:Nat)(L:Bs)(w:World)(h:Own w B (.slice (some ⟨g,0,none⟩) L.length cap) L)(hz:L.length<=140737488355328) :
  Calls Tryz.prog 14 #[.slice (some ⟨g,0,none⟩) L.length cap] w fun e w'=>e=.returned (.tuple #[])/\w.grownBy w' (some g)/\∃L',Own w' B (.slice (some ⟨g,0,none⟩) L.length cap) L'/\L'.length=L.length:=by
 have hlen:L.length<=140737488355328:=hz
 clear hz
 go_enter Tryz.func14,Tryz.ntmps14
 go_wp2
 go_loopw [2] (fun i wr=>∃(k:Nat) (M:List UInt8),k<=L.length/\M.length=L.length/\i=.int .i64 k/\Own wr B (.slice (some ⟨g,0,none⟩) L.length cap) M/\w.grownBy wr (some g)) (fun i _=>L.length-(intOf i).toNat)
 case atStart=>exact ⟨0,L,by omega,rfl,rfl,h,grown_refl _ _⟩
 case round =>
  obtain ⟨k,M,hk,HM,rfl,hown,hg⟩:=hrel
  have HM':Hid _:=HM
  clear HM
  by_cases hlt:k<L.length
  ·have hc:∃y,wr.cell? ⟨g,k,none⟩=some y:=by
    obtain ⟨ao,cap',hv,_,_,_,h4⟩:=hown.seg
    obtain ⟨b,off,e,hc⟩:=h4 k (by rw [HM'.out];exact hlt)
    simp at hv;rw [e] at hv;simp at hv
    obtain ⟨⟨rfl,rfl⟩,_⟩:=hv
    simp at hc
    exact ⟨_,hc⟩
   obtain ⟨y,hc⟩:=hc
   have hf:wr.frozen? ⟨g,k,none⟩=false:=by
    have h2:=hown
    have e:=HM'.out
    unfold Own at h2
    rw [e] at h2
    exact h2.frozenAt k
   have F:Hid (Own (wr.setCell ⟨g,k,none⟩ (.int .u8 99)) B (.slice (some ⟨g,0,none⟩) L.length cap) (M.set k 99)/\w.grownBy (wr.setCell ⟨g,k,none⟩ (.int .u8 99)) (some g)):=⟨Wire.own_store hown k 99 99 rfl,grown_trans hg (grown_setCell wr g k (.int .u8 99))⟩
   clear hown hg
   go_wp2
   obtain ⟨h1,h2⟩:=F.out
   go_roundw
   case rel=>exact ⟨k+1,M.set k 99,by omega,by rw [List.length_set];exact HM'.out,by go_num,h1,h2⟩
   case measure=>simp [intOf];omega
  ·have F:Hid (Own wr B (.slice (some ⟨g,0,none⟩) L.length cap) M/\w.grownBy wr (some g)):=And.intro hown hg
   clear hown hg h
   go_wp2
   exact bodyPost_end (v:=.tuple #[]) (by simp [results,Tryz.results14]) rfl ⟨rfl,F.out.2,M,F.out.1,HM'.out⟩
theorem over14_nil (w:World):Calls Tryz.prog 14 #[.slice none 0 0] w fun e w'=>e=.returned (.tuple #[])/\w'=w:=by
 go_enter Tryz.func14,Tryz.ntmps14
 go_wp2
 go_loopw [2] (fun i wr=>i=.int .i64 0/\wr=w) (fun i _=>0)
 case atStart=>exact ⟨rfl,rfl⟩
 case round =>
  obtain ⟨rfl,rfl⟩:=hrel
  go_wp2
  exact bodyPost_end (v:=.tuple #[]) (by simp [results,Tryz.results14]) rfl ⟨rfl,rfl⟩
theorem over14 (B:Nat)(v:Value)(L:Bs)(w:World)(h:Own w B v L)(hz:L.length<=140737488355328):Calls Tryz.prog 14 #[v] w fun e w'=>e=.returned (.tuple #[])/\w.grownBy w' v.ownBlock/\∃L',Own w' B v L'/\L'.length=L.length:=by
 rcases h.shape with ⟨rfl,rfl⟩ | ⟨g,cap,rfl,_,_⟩
 ·refine (over14_nil w).mono ?_
  rintro e w' ⟨rfl,rfl⟩
  exact ⟨rfl,grown_refl _ _,[],Own.nil _ _,rfl⟩
 ·exact over14_some B g cap L w h hz
theorem Lent.own {w:World}{B:Nat}{v:Value}{L:Bs}(h:Lent w B v L):Own w B v L:=by
 obtain ⟨g,cap,rfl,ho⟩:=h
 have h1:=Own.take (ao:=some ⟨g,0,none⟩) (cap:=cap) (L:=L ++ [165]) (by simpa using ho) L.length (by simp)
 rw [List.take_left] at h1
 exact h1
theorem ok5:okM ⟨1,0,⟨1,5,0,0,0,[]⟩,zeroR⟩=true:=by decide +kernel
theorem form5:formM ⟨1,0,⟨1,5,0,0,0,[]⟩,zeroR⟩=[1,0,1,5]:=by decide +kernel
theorem in5:InM ⟨1,0,⟨1,5,0,0,0,[]⟩,zeroR⟩:=⟨by decide,by decide,by decide,by decide,⟨by decide,by decide,by decide,by decide,by decide,by decide,by decide,by decide,by decide,by decide⟩,inR_zero⟩
theorem known17 (HG:ReadGood)(w:World):Calls Tryz.prog 17 #[] w fun e w'=>e=.returned (.bool true)/\w.grownBy w' none:=by
 have HGG:Hid ReadGood:=HG
 clear HG
 go_enter Tryz.func17,Tryz.ntmps17
 go_wp2_with fail
 refine (ask10 HGG.out 0 (.slice none 0 0) ⟨1,5,0,0,0,[]⟩ w (ops_nil w) ⟨by decide,by decide,by decide,by decide,by decide,by decide,by decide,by decide,by decide,by decide⟩ (by decide) (by decide)).mono ?_
 rintro e w1 ⟨ov,av,rfl,ho,ha,hg⟩
 rw [show anewM ⟨1,0,⟨1,5,0,0,0,[]⟩,zeroR⟩=⟨1,0,⟨1,5,0,0,0,[]⟩,zeroR⟩ by unfold anewM;rw [ok5];rfl,show errM ⟨1,0,⟨1,5,0,0,0,[]⟩,zeroR⟩=0 by unfold errM;rw [ok5];rfl] at *
 obtain ⟨ao,n,ca,rfl⟩:=isSl_ow ho
 obtain ⟨bo,p,cb,rfl⟩:=isSl_on ha
 have H1:Hid (w.grownBy w1 none/\OpsOwn w1 w.heap.size (.slice ao n ca) []/\Own w1 w.heap.size (.slice bo p cb) []):=⟨hg,ho,ha⟩
 clear ho ha hg
 unfold msgV zeroR
 dsimp only
 go_upto_region 2 with fail
 obtain ⟨W1,hW1,HW1⟩:=al1' w1 #[.int .i64 1,.int .i64 0,.int .i64 1,.int .i64 5,.int .i64 0,.int .i64 0,.int .i64 0,.slice ao n ca,.int .i64 0,.int .i64 0,.int .i64 0,.int .i64 0,.slice bo p cb] 34
 rw [hW1]
 obtain ⟨q1,hq1⟩:∃y,w1.heap.size=y:=⟨_,rfl⟩
 rw [hq1] at HW1 ⊢
 clear hW1 hq1
 have G1:Hid (w.grownBy W1 none/\OpsOwn W1 w.heap.size (.slice ao n ca) []/\Own W1 w.heap.size (.slice bo p cb) []/\MB W1 q1 (.slice ao n ca) (.slice bo p cb) ⟨1,0,⟨1,5,0,0,0,[]⟩,zeroR⟩):=⟨grown_trans H1.out.1 HW1.out.2.1,H1.out.2.1.grown HW1.out.2.1,H1.out.2.2.grown HW1.out.2.1,HW1.out.1⟩
 clear H1 HW1
 go_wp2_with fail
 refine (ask10 HGG.out 8 (.slice none 0 0) ⟨1,5,0,0,0,[]⟩ W1 (ops_nil W1) ⟨by decide,by decide,by decide,by decide,by decide,by decide,by decide,by decide,by decide,by decide⟩ (by decide) (by decide)).mono ?_
 rintro e w2 ⟨ov2,av2,rfl,ho,ha,hg⟩
 rw [show anewM ⟨1,8,⟨1,5,0,0,0,[]⟩,zeroR⟩=zeroM by decide +kernel,show errM ⟨1,8,⟨1,5,0,0,0,[]⟩,zeroR⟩=2 by decide +kernel] at *
 obtain ⟨ao2,n2,ca2,rfl⟩:=isSl_ow ho
 obtain ⟨bo2,p2,cb2,rfl⟩:=isSl_on ha
 clear ho ha
 unfold msgV zeroM zeroC zeroR
 dsimp only
 go_upto_region 3 with fail
 obtain ⟨W2,hW2,HW2⟩:=al1' w2 #[.int .i64 0,.int .i64 0,.int .i64 0,.int .i64 0,.int .i64 0,.int .i64 0,.int .i64 0,.slice ao2 n2 ca2,.int .i64 0,.int .i64 0,.int .i64 0,.int .i64 0,.slice bo2 p2 cb2] 34
 rw [hW2]
 clear hW2
 have gg:=grown_trans hg HW2.out.2.1
 have G2:Hid (w.grownBy W2 none/\OpsOwn W2 w.heap.size (.slice ao n ca) []/\Own W2 w.heap.size (.slice bo p cb) []/\MB W2 q1 (.slice ao n ca) (.slice bo p cb) ⟨1,0,⟨1,5,0,0,0,[]⟩,zeroR⟩):=⟨grown_trans G1.out.1 gg,G1.out.2.1.grown gg,G1.out.2.2.1.grown gg,G1.out.2.2.2.grown gg⟩
 clear G1 HW2 gg hg
 go_wp2_with fail
 refine (ask10 HGG.out 0 (.slice none 0 0) ⟨4,0,1,0,0,[]⟩ W2 (ops_nil W2) ⟨by decide,by decide,by decide,by decide,by decide,by decide,by decide,by decide,by decide,by decide⟩ (by decide) (by decide)).mono ?_
 rintro e w3 ⟨ov3,av3,rfl,ho,ha,hg⟩
 rw [show anewM ⟨1,0,⟨4,0,1,0,0,[]⟩,zeroR⟩=zeroM by decide +kernel,show errM ⟨1,0,⟨4,0,1,0,0,[]⟩,zeroR⟩=2 by decide +kernel] at *
 obtain ⟨ao3,n3,ca3,rfl⟩:=isSl_ow ho
 obtain ⟨bo3,p3,cb3,rfl⟩:=isSl_on ha
 clear ho ha
 unfold msgV zeroM zeroC zeroR
 dsimp only
 go_upto_region 4 with fail
 obtain ⟨W3,hW3,HW3⟩:=al1' w3 #[.int .i64 0,.int .i64 0,.int .i64 0,.int .i64 0,.int .i64 0,.int .i64 0,.int .i64 0,.slice ao3 n3 ca3,.int .i64 0,.int .i64 0,.int .i64 0,.int .i64 0,.slice bo3 p3 cb3] 34
 rw [hW3]
 clear hW3
 have gg:=grown_trans hg HW3.out.2.1
 have G3:Hid (w.grownBy W3 none/\OpsOwn W3 w.heap.size (.slice ao n ca) []/\Own W3 w.heap.size (.slice bo p cb) []/\MB W3 q1 (.slice ao n ca) (.slice bo p cb) ⟨1,0,⟨1,5,0,0,0,[]⟩,zeroR⟩):=⟨grown_trans G2.out.1 gg,G2.out.2.1.grown gg,G2.out.2.2.1.grown gg,G2.out.2.2.2.grown gg⟩
 clear G2 HW3 gg hg
 obtain ⟨c0,c1,c2,c3,c4,c5,c6,c7,c8,c9,c10,c11,c12⟩:=G3.out.2.2.2.cells
 try dsimp only [zeroR] at c0;try dsimp only [zeroR] at c1;try dsimp only [zeroR] at c2;try dsimp only [zeroR] at c3;try dsimp only [zeroR] at c4;try dsimp only [zeroR] at c5;try dsimp only [zeroR] at c6;try dsimp only [zeroR] at c7;try dsimp only [zeroR] at c8;try dsimp only [zeroR] at c9;try dsimp only [zeroR] at c10;try dsimp only [zeroR] at c11;try dsimp only [zeroR] at c12
 go_wp2_with fail
 refine (bytes9 (.slice ao n ca) (.slice bo p cb) ⟨1,0,⟨1,5,0,0,0,[]⟩,zeroR⟩ W3 (OpsOwn.ops G3.out.2.1) G3.out.2.2.1.seg (by simp [zeroR]) in5).mono ?_
 rintro e w4 ⟨u,rfl,hu,hg⟩
 rw [show errM ⟨1,0,⟨1,5,0,0,0,[]⟩,zeroR⟩=0 by unfold errM;rw [ok5];rfl]
 rw [if_pos ok5,form5] at hu
 obtain ⟨uo,uc,hus⟩:=hu.seg.shape
 subst hus
 have G4:Hid (w.grownBy w4 none/\OpsOwn w4 w.heap.size (.slice ao n ca) []/\Own w4 w.heap.size (.slice bo p cb) []/\MB w4 q1 (.slice ao n ca) (.slice bo p cb) ⟨1,0,⟨1,5,0,0,0,[]⟩,zeroR⟩/\Seg w4 (.slice uo 4 uc) [1,0,1,5]):=⟨grown_trans G3.out.1 hg,G3.out.2.1.grown hg,G3.out.2.2.1.grown hg,G3.out.2.2.2.grown hg,hu.seg⟩
 clear G3 hg hu c0 c1 c2 c3 c4 c5 c6 c7 c8 c9 c10 c11 c12
 rw [show ([1,0,1,5]:Bs).length=4 from rfl]
 go_wp2_with fail
 refine (read18 HGG.out (.slice uo 4 uc) [1,0,1,5] w4 G4.out.2.2.2.2 (by decide)).mono ?_
 rintro e w5 ⟨ov5,av5,rfl,ho,ha,hg⟩
 rw [show readM [1,0,1,5]=(⟨1,0,⟨1,5,0,0,0,[]⟩,zeroR⟩,0) by rw [<-form5];exact readM_form ok5 in5] at *
 obtain ⟨ao5,n5,ca5,rfl⟩:=isSl_ow ho
 obtain ⟨bo5,p5,cb5,rfl⟩:=isSl_on ha
 unfold msgV zeroR
 dsimp only
 go_upto_region 6 with fail
 obtain ⟨W5,hW5,HW5⟩:=al1' w5 #[.int .i64 1,.int .i64 0,.int .i64 1,.int .i64 5,.int .i64 0,.int .i64 0,.int .i64 0,.slice ao5 n5 ca5,.int .i64 0,.int .i64 0,.int .i64 0,.int .i64 0,.slice bo5 p5 cb5] 34
 rw [hW5]
 obtain ⟨q5,hq5⟩:∃y,w5.heap.size=y:=⟨_,rfl⟩
 rw [hq5] at HW5 ⊢
 clear hW5 hq5
 have gg:=grown_trans hg HW5.out.2.1
 have G5:Hid (w.grownBy W5 none/\OpsOwn W5 w.heap.size (.slice ao n ca) []/\Own W5 w.heap.size (.slice bo p cb) []/\MB W5 q1 (.slice ao n ca) (.slice bo p cb) ⟨1,0,⟨1,5,0,0,0,[]⟩,zeroR⟩/\Seg W5 (.slice uo 4 uc) [1,0,1,5]/\MB W5 q5 (.slice ao5 n5 ca5) (.slice bo5 p5 cb5) ⟨1,0,⟨1,5,0,0,0,[]⟩,zeroR⟩/\OpsOwn W5 w4.heap.size (.slice ao5 n5 ca5) []/\Own W5 w4.heap.size (.slice bo5 p5 cb5) []):=⟨grown_trans G4.out.1 gg,G4.out.2.1.grown gg,G4.out.2.2.1.grown gg,G4.out.2.2.2.1.grown gg,G4.out.2.2.2.2.grown gg,HW5.out.1,ho.grown HW5.out.2.1,ha.grown HW5.out.2.1⟩
 clear G4 HW5 gg hg ho ha
 obtain ⟨ub,uf,ux0,ux1,ux2,ux3⟩:∃ub uf,uo=some ⟨ub,uf,none⟩/\W5.cell? ⟨ub,uf,none⟩=some (.int .u8 1)/\W5.cell? ⟨ub,uf+1,none⟩=some (.int .u8 0)/\W5.cell? ⟨ub,uf+2,none⟩=some (.int .u8 1):=by
  obtain ⟨lo,lc,e,_,_,_,hcs⟩:=G5.out.2.2.2.2.1
  simp at e
  obtain ⟨rfl,_,rfl⟩:=e
  obtain ⟨lb,off,rfl,x0⟩:=hcs 0 (by simp)
  obtain ⟨_,_,e1,x1⟩:=hcs 1 (by simp)
  obtain ⟨_,_,e2,x2⟩:=hcs 2 (by simp)
  simp only [Option.some.injEq,Addr.mk.injEq] at e1 e2
  obtain ⟨rfl,rfl,_⟩:=e1
  obtain ⟨rfl,rfl,_⟩:=e2
  exact ⟨lb,off,rfl,x0,x1,x2⟩
 subst ux0
 obtain ⟨c0,c1,c2,c3,c4,c5,c6,c7,c8,c9,c10,c11,c12⟩:=G5.out.2.2.2.1.cells
 obtain ⟨d0,d1,d2,d3,d4,d5,d6,d7,d8,d9,d10,d11,d12⟩:=G5.out.2.2.2.2.2.1.cells
 try dsimp only [zeroR] at c0;try dsimp only [zeroR] at c1;try dsimp only [zeroR] at c2;try dsimp only [zeroR] at c3;try dsimp only [zeroR] at c4;try dsimp only [zeroR] at c5;try dsimp only [zeroR] at c6;try dsimp only [zeroR] at c7;try dsimp only [zeroR] at c8;try dsimp only [zeroR] at c9;try dsimp only [zeroR] at c10;try dsimp only [zeroR] at c11;try dsimp only [zeroR] at c12;try dsimp only [zeroR] at d0;try dsimp only [zeroR] at d1;try dsimp only [zeroR] at d2;try dsimp only [zeroR] at d3;try dsimp only [zeroR] at d4;try dsimp only [zeroR] at d5;try dsimp only [zeroR] at d6;try dsimp only [zeroR] at d7;try dsimp only [zeroR] at d8;try dsimp only [zeroR] at d9;try dsimp only [zeroR] at d10;try dsimp only [zeroR] at d11;try dsimp only [zeroR] at d12
 go_wp2_with fail
 refine (same15 (.slice ao n ca) (.slice bo p cb) (.slice ao5 n5 ca5) (.slice bo5 p5 cb5) ⟨1,0,⟨1,5,0,0,0,[]⟩,zeroR⟩ ⟨1,0,⟨1,5,0,0,0,[]⟩,zeroR⟩ W5 (OpsOwn.ops G5.out.2.1) G5.out.2.2.1.seg (OpsOwn.ops G5.out.2.2.2.2.2.2.1) G5.out.2.2.2.2.2.2.2.seg).mono ?_
 rintro e w6 ⟨rfl,g6⟩
 rw [decide_eq_true rfl]
 go_wp2_with fail
 go_ret
 exact ⟨rfl,grown_trans G5.out.1 g6⟩
theorem own_far {w w':World}{B g:Nat}{v:Value}{L:Bs}(h:Own w B v L)(hg:w.grownBy w' (some g))(hB:g<B):Own w' B v L :=
 h.same fun k hk=>hg.block k (h.lt k hk).2 (fun e=>by have:=(h.lt k hk).1;simp at e;omega)
theorem cut_far {w w':World}{B g:Nat}{v:Value}{L:Bs}(h:Names.Cut w B v L)(hg:w.grownBy w' (some g))(hB:g<B):Names.Cut w' B v L:=by
 rcases h with h | ⟨q,cap,rfl,h⟩
 ·exact .inl (own_far h hg hB)
 ·exact .inr ⟨q,cap,rfl,own_far h hg hB⟩
theorem opsOwn_far {w w':World}{B g:Nat}{v:Value}{l:List POp}(h:OpsOwn w B v l)(hg:w.grownBy w' (some g))(hB:g<B):OpsOwn w' B v l:=by
 obtain ⟨⟨vs,h1,h2,h3,h4⟩,hl⟩:=h
 refine ⟨⟨vs,h1.kept hg ?_,h2,h3,fun j hj hj'=>?_⟩,hl⟩
 ·cases hv:v.ownBlock with
  | none=>simp
  | some k =>
   refine .inr fun e=>?_
   have:=(World.ownsRow.lt h1 k hv).1
   simp at e
   omega
 ·obtain ⟨a,b,c,d,e,h⟩:=h4 j hj hj'
  exact ⟨a,b,c,d,e,cut_far h.key hg hB,cut_far h.value hg hB,cut_far h.old hg hB,cut_far h.tos hg hB,h.fits⟩
end Go.Proofs.YtncbdhdfemidlaaGreat
