import Derived.Test.YtakmlhhapegpoaaGreatMqmAll
set_option maxHeartbeats 8000000
set_option maxRecDepth 100000
namespace Go.Proofs.YtakmlhhapegpoaaGreat
open Go.RowKit Disk Table
open Names (Str cmpL keyB valueB tabB)
open _root_.Go.Proofs.YtakmlhhapegpoaaGreat.Calls (POp POut PRes opV OpSeg mayOp)
theorem op90y_1 {X:Nat->Prop}(b m:Nat)(q:Int × Int)(D:DB)(hD:GoodD D)(hf:lenD D<=100000)(kv vv ol tv:Value)(o:POp)(hkd:o.kind=1)(hmay:mayOp o=true)(w:World)(hX:∀g,X g->g<w.heap.size)(hb:EngB w b q m)(hm:EM X w m D)(ho:OpSeg w kv vv ol tv o):Calls Tryz.prog 90 #[.pointer (some ⟨b,0,none⟩),opV kv vv ol tv o] w (OpEY X q D o m w):=by
 have HO:Hid (OpSeg w kv vv ol tv o/\mayOp o=true/\(∀g,X g->g<w.heap.size)/\lenD D<=100000):=⟨ho,hmay,hX,hf⟩
 obtain ⟨a1,n1,c1,a2,n2,c2,a3,n3,c3,a4,n4,c4,rfl,rfl,rfl,rfl⟩:=op_shape ho
 have HG:Hid (GoodD D):=hD
 have HM:Hid (EngB w b q m/\EM X w m D):=⟨hb,hm⟩
 obtain ⟨kd,T,KY,V,hs,OL,to',mo⟩:=o
 simp only at hkd
 subst hkd
 obtain ⟨o,hoo⟩:∃o:POp,(⟨1,T,KY,V,hs,OL,to',mo⟩:POp)=o:=⟨_,rfl⟩
 have HP:Hid ((⟨1,T,KY,V,hs,OL,to',mo⟩:POp)=o):=hoo
 unfold opV
 rw [hoo] at HO
 simp only
 rw [hoo]
 clear ho hD hb hm hmay hX hf hoo
 go_enter Tryz.func90,Tryz.ntmps90
 go_wp2_with fail
 obtain ⟨w1,hw1,H1⟩:=al w #[.int .i64 1,Str T,.slice a1 n1 c1,.slice a2 n2 c2,.bool hs,.slice a3 n3 c3,.slice a4 n4 c4,.int .i64 mo] 67
 rw [hw1]
 clear hw1
 obtain ⟨w2,hw2,H2⟩:=al w1 #[.bool false,.slice none 0 0,.slice none 0 0] 72
 rw [hw2]
 clear hw2
 obtain ⟨ob,hob⟩:∃ob,w1.heap.size=ob:=⟨_,rfl⟩
 have hsz:w1.heap.size=w.heap.size+1:=H1.out.2.2
 have hob2:w.heap.size+1=ob:=by omega
 have G2:Hid (w.grownBy w2 none/\Blk w2 ob 72 #[.bool false,.slice none 0 0,.slice none 0 0]/\w.heap.size<ob):=⟨grown_trans H1.out.2.1 H2.out.2.1,by rw [<-hob];exact H2.out.1,by omega⟩
 have HB2:Hid (Blk w2 w.heap.size 67 #[.int .i64 1,Str T,.slice a1 n1 c1,.slice a2 n2 c2,.bool hs,.slice a3 n3 c3,.slice a4 n4 c4,.int .i64 mo]):=H1.out.1.grown H2.out.2.1 (by simp)
 try rw [hob]
 try rw [hob2]
 clear hob hob2 hsz
 refine (get117 (X:=X) b q D HG.out _ _ _ _ ⟨1,T,KY,V,hs,OL,to',mo⟩ w2 ⟨m,Blk.grown HM.out.1 G2.out.1 (by simp),HM.out.2.grown G2.out.1⟩ (by rw [HP.out];exact HO.out.1.grown G2.out.1)).mono ?_
 rintro e w3 ⟨x,rfl,hx,g3⟩
 obtain ⟨ax,cx,ex⟩:=hx.seg.shape
 obtain ⟨nx,hnx⟩:∃nx,(gotD D T KY).length=nx:=⟨_,rfl⟩
 rw [hnx] at ex
 subst ex
 have hB3:=G2.out.2.1.grown g3 (by simp)
 have H3:Hid (Disk.Own w3 w.heap.size (.slice ax nx cx) (gotD D T KY)/\w2.grownBy w3 none/\Blk w3 ob 72 #[.bool false,.slice none 0 0,.slice none 0 0]):=⟨hx.mono G2.out.1.size,g3,hB3⟩
 clear hx g3 hnx
 have f0:=hB3.free 0
 have f1:=hB3.free 1
 have f2:=hB3.free 2
 have b0:=hB3.cell 0
 have b1:=hB3.cell 1
 have b2:=hB3.cell 2
 simp at b0 b1 b2
 clear hB3
 go_wp2_with fail
 refine bodyPost_ret (v:=_) (results_cell_row rfl _ _ ob 72 _ (0,0) _ rfl (((H3.out.2.2.store 0 (.bool (hasD D T KY))).store 1 (.slice ax nx cx)).store 2 (.slice none 0 0)) Tryz.underlying72 rfl (by kernel_rfl)) rfl ?_
 refine ⟨grown_new3 (grown_weak (grown_trans G2.out.1 H3.out.2.1) _) (by have:=G2.out.2.2;omega),.inl ⟨⟨hasD D T KY,gotD D T KY,[]⟩,D,by rw [<-HP.out];rfl,_,_,(fun g=>w.heap.size<=g/\g<w3.heap.size),rfl,own_set3 H3.out.1 H3.out.2.2 (by decide),TRws.nil _ _,inY_of H3.out.1,RowsY.nil _ _,fun g hg=>⟨hg.1,by simpa using hg.2⟩,em_set3g (em_widen HM.out.2 (grown_trans G2.out.1 H3.out.2.1)) H3.out.2.2⟩⟩
theorem op90y_2 {X:Nat->Prop}(b m:Nat)(q:Int × Int)(D:DB)(hD:GoodD D)(hf:lenD D<=100000)(kv vv ol tv:Value)(o:POp)(hkd:o.kind=2)(hmay:mayOp o=true)(w:World)(hX:∀g,X g->g<w.heap.size)(hb:EngB w b q m)(hm:EM X w m D)(ho:OpSeg w kv vv ol tv o):Calls Tryz.prog 90 #[.pointer (some ⟨b,0,none⟩),opV kv vv ol tv o] w (OpEY X q D o m w):=by
 have HO:Hid (OpSeg w kv vv ol tv o/\mayOp o=true/\(∀g,X g->g<w.heap.size)/\lenD D<=100000):=⟨ho,hmay,hX,hf⟩
 obtain ⟨a1,n1,c1,a2,n2,c2,a3,n3,c3,a4,n4,c4,rfl,rfl,rfl,rfl⟩:=op_shape ho
 have HG:Hid (GoodD D):=hD
 have HM:Hid (EngB w b q m/\EM X w m D):=⟨hb,hm⟩
 obtain ⟨kd,T,KY,V,hs,OL,to',mo⟩:=o
 simp only at hkd
 subst hkd
 obtain ⟨o,hoo⟩:∃o:POp,(⟨2,T,KY,V,hs,OL,to',mo⟩:POp)=o:=⟨_,rfl⟩
 have HP:Hid ((⟨2,T,KY,V,hs,OL,to',mo⟩:POp)=o):=hoo
 unfold opV
 rw [hoo] at HO
 simp only
 rw [hoo]
 clear ho hD hb hm hmay hX hf hoo
 go_enter Tryz.func90,Tryz.ntmps90
 go_wp2_with fail
 obtain ⟨w1,hw1,H1⟩:=al w #[.int .i64 2,Str T,.slice a1 n1 c1,.slice a2 n2 c2,.bool hs,.slice a3 n3 c3,.slice a4 n4 c4,.int .i64 mo] 67
 rw [hw1]
 clear hw1
 obtain ⟨w2,hw2,H2⟩:=al w1 #[.bool false,.slice none 0 0,.slice none 0 0] 72
 rw [hw2]
 clear hw2
 obtain ⟨ob,hob⟩:∃ob,w1.heap.size=ob:=⟨_,rfl⟩
 have hsz:w1.heap.size=w.heap.size+1:=H1.out.2.2
 have hob2:w.heap.size+1=ob:=by omega
 have G2:Hid (w.grownBy w2 none/\Blk w2 ob 72 #[.bool false,.slice none 0 0,.slice none 0 0]/\w.heap.size<ob):=⟨grown_trans H1.out.2.1 H2.out.2.1,by rw [<-hob];exact H2.out.1,by omega⟩
 have HB2:Hid (Blk w2 w.heap.size 67 #[.int .i64 2,Str T,.slice a1 n1 c1,.slice a2 n2 c2,.bool hs,.slice a3 n3 c3,.slice a4 n4 c4,.int .i64 mo]):=H1.out.1.grown H2.out.2.1 (by simp)
 try rw [hob]
 try rw [hob2]
 clear hob hob2 hsz
 refine (put120 (X:=X) b m q D HG.out HO.out.2.2.2 _ _ _ _ ⟨2,T,KY,V,hs,OL,to',mo⟩ (by have h1:=may_key HO.out.2.1 (by rw [<-HP.out];simp);have h2:=may_value HO.out.2.1;rw [<-HP.out] at h1 h2;unfold okP;rw [h1,h2];rfl) (by have:=may_table HO.out.2.1;rw [<-HP.out] at this;exact this) w2 (fun g hg=>by have:=HO.out.2.2.1 g hg;have:=G2.out.1.size;omega) (Blk.grown HM.out.1 G2.out.1 (by simp)) (HM.out.2.grown G2.out.1) (by rw [HP.out];exact HO.out.1.grown G2.out.1)).mono ?_
 rintro e w3 ⟨g3,⟨ha,rfl,hem⟩ | ⟨ha,rfl⟩⟩
 ·have hB3:=(G2.out.2.1).grown g3 (by intro e;simp at e;subst e;exact Blk.notMap (G2.out.2.1) (HM.out.2.grown G2.out.1).choose_spec.1)
  have H3:Hid (EM X w3 m (putD D T KY V)/\w.grownBy w3 (some m)/\Blk w3 ob 72 #[.bool false,.slice none 0 0,.slice none 0 0]):=⟨hem,grown_trans (grown_weak G2.out.1 _) g3,hB3⟩
  have HA:Hid (aboveD q (putD D T KY V)=0):=ha
  clear hem g3 ha
  have f0:=hB3.free 0
  have f1:=hB3.free 1
  have f2:=hB3.free 2
  have b0:=hB3.cell 0
  have b1:=hB3.cell 1
  have b2:=hB3.cell 2
  simp at b0 b1 b2
  clear hB3
  go_wp2_with fail
  refine bodyPost_ret (v:=_) (results_cell_row rfl _ _ ob 72 _ (0,0) _ rfl (((H3.out.2.2.store 0 (.bool (hasD D T KY))).store 1 (.slice none 0 0)).store 2 (.slice none 0 0)) Tryz.underlying72 rfl (by kernel_rfl)) rfl ?_
  refine ⟨grown_new3 H3.out.2.1 (by have:=G2.out.2.2;omega),.inl ⟨⟨hasD D T KY,[],[]⟩,putD D T KY V,?_,_,_,noY,rfl,World.ownsRow_nil _ _ _ _,TRws.nil _ _,InY.nil _,RowsY.nil _ _,fun g hg=>hg.elim,em_set3g (em_noY H3.out.1) H3.out.2.2⟩⟩
  rw [<-HP.out]
  unfold opD
  rw [if_neg (by simp),if_neg (by simp),if_neg (by simp),if_neg (by simp)]
  unfold putR
  rw [if_pos HA.out]
 ·have H3:Hid (aboveD q (putD D T KY V)≠0/\w.grownBy w3 (some m)):=⟨ha,grown_trans (grown_weak G2.out.1 _) g3⟩
  clear ha g3
  unfold PanA
  go_wp2_with fail
  refine ⟨rfl,H3.out.2,.inr ⟨aboveD q (putD D T KY V),?_,rfl⟩⟩
  rw [<-HP.out]
  unfold opD
  rw [if_neg (by simp),if_neg (by simp),if_neg (by simp),if_neg (by simp)]
  unfold putR
  rw [if_neg H3.out.1]
theorem op90y_3 {X:Nat->Prop}(b m:Nat)(q:Int × Int)(D:DB)(hD:GoodD D)(hf:lenD D<=100000)(kv vv ol tv:Value)(o:POp)(hkd:o.kind=3)(hmay:mayOp o=true)(w:World)(hX:∀g,X g->g<w.heap.size)(hb:EngB w b q m)(hm:EM X w m D)(ho:OpSeg w kv vv ol tv o):Calls Tryz.prog 90 #[.pointer (some ⟨b,0,none⟩),opV kv vv ol tv o] w (OpEY X q D o m w):=by
 have HO:Hid (OpSeg w kv vv ol tv o/\mayOp o=true/\(∀g,X g->g<w.heap.size)/\lenD D<=100000):=⟨ho,hmay,hX,hf⟩
 obtain ⟨a1,n1,c1,a2,n2,c2,a3,n3,c3,a4,n4,c4,rfl,rfl,rfl,rfl⟩:=op_shape ho
 have HG:Hid (GoodD D):=hD
 have HM:Hid (EngB w b q m/\EM X w m D):=⟨hb,hm⟩
 obtain ⟨kd,T,KY,V,hs,OL,to',mo⟩:=o
 simp only at hkd
 subst hkd
 obtain ⟨o,hoo⟩:∃o:POp,(⟨3,T,KY,V,hs,OL,to',mo⟩:POp)=o:=⟨_,rfl⟩
 have HP:Hid ((⟨3,T,KY,V,hs,OL,to',mo⟩:POp)=o):=hoo
 unfold opV
 rw [hoo] at HO
 simp only
 rw [hoo]
 clear ho hD hb hm hmay hX hf hoo
 go_enter Tryz.func90,Tryz.ntmps90
 go_wp2_with fail
 obtain ⟨w1,hw1,H1⟩:=al w #[.int .i64 3,Str T,.slice a1 n1 c1,.slice a2 n2 c2,.bool hs,.slice a3 n3 c3,.slice a4 n4 c4,.int .i64 mo] 67
 rw [hw1]
 clear hw1
 obtain ⟨w2,hw2,H2⟩:=al w1 #[.bool false,.slice none 0 0,.slice none 0 0] 72
 rw [hw2]
 clear hw2
 obtain ⟨ob,hob⟩:∃ob,w1.heap.size=ob:=⟨_,rfl⟩
 have hsz:w1.heap.size=w.heap.size+1:=H1.out.2.2
 have hob2:w.heap.size+1=ob:=by omega
 have G2:Hid (w.grownBy w2 none/\Blk w2 ob 72 #[.bool false,.slice none 0 0,.slice none 0 0]/\w.heap.size<ob):=⟨grown_trans H1.out.2.1 H2.out.2.1,by rw [<-hob];exact H2.out.1,by omega⟩
 have HB2:Hid (Blk w2 w.heap.size 67 #[.int .i64 3,Str T,.slice a1 n1 c1,.slice a2 n2 c2,.bool hs,.slice a3 n3 c3,.slice a4 n4 c4,.int .i64 mo]):=H1.out.1.grown H2.out.2.1 (by simp)
 try rw [hob]
 try rw [hob2]
 clear hob hob2 hsz
 refine (remove121 (X:=X) b m q D HG.out _ _ _ _ ⟨3,T,KY,V,hs,OL,to',mo⟩ (may_key (by rw [HP.out];exact HO.out.2.1) (by simp)) (by have:=may_table HO.out.2.1;rw [<-HP.out] at this;exact this) w2 (Blk.grown HM.out.1 G2.out.1 (by simp)) (HM.out.2.grown G2.out.1) (by rw [HP.out];exact HO.out.1.grown G2.out.1)).mono ?_
 rintro e w3 ⟨rfl,hem,g3⟩
 have hB3:=G2.out.2.1.grown g3 (by intro e;simp at e;subst e;exact Blk.notMap G2.out.2.1 (HM.out.2.grown G2.out.1).choose_spec.1)
 have H3:Hid (EM X w3 m (remD D T KY)/\w.grownBy w3 (some m)/\Blk w3 ob 72 #[.bool false,.slice none 0 0,.slice none 0 0]):=⟨hem,grown_trans (grown_weak G2.out.1 _) g3,hB3⟩
 clear hem g3
 have f0:=hB3.free 0
 have f1:=hB3.free 1
 have f2:=hB3.free 2
 have b0:=hB3.cell 0
 have b1:=hB3.cell 1
 have b2:=hB3.cell 2
 simp at b0 b1 b2
 clear hB3
 go_wp2_with fail
 refine bodyPost_ret (v:=_) (results_cell_row rfl _ _ ob 72 _ (0,0) _ rfl (((H3.out.2.2.store 0 (.bool (hasD D T KY))).store 1 (.slice none 0 0)).store 2 (.slice none 0 0)) Tryz.underlying72 rfl (by kernel_rfl)) rfl ?_
 refine ⟨grown_new3 H3.out.2.1 (by have:=G2.out.2.2;omega),.inl ⟨⟨hasD D T KY,[],[]⟩,remD D T KY,by rw [<-HP.out];rfl,_,_,noY,rfl,World.ownsRow_nil _ _ _ _,TRws.nil _ _,InY.nil _,RowsY.nil _ _,fun g hg=>hg.elim,em_set3g (em_noY H3.out.1) H3.out.2.2⟩⟩
theorem op90y_4 {X:Nat->Prop}(b m:Nat)(q:Int × Int)(D:DB)(hD:GoodD D)(hf:lenD D<=100000)(kv vv ol tv:Value)(o:POp)(hkd:o.kind=4)(hmay:mayOp o=true)(w:World)(hX:∀g,X g->g<w.heap.size)(hb:EngB w b q m)(hm:EM X w m D)(ho:OpSeg w kv vv ol tv o):Calls Tryz.prog 90 #[.pointer (some ⟨b,0,none⟩),opV kv vv ol tv o] w (OpEY X q D o m w):=by
 have HO:Hid (OpSeg w kv vv ol tv o/\mayOp o=true/\(∀g,X g->g<w.heap.size)/\lenD D<=100000):=⟨ho,hmay,hX,hf⟩
 obtain ⟨a1,n1,c1,a2,n2,c2,a3,n3,c3,a4,n4,c4,rfl,rfl,rfl,rfl⟩:=op_shape ho
 have HG:Hid (GoodD D):=hD
 have HM:Hid (EngB w b q m/\EM X w m D):=⟨hb,hm⟩
 obtain ⟨kd,T,KY,V,hs,OL,to',mo⟩:=o
 simp only at hkd
 subst hkd
 obtain ⟨o,hoo⟩:∃o:POp,(⟨4,T,KY,V,hs,OL,to',mo⟩:POp)=o:=⟨_,rfl⟩
 have HP:Hid ((⟨4,T,KY,V,hs,OL,to',mo⟩:POp)=o):=hoo
 unfold opV
 rw [hoo] at HO
 simp only
 rw [hoo]
 clear ho hD hb hm hmay hX hf hoo
 go_enter Tryz.func90,Tryz.ntmps90
 go_wp2_with fail
 obtain ⟨w1,hw1,H1⟩:=al w #[.int .i64 4,Str T,.slice a1 n1 c1,.slice a2 n2 c2,.bool hs,.slice a3 n3 c3,.slice a4 n4 c4,.int .i64 mo] 67
 rw [hw1]
 clear hw1
 obtain ⟨w2,hw2,H2⟩:=al w1 #[.bool false,.slice none 0 0,.slice none 0 0] 72
 rw [hw2]
 clear hw2
 obtain ⟨ob,hob⟩:∃ob,w1.heap.size=ob:=⟨_,rfl⟩
 have hsz:w1.heap.size=w.heap.size+1:=H1.out.2.2
 have hob2:w.heap.size+1=ob:=by omega
 have G2:Hid (w.grownBy w2 none/\Blk w2 ob 72 #[.bool false,.slice none 0 0,.slice none 0 0]/\w.heap.size<ob):=⟨grown_trans H1.out.2.1 H2.out.2.1,by rw [<-hob];exact H2.out.1,by omega⟩
 have HB2:Hid (Blk w2 w.heap.size 67 #[.int .i64 4,Str T,.slice a1 n1 c1,.slice a2 n2 c2,.bool hs,.slice a3 n3 c3,.slice a4 n4 c4,.int .i64 mo]):=H1.out.1.grown H2.out.2.1 (by simp)
 try rw [hob]
 try rw [hob2]
 clear hob hob2 hsz
 refine wp_region_hold 1000 (fun y=>w2.grownBy y none) (by kernel_rfl) ?_
 have G0:Hid (w2.grownBy w2.drew none):=grown_drew _ _
 generalize w2.drew=wd at G0 ⊢
 have HC:Hid (∀y,w2.grownBy y none->y.cell? ⟨w.heap.size,0,none⟩=some (.int .i64 4)/\y.cell? ⟨w.heap.size,1,none⟩=some (Str T)/\y.cell? ⟨w.heap.size,2,none⟩=some (.slice a1 n1 c1)/\y.cell? ⟨w.heap.size,3,none⟩=some (.slice a2 n2 c2)/\y.cell? ⟨w.heap.size,4,none⟩=some (.bool hs)/\y.cell? ⟨w.heap.size,5,none⟩=some (.slice a3 n3 c3)/\y.cell? ⟨w.heap.size,6,none⟩=some (.slice a4 n4 c4)/\y.cell? ⟨w.heap.size,7,none⟩=some (.int .i64 mo)):=fun y hy=>by
  have h:=HB2.out.grown hy (by simp)
  exact ⟨h.cell 0,h.cell 1,h.cell 2,h.cell 3,h.cell 4,h.cell 5,h.cell 6,h.cell 7⟩
 have J:Idx [0,1,3]:=trivial
 iterate 3 (refine tK J (G0.out) rfl rfl (fun wk hk=>by obtain ⟨m0,m1,m2,m3,m4,m5,m6,m7⟩:=HC.out wk hk;go_simp;try rfl) ?_;replace J:=J.tl;try simp only [pN])
 clear J
 refine wpHold_one (i:=2) rfl (by kernel_rfl) (by rfl) (fun K hK=>?_)
 go_wp2_with fail
 refine (get117 (X:=X) b q D HG.out _ _ _ _ ⟨4,T,KY,V,hs,OL,to',mo⟩ wd ⟨m,Blk.grown HM.out.1 (grown_trans G2.out.1 G0.out) (by simp),HM.out.2.grown (grown_trans G2.out.1 G0.out)⟩ (by rw [HP.out];exact HO.out.1.grown (grown_trans G2.out.1 G0.out))).mono ?_
 rintro e w3 ⟨x,rfl,hx,g3⟩
 obtain ⟨ax,cx,ex⟩:=hx.seg.shape
 obtain ⟨nx,hnx⟩:∃nx,(gotD D T KY).length=nx:=⟨_,rfl⟩
 rw [hnx] at ex
 subst ex
 have H3:Hid (Disk.Own w3 wd.heap.size (.slice ax nx cx) (gotD D T KY)/\w2.grownBy w3 none):=⟨hx,grown_trans G0.out g3⟩
 clear hx g3 hnx
 go_wp2_with fail
 refine hK.out _ _ (fun _=>H3.out.2) ?_
 clear hK K
 try simp only [pN]
 refine wpHold_one (i:=4) rfl (by kernel_rfl) (by rfl) (fun K hK=>?_)
 go_wp2_with fail
 refine (meets119 (hasD D T KY) (.slice ax nx cx) _ _ _ _ (gotD D T KY) ⟨4,T,KY,V,hs,OL,to',mo⟩ w3 H3.out.1.seg (by rw [HP.out];exact HO.out.1.grown (grown_trans G2.out.1 H3.out.2))).mono ?_
 obtain ⟨M,hM⟩:∃M,(decide (hasD D T KY=hs) && decide (gotD D T KY=OL))=M:=⟨_,rfl⟩
 rw [hM]
 rintro e w4 ⟨rfl,g4⟩
 have H4:Hid (w2.grownBy w4 none/\meetD D ⟨4,T,KY,V,hs,OL,to',mo⟩=M):=⟨grown_trans H3.out.2 g4,hM⟩
 clear g4 hM
 go_wp2_with fail
 refine hK.out _ _ (fun _=>H4.out.1) ?_
 clear hK K
 try simp only [pN]
 refine wpHold_one (i:=5) rfl (by kernel_rfl) (by rfl) (fun K hK=>?_)
 cases M with
 | false =>
  go_wp2_with (go_at_call 118;refine (sure118_no 1 w4).mono ?_;unfold PanA;rintro e w7 ⟨rfl,hw⟩;rw [hw];clear hw)
  refine ⟨rfl,grown_weak (grown_trans G2.out.1 H4.out.1) _,.inr ⟨1,?_,rfl⟩⟩
  rw [<-HP.out]
  unfold opD
  rw [if_neg (by simp),if_neg (by simp),if_neg (by simp),if_pos ⟨rfl,H4.out.2⟩]
 | true =>
 go_wp2_with (go_at_call 118;refine (sure118 1 w4).mono ?_;rintro e w7 ⟨rfl,hw⟩;rw [hw];clear hw)
 refine hK.out _ _ (fun _=>H4.out.1) ?_
 clear hK K
 try simp only [pN]
 refine wpHold_done (by kernel_rfl) ?_
 refine (‹∀(a:Act) (w:World),Code.wp Tryz.prog _ _ a w->_› _ _ ?_)
 obtain ⟨m0,m1,m2,m3,m4,m5,m6,m7⟩:=HC.out w4 H4.out.1
 have HM4:Hid (meetD D ⟨4,T,KY,V,hs,OL,to',mo⟩=true):=H4.out.2
 have HB4:Hid (Blk w4 ob 72 #[.bool false,.slice none 0 0,.slice none 0 0]):=G2.out.2.1.grown H4.out.1 (by simp)
 have HG4:Hid (w.grownBy w4 none):=grown_trans G2.out.1 H4.out.1
 go_wp2_with fail
 refine (put120 (X:=X) b m q D HG.out HO.out.2.2.2 _ _ _ _ ⟨4,T,KY,V,hs,OL,to',mo⟩ (by have h1:=may_key HO.out.2.1 (by rw [<-HP.out];simp);have h2:=may_value HO.out.2.1;rw [<-HP.out] at h1 h2;unfold okP;rw [h1,h2];rfl) (by have:=may_table HO.out.2.1;rw [<-HP.out] at this;exact this) w4 (fun g hg=>by have:=HO.out.2.2.1 g hg;have:=HG4.out.size;omega) (Blk.grown HM.out.1 HG4.out (by simp)) (HM.out.2.grown HG4.out) (by rw [HP.out];exact HO.out.1.grown HG4.out)).mono ?_
 rintro e w3 ⟨g3,⟨ha,rfl,hem⟩ | ⟨ha,rfl⟩⟩
 ·have hB3:=(HB4.out).grown g3 (by intro e;simp at e;subst e;exact Blk.notMap (HB4.out) (HM.out.2.grown HG4.out).choose_spec.1)
  have H3:Hid (EM X w3 m (putD D T KY V)/\w.grownBy w3 (some m)/\Blk w3 ob 72 #[.bool false,.slice none 0 0,.slice none 0 0]):=⟨hem,grown_trans (grown_weak HG4.out _) g3,hB3⟩
  have HA:Hid (aboveD q (putD D T KY V)=0):=ha
  clear hem g3 ha
  have f0:=hB3.free 0
  have f1:=hB3.free 1
  have f2:=hB3.free 2
  have b0:=hB3.cell 0
  have b1:=hB3.cell 1
  have b2:=hB3.cell 2
  simp at b0 b1 b2
  clear hB3
  go_wp2_with fail
  refine bodyPost_ret (v:=_) (results_cell_row rfl _ _ ob 72 _ (0,0) _ rfl (((H3.out.2.2.store 0 (.bool (hasD D T KY))).store 1 (.slice none 0 0)).store 2 (.slice none 0 0)) Tryz.underlying72 rfl (by kernel_rfl)) rfl ?_
  refine ⟨grown_new3 H3.out.2.1 (by have:=G2.out.2.2;omega),.inl ⟨⟨hasD D T KY,[],[]⟩,putD D T KY V,?_,_,_,noY,rfl,World.ownsRow_nil _ _ _ _,TRws.nil _ _,InY.nil _,RowsY.nil _ _,fun g hg=>hg.elim,em_set3g (em_noY H3.out.1) H3.out.2.2⟩⟩
  rw [<-HP.out]
  unfold opD
  rw [if_neg (by simp),if_neg (by simp),if_neg (by simp),if_neg (by rintro ⟨_,h⟩;rw [HM4.out] at h;cases h)]
  unfold putR
  rw [if_pos HA.out]
 ·have H3:Hid (aboveD q (putD D T KY V)≠0/\w.grownBy w3 (some m)):=⟨ha,grown_trans (grown_weak HG4.out _) g3⟩
  clear ha g3
  unfold PanA
  go_wp2_with fail
  refine ⟨rfl,H3.out.2,.inr ⟨aboveD q (putD D T KY V),?_,rfl⟩⟩
  rw [<-HP.out]
  unfold opD
  rw [if_neg (by simp),if_neg (by simp),if_neg (by simp),if_neg (by rintro ⟨_,h⟩;rw [HM4.out] at h;cases h)]
  unfold putR
  rw [if_neg H3.out.1]
theorem op90y_5 {X:Nat->Prop}(b m:Nat)(q:Int × Int)(D:DB)(hD:GoodD D)(hf:lenD D<=100000)(kv vv ol tv:Value)(o:POp)(hkd:o.kind=5)(hmay:mayOp o=true)(w:World)(hX:∀g,X g->g<w.heap.size)(hb:EngB w b q m)(hm:EM X w m D)(ho:OpSeg w kv vv ol tv o):Calls Tryz.prog 90 #[.pointer (some ⟨b,0,none⟩),opV kv vv ol tv o] w (OpEY X q D o m w):=by
 have HO:Hid (OpSeg w kv vv ol tv o/\mayOp o=true/\(∀g,X g->g<w.heap.size)/\lenD D<=100000):=⟨ho,hmay,hX,hf⟩
 obtain ⟨a1,n1,c1,a2,n2,c2,a3,n3,c3,a4,n4,c4,rfl,rfl,rfl,rfl⟩:=op_shape ho
 have HG:Hid (GoodD D):=hD
 have HM:Hid (EngB w b q m/\EM X w m D):=⟨hb,hm⟩
 obtain ⟨kd,T,KY,V,hs,OL,to',mo⟩:=o
 simp only at hkd
 subst hkd
 obtain ⟨o,hoo⟩:∃o:POp,(⟨5,T,KY,V,hs,OL,to',mo⟩:POp)=o:=⟨_,rfl⟩
 have HP:Hid ((⟨5,T,KY,V,hs,OL,to',mo⟩:POp)=o):=hoo
 unfold opV
 rw [hoo] at HO
 simp only
 rw [hoo]
 clear ho hD hb hm hmay hX hf hoo
 go_enter Tryz.func90,Tryz.ntmps90
 go_wp2_with fail
 obtain ⟨w1,hw1,H1⟩:=al w #[.int .i64 5,Str T,.slice a1 n1 c1,.slice a2 n2 c2,.bool hs,.slice a3 n3 c3,.slice a4 n4 c4,.int .i64 mo] 67
 rw [hw1]
 clear hw1
 obtain ⟨w2,hw2,H2⟩:=al w1 #[.bool false,.slice none 0 0,.slice none 0 0] 72
 rw [hw2]
 clear hw2
 obtain ⟨ob,hob⟩:∃ob,w1.heap.size=ob:=⟨_,rfl⟩
 have hsz:w1.heap.size=w.heap.size+1:=H1.out.2.2
 have hob2:w.heap.size+1=ob:=by omega
 have G2:Hid (w.grownBy w2 none/\Blk w2 ob 72 #[.bool false,.slice none 0 0,.slice none 0 0]/\w.heap.size<ob):=⟨grown_trans H1.out.2.1 H2.out.2.1,by rw [<-hob];exact H2.out.1,by omega⟩
 have HB2:Hid (Blk w2 w.heap.size 67 #[.int .i64 5,Str T,.slice a1 n1 c1,.slice a2 n2 c2,.bool hs,.slice a3 n3 c3,.slice a4 n4 c4,.int .i64 mo]):=H1.out.1.grown H2.out.2.1 (by simp)
 try rw [hob]
 try rw [hob2]
 clear hob hob2 hsz
 refine (scan122 (X:=X) b q D HG.out _ _ _ _ ⟨5,T,KY,V,hs,OL,to',mo⟩ w2 ⟨m,Blk.grown HM.out.1 G2.out.1 (by simp),HM.out.2.grown G2.out.1⟩ (by rw [HP.out];exact HO.out.1.grown G2.out.1)).mono ?_
 rintro e w3 ⟨y,rfl,hy,g3⟩
 obtain ⟨ay,ny,cy,ey,_,_,_,_⟩:=rws_open hy.rws
 subst ey
 have hB3:=G2.out.2.1.grown g3 (by simp)
 have H3:Hid (TRws w3 w.heap.size (.slice ay ny cy) (scanL (rowsOf D T) KY to' mo)/\w2.grownBy w3 none/\Blk w3 ob 72 #[.bool false,.slice none 0 0,.slice none 0 0]):=⟨hy.mono G2.out.1.size,g3,hB3⟩
 clear hy g3
 have f0:=hB3.free 0
 have f1:=hB3.free 1
 have f2:=hB3.free 2
 have b0:=hB3.cell 0
 have b1:=hB3.cell 1
 have b2:=hB3.cell 2
 simp at b0 b1 b2
 clear hB3
 go_wp2_with fail
 refine bodyPost_ret (v:=_) (results_cell_row rfl _ _ ob 72 _ (0,0) _ rfl (((H3.out.2.2.store 0 (.bool false)).store 1 (.slice none 0 0)).store 2 (.slice ay ny cy)) Tryz.underlying72 rfl (by kernel_rfl)) rfl ?_
 refine ⟨grown_new3 (grown_weak (grown_trans G2.out.1 H3.out.2.1) _) (by have:=G2.out.2.2;omega),.inl ⟨⟨false,[],scanL (rowsOf D T) KY to' mo⟩,D,by rw [<-HP.out];rfl,_,_,(fun g=>w.heap.size<=g/\g<w3.heap.size),rfl,World.ownsRow_nil _ _ _ _,trws_set3 H3.out.1 H3.out.2.2 (by decide) (by decide),InY.nil _,(rowsY_of (trws_set3 H3.out.1 H3.out.2.2 (by decide) (by decide))).mono (fun g hg=>⟨hg.1,by simpa using hg.2⟩),fun g hg=>⟨hg.1,by simpa using hg.2⟩,em_set3g (em_widen HM.out.2 (grown_trans G2.out.1 H3.out.2.1)) H3.out.2.2⟩⟩
end Go.Proofs.YtakmlhhapegpoaaGreat
