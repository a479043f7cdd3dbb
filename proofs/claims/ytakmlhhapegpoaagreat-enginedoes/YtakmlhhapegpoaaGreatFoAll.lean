import Derived.Test.YtakmlhhapegpoaaGreatFghAll
set_option maxHeartbeats 16000000
set_option maxRecDepth 100000
namespace Go.Proofs.YtakmlhhapegpoaaGreat
open Go.RowKit Disk Table
open Names (Str cmpL keyB valueB tabB inB)
open _root_.Go.Proofs.YtakmlhhapegpoaaGreat.Calls (POp POut PRes opV OpSeg mayOp)
theorem op68_1 {X:Nat->Prop}(q:Int × Int)(D:DB)(hD:DbQ q D)(v kv vv ol tv:Value)(o:POp)(hkd:o.kind=1)(hmay:mayOp o=true)(w:World)(hX:∀g,X g->g<w.heap.size)(hv:DRow X w v (flatD D))(ho:OpSeg w kv vv ol tv o):Calls Tryz.prog 68 #[quoV q,v,opV kv vv ol tv o] w (ROpE X q D o w):=by
 have HO:Hid (OpSeg w kv vv ol tv o/\mayOp o=true/\(∀g,X g->g<w.heap.size)/\DbQ q D):=⟨ho,hmay,hX,hD⟩
 obtain ⟨a0,n0,c0,rfl,hn0,hc0,hc0',_⟩:=nms_open hv.nms
 have HV:Hid (DRow X w (.slice a0 n0 c0) (flatD D)/\(flatD D).length=n0):=⟨hv,hn0⟩
 have hz0:n0<=4096:=by
  have h1:=hD.len
  rw [<-hn0,flat_len]
  omega
 obtain ⟨a1,n1,c1,a2,n2,c2,a3,n3,c3,a4,n4,c4,rfl,rfl,rfl,rfl⟩:=op_shape ho
 obtain ⟨kd,T,KY,V,hs,OL,to',mo⟩:=o
 simp only at hkd
 subst hkd
 obtain ⟨o,hoo⟩:∃o:POp,(⟨1,T,KY,V,hs,OL,to',mo⟩:POp)=o:=⟨_,rfl⟩
 have HS:Hid (Seg w (.slice a1 n1 c1) KY/\Seg w (.slice a2 n2 c2) V/\Seg w (.slice a3 n3 c3) OL/\Seg w (.slice a4 n4 c4) to'/\KY.length<=1000/\V.length<=1000):=⟨ho.key,ho.value,ho.old,ho.to,may_klen hmay,may_vlen hmay⟩
 have HP:Hid ((⟨1,T,KY,V,hs,OL,to',mo⟩:POp)=o):=hoo
 unfold opV quoV Str
 rw [hoo] at HO
 simp only
 rw [hoo]
 clear ho hD hmay hX hoo hv hn0
 go_enter Tryz.func68,Tryz.ntmps68
 go_upto_region 1 with fail
 obtain ⟨w1,hw1,H1⟩:=al w #[.int .i64 q.1,.int .i64 q.2] 23
 obtain ⟨w2,hw2,H2⟩:=al w1 #[.int .i64 1,.string ⟨T.toArray⟩,.slice a1 n1 c1,.slice a2 n2 c2,.bool hs,.slice a3 n3 c3,.slice a4 n4 c4,.int .i64 mo] 67
 obtain ⟨w3,hw3,H3⟩:=al w2 #[.bool false,.slice none 0 0,.slice none 0 0] 72
 rw [hw1,hw2,hw3]
 obtain ⟨qb,hqb⟩:∃b,w.heap.size=b:=⟨_,rfl⟩
 obtain ⟨ob,hob⟩:∃b,qb+1=b:=⟨_,rfl⟩
 obtain ⟨rb,hrb⟩:∃b,ob+1=b:=⟨_,rfl⟩
 have B3:Hid (Blk w3 qb 23 #[.int .i64 q.1,.int .i64 q.2]/\Blk w3 ob 67 #[.int .i64 1,.string ⟨T.toArray⟩,.slice a1 n1 c1,.slice a2 n2 c2,.bool hs,.slice a3 n3 c3,.slice a4 n4 c4,.int .i64 mo]/\Blk w3 rb 72 #[.bool false,.slice none 0 0,.slice none 0 0]/\w.grownBy w3 none/\w.heap.size<=rb/\w.heap.size=qb):=by
  have s1:=H1.out.2.2
  have s2:=H2.out.2.2
  have g23:=grown_trans H2.out.2.1 H3.out.2.1
  refine ⟨?_,?_,?_,grown_trans H1.out.2.1 g23,by omega,hqb⟩
  ·rw [<-hqb];exact H1.out.1.grown g23 (by simp)
  ·rw [<-hob,<-hqb,<-s1];exact H2.out.1.grown H3.out.2.1 (by simp)
  ·rw [<-hrb,<-hob,<-hqb,<-s1,show w1.heap.size+1=w2.heap.size by omega];exact H3.out.1
 try rw [hqb]
 try rw [hob]
 try rw [hrb]
 clear hw1 hw2 hw3 H1 H2 H3 hqb hob hrb
 have HC3:Hid (∀y:World,w3.grownBy y none->y.cell? ⟨ob,1,none⟩=some (.string ⟨T.toArray⟩)/\y.cell? ⟨ob,2,none⟩=some (.slice a1 n1 c1)/\y.cell? ⟨ob,3,none⟩=some (.slice a2 n2 c2)):=fun y hy=>by
  have h:=B3.out.2.1.grown hy (by simp)
  exact ⟨h.cell 1,h.cell 2,h.cell 3⟩
 obtain ⟨nk,hnk⟩:∃n,KY.length=n:=⟨_,rfl⟩
 obtain ⟨nv,hnv⟩:∃n,V.length=n:=⟨_,rfl⟩
 go_cut [9] (fun x wc=>∃(xb:Nat) (k1 k2:Option Addr) (k3 k4:Nat),x=.pointer (some ⟨xb,0,none⟩)/\Blk wc xb 61 #[.string ⟨T.toArray⟩,.slice k1 nk k3,.slice k2 nv k4]/\Disk.Own wc w3.heap.size (.slice k1 nk k3) KY/\Disk.Own wc w3.heap.size (.slice k2 nv k4) V/\w3.grownBy wc none)
 case first =>
  refine wp_region_noPanic ?_
  refine wp_region_hold 1000 (fun y=>w3.grownBy y none) (by kernel_rfl) ?_
  have G0:Hid (w3.grownBy w3.drew none):=grown_drew _ _
  generalize w3.drew=wd at G0 ⊢
  have J:Idx [0,1,2,3,5,6]:=trivial
  iterate 6 (refine tK J (G0.out) rfl rfl (fun wk hk=>by obtain ⟨m1,m2,m3⟩:=HC3.out wk hk;go_simp;try rfl) ?_;replace J:=J.tl;try simp only [pN])
  clear J
  refine wpHold_two (i:=4) (j:=9) rfl rfl (by kernel_rfl) (by rfl) (by rfl) (fun K hK=>?_) (fun K hK=>?_)
  ·go_wp2_with fail
   refine (copied65 (.slice a1 n1 c1) KY _ (HS.out.1.grown (grown_trans B3.out.2.2.2.1 G0.out)) (by have:=HS.out.2.2.2.2.1;omega)).mono ?_
   rintro e wd ⟨u,rfl,hu,gg⟩
   obtain ⟨k1,k3,ek⟩:=hu.seg.shape
   rw [hnk] at ek
   subst ek
   have HU1:Hid (Disk.Own wd w3.heap.size (.slice k1 nk k3) KY):=hu.mono G0.out.size
   try replace HX:Hid (Blk wd xb 61 #[.string ⟨#[]⟩,.slice none 0 0,.slice none 0 0]):=HX.out.grown gg (by simp)
   replace G0:Hid (w3.grownBy wd none):=grown_trans G0.out gg
   clear gg hu
   go_wp2_with fail
   refine hK.out _ _ (fun _=>G0.out) ?_
   clear hK K
   try simp only [pN]
   refine wpHold_two (i:=7) (j:=9) rfl rfl (by kernel_rfl) (by rfl) (by rfl) (fun K hK=>?_) (fun K hK=>?_)
   ·go_wp2_with fail
    refine (copied65 (.slice a2 n2 c2) V _ (HS.out.2.1.grown (grown_trans B3.out.2.2.2.1 G0.out)) (by have:=HS.out.2.2.2.2.2;omega)).mono ?_
    rintro e wd ⟨u,rfl,hu,gg⟩
    obtain ⟨k2,k4,ek⟩:=hu.seg.shape
    rw [hnv] at ek
    subst ek
    have HU2:Hid (Disk.Own wd w3.heap.size (.slice k2 nv k4) V):=hu.mono G0.out.size
    replace HU1:Hid (Disk.Own wd w3.heap.size (.slice k1 nk k3) KY):=HU1.out.grown gg
    try replace HX:Hid (Blk wd xb 61 #[.string ⟨#[]⟩,.slice none 0 0,.slice none 0 0]):=HX.out.grown gg (by simp)
    replace G0:Hid (w3.grownBy wd none):=grown_trans G0.out gg
    clear gg hu
    go_wp2_with fail
    refine hK.out _ _ (fun _=>G0.out) ?_
    clear hK K
    try simp only [pN]
    refine tK (i:=8) (l':=[]) trivial (G0.out) rfl rfl (fun wk hk=>by obtain ⟨m1,m2,m3⟩:=HC3.out wk hk;go_simp;try rfl) ?_
    try simp only [pN]
    refine wpHold_one (i:=9) rfl (by kernel_rfl) (by rfl) (fun K hK=>?_)
    go_wp2_with fail
    obtain ⟨xb,hxb⟩:∃x,wd.heap.size=x:=⟨_,rfl⟩
    have HXB:Hid (w3.heap.size<=xb):=by rw [<-hxb];exact G0.out.size
    obtain ⟨wd,hwn,HA⟩:=al wd #[.string ⟨#[]⟩,.slice none 0 0,.slice none 0 0] 61
    rw [hwn,hxb]
    rw [hxb] at HA
    have HX:Hid (Blk wd xb 61 #[.string ⟨#[]⟩,.slice none 0 0,.slice none 0 0]):=HA.out.1
    try replace HU1:Hid (Disk.Own wd w3.heap.size (.slice k1 nk k3) KY):=HU1.out.grown HA.out.2.1
    try replace HU2:Hid (Disk.Own wd w3.heap.size (.slice k2 nv k4) V):=HU2.out.grown HA.out.2.1
    replace G0:Hid (w3.grownBy wd none):=grown_trans G0.out HA.out.2.1
    clear hwn hxb HA
    refine hK.out _ _ (fun _=>G0.out) ?_
    clear hK K
    try simp only [pN]
    refine wpHold_one (i:=10) rfl (by kernel_rfl) (by rfl) (fun K hK=>?_)
    have f0:=HX.out.free 0
    have f1:=HX.out.free 1
    have f2:=HX.out.free 2
    have b0:=HX.out.cell 0
    have b1:=HX.out.cell 1
    have b2:=HX.out.cell 2
    simp at b0 b1 b2
    go_wp2_with fail
    have HZ:Hid (Blk (((wd.setCell ⟨xb,0,none⟩ (.string ⟨T.toArray⟩)).setCell ⟨xb,1,none⟩ (.slice k1 nk k3)).setCell ⟨xb,2,none⟩ (.slice k2 nv k4)) xb 61 #[.string ⟨T.toArray⟩,.slice k1 nk k3,.slice k2 nv k4]/\Disk.Own (((wd.setCell ⟨xb,0,none⟩ (.string ⟨T.toArray⟩)).setCell ⟨xb,1,none⟩ (.slice k1 nk k3)).setCell ⟨xb,2,none⟩ (.slice k2 nv k4)) w3.heap.size (.slice k1 nk k3) KY/\Disk.Own (((wd.setCell ⟨xb,0,none⟩ (.string ⟨T.toArray⟩)).setCell ⟨xb,1,none⟩ (.slice k1 nk k3)).setCell ⟨xb,2,none⟩ (.slice k2 nv k4)) w3.heap.size (.slice k2 nv k4) V/\w3.grownBy (((wd.setCell ⟨xb,0,none⟩ (.string ⟨T.toArray⟩)).setCell ⟨xb,1,none⟩ (.slice k1 nk k3)).setCell ⟨xb,2,none⟩ (.slice k2 nv k4)) none):=⟨((HX.out.store 0 _).store 1 _).store 2 _,own_set3 HU1.out HX.out (by decide),own_set3 HU2.out HX.out (by decide),grown_new3 G0.out HXB.out⟩
    generalize (((wd.setCell ⟨xb,0,none⟩ (.string ⟨T.toArray⟩)).setCell ⟨xb,1,none⟩ (.slice k1 nk k3)).setCell ⟨xb,2,none⟩ (.slice k2 nv k4))=wz at HZ ⊢
    clear f0 f1 f2 b0 b1 b2
    refine hK.out _ _ (fun _=>HZ.out.2.2.2) ?_
    clear hK K
    try simp only [pN]
    refine wpHold_done (by kernel_rfl) ?_
    refine (‹∀(a:Act) (w:World),Met _ a w->_› _ _ ?_)
    go_meet
    case rel=>exact ⟨xb,k1,k2,k3,k4,rfl,HZ.out⟩
   ·go_wp2_with fail
    obtain ⟨xb,hxb⟩:∃x,wd.heap.size=x:=⟨_,rfl⟩
    have HXB:Hid (w3.heap.size<=xb):=by rw [<-hxb];exact G0.out.size
    obtain ⟨wd,hwn,HA⟩:=al wd #[.string ⟨#[]⟩,.slice none 0 0,.slice none 0 0] 61
    rw [hwn,hxb]
    rw [hxb] at HA
    have HX:Hid (Blk wd xb 61 #[.string ⟨#[]⟩,.slice none 0 0,.slice none 0 0]):=HA.out.1
    try replace HU1:Hid (Disk.Own wd w3.heap.size (.slice k1 nk k3) KY):=HU1.out.grown HA.out.2.1
    try replace HU2:Hid (Disk.Own wd w3.heap.size (.slice k2 nv k4) V):=HU2.out.grown HA.out.2.1
    replace G0:Hid (w3.grownBy wd none):=grown_trans G0.out HA.out.2.1
    clear hwn hxb HA
    refine hK.out _ _ (fun _=>G0.out) ?_
    clear hK K
    try simp only [pN]
    refine wpHold_one (i:=7) rfl (by kernel_rfl) (by rfl) (fun K hK=>?_)
    go_wp2_with fail
    refine (copied65 (.slice a2 n2 c2) V _ (HS.out.2.1.grown (grown_trans B3.out.2.2.2.1 G0.out)) (by have:=HS.out.2.2.2.2.2;omega)).mono ?_
    rintro e wd ⟨u,rfl,hu,gg⟩
    obtain ⟨k2,k4,ek⟩:=hu.seg.shape
    rw [hnv] at ek
    subst ek
    have HU2:Hid (Disk.Own wd w3.heap.size (.slice k2 nv k4) V):=hu.mono G0.out.size
    replace HU1:Hid (Disk.Own wd w3.heap.size (.slice k1 nk k3) KY):=HU1.out.grown gg
    try replace HX:Hid (Blk wd xb 61 #[.string ⟨#[]⟩,.slice none 0 0,.slice none 0 0]):=HX.out.grown gg (by simp)
    replace G0:Hid (w3.grownBy wd none):=grown_trans G0.out gg
    clear gg hu
    go_wp2_with fail
    refine hK.out _ _ (fun _=>G0.out) ?_
    clear hK K
    try simp only [pN]
    refine tK (i:=8) (l':=[]) trivial (G0.out) rfl rfl (fun wk hk=>by obtain ⟨m1,m2,m3⟩:=HC3.out wk hk;go_simp;try rfl) ?_
    try simp only [pN]
    refine wpHold_one (i:=10) rfl (by kernel_rfl) (by rfl) (fun K hK=>?_)
    have f0:=HX.out.free 0
    have f1:=HX.out.free 1
    have f2:=HX.out.free 2
    have b0:=HX.out.cell 0
    have b1:=HX.out.cell 1
    have b2:=HX.out.cell 2
    simp at b0 b1 b2
    go_wp2_with fail
    have HZ:Hid (Blk (((wd.setCell ⟨xb,0,none⟩ (.string ⟨T.toArray⟩)).setCell ⟨xb,1,none⟩ (.slice k1 nk k3)).setCell ⟨xb,2,none⟩ (.slice k2 nv k4)) xb 61 #[.string ⟨T.toArray⟩,.slice k1 nk k3,.slice k2 nv k4]/\Disk.Own (((wd.setCell ⟨xb,0,none⟩ (.string ⟨T.toArray⟩)).setCell ⟨xb,1,none⟩ (.slice k1 nk k3)).setCell ⟨xb,2,none⟩ (.slice k2 nv k4)) w3.heap.size (.slice k1 nk k3) KY/\Disk.Own (((wd.setCell ⟨xb,0,none⟩ (.string ⟨T.toArray⟩)).setCell ⟨xb,1,none⟩ (.slice k1 nk k3)).setCell ⟨xb,2,none⟩ (.slice k2 nv k4)) w3.heap.size (.slice k2 nv k4) V/\w3.grownBy (((wd.setCell ⟨xb,0,none⟩ (.string ⟨T.toArray⟩)).setCell ⟨xb,1,none⟩ (.slice k1 nk k3)).setCell ⟨xb,2,none⟩ (.slice k2 nv k4)) none):=⟨((HX.out.store 0 _).store 1 _).store 2 _,own_set3 HU1.out HX.out (by decide),own_set3 HU2.out HX.out (by decide),grown_new3 G0.out HXB.out⟩
    generalize (((wd.setCell ⟨xb,0,none⟩ (.string ⟨T.toArray⟩)).setCell ⟨xb,1,none⟩ (.slice k1 nk k3)).setCell ⟨xb,2,none⟩ (.slice k2 nv k4))=wz at HZ ⊢
    clear f0 f1 f2 b0 b1 b2
    refine hK.out _ _ (fun _=>HZ.out.2.2.2) ?_
    clear hK K
    try simp only [pN]
    refine wpHold_done (by kernel_rfl) ?_
    refine (‹∀(a:Act) (w:World),Met _ a w->_› _ _ ?_)
    go_meet
    case rel=>exact ⟨xb,k1,k2,k3,k4,rfl,HZ.out⟩
  ·go_wp2_with fail
   obtain ⟨xb,hxb⟩:∃x,wd.heap.size=x:=⟨_,rfl⟩
   have HXB:Hid (w3.heap.size<=xb):=by rw [<-hxb];exact G0.out.size
   obtain ⟨wd,hwn,HA⟩:=al wd #[.string ⟨#[]⟩,.slice none 0 0,.slice none 0 0] 61
   rw [hwn,hxb]
   rw [hxb] at HA
   have HX:Hid (Blk wd xb 61 #[.string ⟨#[]⟩,.slice none 0 0,.slice none 0 0]):=HA.out.1
   try replace HU1:Hid (Disk.Own wd w3.heap.size (.slice k1 nk k3) KY):=HU1.out.grown HA.out.2.1
   try replace HU2:Hid (Disk.Own wd w3.heap.size (.slice k2 nv k4) V):=HU2.out.grown HA.out.2.1
   replace G0:Hid (w3.grownBy wd none):=grown_trans G0.out HA.out.2.1
   clear hwn hxb HA
   refine hK.out _ _ (fun _=>G0.out) ?_
   clear hK K
   try simp only [pN]
   refine wpHold_one (i:=4) rfl (by kernel_rfl) (by rfl) (fun K hK=>?_)
   go_wp2_with fail
   refine (copied65 (.slice a1 n1 c1) KY _ (HS.out.1.grown (grown_trans B3.out.2.2.2.1 G0.out)) (by have:=HS.out.2.2.2.2.1;omega)).mono ?_
   rintro e wd ⟨u,rfl,hu,gg⟩
   obtain ⟨k1,k3,ek⟩:=hu.seg.shape
   rw [hnk] at ek
   subst ek
   have HU1:Hid (Disk.Own wd w3.heap.size (.slice k1 nk k3) KY):=hu.mono G0.out.size
   try replace HX:Hid (Blk wd xb 61 #[.string ⟨#[]⟩,.slice none 0 0,.slice none 0 0]):=HX.out.grown gg (by simp)
   replace G0:Hid (w3.grownBy wd none):=grown_trans G0.out gg
   clear gg hu
   go_wp2_with fail
   refine hK.out _ _ (fun _=>G0.out) ?_
   clear hK K
   try simp only [pN]
   refine wpHold_one (i:=7) rfl (by kernel_rfl) (by rfl) (fun K hK=>?_)
   go_wp2_with fail
   refine (copied65 (.slice a2 n2 c2) V _ (HS.out.2.1.grown (grown_trans B3.out.2.2.2.1 G0.out)) (by have:=HS.out.2.2.2.2.2;omega)).mono ?_
   rintro e wd ⟨u,rfl,hu,gg⟩
   obtain ⟨k2,k4,ek⟩:=hu.seg.shape
   rw [hnv] at ek
   subst ek
   have HU2:Hid (Disk.Own wd w3.heap.size (.slice k2 nv k4) V):=hu.mono G0.out.size
   replace HU1:Hid (Disk.Own wd w3.heap.size (.slice k1 nk k3) KY):=HU1.out.grown gg
   try replace HX:Hid (Blk wd xb 61 #[.string ⟨#[]⟩,.slice none 0 0,.slice none 0 0]):=HX.out.grown gg (by simp)
   replace G0:Hid (w3.grownBy wd none):=grown_trans G0.out gg
   clear gg hu
   go_wp2_with fail
   refine hK.out _ _ (fun _=>G0.out) ?_
   clear hK K
   try simp only [pN]
   refine tK (i:=8) (l':=[]) trivial (G0.out) rfl rfl (fun wk hk=>by obtain ⟨m1,m2,m3⟩:=HC3.out wk hk;go_simp;try rfl) ?_
   try simp only [pN]
   refine wpHold_one (i:=10) rfl (by kernel_rfl) (by rfl) (fun K hK=>?_)
   have f0:=HX.out.free 0
   have f1:=HX.out.free 1
   have f2:=HX.out.free 2
   have b0:=HX.out.cell 0
   have b1:=HX.out.cell 1
   have b2:=HX.out.cell 2
   simp at b0 b1 b2
   go_wp2_with fail
   have HZ:Hid (Blk (((wd.setCell ⟨xb,0,none⟩ (.string ⟨T.toArray⟩)).setCell ⟨xb,1,none⟩ (.slice k1 nk k3)).setCell ⟨xb,2,none⟩ (.slice k2 nv k4)) xb 61 #[.string ⟨T.toArray⟩,.slice k1 nk k3,.slice k2 nv k4]/\Disk.Own (((wd.setCell ⟨xb,0,none⟩ (.string ⟨T.toArray⟩)).setCell ⟨xb,1,none⟩ (.slice k1 nk k3)).setCell ⟨xb,2,none⟩ (.slice k2 nv k4)) w3.heap.size (.slice k1 nk k3) KY/\Disk.Own (((wd.setCell ⟨xb,0,none⟩ (.string ⟨T.toArray⟩)).setCell ⟨xb,1,none⟩ (.slice k1 nk k3)).setCell ⟨xb,2,none⟩ (.slice k2 nv k4)) w3.heap.size (.slice k2 nv k4) V/\w3.grownBy (((wd.setCell ⟨xb,0,none⟩ (.string ⟨T.toArray⟩)).setCell ⟨xb,1,none⟩ (.slice k1 nk k3)).setCell ⟨xb,2,none⟩ (.slice k2 nv k4)) none):=⟨((HX.out.store 0 _).store 1 _).store 2 _,own_set3 HU1.out HX.out (by decide),own_set3 HU2.out HX.out (by decide),grown_new3 G0.out HXB.out⟩
   generalize (((wd.setCell ⟨xb,0,none⟩ (.string ⟨T.toArray⟩)).setCell ⟨xb,1,none⟩ (.slice k1 nk k3)).setCell ⟨xb,2,none⟩ (.slice k2 nv k4))=wz at HZ ⊢
   clear f0 f1 f2 b0 b1 b2
   refine hK.out _ _ (fun _=>HZ.out.2.2.2) ?_
   clear hK K
   try simp only [pN]
   refine wpHold_done (by kernel_rfl) ?_
   refine (‹∀(a:Act) (w:World),Met _ a w->_› _ _ ?_)
   go_meet
   case rel=>exact ⟨xb,k1,k2,k3,k4,rfl,HZ.out⟩
 case rest =>
  obtain ⟨xb,k1,k2,k3,k4,rfl,hx1,hx2,hx3,hx4⟩:=hcut
  have HX:Hid (Blk wc xb 61 #[.string ⟨T.toArray⟩,.slice k1 nk k3,.slice k2 nv k4]/\Disk.Own wc w3.heap.size (.slice k1 nk k3) KY/\Disk.Own wc w3.heap.size (.slice k2 nv k4) V/\w.grownBy wc none/\w3.grownBy wc none):=⟨hx1,hx2,hx3,grown_trans B3.out.2.2.2.1 hx4,hx4⟩
  clear hx1 hx2 hx3 hx4 HC3
  have m0:=HX.out.1.cell 0
  have m1:=HX.out.1.cell 1
  have m2:=HX.out.1.cell 2
  simp at m0 m1 m2
  go_upto_region 2 with fail
  go_wp2_with fail
  refine (find93 (.slice a0 n0 c0) (flatD D) T (.slice k1 nk k3) (.slice k2 nv k4) (KY,V) wc (by rw [HV.out.2];omega) (HV.out.1.nms.grown HX.out.2.2.2.1) HX.out.2.1.seg HX.out.2.2.1.seg).mono ?_
  rintro e w5 ⟨rfl,g5⟩
  obtain ⟨i,hi⟩:∃i,upR (flatD D) (T,KY,V)=i:=⟨_,rfl⟩
  obtain ⟨h,hh⟩:∃h,isR (flatD D) (T,KY,V)=h:=⟨_,rfl⟩
  have hin:i<=n0:=by rw [<-hi,<-HV.out.2];exact up_le _ _
  have HF:Hid (upR (flatD D) (T,KY,V)=i/\isR (flatD D) (T,KY,V)=h/\hasL (rowsOf D T) KY=h):=⟨hi,hh,by rw [<-hh];exact (isF_has HO.out.2.2.2.good.rise T KY V).symm⟩
  rw [hi,hh]
  clear hi hh m0 m1 m2
  go_upto_region 3 with fail
  obtain ⟨w6,hw6,H6⟩:=al w5 #[.bool false,.slice none 0 0,.slice none 0 0] 72
  obtain ⟨sb,hsb⟩:∃x,w5.heap.size=x:=⟨_,rfl⟩
  rw [hsb] at H6
  have B6:Hid (Blk w6 qb 23 #[.int .i64 q.1,.int .i64 q.2]/\Blk w6 ob 67 #[.int .i64 1,.string ⟨T.toArray⟩,.slice a1 n1 c1,.slice a2 n2 c2,.bool hs,.slice a3 n3 c3,.slice a4 n4 c4,.int .i64 mo]/\Blk w6 rb 72 #[.bool false,.slice none 0 0,.slice none 0 0]/\Blk w6 xb 61 #[.string ⟨T.toArray⟩,.slice k1 nk k3,.slice k2 nv k4]/\Disk.Own w6 w.heap.size (.slice k1 nk k3) KY/\Disk.Own w6 w.heap.size (.slice k2 nv k4) V/\Blk w6 sb 72 #[.bool false,.slice none 0 0,.slice none 0 0]/\w.grownBy w6 none/\w.heap.size<=rb/\w.heap.size<=sb/\rb≠sb/\w6.heap.size=sb+1):=by
   have g56:=grown_trans g5 H6.out.2.1
   have g36:=grown_trans HX.out.2.2.2.2 g56
   have l3:=B3.out.2.2.2.1.size
   have l5:=(grown_trans HX.out.2.2.2.2 g5).size
   have lr:=B3.out.2.2.1.lt
   exact ⟨B3.out.1.grown g36 (by simp),B3.out.2.1.grown g36 (by simp),B3.out.2.2.1.grown g36 (by simp),HX.out.1.grown g56 (by simp),(HX.out.2.1.grown g56).mono l3,(HX.out.2.2.1.grown g56).mono l3,H6.out.1,grown_trans B3.out.2.2.2.1 g36,B3.out.2.2.2.2.1,by omega,by omega,H6.out.2.2⟩
  have BC:Hid (∀y:World,w6.grownBy y none->y.cell? ⟨ob,0,none⟩=some (.int .i64 1)/\y.cell? ⟨ob,1,none⟩=some (.string ⟨T.toArray⟩)/\y.cell? ⟨ob,2,none⟩=some (.slice a1 n1 c1)/\y.cell? ⟨ob,4,none⟩=some (.bool hs)/\y.cell? ⟨ob,5,none⟩=some (.slice a3 n3 c3)/\y.cell? ⟨ob,6,none⟩=some (.slice a4 n4 c4)/\y.cell? ⟨ob,7,none⟩=some (.int .i64 mo)/\y.cell? ⟨qb,0,none⟩=some (.int .i64 q.1)/\y.cell? ⟨qb,1,none⟩=some (.int .i64 q.2)):=fun y hy=>by
   have h:=B6.out.2.1.grown hy (by simp)
   have h':=B6.out.1.grown hy (by simp)
   exact ⟨h.cell 0,h.cell 1,h.cell 2,h.cell 4,h.cell 5,h.cell 6,h.cell 7,h'.cell 0,h'.cell 1⟩
  clear g5 HX B3
  go_upto_region 4 with fail
  try rw [hw6]
  try rw [hsb]
  clear hw6 hsb H6
  have x0:=(BC.out w6 (grown_refl _ _)).1
  have HK:Hid (keyB KY=true):=by
   have:=may_key HO.out.2.1 (by rw [<-HP.out];show (1:Int)≠5;decide)
   rw [<-HP.out] at this
   exact this
  have HD:Hid (opD q D o=.ok (⟨h,gotD D T KY,[]⟩,D)):=by
   rw [<-HP.out]
   unfold opD
   rw [if_pos rfl]
   simp only [hasD]
   rw [HK.out,HF.out.2.2]
   rfl
  have f0:=B6.out.2.2.1.free 0
  have f1:=B6.out.2.2.1.free 1
  have f2:=B6.out.2.2.1.free 2
  have b0:=B6.out.2.2.1.cell 0
  have b1:=B6.out.2.2.1.cell 1
  have b2:=B6.out.2.2.1.cell 2
  have s0:=B6.out.2.2.2.2.2.2.1.cell 0
  have s1:=B6.out.2.2.2.2.2.2.1.cell 1
  have s2:=B6.out.2.2.2.2.2.2.1.cell 2
  simp at b0 b1 b2 s0 s1 s2
  cases h with
  | false =>
   have HGN:Hid (gotD D T KY=[]):=by
    unfold Hid gotD gotL
    rw [if_neg (by rw [HF.out.2.2];simp)]
   go_wp2_with fail
   refine bodyPost_ret (v:=_) (results_row2 rfl _ _ rb _ rfl (load72 _ rb _ _ _ (((B6.out.2.2.1.store 0 (.bool false)).store 1 (.slice none 0 0)).store 2 (.slice none 0 0)))) rfl ?_
   refine ⟨grown_new3 B6.out.2.2.2.2.2.2.2.1 B6.out.2.2.2.2.2.2.2.2.1,.inl ⟨_,D,HD.out,_,_,_,rfl,by rw [HGN.out];exact Own.nil _ _,TRws.nil _ _,?_⟩⟩
   exact drow_set3 (HV.out.1.grown B6.out.2.2.2.2.2.2.2.1) B6.out.2.2.1 (by decide) (by decide)
  | true =>
   obtain ⟨hu,hgot⟩:=atF_got HO.out.2.2.2.good.rise T KY V HK.out HF.out.2.1
   obtain ⟨cb,off,xv,yv,rfl,d0,d1,e2,d2,t2⟩:=nms_at HV.out.1.nms _ hu
   simp only [hgot] at t2
   rw [HF.out.1] at e2
   obtain ⟨ya,yc,ey⟩:=t2.shape
   obtain ⟨ng,hng⟩:∃n,(gotD D T KY).length=n:=⟨_,rfl⟩
   rw [hng] at ey
   subst ey
   have HT2:Hid (Seg w (.slice ya ng yc) (gotD D T KY)/\ng<=1000):=⟨t2,by
    rw [<-hng,<-hgot]
    exact flat_vlen HO.out.2.2.2.good _ (List.getElem_mem hu)⟩
   have hi1:i<n0:=by rw [<-HF.out.1,<-HV.out.2];exact hu
   have i0:(0:Int)<=(i:Int):=by omega
   have i1:(i:Int)<(n0:Int):=by omega
   have cc2:=B6.out.2.2.2.2.2.2.2.1.cell e2 (by simp)
   clear d0 d1 d2 t2 e2 hgot hu
   go_wp2_with fail
   refine (copied65 (.slice ya ng yc) (gotD D T KY) w6 (HT2.out.1.grown B6.out.2.2.2.2.2.2.2.1) (by rw [hng];have:=HT2.out.2;omega)).mono ?_
   rintro e w7 ⟨u,rfl,hu,g7⟩
   obtain ⟨u1,u2,eu⟩:=hu.seg.shape
   rw [hng] at eu
   subst eu
   have H7:Hid (Disk.Own w7 w.heap.size (.slice u1 ng u2) (gotD D T KY)/\w.grownBy w7 none/\Blk w7 rb 72 #[.bool false,.slice none 0 0,.slice none 0 0]):=⟨hu.mono B6.out.2.2.2.2.2.2.2.1.size,grown_trans B6.out.2.2.2.2.2.2.2.1 g7,B6.out.2.2.1.grown g7 (by simp)⟩
   clear hu g7 f0 f1 f2 b0 b1 b2 s0 s1 s2 cc2
   have f0:=H7.out.2.2.free 0
   have f1:=H7.out.2.2.free 1
   have f2:=H7.out.2.2.free 2
   have b0:=H7.out.2.2.cell 0
   have b1:=H7.out.2.2.cell 1
   have b2:=H7.out.2.2.cell 2
   simp at b0 b1 b2
   go_wp2_with fail
   refine bodyPost_ret (v:=_) (results_row2 rfl _ _ rb _ rfl (load72 _ rb _ _ _ (((H7.out.2.2.store 0 (.bool true)).store 1 (.slice u1 ng u2)).store 2 (.slice none 0 0)))) rfl ?_
   exact ⟨grown_new3 H7.out.2.1 B6.out.2.2.2.2.2.2.2.2.1,.inl ⟨_,D,HD.out,_,_,_,rfl,own_set3 H7.out.1 H7.out.2.2 (by decide),TRws.nil _ _,drow_set3 (HV.out.1.grown H7.out.2.1) H7.out.2.2 (by decide) (by decide)⟩⟩
theorem op68_2 {X:Nat->Prop}(q:Int × Int)(D:DB)(hD:DbQ q D)(v kv vv ol tv:Value)(o:POp)(hkd:o.kind=2)(hmay:mayOp o=true)(w:World)(hX:∀g,X g->g<w.heap.size)(hv:DRow X w v (flatD D))(ho:OpSeg w kv vv ol tv o):Calls Tryz.prog 68 #[quoV q,v,opV kv vv ol tv o] w (ROpE X q D o w):=by
 have HO:Hid (OpSeg w kv vv ol tv o/\mayOp o=true/\(∀g,X g->g<w.heap.size)/\DbQ q D):=⟨ho,hmay,hX,hD⟩
 obtain ⟨a0,n0,c0,rfl,hn0,hc0,hc0',_⟩:=nms_open hv.nms
 have HV:Hid (DRow X w (.slice a0 n0 c0) (flatD D)/\(flatD D).length=n0):=⟨hv,hn0⟩
 have hz0:n0<=4096:=by
  have h1:=hD.len
  rw [<-hn0,flat_len]
  omega
 obtain ⟨a1,n1,c1,a2,n2,c2,a3,n3,c3,a4,n4,c4,rfl,rfl,rfl,rfl⟩:=op_shape ho
 obtain ⟨kd,T,KY,V,hs,OL,to',mo⟩:=o
 simp only at hkd
 subst hkd
 obtain ⟨o,hoo⟩:∃o:POp,(⟨2,T,KY,V,hs,OL,to',mo⟩:POp)=o:=⟨_,rfl⟩
 have HS:Hid (Seg w (.slice a1 n1 c1) KY/\Seg w (.slice a2 n2 c2) V/\Seg w (.slice a3 n3 c3) OL/\Seg w (.slice a4 n4 c4) to'/\KY.length<=1000/\V.length<=1000):=⟨ho.key,ho.value,ho.old,ho.to,may_klen hmay,may_vlen hmay⟩
 have HP:Hid ((⟨2,T,KY,V,hs,OL,to',mo⟩:POp)=o):=hoo
 unfold opV quoV Str
 rw [hoo] at HO
 simp only
 rw [hoo]
 clear ho hD hmay hX hoo hv hn0
 go_enter Tryz.func68,Tryz.ntmps68
 go_upto_region 1 with fail
 obtain ⟨w1,hw1,H1⟩:=al w #[.int .i64 q.1,.int .i64 q.2] 23
 obtain ⟨w2,hw2,H2⟩:=al w1 #[.int .i64 2,.string ⟨T.toArray⟩,.slice a1 n1 c1,.slice a2 n2 c2,.bool hs,.slice a3 n3 c3,.slice a4 n4 c4,.int .i64 mo] 67
 obtain ⟨w3,hw3,H3⟩:=al w2 #[.bool false,.slice none 0 0,.slice none 0 0] 72
 rw [hw1,hw2,hw3]
 obtain ⟨qb,hqb⟩:∃b,w.heap.size=b:=⟨_,rfl⟩
 obtain ⟨ob,hob⟩:∃b,qb+1=b:=⟨_,rfl⟩
 obtain ⟨rb,hrb⟩:∃b,ob+1=b:=⟨_,rfl⟩
 have B3:Hid (Blk w3 qb 23 #[.int .i64 q.1,.int .i64 q.2]/\Blk w3 ob 67 #[.int .i64 2,.string ⟨T.toArray⟩,.slice a1 n1 c1,.slice a2 n2 c2,.bool hs,.slice a3 n3 c3,.slice a4 n4 c4,.int .i64 mo]/\Blk w3 rb 72 #[.bool false,.slice none 0 0,.slice none 0 0]/\w.grownBy w3 none/\w.heap.size<=rb/\w.heap.size=qb):=by
  have s1:=H1.out.2.2
  have s2:=H2.out.2.2
  have g23:=grown_trans H2.out.2.1 H3.out.2.1
  refine ⟨?_,?_,?_,grown_trans H1.out.2.1 g23,by omega,hqb⟩
  ·rw [<-hqb];exact H1.out.1.grown g23 (by simp)
  ·rw [<-hob,<-hqb,<-s1];exact H2.out.1.grown H3.out.2.1 (by simp)
  ·rw [<-hrb,<-hob,<-hqb,<-s1,show w1.heap.size+1=w2.heap.size by omega];exact H3.out.1
 try rw [hqb]
 try rw [hob]
 try rw [hrb]
 clear hw1 hw2 hw3 H1 H2 H3 hqb hob hrb
 have HC3:Hid (∀y:World,w3.grownBy y none->y.cell? ⟨ob,1,none⟩=some (.string ⟨T.toArray⟩)/\y.cell? ⟨ob,2,none⟩=some (.slice a1 n1 c1)/\y.cell? ⟨ob,3,none⟩=some (.slice a2 n2 c2)):=fun y hy=>by
  have h:=B3.out.2.1.grown hy (by simp)
  exact ⟨h.cell 1,h.cell 2,h.cell 3⟩
 obtain ⟨nk,hnk⟩:∃n,KY.length=n:=⟨_,rfl⟩
 obtain ⟨nv,hnv⟩:∃n,V.length=n:=⟨_,rfl⟩
 go_cut [9] (fun x wc=>∃(xb:Nat) (k1 k2:Option Addr) (k3 k4:Nat),x=.pointer (some ⟨xb,0,none⟩)/\Blk wc xb 61 #[.string ⟨T.toArray⟩,.slice k1 nk k3,.slice k2 nv k4]/\Disk.Own wc w3.heap.size (.slice k1 nk k3) KY/\Disk.Own wc w3.heap.size (.slice k2 nv k4) V/\w3.grownBy wc none)
 case first =>
  refine wp_region_noPanic ?_
  refine wp_region_hold 1000 (fun y=>w3.grownBy y none) (by kernel_rfl) ?_
  have G0:Hid (w3.grownBy w3.drew none):=grown_drew _ _
  generalize w3.drew=wd at G0 ⊢
  have J:Idx [0,1,2,3,5,6]:=trivial
  iterate 6 (refine tK J (G0.out) rfl rfl (fun wk hk=>by obtain ⟨m1,m2,m3⟩:=HC3.out wk hk;go_simp;try rfl) ?_;replace J:=J.tl;try simp only [pN])
  clear J
  refine wpHold_two (i:=4) (j:=9) rfl rfl (by kernel_rfl) (by rfl) (by rfl) (fun K hK=>?_) (fun K hK=>?_)
  ·go_wp2_with fail
   refine (copied65 (.slice a1 n1 c1) KY _ (HS.out.1.grown (grown_trans B3.out.2.2.2.1 G0.out)) (by have:=HS.out.2.2.2.2.1;omega)).mono ?_
   rintro e wd ⟨u,rfl,hu,gg⟩
   obtain ⟨k1,k3,ek⟩:=hu.seg.shape
   rw [hnk] at ek
   subst ek
   have HU1:Hid (Disk.Own wd w3.heap.size (.slice k1 nk k3) KY):=hu.mono G0.out.size
   try replace HX:Hid (Blk wd xb 61 #[.string ⟨#[]⟩,.slice none 0 0,.slice none 0 0]):=HX.out.grown gg (by simp)
   replace G0:Hid (w3.grownBy wd none):=grown_trans G0.out gg
   clear gg hu
   go_wp2_with fail
   refine hK.out _ _ (fun _=>G0.out) ?_
   clear hK K
   try simp only [pN]
   refine wpHold_two (i:=7) (j:=9) rfl rfl (by kernel_rfl) (by rfl) (by rfl) (fun K hK=>?_) (fun K hK=>?_)
   ·go_wp2_with fail
    refine (copied65 (.slice a2 n2 c2) V _ (HS.out.2.1.grown (grown_trans B3.out.2.2.2.1 G0.out)) (by have:=HS.out.2.2.2.2.2;omega)).mono ?_
    rintro e wd ⟨u,rfl,hu,gg⟩
    obtain ⟨k2,k4,ek⟩:=hu.seg.shape
    rw [hnv] at ek
    subst ek
    have HU2:Hid (Disk.Own wd w3.heap.size (.slice k2 nv k4) V):=hu.mono G0.out.size
    replace HU1:Hid (Disk.Own wd w3.heap.size (.slice k1 nk k3) KY):=HU1.out.grown gg
    try replace HX:Hid (Blk wd xb 61 #[.string ⟨#[]⟩,.slice none 0 0,.slice none 0 0]):=HX.out.grown gg (by simp)
    replace G0:Hid (w3.grownBy wd none):=grown_trans G0.out gg
    clear gg hu
    go_wp2_with fail
    refine hK.out _ _ (fun _=>G0.out) ?_
    clear hK K
    try simp only [pN]
    refine tK (i:=8) (l':=[]) trivial (G0.out) rfl rfl (fun wk hk=>by obtain ⟨m1,m2,m3⟩:=HC3.out wk hk;go_simp;try rfl) ?_
    try simp only [pN]
    refine wpHold_one (i:=9) rfl (by kernel_rfl) (by rfl) (fun K hK=>?_)
    go_wp2_with fail
    obtain ⟨xb,hxb⟩:∃x,wd.heap.size=x:=⟨_,rfl⟩
    have HXB:Hid (w3.heap.size<=xb):=by rw [<-hxb];exact G0.out.size
    obtain ⟨wd,hwn,HA⟩:=al wd #[.string ⟨#[]⟩,.slice none 0 0,.slice none 0 0] 61
    rw [hwn,hxb]
    rw [hxb] at HA
    have HX:Hid (Blk wd xb 61 #[.string ⟨#[]⟩,.slice none 0 0,.slice none 0 0]):=HA.out.1
    try replace HU1:Hid (Disk.Own wd w3.heap.size (.slice k1 nk k3) KY):=HU1.out.grown HA.out.2.1
    try replace HU2:Hid (Disk.Own wd w3.heap.size (.slice k2 nv k4) V):=HU2.out.grown HA.out.2.1
    replace G0:Hid (w3.grownBy wd none):=grown_trans G0.out HA.out.2.1
    clear hwn hxb HA
    refine hK.out _ _ (fun _=>G0.out) ?_
    clear hK K
    try simp only [pN]
    refine wpHold_one (i:=10) rfl (by kernel_rfl) (by rfl) (fun K hK=>?_)
    have f0:=HX.out.free 0
    have f1:=HX.out.free 1
    have f2:=HX.out.free 2
    have b0:=HX.out.cell 0
    have b1:=HX.out.cell 1
    have b2:=HX.out.cell 2
    simp at b0 b1 b2
    go_wp2_with fail
    have HZ:Hid (Blk (((wd.setCell ⟨xb,0,none⟩ (.string ⟨T.toArray⟩)).setCell ⟨xb,1,none⟩ (.slice k1 nk k3)).setCell ⟨xb,2,none⟩ (.slice k2 nv k4)) xb 61 #[.string ⟨T.toArray⟩,.slice k1 nk k3,.slice k2 nv k4]/\Disk.Own (((wd.setCell ⟨xb,0,none⟩ (.string ⟨T.toArray⟩)).setCell ⟨xb,1,none⟩ (.slice k1 nk k3)).setCell ⟨xb,2,none⟩ (.slice k2 nv k4)) w3.heap.size (.slice k1 nk k3) KY/\Disk.Own (((wd.setCell ⟨xb,0,none⟩ (.string ⟨T.toArray⟩)).setCell ⟨xb,1,none⟩ (.slice k1 nk k3)).setCell ⟨xb,2,none⟩ (.slice k2 nv k4)) w3.heap.size (.slice k2 nv k4) V/\w3.grownBy (((wd.setCell ⟨xb,0,none⟩ (.string ⟨T.toArray⟩)).setCell ⟨xb,1,none⟩ (.slice k1 nk k3)).setCell ⟨xb,2,none⟩ (.slice k2 nv k4)) none):=⟨((HX.out.store 0 _).store 1 _).store 2 _,own_set3 HU1.out HX.out (by decide),own_set3 HU2.out HX.out (by decide),grown_new3 G0.out HXB.out⟩
    generalize (((wd.setCell ⟨xb,0,none⟩ (.string ⟨T.toArray⟩)).setCell ⟨xb,1,none⟩ (.slice k1 nk k3)).setCell ⟨xb,2,none⟩ (.slice k2 nv k4))=wz at HZ ⊢
    clear f0 f1 f2 b0 b1 b2
    refine hK.out _ _ (fun _=>HZ.out.2.2.2) ?_
    clear hK K
    try simp only [pN]
    refine wpHold_done (by kernel_rfl) ?_
    refine (‹∀(a:Act) (w:World),Met _ a w->_› _ _ ?_)
    go_meet
    case rel=>exact ⟨xb,k1,k2,k3,k4,rfl,HZ.out⟩
   ·go_wp2_with fail
    obtain ⟨xb,hxb⟩:∃x,wd.heap.size=x:=⟨_,rfl⟩
    have HXB:Hid (w3.heap.size<=xb):=by rw [<-hxb];exact G0.out.size
    obtain ⟨wd,hwn,HA⟩:=al wd #[.string ⟨#[]⟩,.slice none 0 0,.slice none 0 0] 61
    rw [hwn,hxb]
    rw [hxb] at HA
    have HX:Hid (Blk wd xb 61 #[.string ⟨#[]⟩,.slice none 0 0,.slice none 0 0]):=HA.out.1
    try replace HU1:Hid (Disk.Own wd w3.heap.size (.slice k1 nk k3) KY):=HU1.out.grown HA.out.2.1
    try replace HU2:Hid (Disk.Own wd w3.heap.size (.slice k2 nv k4) V):=HU2.out.grown HA.out.2.1
    replace G0:Hid (w3.grownBy wd none):=grown_trans G0.out HA.out.2.1
    clear hwn hxb HA
    refine hK.out _ _ (fun _=>G0.out) ?_
    clear hK K
    try simp only [pN]
    refine wpHold_one (i:=7) rfl (by kernel_rfl) (by rfl) (fun K hK=>?_)
    go_wp2_with fail
    refine (copied65 (.slice a2 n2 c2) V _ (HS.out.2.1.grown (grown_trans B3.out.2.2.2.1 G0.out)) (by have:=HS.out.2.2.2.2.2;omega)).mono ?_
    rintro e wd ⟨u,rfl,hu,gg⟩
    obtain ⟨k2,k4,ek⟩:=hu.seg.shape
    rw [hnv] at ek
    subst ek
    have HU2:Hid (Disk.Own wd w3.heap.size (.slice k2 nv k4) V):=hu.mono G0.out.size
    replace HU1:Hid (Disk.Own wd w3.heap.size (.slice k1 nk k3) KY):=HU1.out.grown gg
    try replace HX:Hid (Blk wd xb 61 #[.string ⟨#[]⟩,.slice none 0 0,.slice none 0 0]):=HX.out.grown gg (by simp)
    replace G0:Hid (w3.grownBy wd none):=grown_trans G0.out gg
    clear gg hu
    go_wp2_with fail
    refine hK.out _ _ (fun _=>G0.out) ?_
    clear hK K
    try simp only [pN]
    refine tK (i:=8) (l':=[]) trivial (G0.out) rfl rfl (fun wk hk=>by obtain ⟨m1,m2,m3⟩:=HC3.out wk hk;go_simp;try rfl) ?_
    try simp only [pN]
    refine wpHold_one (i:=10) rfl (by kernel_rfl) (by rfl) (fun K hK=>?_)
    have f0:=HX.out.free 0
    have f1:=HX.out.free 1
    have f2:=HX.out.free 2
    have b0:=HX.out.cell 0
    have b1:=HX.out.cell 1
    have b2:=HX.out.cell 2
    simp at b0 b1 b2
    go_wp2_with fail
    have HZ:Hid (Blk (((wd.setCell ⟨xb,0,none⟩ (.string ⟨T.toArray⟩)).setCell ⟨xb,1,none⟩ (.slice k1 nk k3)).setCell ⟨xb,2,none⟩ (.slice k2 nv k4)) xb 61 #[.string ⟨T.toArray⟩,.slice k1 nk k3,.slice k2 nv k4]/\Disk.Own (((wd.setCell ⟨xb,0,none⟩ (.string ⟨T.toArray⟩)).setCell ⟨xb,1,none⟩ (.slice k1 nk k3)).setCell ⟨xb,2,none⟩ (.slice k2 nv k4)) w3.heap.size (.slice k1 nk k3) KY/\Disk.Own (((wd.setCell ⟨xb,0,none⟩ (.string ⟨T.toArray⟩)).setCell ⟨xb,1,none⟩ (.slice k1 nk k3)).setCell ⟨xb,2,none⟩ (.slice k2 nv k4)) w3.heap.size (.slice k2 nv k4) V/\w3.grownBy (((wd.setCell ⟨xb,0,none⟩ (.string ⟨T.toArray⟩)).setCell ⟨xb,1,none⟩ (.slice k1 nk k3)).setCell ⟨xb,2,none⟩ (.slice k2 nv k4)) none):=⟨((HX.out.store 0 _).store 1 _).store 2 _,own_set3 HU1.out HX.out (by decide),own_set3 HU2.out HX.out (by decide),grown_new3 G0.out HXB.out⟩
    generalize (((wd.setCell ⟨xb,0,none⟩ (.string ⟨T.toArray⟩)).setCell ⟨xb,1,none⟩ (.slice k1 nk k3)).setCell ⟨xb,2,none⟩ (.slice k2 nv k4))=wz at HZ ⊢
    clear f0 f1 f2 b0 b1 b2
    refine hK.out _ _ (fun _=>HZ.out.2.2.2) ?_
    clear hK K
    try simp only [pN]
    refine wpHold_done (by kernel_rfl) ?_
    refine (‹∀(a:Act) (w:World),Met _ a w->_› _ _ ?_)
    go_meet
    case rel=>exact ⟨xb,k1,k2,k3,k4,rfl,HZ.out⟩
  ·go_wp2_with fail
   obtain ⟨xb,hxb⟩:∃x,wd.heap.size=x:=⟨_,rfl⟩
   have HXB:Hid (w3.heap.size<=xb):=by rw [<-hxb];exact G0.out.size
   obtain ⟨wd,hwn,HA⟩:=al wd #[.string ⟨#[]⟩,.slice none 0 0,.slice none 0 0] 61
   rw [hwn,hxb]
   rw [hxb] at HA
   have HX:Hid (Blk wd xb 61 #[.string ⟨#[]⟩,.slice none 0 0,.slice none 0 0]):=HA.out.1
   try replace HU1:Hid (Disk.Own wd w3.heap.size (.slice k1 nk k3) KY):=HU1.out.grown HA.out.2.1
   try replace HU2:Hid (Disk.Own wd w3.heap.size (.slice k2 nv k4) V):=HU2.out.grown HA.out.2.1
   replace G0:Hid (w3.grownBy wd none):=grown_trans G0.out HA.out.2.1
   clear hwn hxb HA
   refine hK.out _ _ (fun _=>G0.out) ?_
   clear hK K
   try simp only [pN]
   refine wpHold_one (i:=4) rfl (by kernel_rfl) (by rfl) (fun K hK=>?_)
   go_wp2_with fail
   refine (copied65 (.slice a1 n1 c1) KY _ (HS.out.1.grown (grown_trans B3.out.2.2.2.1 G0.out)) (by have:=HS.out.2.2.2.2.1;omega)).mono ?_
   rintro e wd ⟨u,rfl,hu,gg⟩
   obtain ⟨k1,k3,ek⟩:=hu.seg.shape
   rw [hnk] at ek
   subst ek
   have HU1:Hid (Disk.Own wd w3.heap.size (.slice k1 nk k3) KY):=hu.mono G0.out.size
   try replace HX:Hid (Blk wd xb 61 #[.string ⟨#[]⟩,.slice none 0 0,.slice none 0 0]):=HX.out.grown gg (by simp)
   replace G0:Hid (w3.grownBy wd none):=grown_trans G0.out gg
   clear gg hu
   go_wp2_with fail
   refine hK.out _ _ (fun _=>G0.out) ?_
   clear hK K
   try simp only [pN]
   refine wpHold_one (i:=7) rfl (by kernel_rfl) (by rfl) (fun K hK=>?_)
   go_wp2_with fail
   refine (copied65 (.slice a2 n2 c2) V _ (HS.out.2.1.grown (grown_trans B3.out.2.2.2.1 G0.out)) (by have:=HS.out.2.2.2.2.2;omega)).mono ?_
   rintro e wd ⟨u,rfl,hu,gg⟩
   obtain ⟨k2,k4,ek⟩:=hu.seg.shape
   rw [hnv] at ek
   subst ek
   have HU2:Hid (Disk.Own wd w3.heap.size (.slice k2 nv k4) V):=hu.mono G0.out.size
   replace HU1:Hid (Disk.Own wd w3.heap.size (.slice k1 nk k3) KY):=HU1.out.grown gg
   try replace HX:Hid (Blk wd xb 61 #[.string ⟨#[]⟩,.slice none 0 0,.slice none 0 0]):=HX.out.grown gg (by simp)
   replace G0:Hid (w3.grownBy wd none):=grown_trans G0.out gg
   clear gg hu
   go_wp2_with fail
   refine hK.out _ _ (fun _=>G0.out) ?_
   clear hK K
   try simp only [pN]
   refine tK (i:=8) (l':=[]) trivial (G0.out) rfl rfl (fun wk hk=>by obtain ⟨m1,m2,m3⟩:=HC3.out wk hk;go_simp;try rfl) ?_
   try simp only [pN]
   refine wpHold_one (i:=10) rfl (by kernel_rfl) (by rfl) (fun K hK=>?_)
   have f0:=HX.out.free 0
   have f1:=HX.out.free 1
   have f2:=HX.out.free 2
   have b0:=HX.out.cell 0
   have b1:=HX.out.cell 1
   have b2:=HX.out.cell 2
   simp at b0 b1 b2
   go_wp2_with fail
   have HZ:Hid (Blk (((wd.setCell ⟨xb,0,none⟩ (.string ⟨T.toArray⟩)).setCell ⟨xb,1,none⟩ (.slice k1 nk k3)).setCell ⟨xb,2,none⟩ (.slice k2 nv k4)) xb 61 #[.string ⟨T.toArray⟩,.slice k1 nk k3,.slice k2 nv k4]/\Disk.Own (((wd.setCell ⟨xb,0,none⟩ (.string ⟨T.toArray⟩)).setCell ⟨xb,1,none⟩ (.slice k1 nk k3)).setCell ⟨xb,2,none⟩ (.slice k2 nv k4)) w3.heap.size (.slice k1 nk k3) KY/\Disk.Own (((wd.setCell ⟨xb,0,none⟩ (.string ⟨T.toArray⟩)).setCell ⟨xb,1,none⟩ (.slice k1 nk k3)).setCell ⟨xb,2,none⟩ (.slice k2 nv k4)) w3.heap.size (.slice k2 nv k4) V/\w3.grownBy (((wd.setCell ⟨xb,0,none⟩ (.string ⟨T.toArray⟩)).setCell ⟨xb,1,none⟩ (.slice k1 nk k3)).setCell ⟨xb,2,none⟩ (.slice k2 nv k4)) none):=⟨((HX.out.store 0 _).store 1 _).store 2 _,own_set3 HU1.out HX.out (by decide),own_set3 HU2.out HX.out (by decide),grown_new3 G0.out HXB.out⟩
   generalize (((wd.setCell ⟨xb,0,none⟩ (.string ⟨T.toArray⟩)).setCell ⟨xb,1,none⟩ (.slice k1 nk k3)).setCell ⟨xb,2,none⟩ (.slice k2 nv k4))=wz at HZ ⊢
   clear f0 f1 f2 b0 b1 b2
   refine hK.out _ _ (fun _=>HZ.out.2.2.2) ?_
   clear hK K
   try simp only [pN]
   refine wpHold_done (by kernel_rfl) ?_
   refine (‹∀(a:Act) (w:World),Met _ a w->_› _ _ ?_)
   go_meet
   case rel=>exact ⟨xb,k1,k2,k3,k4,rfl,HZ.out⟩
 case rest =>
  obtain ⟨xb,k1,k2,k3,k4,rfl,hx1,hx2,hx3,hx4⟩:=hcut
  have HX:Hid (Blk wc xb 61 #[.string ⟨T.toArray⟩,.slice k1 nk k3,.slice k2 nv k4]/\Disk.Own wc w3.heap.size (.slice k1 nk k3) KY/\Disk.Own wc w3.heap.size (.slice k2 nv k4) V/\w.grownBy wc none/\w3.grownBy wc none):=⟨hx1,hx2,hx3,grown_trans B3.out.2.2.2.1 hx4,hx4⟩
  clear hx1 hx2 hx3 hx4 HC3
  have m0:=HX.out.1.cell 0
  have m1:=HX.out.1.cell 1
  have m2:=HX.out.1.cell 2
  simp at m0 m1 m2
  go_upto_region 2 with fail
  go_wp2_with fail
  refine (find93 (.slice a0 n0 c0) (flatD D) T (.slice k1 nk k3) (.slice k2 nv k4) (KY,V) wc (by rw [HV.out.2];omega) (HV.out.1.nms.grown HX.out.2.2.2.1) HX.out.2.1.seg HX.out.2.2.1.seg).mono ?_
  rintro e w5 ⟨rfl,g5⟩
  obtain ⟨i,hi⟩:∃i,upR (flatD D) (T,KY,V)=i:=⟨_,rfl⟩
  obtain ⟨h,hh⟩:∃h,isR (flatD D) (T,KY,V)=h:=⟨_,rfl⟩
  have hin:i<=n0:=by rw [<-hi,<-HV.out.2];exact up_le _ _
  have HF:Hid (upR (flatD D) (T,KY,V)=i/\isR (flatD D) (T,KY,V)=h/\hasL (rowsOf D T) KY=h):=⟨hi,hh,by rw [<-hh];exact (isF_has HO.out.2.2.2.good.rise T KY V).symm⟩
  rw [hi,hh]
  clear hi hh m0 m1 m2
  go_upto_region 3 with fail
  obtain ⟨w6,hw6,H6⟩:=al w5 #[.bool false,.slice none 0 0,.slice none 0 0] 72
  obtain ⟨sb,hsb⟩:∃x,w5.heap.size=x:=⟨_,rfl⟩
  rw [hsb] at H6
  have B6:Hid (Blk w6 qb 23 #[.int .i64 q.1,.int .i64 q.2]/\Blk w6 ob 67 #[.int .i64 2,.string ⟨T.toArray⟩,.slice a1 n1 c1,.slice a2 n2 c2,.bool hs,.slice a3 n3 c3,.slice a4 n4 c4,.int .i64 mo]/\Blk w6 rb 72 #[.bool false,.slice none 0 0,.slice none 0 0]/\Blk w6 xb 61 #[.string ⟨T.toArray⟩,.slice k1 nk k3,.slice k2 nv k4]/\Disk.Own w6 w.heap.size (.slice k1 nk k3) KY/\Disk.Own w6 w.heap.size (.slice k2 nv k4) V/\Blk w6 sb 72 #[.bool false,.slice none 0 0,.slice none 0 0]/\w.grownBy w6 none/\w.heap.size<=rb/\w.heap.size<=sb/\rb≠sb/\w6.heap.size=sb+1):=by
   have g56:=grown_trans g5 H6.out.2.1
   have g36:=grown_trans HX.out.2.2.2.2 g56
   have l3:=B3.out.2.2.2.1.size
   have l5:=(grown_trans HX.out.2.2.2.2 g5).size
   have lr:=B3.out.2.2.1.lt
   exact ⟨B3.out.1.grown g36 (by simp),B3.out.2.1.grown g36 (by simp),B3.out.2.2.1.grown g36 (by simp),HX.out.1.grown g56 (by simp),(HX.out.2.1.grown g56).mono l3,(HX.out.2.2.1.grown g56).mono l3,H6.out.1,grown_trans B3.out.2.2.2.1 g36,B3.out.2.2.2.2.1,by omega,by omega,H6.out.2.2⟩
  have BC:Hid (∀y:World,w6.grownBy y none->y.cell? ⟨ob,0,none⟩=some (.int .i64 2)/\y.cell? ⟨ob,1,none⟩=some (.string ⟨T.toArray⟩)/\y.cell? ⟨ob,2,none⟩=some (.slice a1 n1 c1)/\y.cell? ⟨ob,4,none⟩=some (.bool hs)/\y.cell? ⟨ob,5,none⟩=some (.slice a3 n3 c3)/\y.cell? ⟨ob,6,none⟩=some (.slice a4 n4 c4)/\y.cell? ⟨ob,7,none⟩=some (.int .i64 mo)/\y.cell? ⟨qb,0,none⟩=some (.int .i64 q.1)/\y.cell? ⟨qb,1,none⟩=some (.int .i64 q.2)):=fun y hy=>by
   have h:=B6.out.2.1.grown hy (by simp)
   have h':=B6.out.1.grown hy (by simp)
   exact ⟨h.cell 0,h.cell 1,h.cell 2,h.cell 4,h.cell 5,h.cell 6,h.cell 7,h'.cell 0,h'.cell 1⟩
  clear g5 HX B3
  go_upto_region 4 with fail
  try rw [hw6]
  try rw [hsb]
  clear hw6 hsb H6
  have x0:=(BC.out w6 (grown_refl _ _)).1
  have HK:Hid (keyB KY=true):=by
   have:=may_key HO.out.2.1 (by rw [<-HP.out];show (2:Int)≠5;decide)
   rw [<-HP.out] at this
   exact this
  obtain ⟨bad,hbad⟩:∃b,b=false:=⟨_,rfl⟩
  have HM:Hid (opD q D o=if bad=true then .error 1 else putR q D o):=by
   rw [hbad,<-HP.out]
   unfold opD
   rw [if_neg (by show ¬((2:Int)=1);decide),if_neg (by show ¬((2:Int)=3);decide),if_neg (by show ¬((2:Int)=5);decide),if_neg (by rintro ⟨h,_⟩;exact absurd (show (2:Int)=4 from h) (by decide)),if_neg (by simp)]
   exact rfl
  have HBAD:Hid (bad=false):=hbad
  clear hbad
  go_upto_region 14 with fail
  clear x0
  go_cut [82] (fun x wc=>x=.bool bad/\w6.grownBy wc none)
  case first =>
   ·refine wp_region_noPanic ?_
    refine wp_region_hold 1000 (fun y=>w6.grownBy y none) (by kernel_rfl) ?_
    have G0:Hid (w6.grownBy w6.drew none):=grown_drew _ _
    generalize w6.drew=wd at G0 ⊢
    have J:Idx [0,1,2,3]:=trivial
    iterate 4 (refine tK J (G0.out) rfl rfl (fun wk hk=>by obtain ⟨m0,m1,m2,m3,m4,m5,m6,m7,m8⟩:=BC.out wk hk;go_simp;try rfl) ?_;replace J:=J.tl;try simp only [pN])
    clear J
    have J:Idx [4,5,6,7,8,9,10,11,12,13,14,15,16,17,18,19,20,21,22]:=trivial
    iterate 19 (refine sk J (G0.out) rfl rfl ?_;replace J:=J.tl;try simp only [pN])
    clear J
    refine tK (i:=23) (l':=[]) trivial (G0.out) rfl rfl (fun wk hk=>by obtain ⟨m0,m1,m2,m3,m4,m5,m6,m7,m8⟩:=BC.out wk hk;go_simp;try rfl) ?_
    try simp only [pN]
    refine wpHold_done (by kernel_rfl) ?_
    refine (‹∀(a:Act) (w:World),Met _ a w->_› _ _ ?_)
    go_meet
    case rel=>exact ⟨by rw [HBAD.out],G0.out⟩
  case rest =>
   obtain ⟨rfl,hgc⟩:=hcut
   have C6:Hid (Blk wc rb 72 #[.bool false,.slice none 0 0,.slice none 0 0]/\Blk wc sb 72 #[.bool false,.slice none 0 0,.slice none 0 0]/\Blk wc xb 61 #[.string ⟨T.toArray⟩,.slice k1 nk k3,.slice k2 nv k4]/\Disk.Own wc w.heap.size (.slice k1 nk k3) KY/\Disk.Own wc w.heap.size (.slice k2 nv k4) V/\w.grownBy wc none/\w6.grownBy wc none/\w.heap.size<=rb/\w.heap.size<=sb/\rb≠sb):=⟨B6.out.2.2.1.grown hgc (by simp),B6.out.2.2.2.2.2.2.1.grown hgc (by simp),B6.out.2.2.2.1.grown hgc (by simp),B6.out.2.2.2.2.1.grown hgc,B6.out.2.2.2.2.2.1.grown hgc,grown_trans B6.out.2.2.2.2.2.2.2.1 hgc,hgc,B6.out.2.2.2.2.2.2.2.2.1,B6.out.2.2.2.2.2.2.2.2.2.1,B6.out.2.2.2.2.2.2.2.2.2.2.1⟩
   clear hgc B6 HBAD
   cases bad with
   | true =>
    have HE1:Hid (opD q D o=.error 1):=by show _=_;rw [HM.out,if_pos rfl]
    have f0:=C6.out.1.free 0
    have f1:=C6.out.1.free 1
    have f2:=C6.out.1.free 2
    have b0:=C6.out.1.cell 0
    have b1:=C6.out.1.cell 1
    have b2:=C6.out.1.cell 2
    have s0:=C6.out.2.1.cell 0
    have s1:=C6.out.2.1.cell 1
    have s2:=C6.out.2.1.cell 2
    simp at b0 b1 b2 s0 s1 s2
    go_wp2_with fail
    refine bodyPost_ret (v:=_) (results_row2 rfl _ _ rb _ rfl (load72 _ rb _ _ _ (((C6.out.1.store 0 (.bool false)).store 1 (.slice none 0 0)).store 2 (.slice none 0 0)))) rfl ?_
    exact ⟨grown_new3 C6.out.2.2.2.2.2.1 C6.out.2.2.2.2.2.2.2.1,.inr ⟨1,HE1.out,by decide,_,_,_,rfl⟩⟩
   | false =>
    have m0:=C6.out.2.2.1.cell 0
    have m1:=C6.out.2.2.1.cell 1
    have m2:=C6.out.2.2.1.cell 2
    simp at m0 m1 m2
    go_upto_region 16 with fail
    go_wp2_with fail
    refine (put94 (X:=X) (.slice a0 n0 c0) (flatD D) T (.slice k1 nk k3) (.slice k2 nv k4) (KY,V) wc (fun g hg=>by have:=HO.out.2.2.1 g hg;have:=C6.out.2.2.2.2.2.1.size;omega) (by rw [HV.out.2];omega) (HV.out.1.grown C6.out.2.2.2.2.2.1) (C6.out.2.2.2.1.mono (Nat.zero_le _)) (C6.out.2.2.2.2.1.mono (Nat.zero_le _)) (off_new HO.out.2.2.1 C6.out.2.2.2.1 (Nat.le_refl _)) (off_new HO.out.2.2.1 C6.out.2.2.2.2.1 (Nat.le_refl _))).mono ?_
    rintro e w8 ⟨u,rfl,hu,g8⟩
    rw [putF_flat HO.out.2.2.2.good.rise] at hu
    obtain ⟨E,hE⟩:∃E,putD D T KY V=E:=⟨_,rfl⟩
    have HGE:Hid (GoodD E):=by
     rw [<-hE]
     refine good_putD HO.out.2.2.2.good ?_ (by have:=HO.out.2.2.2.len;omega)
     unfold okP
     have h1:=may_value HO.out.2.1
     rw [<-HP.out] at h1
     simp only at h1
     rw [HK.out,h1]
     rfl
    have HLE:Hid ((flatD E).length<=4097):=by
     have e1:=sum_stand HO.out.2.2.2.good.rise T (putL (rowsOf D T) KY V) List.length rfl
     have e2:=put_len (rowsOf D T) KY V
     have e3:=HO.out.2.2.2.len
     show _<=_
     rw [flat_len,<-hE]
     unfold putD lenD at *
     omega
    have HPR:Hid (putR q D o=if aboveD q E=0 then .ok (⟨h,[],[]⟩,E) else .error (aboveD q E)):=by
     unfold putR
     rw [<-HP.out]
     simp only [hE,hasD]
     rw [HK.out,HF.out.2.2]
     rfl
    rw [hE] at hu
    obtain ⟨au,nu,cu,rfl,hnu,hcu,hcu',_⟩:=nms_open hu.nms
    have H8:Hid (DRow X w8 (.slice au nu cu) (flatD E)/\Blk w8 rb 72 #[.bool false,.slice none 0 0,.slice none 0 0]/\Blk w8 sb 72 #[.bool false,.slice none 0 0,.slice none 0 0]/\w.grownBy w8 none/\w6.grownBy w8 none/\(flatD E).length=nu):=⟨hu,C6.out.1.grown g8 (by simp),C6.out.2.1.grown g8 (by simp),grown_trans C6.out.2.2.2.2.2.1 g8,grown_trans C6.out.2.2.2.2.2.2.1 g8,hnu⟩
    clear hu g8 m0 m1 m2 hE hnu
    have hn9:nu<=4097:=by rw [<-H8.out.2.2.2.2.2];exact HLE.out
    have x7:=(BC.out w8 H8.out.2.2.2.2.1).2.2.2.2.2.2.2.1
    have f0:=H8.out.2.1.free 0
    have f1:=H8.out.2.1.free 1
    have f2:=H8.out.2.1.free 2
    have b0:=H8.out.2.1.cell 0
    have b1:=H8.out.2.1.cell 1
    have b2:=H8.out.2.1.cell 2
    have s0:=H8.out.2.2.1.cell 0
    have s1:=H8.out.2.2.1.cell 1
    have s2:=H8.out.2.2.1.cell 2
    simp at b0 b1 b2 s0 s1 s2
    by_cases hq1:q.1<(nu:Int)
    ·have HE2:Hid (opD q D o=.error 2):=by
      show _=_
      rw [HM.out,if_neg (by simp),HPR.out]
      unfold aboveD
      rw [<-flat_len,H8.out.2.2.2.2.2,if_pos hq1,if_neg (by decide)]
     go_wp2_with fail
     refine bodyPost_ret (v:=_) (results_row2 rfl _ _ rb _ rfl (load72 _ rb _ _ _ (((H8.out.2.1.store 0 (.bool false)).store 1 (.slice none 0 0)).store 2 (.slice none 0 0)))) rfl ?_
     exact ⟨grown_new3 H8.out.2.2.2.1 C6.out.2.2.2.2.2.2.2.1,.inr ⟨2,HE2.out,by decide,_,_,_,rfl⟩⟩
    ·have HQ1:Hid (¬(q.1<(nu:Int))):=hq1
     go_upto_region 19 with fail
     clear f0 f1 f2 b0 b1 b2 s0 s1 s2 x7 hq1
     go_cut [99] (fun x wc=>x=.bool (decide (q.2<(sizeD E:Int)))/\w8.grownBy wc none)
     case first =>
      refine wp_region_noPanic ?_
      refine wp_region_hold 1000 (fun y=>w8.grownBy y none) (by kernel_rfl) ?_
      have G0:Hid (w8.grownBy w8.drew none):=grown_drew _ _
      generalize w8.drew=wd at G0 ⊢
      have J:Idx [0,2,3]:=trivial
      iterate 3 (refine tK J (G0.out) rfl rfl (fun wk hk=>by obtain ⟨m0,m1,m2,m3,m4,m5,m6,m7,m8⟩:=BC.out wk (grown_trans H8.out.2.2.2.2.1 hk);go_simp;try rfl) ?_;replace J:=J.tl;try simp only [pN])
      clear J
      refine wpHold_one (i:=1) rfl (by kernel_rfl) (by rfl) (fun K hK=>?_)
      go_wp2_with fail
      refine (size39 (.slice au nu cu) (flatD E) (fun k hk=>size_few2 HGE.out HLE.out k) wd (H8.out.1.nms.grown G0.out)).mono ?_
      rw [size_flat]
      rintro e wa ⟨rfl,gg⟩
      have GA:Hid (w8.grownBy wa none):=grown_trans G0.out gg
      clear gg
      go_wp2_with fail
      refine hK.out _ _ (fun _=>GA.out) ?_
      clear hK K
      try simp only [pN]
      refine tK (i:=4) (l':=[]) trivial (GA.out) rfl rfl (fun wk hk=>by obtain ⟨m0,m1,m2,m3,m4,m5,m6,m7,m8⟩:=BC.out wk (grown_trans H8.out.2.2.2.2.1 hk);go_simp;try rfl) ?_
      try simp only [pN]
      refine wpHold_done (by kernel_rfl) ?_
      refine (‹∀(a:Act) (w:World),Met _ a w->_› _ _ ?_)
      go_meet
      case rel=>exact ⟨rfl,GA.out⟩
     case rest =>
      rename_i wq
      obtain ⟨rfl,hgq⟩:=hcut
      have H9:Hid (DRow X wc (.slice au nu cu) (flatD E)/\Blk wc rb 72 #[.bool false,.slice none 0 0,.slice none 0 0]/\Blk wc sb 72 #[.bool false,.slice none 0 0,.slice none 0 0]/\w.grownBy wc none):=⟨H8.out.1.grown hgq,H8.out.2.1.grown hgq (by simp),H8.out.2.2.1.grown hgq (by simp),grown_trans H8.out.2.2.2.1 hgq⟩
      have HL9:Hid (w.heap.size<=rb/\w.heap.size<=sb/\rb≠sb):=C6.out.2.2.2.2.2.2.2
      have HA:Hid (aboveD q E=if q.2<(sizeD E:Int) then 3 else 0):=by
       unfold aboveD
       rw [<-flat_len,H8.out.2.2.2.2.2,if_neg (show ¬(q.1<(nu:Int)) by have:=HQ1.out;omega)]
       rfl
      clear hgq H8 C6
      have f0:=H9.out.2.1.free 0
      have f1:=H9.out.2.1.free 1
      have f2:=H9.out.2.1.free 2
      have b0:=H9.out.2.1.cell 0
      have b1:=H9.out.2.1.cell 1
      have b2:=H9.out.2.1.cell 2
      have s0:=H9.out.2.2.1.cell 0
      have s1:=H9.out.2.2.1.cell 1
      have s2:=H9.out.2.2.1.cell 2
      simp at b0 b1 b2 s0 s1 s2
      by_cases hq2:q.2<(sizeD E:Int)
      ·rw [decide_eq_true hq2]
       have HE3:Hid (opD q D o=.error 3):=by
        show _=_
        rw [HM.out,if_neg (by simp),HPR.out,HA.out,if_pos hq2,if_neg (by decide)]
       clear hq2
       go_wp2_with fail
       refine bodyPost_ret (v:=_) (results_row2 rfl _ _ rb _ rfl (load72 _ rb _ _ _ (((H9.out.2.1.store 0 (.bool false)).store 1 (.slice none 0 0)).store 2 (.slice none 0 0)))) rfl ?_
       exact ⟨grown_new3 H9.out.2.2.2 HL9.out.1,.inr ⟨3,HE3.out,by decide,_,_,_,rfl⟩⟩
      ·rw [decide_eq_false hq2]
       have HE0:Hid (opD q D o=.ok (⟨h,[],[]⟩,E)):=by
        show _=_
        rw [HM.out,if_neg (by simp),HPR.out,HA.out,if_neg hq2,if_pos rfl]
       have f3:=H9.out.2.2.1.free 0
       clear hq2 f0 f1 f2 b0 b1 b2
       go_upto_region 28 with fail
       have B9:Hid (Blk (wc.setCell ⟨sb,0,none⟩ (.bool h)) sb 72 #[.bool h,.slice none 0 0,.slice none 0 0]/\Blk (wc.setCell ⟨sb,0,none⟩ (.bool h)) rb 72 #[.bool false,.slice none 0 0,.slice none 0 0]/\w.grownBy (wc.setCell ⟨sb,0,none⟩ (.bool h)) none/\DRow X (wc.setCell ⟨sb,0,none⟩ (.bool h)) (.slice au nu cu) (flatD E)):=⟨H9.out.2.2.1.store 0 _,H9.out.2.1.grown (grown_setCell _ _ _ _) (by simp;exact fun e=>HL9.out.2.2 e.symm),grown_new H9.out.2.2.2 (grown_setCell _ _ _ _) (fun g hg=>by simp at hg;have:=HL9.out.2.1;omega),H9.out.1.off (grown_setCell _ _ _ _) H9.out.2.2.1 (by decide) (by decide)⟩
       generalize wc.setCell ⟨sb,0,none⟩ (.bool h)=w9 at B9 ⊢
       clear s0 s1 s2 f3 H9
       have f0:=B9.out.2.1.free 0
       have f1:=B9.out.2.1.free 1
       have f2:=B9.out.2.1.free 2
       have b0:=B9.out.2.1.cell 0
       have b1:=B9.out.2.1.cell 1
       have b2:=B9.out.2.1.cell 2
       have s0:=B9.out.1.cell 0
       have s1:=B9.out.1.cell 1
       have s2:=B9.out.1.cell 2
       simp at b0 b1 b2 s0 s1 s2
       go_wp2_with fail
       refine bodyPost_ret (v:=_) (results_row2 rfl _ _ rb _ rfl (load72 _ rb _ _ _ (((B9.out.2.1.store 0 (.bool h)).store 1 (.slice none 0 0)).store 2 (.slice none 0 0)))) rfl ?_
       exact ⟨grown_new3 B9.out.2.2.1 HL9.out.1,.inl ⟨_,_,HE0.out,_,_,_,rfl,Own.nil _ _,TRws.nil _ _,drow_set3 B9.out.2.2.2 B9.out.2.1 (by decide) (by decide)⟩⟩
theorem op68_3 {X:Nat->Prop}(q:Int × Int)(D:DB)(hD:DbQ q D)(v kv vv ol tv:Value)(o:POp)(hkd:o.kind=3)(hmay:mayOp o=true)(w:World)(hX:∀g,X g->g<w.heap.size)(hv:DRow X w v (flatD D))(ho:OpSeg w kv vv ol tv o):Calls Tryz.prog 68 #[quoV q,v,opV kv vv ol tv o] w (ROpE X q D o w):=by
 have HO:Hid (OpSeg w kv vv ol tv o/\mayOp o=true/\(∀g,X g->g<w.heap.size)/\DbQ q D):=⟨ho,hmay,hX,hD⟩
 obtain ⟨a0,n0,c0,rfl,hn0,hc0,hc0',_⟩:=nms_open hv.nms
 have HV:Hid (DRow X w (.slice a0 n0 c0) (flatD D)/\(flatD D).length=n0):=⟨hv,hn0⟩
 have hz0:n0<=4096:=by
  have h1:=hD.len
  rw [<-hn0,flat_len]
  omega
 obtain ⟨a1,n1,c1,a2,n2,c2,a3,n3,c3,a4,n4,c4,rfl,rfl,rfl,rfl⟩:=op_shape ho
 obtain ⟨kd,T,KY,V,hs,OL,to',mo⟩:=o
 simp only at hkd
 subst hkd
 obtain ⟨o,hoo⟩:∃o:POp,(⟨3,T,KY,V,hs,OL,to',mo⟩:POp)=o:=⟨_,rfl⟩
 have HS:Hid (Seg w (.slice a1 n1 c1) KY/\Seg w (.slice a2 n2 c2) V/\Seg w (.slice a3 n3 c3) OL/\Seg w (.slice a4 n4 c4) to'/\KY.length<=1000/\V.length<=1000):=⟨ho.key,ho.value,ho.old,ho.to,may_klen hmay,may_vlen hmay⟩
 have HP:Hid ((⟨3,T,KY,V,hs,OL,to',mo⟩:POp)=o):=hoo
 unfold opV quoV Str
 rw [hoo] at HO
 simp only
 rw [hoo]
 clear ho hD hmay hX hoo hv hn0
 go_enter Tryz.func68,Tryz.ntmps68
 go_upto_region 1 with fail
 obtain ⟨w1,hw1,H1⟩:=al w #[.int .i64 q.1,.int .i64 q.2] 23
 obtain ⟨w2,hw2,H2⟩:=al w1 #[.int .i64 3,.string ⟨T.toArray⟩,.slice a1 n1 c1,.slice a2 n2 c2,.bool hs,.slice a3 n3 c3,.slice a4 n4 c4,.int .i64 mo] 67
 obtain ⟨w3,hw3,H3⟩:=al w2 #[.bool false,.slice none 0 0,.slice none 0 0] 72
 rw [hw1,hw2,hw3]
 obtain ⟨qb,hqb⟩:∃b,w.heap.size=b:=⟨_,rfl⟩
 obtain ⟨ob,hob⟩:∃b,qb+1=b:=⟨_,rfl⟩
 obtain ⟨rb,hrb⟩:∃b,ob+1=b:=⟨_,rfl⟩
 have B3:Hid (Blk w3 qb 23 #[.int .i64 q.1,.int .i64 q.2]/\Blk w3 ob 67 #[.int .i64 3,.string ⟨T.toArray⟩,.slice a1 n1 c1,.slice a2 n2 c2,.bool hs,.slice a3 n3 c3,.slice a4 n4 c4,.int .i64 mo]/\Blk w3 rb 72 #[.bool false,.slice none 0 0,.slice none 0 0]/\w.grownBy w3 none/\w.heap.size<=rb/\w.heap.size=qb):=by
  have s1:=H1.out.2.2
  have s2:=H2.out.2.2
  have g23:=grown_trans H2.out.2.1 H3.out.2.1
  refine ⟨?_,?_,?_,grown_trans H1.out.2.1 g23,by omega,hqb⟩
  ·rw [<-hqb];exact H1.out.1.grown g23 (by simp)
  ·rw [<-hob,<-hqb,<-s1];exact H2.out.1.grown H3.out.2.1 (by simp)
  ·rw [<-hrb,<-hob,<-hqb,<-s1,show w1.heap.size+1=w2.heap.size by omega];exact H3.out.1
 try rw [hqb]
 try rw [hob]
 try rw [hrb]
 clear hw1 hw2 hw3 H1 H2 H3 hqb hob hrb
 have HC3:Hid (∀y:World,w3.grownBy y none->y.cell? ⟨ob,1,none⟩=some (.string ⟨T.toArray⟩)/\y.cell? ⟨ob,2,none⟩=some (.slice a1 n1 c1)/\y.cell? ⟨ob,3,none⟩=some (.slice a2 n2 c2)):=fun y hy=>by
  have h:=B3.out.2.1.grown hy (by simp)
  exact ⟨h.cell 1,h.cell 2,h.cell 3⟩
 obtain ⟨nk,hnk⟩:∃n,KY.length=n:=⟨_,rfl⟩
 obtain ⟨nv,hnv⟩:∃n,V.length=n:=⟨_,rfl⟩
 go_cut [9] (fun x wc=>∃(xb:Nat) (k1 k2:Option Addr) (k3 k4:Nat),x=.pointer (some ⟨xb,0,none⟩)/\Blk wc xb 61 #[.string ⟨T.toArray⟩,.slice k1 nk k3,.slice k2 nv k4]/\Disk.Own wc w3.heap.size (.slice k1 nk k3) KY/\Disk.Own wc w3.heap.size (.slice k2 nv k4) V/\w3.grownBy wc none)
 case first =>
  refine wp_region_noPanic ?_
  refine wp_region_hold 1000 (fun y=>w3.grownBy y none) (by kernel_rfl) ?_
  have G0:Hid (w3.grownBy w3.drew none):=grown_drew _ _
  generalize w3.drew=wd at G0 ⊢
  have J:Idx [0,1,2,3,5,6]:=trivial
  iterate 6 (refine tK J (G0.out) rfl rfl (fun wk hk=>by obtain ⟨m1,m2,m3⟩:=HC3.out wk hk;go_simp;try rfl) ?_;replace J:=J.tl;try simp only [pN])
  clear J
  refine wpHold_two (i:=4) (j:=9) rfl rfl (by kernel_rfl) (by rfl) (by rfl) (fun K hK=>?_) (fun K hK=>?_)
  ·go_wp2_with fail
   refine (copied65 (.slice a1 n1 c1) KY _ (HS.out.1.grown (grown_trans B3.out.2.2.2.1 G0.out)) (by have:=HS.out.2.2.2.2.1;omega)).mono ?_
   rintro e wd ⟨u,rfl,hu,gg⟩
   obtain ⟨k1,k3,ek⟩:=hu.seg.shape
   rw [hnk] at ek
   subst ek
   have HU1:Hid (Disk.Own wd w3.heap.size (.slice k1 nk k3) KY):=hu.mono G0.out.size
   try replace HX:Hid (Blk wd xb 61 #[.string ⟨#[]⟩,.slice none 0 0,.slice none 0 0]):=HX.out.grown gg (by simp)
   replace G0:Hid (w3.grownBy wd none):=grown_trans G0.out gg
   clear gg hu
   go_wp2_with fail
   refine hK.out _ _ (fun _=>G0.out) ?_
   clear hK K
   try simp only [pN]
   refine wpHold_two (i:=7) (j:=9) rfl rfl (by kernel_rfl) (by rfl) (by rfl) (fun K hK=>?_) (fun K hK=>?_)
   ·go_wp2_with fail
    refine (copied65 (.slice a2 n2 c2) V _ (HS.out.2.1.grown (grown_trans B3.out.2.2.2.1 G0.out)) (by have:=HS.out.2.2.2.2.2;omega)).mono ?_
    rintro e wd ⟨u,rfl,hu,gg⟩
    obtain ⟨k2,k4,ek⟩:=hu.seg.shape
    rw [hnv] at ek
    subst ek
    have HU2:Hid (Disk.Own wd w3.heap.size (.slice k2 nv k4) V):=hu.mono G0.out.size
    replace HU1:Hid (Disk.Own wd w3.heap.size (.slice k1 nk k3) KY):=HU1.out.grown gg
    try replace HX:Hid (Blk wd xb 61 #[.string ⟨#[]⟩,.slice none 0 0,.slice none 0 0]):=HX.out.grown gg (by simp)
    replace G0:Hid (w3.grownBy wd none):=grown_trans G0.out gg
    clear gg hu
    go_wp2_with fail
    refine hK.out _ _ (fun _=>G0.out) ?_
    clear hK K
    try simp only [pN]
    refine tK (i:=8) (l':=[]) trivial (G0.out) rfl rfl (fun wk hk=>by obtain ⟨m1,m2,m3⟩:=HC3.out wk hk;go_simp;try rfl) ?_
    try simp only [pN]
    refine wpHold_one (i:=9) rfl (by kernel_rfl) (by rfl) (fun K hK=>?_)
    go_wp2_with fail
    obtain ⟨xb,hxb⟩:∃x,wd.heap.size=x:=⟨_,rfl⟩
    have HXB:Hid (w3.heap.size<=xb):=by rw [<-hxb];exact G0.out.size
    obtain ⟨wd,hwn,HA⟩:=al wd #[.string ⟨#[]⟩,.slice none 0 0,.slice none 0 0] 61
    rw [hwn,hxb]
    rw [hxb] at HA
    have HX:Hid (Blk wd xb 61 #[.string ⟨#[]⟩,.slice none 0 0,.slice none 0 0]):=HA.out.1
    try replace HU1:Hid (Disk.Own wd w3.heap.size (.slice k1 nk k3) KY):=HU1.out.grown HA.out.2.1
    try replace HU2:Hid (Disk.Own wd w3.heap.size (.slice k2 nv k4) V):=HU2.out.grown HA.out.2.1
    replace G0:Hid (w3.grownBy wd none):=grown_trans G0.out HA.out.2.1
    clear hwn hxb HA
    refine hK.out _ _ (fun _=>G0.out) ?_
    clear hK K
    try simp only [pN]
    refine wpHold_one (i:=10) rfl (by kernel_rfl) (by rfl) (fun K hK=>?_)
    have f0:=HX.out.free 0
    have f1:=HX.out.free 1
    have f2:=HX.out.free 2
    have b0:=HX.out.cell 0
    have b1:=HX.out.cell 1
    have b2:=HX.out.cell 2
    simp at b0 b1 b2
    go_wp2_with fail
    have HZ:Hid (Blk (((wd.setCell ⟨xb,0,none⟩ (.string ⟨T.toArray⟩)).setCell ⟨xb,1,none⟩ (.slice k1 nk k3)).setCell ⟨xb,2,none⟩ (.slice k2 nv k4)) xb 61 #[.string ⟨T.toArray⟩,.slice k1 nk k3,.slice k2 nv k4]/\Disk.Own (((wd.setCell ⟨xb,0,none⟩ (.string ⟨T.toArray⟩)).setCell ⟨xb,1,none⟩ (.slice k1 nk k3)).setCell ⟨xb,2,none⟩ (.slice k2 nv k4)) w3.heap.size (.slice k1 nk k3) KY/\Disk.Own (((wd.setCell ⟨xb,0,none⟩ (.string ⟨T.toArray⟩)).setCell ⟨xb,1,none⟩ (.slice k1 nk k3)).setCell ⟨xb,2,none⟩ (.slice k2 nv k4)) w3.heap.size (.slice k2 nv k4) V/\w3.grownBy (((wd.setCell ⟨xb,0,none⟩ (.string ⟨T.toArray⟩)).setCell ⟨xb,1,none⟩ (.slice k1 nk k3)).setCell ⟨xb,2,none⟩ (.slice k2 nv k4)) none):=⟨((HX.out.store 0 _).store 1 _).store 2 _,own_set3 HU1.out HX.out (by decide),own_set3 HU2.out HX.out (by decide),grown_new3 G0.out HXB.out⟩
    generalize (((wd.setCell ⟨xb,0,none⟩ (.string ⟨T.toArray⟩)).setCell ⟨xb,1,none⟩ (.slice k1 nk k3)).setCell ⟨xb,2,none⟩ (.slice k2 nv k4))=wz at HZ ⊢
    clear f0 f1 f2 b0 b1 b2
    refine hK.out _ _ (fun _=>HZ.out.2.2.2) ?_
    clear hK K
    try simp only [pN]
    refine wpHold_done (by kernel_rfl) ?_
    refine (‹∀(a:Act) (w:World),Met _ a w->_› _ _ ?_)
    go_meet
    case rel=>exact ⟨xb,k1,k2,k3,k4,rfl,HZ.out⟩
   ·go_wp2_with fail
    obtain ⟨xb,hxb⟩:∃x,wd.heap.size=x:=⟨_,rfl⟩
    have HXB:Hid (w3.heap.size<=xb):=by rw [<-hxb];exact G0.out.size
    obtain ⟨wd,hwn,HA⟩:=al wd #[.string ⟨#[]⟩,.slice none 0 0,.slice none 0 0] 61
    rw [hwn,hxb]
    rw [hxb] at HA
    have HX:Hid (Blk wd xb 61 #[.string ⟨#[]⟩,.slice none 0 0,.slice none 0 0]):=HA.out.1
    try replace HU1:Hid (Disk.Own wd w3.heap.size (.slice k1 nk k3) KY):=HU1.out.grown HA.out.2.1
    try replace HU2:Hid (Disk.Own wd w3.heap.size (.slice k2 nv k4) V):=HU2.out.grown HA.out.2.1
    replace G0:Hid (w3.grownBy wd none):=grown_trans G0.out HA.out.2.1
    clear hwn hxb HA
    refine hK.out _ _ (fun _=>G0.out) ?_
    clear hK K
    try simp only [pN]
    refine wpHold_one (i:=7) rfl (by kernel_rfl) (by rfl) (fun K hK=>?_)
    go_wp2_with fail
    refine (copied65 (.slice a2 n2 c2) V _ (HS.out.2.1.grown (grown_trans B3.out.2.2.2.1 G0.out)) (by have:=HS.out.2.2.2.2.2;omega)).mono ?_
    rintro e wd ⟨u,rfl,hu,gg⟩
    obtain ⟨k2,k4,ek⟩:=hu.seg.shape
    rw [hnv] at ek
    subst ek
    have HU2:Hid (Disk.Own wd w3.heap.size (.slice k2 nv k4) V):=hu.mono G0.out.size
    replace HU1:Hid (Disk.Own wd w3.heap.size (.slice k1 nk k3) KY):=HU1.out.grown gg
    try replace HX:Hid (Blk wd xb 61 #[.string ⟨#[]⟩,.slice none 0 0,.slice none 0 0]):=HX.out.grown gg (by simp)
    replace G0:Hid (w3.grownBy wd none):=grown_trans G0.out gg
    clear gg hu
    go_wp2_with fail
    refine hK.out _ _ (fun _=>G0.out) ?_
    clear hK K
    try simp only [pN]
    refine tK (i:=8) (l':=[]) trivial (G0.out) rfl rfl (fun wk hk=>by obtain ⟨m1,m2,m3⟩:=HC3.out wk hk;go_simp;try rfl) ?_
    try simp only [pN]
    refine wpHold_one (i:=10) rfl (by kernel_rfl) (by rfl) (fun K hK=>?_)
    have f0:=HX.out.free 0
    have f1:=HX.out.free 1
    have f2:=HX.out.free 2
    have b0:=HX.out.cell 0
    have b1:=HX.out.cell 1
    have b2:=HX.out.cell 2
    simp at b0 b1 b2
    go_wp2_with fail
    have HZ:Hid (Blk (((wd.setCell ⟨xb,0,none⟩ (.string ⟨T.toArray⟩)).setCell ⟨xb,1,none⟩ (.slice k1 nk k3)).setCell ⟨xb,2,none⟩ (.slice k2 nv k4)) xb 61 #[.string ⟨T.toArray⟩,.slice k1 nk k3,.slice k2 nv k4]/\Disk.Own (((wd.setCell ⟨xb,0,none⟩ (.string ⟨T.toArray⟩)).setCell ⟨xb,1,none⟩ (.slice k1 nk k3)).setCell ⟨xb,2,none⟩ (.slice k2 nv k4)) w3.heap.size (.slice k1 nk k3) KY/\Disk.Own (((wd.setCell ⟨xb,0,none⟩ (.string ⟨T.toArray⟩)).setCell ⟨xb,1,none⟩ (.slice k1 nk k3)).setCell ⟨xb,2,none⟩ (.slice k2 nv k4)) w3.heap.size (.slice k2 nv k4) V/\w3.grownBy (((wd.setCell ⟨xb,0,none⟩ (.string ⟨T.toArray⟩)).setCell ⟨xb,1,none⟩ (.slice k1 nk k3)).setCell ⟨xb,2,none⟩ (.slice k2 nv k4)) none):=⟨((HX.out.store 0 _).store 1 _).store 2 _,own_set3 HU1.out HX.out (by decide),own_set3 HU2.out HX.out (by decide),grown_new3 G0.out HXB.out⟩
    generalize (((wd.setCell ⟨xb,0,none⟩ (.string ⟨T.toArray⟩)).setCell ⟨xb,1,none⟩ (.slice k1 nk k3)).setCell ⟨xb,2,none⟩ (.slice k2 nv k4))=wz at HZ ⊢
    clear f0 f1 f2 b0 b1 b2
    refine hK.out _ _ (fun _=>HZ.out.2.2.2) ?_
    clear hK K
    try simp only [pN]
    refine wpHold_done (by kernel_rfl) ?_
    refine (‹∀(a:Act) (w:World),Met _ a w->_› _ _ ?_)
    go_meet
    case rel=>exact ⟨xb,k1,k2,k3,k4,rfl,HZ.out⟩
  ·go_wp2_with fail
   obtain ⟨xb,hxb⟩:∃x,wd.heap.size=x:=⟨_,rfl⟩
   have HXB:Hid (w3.heap.size<=xb):=by rw [<-hxb];exact G0.out.size
   obtain ⟨wd,hwn,HA⟩:=al wd #[.string ⟨#[]⟩,.slice none 0 0,.slice none 0 0] 61
   rw [hwn,hxb]
   rw [hxb] at HA
   have HX:Hid (Blk wd xb 61 #[.string ⟨#[]⟩,.slice none 0 0,.slice none 0 0]):=HA.out.1
   try replace HU1:Hid (Disk.Own wd w3.heap.size (.slice k1 nk k3) KY):=HU1.out.grown HA.out.2.1
   try replace HU2:Hid (Disk.Own wd w3.heap.size (.slice k2 nv k4) V):=HU2.out.grown HA.out.2.1
   replace G0:Hid (w3.grownBy wd none):=grown_trans G0.out HA.out.2.1
   clear hwn hxb HA
   refine hK.out _ _ (fun _=>G0.out) ?_
   clear hK K
   try simp only [pN]
   refine wpHold_one (i:=4) rfl (by kernel_rfl) (by rfl) (fun K hK=>?_)
   go_wp2_with fail
   refine (copied65 (.slice a1 n1 c1) KY _ (HS.out.1.grown (grown_trans B3.out.2.2.2.1 G0.out)) (by have:=HS.out.2.2.2.2.1;omega)).mono ?_
   rintro e wd ⟨u,rfl,hu,gg⟩
   obtain ⟨k1,k3,ek⟩:=hu.seg.shape
   rw [hnk] at ek
   subst ek
   have HU1:Hid (Disk.Own wd w3.heap.size (.slice k1 nk k3) KY):=hu.mono G0.out.size
   try replace HX:Hid (Blk wd xb 61 #[.string ⟨#[]⟩,.slice none 0 0,.slice none 0 0]):=HX.out.grown gg (by simp)
   replace G0:Hid (w3.grownBy wd none):=grown_trans G0.out gg
   clear gg hu
   go_wp2_with fail
   refine hK.out _ _ (fun _=>G0.out) ?_
   clear hK K
   try simp only [pN]
   refine wpHold_one (i:=7) rfl (by kernel_rfl) (by rfl) (fun K hK=>?_)
   go_wp2_with fail
   refine (copied65 (.slice a2 n2 c2) V _ (HS.out.2.1.grown (grown_trans B3.out.2.2.2.1 G0.out)) (by have:=HS.out.2.2.2.2.2;omega)).mono ?_
   rintro e wd ⟨u,rfl,hu,gg⟩
   obtain ⟨k2,k4,ek⟩:=hu.seg.shape
   rw [hnv] at ek
   subst ek
   have HU2:Hid (Disk.Own wd w3.heap.size (.slice k2 nv k4) V):=hu.mono G0.out.size
   replace HU1:Hid (Disk.Own wd w3.heap.size (.slice k1 nk k3) KY):=HU1.out.grown gg
   try replace HX:Hid (Blk wd xb 61 #[.string ⟨#[]⟩,.slice none 0 0,.slice none 0 0]):=HX.out.grown gg (by simp)
   replace G0:Hid (w3.grownBy wd none):=grown_trans G0.out gg
   clear gg hu
   go_wp2_with fail
   refine hK.out _ _ (fun _=>G0.out) ?_
   clear hK K
   try simp only [pN]
   refine tK (i:=8) (l':=[]) trivial (G0.out) rfl rfl (fun wk hk=>by obtain ⟨m1,m2,m3⟩:=HC3.out wk hk;go_simp;try rfl) ?_
   try simp only [pN]
   refine wpHold_one (i:=10) rfl (by kernel_rfl) (by rfl) (fun K hK=>?_)
   have f0:=HX.out.free 0
   have f1:=HX.out.free 1
   have f2:=HX.out.free 2
   have b0:=HX.out.cell 0
   have b1:=HX.out.cell 1
   have b2:=HX.out.cell 2
   simp at b0 b1 b2
   go_wp2_with fail
   have HZ:Hid (Blk (((wd.setCell ⟨xb,0,none⟩ (.string ⟨T.toArray⟩)).setCell ⟨xb,1,none⟩ (.slice k1 nk k3)).setCell ⟨xb,2,none⟩ (.slice k2 nv k4)) xb 61 #[.string ⟨T.toArray⟩,.slice k1 nk k3,.slice k2 nv k4]/\Disk.Own (((wd.setCell ⟨xb,0,none⟩ (.string ⟨T.toArray⟩)).setCell ⟨xb,1,none⟩ (.slice k1 nk k3)).setCell ⟨xb,2,none⟩ (.slice k2 nv k4)) w3.heap.size (.slice k1 nk k3) KY/\Disk.Own (((wd.setCell ⟨xb,0,none⟩ (.string ⟨T.toArray⟩)).setCell ⟨xb,1,none⟩ (.slice k1 nk k3)).setCell ⟨xb,2,none⟩ (.slice k2 nv k4)) w3.heap.size (.slice k2 nv k4) V/\w3.grownBy (((wd.setCell ⟨xb,0,none⟩ (.string ⟨T.toArray⟩)).setCell ⟨xb,1,none⟩ (.slice k1 nk k3)).setCell ⟨xb,2,none⟩ (.slice k2 nv k4)) none):=⟨((HX.out.store 0 _).store 1 _).store 2 _,own_set3 HU1.out HX.out (by decide),own_set3 HU2.out HX.out (by decide),grown_new3 G0.out HXB.out⟩
   generalize (((wd.setCell ⟨xb,0,none⟩ (.string ⟨T.toArray⟩)).setCell ⟨xb,1,none⟩ (.slice k1 nk k3)).setCell ⟨xb,2,none⟩ (.slice k2 nv k4))=wz at HZ ⊢
   clear f0 f1 f2 b0 b1 b2
   refine hK.out _ _ (fun _=>HZ.out.2.2.2) ?_
   clear hK K
   try simp only [pN]
   refine wpHold_done (by kernel_rfl) ?_
   refine (‹∀(a:Act) (w:World),Met _ a w->_› _ _ ?_)
   go_meet
   case rel=>exact ⟨xb,k1,k2,k3,k4,rfl,HZ.out⟩
 case rest =>
  obtain ⟨xb,k1,k2,k3,k4,rfl,hx1,hx2,hx3,hx4⟩:=hcut
  have HX:Hid (Blk wc xb 61 #[.string ⟨T.toArray⟩,.slice k1 nk k3,.slice k2 nv k4]/\Disk.Own wc w3.heap.size (.slice k1 nk k3) KY/\Disk.Own wc w3.heap.size (.slice k2 nv k4) V/\w.grownBy wc none/\w3.grownBy wc none):=⟨hx1,hx2,hx3,grown_trans B3.out.2.2.2.1 hx4,hx4⟩
  clear hx1 hx2 hx3 hx4 HC3
  have m0:=HX.out.1.cell 0
  have m1:=HX.out.1.cell 1
  have m2:=HX.out.1.cell 2
  simp at m0 m1 m2
  go_upto_region 2 with fail
  go_wp2_with fail
  refine (find93 (.slice a0 n0 c0) (flatD D) T (.slice k1 nk k3) (.slice k2 nv k4) (KY,V) wc (by rw [HV.out.2];omega) (HV.out.1.nms.grown HX.out.2.2.2.1) HX.out.2.1.seg HX.out.2.2.1.seg).mono ?_
  rintro e w5 ⟨rfl,g5⟩
  obtain ⟨i,hi⟩:∃i,upR (flatD D) (T,KY,V)=i:=⟨_,rfl⟩
  obtain ⟨h,hh⟩:∃h,isR (flatD D) (T,KY,V)=h:=⟨_,rfl⟩
  have hin:i<=n0:=by rw [<-hi,<-HV.out.2];exact up_le _ _
  have HF:Hid (upR (flatD D) (T,KY,V)=i/\isR (flatD D) (T,KY,V)=h/\hasL (rowsOf D T) KY=h):=⟨hi,hh,by rw [<-hh];exact (isF_has HO.out.2.2.2.good.rise T KY V).symm⟩
  rw [hi,hh]
  clear hi hh m0 m1 m2
  go_upto_region 3 with fail
  obtain ⟨w6,hw6,H6⟩:=al w5 #[.bool false,.slice none 0 0,.slice none 0 0] 72
  obtain ⟨sb,hsb⟩:∃x,w5.heap.size=x:=⟨_,rfl⟩
  rw [hsb] at H6
  have B6:Hid (Blk w6 qb 23 #[.int .i64 q.1,.int .i64 q.2]/\Blk w6 ob 67 #[.int .i64 3,.string ⟨T.toArray⟩,.slice a1 n1 c1,.slice a2 n2 c2,.bool hs,.slice a3 n3 c3,.slice a4 n4 c4,.int .i64 mo]/\Blk w6 rb 72 #[.bool false,.slice none 0 0,.slice none 0 0]/\Blk w6 xb 61 #[.string ⟨T.toArray⟩,.slice k1 nk k3,.slice k2 nv k4]/\Disk.Own w6 w.heap.size (.slice k1 nk k3) KY/\Disk.Own w6 w.heap.size (.slice k2 nv k4) V/\Blk w6 sb 72 #[.bool false,.slice none 0 0,.slice none 0 0]/\w.grownBy w6 none/\w.heap.size<=rb/\w.heap.size<=sb/\rb≠sb/\w6.heap.size=sb+1):=by
   have g56:=grown_trans g5 H6.out.2.1
   have g36:=grown_trans HX.out.2.2.2.2 g56
   have l3:=B3.out.2.2.2.1.size
   have l5:=(grown_trans HX.out.2.2.2.2 g5).size
   have lr:=B3.out.2.2.1.lt
   exact ⟨B3.out.1.grown g36 (by simp),B3.out.2.1.grown g36 (by simp),B3.out.2.2.1.grown g36 (by simp),HX.out.1.grown g56 (by simp),(HX.out.2.1.grown g56).mono l3,(HX.out.2.2.1.grown g56).mono l3,H6.out.1,grown_trans B3.out.2.2.2.1 g36,B3.out.2.2.2.2.1,by omega,by omega,H6.out.2.2⟩
  have BC:Hid (∀y:World,w6.grownBy y none->y.cell? ⟨ob,0,none⟩=some (.int .i64 3)/\y.cell? ⟨ob,1,none⟩=some (.string ⟨T.toArray⟩)/\y.cell? ⟨ob,2,none⟩=some (.slice a1 n1 c1)/\y.cell? ⟨ob,4,none⟩=some (.bool hs)/\y.cell? ⟨ob,5,none⟩=some (.slice a3 n3 c3)/\y.cell? ⟨ob,6,none⟩=some (.slice a4 n4 c4)/\y.cell? ⟨ob,7,none⟩=some (.int .i64 mo)/\y.cell? ⟨qb,0,none⟩=some (.int .i64 q.1)/\y.cell? ⟨qb,1,none⟩=some (.int .i64 q.2)):=fun y hy=>by
   have h:=B6.out.2.1.grown hy (by simp)
   have h':=B6.out.1.grown hy (by simp)
   exact ⟨h.cell 0,h.cell 1,h.cell 2,h.cell 4,h.cell 5,h.cell 6,h.cell 7,h'.cell 0,h'.cell 1⟩
  clear g5 HX B3
  go_upto_region 4 with fail
  try rw [hw6]
  try rw [hsb]
  clear hw6 hsb H6
  have x0:=(BC.out w6 (grown_refl _ _)).1
  have HK:Hid (keyB KY=true):=by
   have:=may_key HO.out.2.1 (by rw [<-HP.out];show (3:Int)≠5;decide)
   rw [<-HP.out] at this
   exact this
  have HD:Hid (opD q D o=.ok (⟨h,[],[]⟩,remD D T KY)):=by
   rw [<-HP.out]
   unfold opD
   rw [if_neg (by show ¬((3:Int)=1);decide),if_pos rfl]
   simp only [hasD]
   rw [HK.out,HF.out.2.2]
   rfl
  have f0:=B6.out.2.2.2.2.2.2.1.free 0
  have b0:=B6.out.2.2.2.2.2.2.1.cell 0
  simp at b0
  go_upto_region 10 with fail
  have B9:Hid (Blk (w6.setCell ⟨sb,0,none⟩ (.bool h)) sb 72 #[.bool h,.slice none 0 0,.slice none 0 0]/\Blk (w6.setCell ⟨sb,0,none⟩ (.bool h)) rb 72 #[.bool false,.slice none 0 0,.slice none 0 0]/\w.grownBy (w6.setCell ⟨sb,0,none⟩ (.bool h)) none):=⟨B6.out.2.2.2.2.2.2.1.store 0 _,B6.out.2.2.1.grown (grown_setCell _ _ _ _) (by simp;exact fun e=>B6.out.2.2.2.2.2.2.2.2.2.2.1 e.symm),grown_new B6.out.2.2.2.2.2.2.2.1 (grown_setCell _ _ _ _) (fun g hg=>by simp at hg;have:=B6.out.2.2.2.2.2.2.2.2.2.1;omega)⟩
  generalize w6.setCell ⟨sb,0,none⟩ (.bool h)=w7 at B9 ⊢
  clear f0 b0 x0 BC
  have HL:Hid (w.heap.size<=rb/\w.heap.size<=w6.heap.size):=⟨B6.out.2.2.2.2.2.2.2.2.1,B6.out.2.2.2.2.2.2.2.1.size⟩
  clear B6
  cases h with
  | false =>
   have HE:Hid (flatD (remD D T KY)=flatD D):=by
    have:=delF_flat HO.out.2.2.2.good.rise T KY V
    unfold delF at this
    rw [HF.out.2.1,if_neg (by simp)] at this
    exact this.symm
   have f0:=B9.out.2.1.free 0
   have f1:=B9.out.2.1.free 1
   have f2:=B9.out.2.1.free 2
   have b0:=B9.out.2.1.cell 0
   have b1:=B9.out.2.1.cell 1
   have b2:=B9.out.2.1.cell 2
   have s0:=B9.out.1.cell 0
   have s1:=B9.out.1.cell 1
   have s2:=B9.out.1.cell 2
   simp at b0 b1 b2 s0 s1 s2
   go_wp2_with fail
   refine bodyPost_ret (v:=_) (results_row2 rfl _ _ rb _ rfl (load72 _ rb _ _ _ (((B9.out.2.1.store 0 (.bool false)).store 1 (.slice none 0 0)).store 2 (.slice none 0 0)))) rfl ?_
   exact ⟨grown_new3 B9.out.2.2 HL.out.1,.inl ⟨_,_,HD.out,_,_,_,rfl,Own.nil _ _,TRws.nil _ _,by rw [HE.out];exact drow_set3 (HV.out.1.grown B9.out.2.2) B9.out.2.1 (by decide) (by decide)⟩⟩
  | true =>
   have hi1:i<n0:=by
    have hh:=HF.out.2.1
    unfold isR at hh
    rw [HF.out.1] at hh
    rcases Nat.lt_or_ge i (flatD D).length with h | h
    ·have:=HV.out.2
     omega
    ·rw [List.getElem?_eq_none h] at hh
     cases hh
   obtain ⟨ks,hk1,hk2,hk3,hk4⟩:=HV.out.1
   obtain ⟨j,hj⟩:∃j,i+1=j:=⟨_,rfl⟩
   have hjn:j<=n0:=by omega
   have HKS:Hid (NmsO w7 0 (.slice a0 n0 c0) ks/\ks.length=n0/\NOwn w 0 ks (flatD D)/\NOff X ks/\flatD (remD D T KY)=(flatD D).take i ++ (flatD D).drop j):=⟨hk1.grown B9.out.2.2,by rw [hk2.1];exact HV.out.2,hk2,hk4,by
    have:=delF_flat HO.out.2.2.2.good.rise T KY V
    unfold delF at this
    rw [HF.out.2.1,if_pos rfl,HF.out.1,hj] at this
    exact this.symm⟩
   clear hk1 hk2 hk3 hk4
   obtain ⟨sv,hsv⟩:∃v,sliced a0 0 i c0 3=v:=⟨_,rfl⟩
   have hsl:∀wk,(Instr.slice 24 (.slice a0 n0 c0) none (some (.int .i64 (i:Int))) none).run Tryz.prog wk=.ok sv wk:=fun wk=>by rw [<-hsv];exact run_front24 a0 n0 c0 i (by omega) wk
   have HP1:Hid (Vec w7 3 sv i (ncells (ks.take i))):=by
    have:=nms_piece HKS.out.1 HKS.out.2.1 0 i (Nat.zero_le _) hin
    rw [hsv] at this
    unfold Hid
    simpa using this
   obtain ⟨sv2,hsv2⟩:∃v,sliced a0 j n0 c0 3=v:=⟨_,rfl⟩
   have hsl2:∀wk,(Instr.slice 24 (.slice a0 n0 c0) (some (.int .i64 (j:Int))) none none).run Tryz.prog wk=.ok sv2 wk:=fun wk=>by rw [<-hsv2];exact run_rest 24 3 Tryz.ut24 Tryz.size24 a0 n0 c0 j hjn wk
   have HP2:Hid (Vec w7 3 sv2 (n0-j) (ncells (ks.drop j))):=by
    have:=nms_piece HKS.out.1 HKS.out.2.1 j n0 hjn (Nat.le_refl _)
    rw [hsv2,List.take_of_length_le (by rw [List.length_drop,HKS.out.2.1];omega)] at this
    exact this
   have hw9:IntKind.i64.wrap ((i:Int)+1)=(j:Int):=by rw [IntKind.wrap_i64];omega
   have HJ:Hid (i+1=j):=hj
   clear hsv hsv2 hj
   go_wp2_with fail
   refine wp_region_noPanic ?_
   refine wp_region_hold 1000 (fun y=>w7.grownBy y none) (by kernel_rfl) ?_
   have G0:Hid (w7.grownBy w7.drew none):=grown_drew _ _
   generalize w7.drew=wd at G0 ⊢
   have J:Idx [0,1,2,4,5,6,7]:=trivial
   iterate 7 (refine tK J (G0.out) rfl rfl (fun wk hk=>by skip;go_simp;try rfl) ?_;replace J:=J.tl;try simp only [pN])
   clear J
   refine wpHold_one (i:=3) rfl (by kernel_rfl) (by rfl) (fun K hK=>?_)
   refine appV_wp wd _ _ 24 61 _ 3 64 info61 ut24' rfl (by decide) rfl wd.heap.size _ 0 [] sv i (ncells (ks.take i)) rfl rfl (World.ownsRow_nil _ _ _ _) (HP1.out.grown G0.out) (HKS.out.2.2.1.take i).one (by omega) (by unfold maxLen;omega) (Nat.le_refl _) ?_
   intro v5 w8 hv5 hg5
   have H5:Hid (w8.ownsRow w7.heap.size 61 3 v5 i (ncells (ks.take i))/\w7.grownBy w8 none):=⟨by have h5:=owns_mono hv5 G0.out.size;simpa using h5,grown_trans G0.out (hg5.none (Nat.le_refl _))⟩
   clear hv5 hg5 G0
   obtain ⟨a5,c5,e5,_,_⟩:=(vec_of_owns H5.out.1).shape
   subst e5
   refine hK.out _ _ (fun _=>H5.out.2) ?_
   clear hK K
   try simp only [pN]
   refine wpHold_one (i:=8) rfl (by kernel_rfl) (by rfl) (fun K hK=>?_)
   refine appV_wp w8 _ _ 24 61 _ 3 64 info61 ut24' rfl (by decide) rfl w7.heap.size _ i (ncells (ks.take i)) sv2 (n0-j) (ncells (ks.drop j)) rfl rfl H5.out.1 (HP2.out.grown H5.out.2) (HKS.out.2.2.1.drop j).one (by omega) (by unfold maxLen;omega) H5.out.2.size ?_
   intro v7 w9 hv7 hg7
   have H7:Hid (DRow X w9 v7 (flatD (remD D T KY))/\w7.grownBy w9 none/\∃au nu cu,v7=.slice au nu cu):=by
    have g9:w7.grownBy w9 none:=hg7.after H5.out.2 (Nat.le_refl _)
    have gw:=grown_trans B9.out.2.2 g9
    refine ⟨⟨ks.take i ++ ks.drop j,?_,?_,?_,fun k hk=>?_⟩,g9,?_⟩
    ·unfold NmsO
     have e:(ks.take i ++ ks.drop j).length=i+(n0-j):=by
      have:=HKS.out.2.1
      simp
      omega
     rw [e,ncells_app]
     exact owns_mono hv7 (Nat.zero_le _)
    ·rw [HKS.out.2.2.2.2]
     have h7:=HKS.out.2.2.1.grown gw
     exact (h7.take i).append (h7.drop j)
    ·intro g hg hx
     have:=(World.ownsRow.lt hv7 g hg).1
     have:=HO.out.2.2.1 g hx
     have:=B9.out.2.2.size
     omega
    ·rcases List.mem_append.1 hk with hk | hk
     ·exact HKS.out.2.2.2.1 k (List.mem_of_mem_take hk)
     ·exact HKS.out.2.2.2.1 k (List.mem_of_mem_drop hk)
    ·obtain ⟨a7,c7,e7,_,_⟩:=(vec_of_owns hv7).shape
     exact ⟨_,_,_,e7⟩
   clear hv7 hg7 H5
   refine hK.out _ _ (fun _=>H7.out.2.1) ?_
   clear hK K
   try simp only [pN]
   refine tK (i:=9) (l':=[]) trivial (H7.out.2.1) rfl rfl (fun wk hk=>by skip;go_simp;try rfl) ?_
   try simp only [pN]
   refine wpHold_done (by kernel_rfl) ?_
   refine (‹∀(a:Act) (w:World),Code.wp Tryz.prog _ _ a w->_› _ _ ?_)
   obtain ⟨au,nu,cu,rfl⟩:=H7.out.2.2
   replace B9:Hid (Blk w9 sb 72 #[.bool true,.slice none 0 0,.slice none 0 0]/\Blk w9 rb 72 #[.bool false,.slice none 0 0,.slice none 0 0]/\w.grownBy w9 none):=⟨B9.out.1.grown H7.out.2.1 (by simp),B9.out.2.1.grown H7.out.2.1 (by simp),grown_trans B9.out.2.2 H7.out.2.1⟩
   have f0:=B9.out.2.1.free 0
   have f1:=B9.out.2.1.free 1
   have f2:=B9.out.2.1.free 2
   have b0:=B9.out.2.1.cell 0
   have b1:=B9.out.2.1.cell 1
   have b2:=B9.out.2.1.cell 2
   have s0:=B9.out.1.cell 0
   have s1:=B9.out.1.cell 1
   have s2:=B9.out.1.cell 2
   simp at b0 b1 b2 s0 s1 s2
   go_wp2_with fail
   refine bodyPost_ret (v:=_) (results_row2 rfl _ _ rb _ rfl (load72 _ rb _ _ _ (((B9.out.2.1.store 0 (.bool true)).store 1 (.slice none 0 0)).store 2 (.slice none 0 0)))) rfl ?_
   exact ⟨grown_new3 B9.out.2.2 HL.out.1,.inl ⟨_,_,HD.out,_,_,_,rfl,Own.nil _ _,TRws.nil _ _,drow_set3 H7.out.1 B9.out.2.1 (by decide) (by decide)⟩⟩
theorem op68_4 {X:Nat->Prop}(q:Int × Int)(D:DB)(hD:DbQ q D)(v kv vv ol tv:Value)(o:POp)(hkd:o.kind=4)(hmay:mayOp o=true)(w:World)(hX:∀g,X g->g<w.heap.size)(hv:DRow X w v (flatD D))(ho:OpSeg w kv vv ol tv o):Calls Tryz.prog 68 #[quoV q,v,opV kv vv ol tv o] w (ROpE X q D o w):=by
 have HO:Hid (OpSeg w kv vv ol tv o/\mayOp o=true/\(∀g,X g->g<w.heap.size)/\DbQ q D):=⟨ho,hmay,hX,hD⟩
 obtain ⟨a0,n0,c0,rfl,hn0,hc0,hc0',_⟩:=nms_open hv.nms
 have HV:Hid (DRow X w (.slice a0 n0 c0) (flatD D)/\(flatD D).length=n0):=⟨hv,hn0⟩
 have hz0:n0<=4096:=by
  have h1:=hD.len
  rw [<-hn0,flat_len]
  omega
 obtain ⟨a1,n1,c1,a2,n2,c2,a3,n3,c3,a4,n4,c4,rfl,rfl,rfl,rfl⟩:=op_shape ho
 obtain ⟨kd,T,KY,V,hs,OL,to',mo⟩:=o
 simp only at hkd
 subst hkd
 obtain ⟨o,hoo⟩:∃o:POp,(⟨4,T,KY,V,hs,OL,to',mo⟩:POp)=o:=⟨_,rfl⟩
 have HS:Hid (Seg w (.slice a1 n1 c1) KY/\Seg w (.slice a2 n2 c2) V/\Seg w (.slice a3 n3 c3) OL/\Seg w (.slice a4 n4 c4) to'/\KY.length<=1000/\V.length<=1000):=⟨ho.key,ho.value,ho.old,ho.to,may_klen hmay,may_vlen hmay⟩
 have HP:Hid ((⟨4,T,KY,V,hs,OL,to',mo⟩:POp)=o):=hoo
 unfold opV quoV Str
 rw [hoo] at HO
 simp only
 rw [hoo]
 clear ho hD hmay hX hoo hv hn0
 go_enter Tryz.func68,Tryz.ntmps68
 go_upto_region 1 with fail
 obtain ⟨w1,hw1,H1⟩:=al w #[.int .i64 q.1,.int .i64 q.2] 23
 obtain ⟨w2,hw2,H2⟩:=al w1 #[.int .i64 4,.string ⟨T.toArray⟩,.slice a1 n1 c1,.slice a2 n2 c2,.bool hs,.slice a3 n3 c3,.slice a4 n4 c4,.int .i64 mo] 67
 obtain ⟨w3,hw3,H3⟩:=al w2 #[.bool false,.slice none 0 0,.slice none 0 0] 72
 rw [hw1,hw2,hw3]
 obtain ⟨qb,hqb⟩:∃b,w.heap.size=b:=⟨_,rfl⟩
 obtain ⟨ob,hob⟩:∃b,qb+1=b:=⟨_,rfl⟩
 obtain ⟨rb,hrb⟩:∃b,ob+1=b:=⟨_,rfl⟩
 have B3:Hid (Blk w3 qb 23 #[.int .i64 q.1,.int .i64 q.2]/\Blk w3 ob 67 #[.int .i64 4,.string ⟨T.toArray⟩,.slice a1 n1 c1,.slice a2 n2 c2,.bool hs,.slice a3 n3 c3,.slice a4 n4 c4,.int .i64 mo]/\Blk w3 rb 72 #[.bool false,.slice none 0 0,.slice none 0 0]/\w.grownBy w3 none/\w.heap.size<=rb/\w.heap.size=qb):=by
  have s1:=H1.out.2.2
  have s2:=H2.out.2.2
  have g23:=grown_trans H2.out.2.1 H3.out.2.1
  refine ⟨?_,?_,?_,grown_trans H1.out.2.1 g23,by omega,hqb⟩
  ·rw [<-hqb];exact H1.out.1.grown g23 (by simp)
  ·rw [<-hob,<-hqb,<-s1];exact H2.out.1.grown H3.out.2.1 (by simp)
  ·rw [<-hrb,<-hob,<-hqb,<-s1,show w1.heap.size+1=w2.heap.size by omega];exact H3.out.1
 try rw [hqb]
 try rw [hob]
 try rw [hrb]
 clear hw1 hw2 hw3 H1 H2 H3 hqb hob hrb
 have HC3:Hid (∀y:World,w3.grownBy y none->y.cell? ⟨ob,1,none⟩=some (.string ⟨T.toArray⟩)/\y.cell? ⟨ob,2,none⟩=some (.slice a1 n1 c1)/\y.cell? ⟨ob,3,none⟩=some (.slice a2 n2 c2)):=fun y hy=>by
  have h:=B3.out.2.1.grown hy (by simp)
  exact ⟨h.cell 1,h.cell 2,h.cell 3⟩
 obtain ⟨nk,hnk⟩:∃n,KY.length=n:=⟨_,rfl⟩
 obtain ⟨nv,hnv⟩:∃n,V.length=n:=⟨_,rfl⟩
 go_cut [9] (fun x wc=>∃(xb:Nat) (k1 k2:Option Addr) (k3 k4:Nat),x=.pointer (some ⟨xb,0,none⟩)/\Blk wc xb 61 #[.string ⟨T.toArray⟩,.slice k1 nk k3,.slice k2 nv k4]/\Disk.Own wc w3.heap.size (.slice k1 nk k3) KY/\Disk.Own wc w3.heap.size (.slice k2 nv k4) V/\w3.grownBy wc none)
 case first =>
  refine wp_region_noPanic ?_
  refine wp_region_hold 1000 (fun y=>w3.grownBy y none) (by kernel_rfl) ?_
  have G0:Hid (w3.grownBy w3.drew none):=grown_drew _ _
  generalize w3.drew=wd at G0 ⊢
  have J:Idx [0,1,2,3,5,6]:=trivial
  iterate 6 (refine tK J (G0.out) rfl rfl (fun wk hk=>by obtain ⟨m1,m2,m3⟩:=HC3.out wk hk;go_simp;try rfl) ?_;replace J:=J.tl;try simp only [pN])
  clear J
  refine wpHold_two (i:=4) (j:=9) rfl rfl (by kernel_rfl) (by rfl) (by rfl) (fun K hK=>?_) (fun K hK=>?_)
  ·go_wp2_with fail
   refine (copied65 (.slice a1 n1 c1) KY _ (HS.out.1.grown (grown_trans B3.out.2.2.2.1 G0.out)) (by have:=HS.out.2.2.2.2.1;omega)).mono ?_
   rintro e wd ⟨u,rfl,hu,gg⟩
   obtain ⟨k1,k3,ek⟩:=hu.seg.shape
   rw [hnk] at ek
   subst ek
   have HU1:Hid (Disk.Own wd w3.heap.size (.slice k1 nk k3) KY):=hu.mono G0.out.size
   try replace HX:Hid (Blk wd xb 61 #[.string ⟨#[]⟩,.slice none 0 0,.slice none 0 0]):=HX.out.grown gg (by simp)
   replace G0:Hid (w3.grownBy wd none):=grown_trans G0.out gg
   clear gg hu
   go_wp2_with fail
   refine hK.out _ _ (fun _=>G0.out) ?_
   clear hK K
   try simp only [pN]
   refine wpHold_two (i:=7) (j:=9) rfl rfl (by kernel_rfl) (by rfl) (by rfl) (fun K hK=>?_) (fun K hK=>?_)
   ·go_wp2_with fail
    refine (copied65 (.slice a2 n2 c2) V _ (HS.out.2.1.grown (grown_trans B3.out.2.2.2.1 G0.out)) (by have:=HS.out.2.2.2.2.2;omega)).mono ?_
    rintro e wd ⟨u,rfl,hu,gg⟩
    obtain ⟨k2,k4,ek⟩:=hu.seg.shape
    rw [hnv] at ek
    subst ek
    have HU2:Hid (Disk.Own wd w3.heap.size (.slice k2 nv k4) V):=hu.mono G0.out.size
    replace HU1:Hid (Disk.Own wd w3.heap.size (.slice k1 nk k3) KY):=HU1.out.grown gg
    try replace HX:Hid (Blk wd xb 61 #[.string ⟨#[]⟩,.slice none 0 0,.slice none 0 0]):=HX.out.grown gg (by simp)
    replace G0:Hid (w3.grownBy wd none):=grown_trans G0.out gg
    clear gg hu
    go_wp2_with fail
    refine hK.out _ _ (fun _=>G0.out) ?_
    clear hK K
    try simp only [pN]
    refine tK (i:=8) (l':=[]) trivial (G0.out) rfl rfl (fun wk hk=>by obtain ⟨m1,m2,m3⟩:=HC3.out wk hk;go_simp;try rfl) ?_
    try simp only [pN]
    refine wpHold_one (i:=9) rfl (by kernel_rfl) (by rfl) (fun K hK=>?_)
    go_wp2_with fail
    obtain ⟨xb,hxb⟩:∃x,wd.heap.size=x:=⟨_,rfl⟩
    have HXB:Hid (w3.heap.size<=xb):=by rw [<-hxb];exact G0.out.size
    obtain ⟨wd,hwn,HA⟩:=al wd #[.string ⟨#[]⟩,.slice none 0 0,.slice none 0 0] 61
    rw [hwn,hxb]
    rw [hxb] at HA
    have HX:Hid (Blk wd xb 61 #[.string ⟨#[]⟩,.slice none 0 0,.slice none 0 0]):=HA.out.1
    try replace HU1:Hid (Disk.Own wd w3.heap.size (.slice k1 nk k3) KY):=HU1.out.grown HA.out.2.1
    try replace HU2:Hid (Disk.Own wd w3.heap.size (.slice k2 nv k4) V):=HU2.out.grown HA.out.2.1
    replace G0:Hid (w3.grownBy wd none):=grown_trans G0.out HA.out.2.1
    clear hwn hxb HA
    refine hK.out _ _ (fun _=>G0.out) ?_
    clear hK K
    try simp only [pN]
    refine wpHold_one (i:=10) rfl (by kernel_rfl) (by rfl) (fun K hK=>?_)
    have f0:=HX.out.free 0
    have f1:=HX.out.free 1
    have f2:=HX.out.free 2
    have b0:=HX.out.cell 0
    have b1:=HX.out.cell 1
    have b2:=HX.out.cell 2
    simp at b0 b1 b2
    go_wp2_with fail
    have HZ:Hid (Blk (((wd.setCell ⟨xb,0,none⟩ (.string ⟨T.toArray⟩)).setCell ⟨xb,1,none⟩ (.slice k1 nk k3)).setCell ⟨xb,2,none⟩ (.slice k2 nv k4)) xb 61 #[.string ⟨T.toArray⟩,.slice k1 nk k3,.slice k2 nv k4]/\Disk.Own (((wd.setCell ⟨xb,0,none⟩ (.string ⟨T.toArray⟩)).setCell ⟨xb,1,none⟩ (.slice k1 nk k3)).setCell ⟨xb,2,none⟩ (.slice k2 nv k4)) w3.heap.size (.slice k1 nk k3) KY/\Disk.Own (((wd.setCell ⟨xb,0,none⟩ (.string ⟨T.toArray⟩)).setCell ⟨xb,1,none⟩ (.slice k1 nk k3)).setCell ⟨xb,2,none⟩ (.slice k2 nv k4)) w3.heap.size (.slice k2 nv k4) V/\w3.grownBy (((wd.setCell ⟨xb,0,none⟩ (.string ⟨T.toArray⟩)).setCell ⟨xb,1,none⟩ (.slice k1 nk k3)).setCell ⟨xb,2,none⟩ (.slice k2 nv k4)) none):=⟨((HX.out.store 0 _).store 1 _).store 2 _,own_set3 HU1.out HX.out (by decide),own_set3 HU2.out HX.out (by decide),grown_new3 G0.out HXB.out⟩
    generalize (((wd.setCell ⟨xb,0,none⟩ (.string ⟨T.toArray⟩)).setCell ⟨xb,1,none⟩ (.slice k1 nk k3)).setCell ⟨xb,2,none⟩ (.slice k2 nv k4))=wz at HZ ⊢
    clear f0 f1 f2 b0 b1 b2
    refine hK.out _ _ (fun _=>HZ.out.2.2.2) ?_
    clear hK K
    try simp only [pN]
    refine wpHold_done (by kernel_rfl) ?_
    refine (‹∀(a:Act) (w:World),Met _ a w->_› _ _ ?_)
    go_meet
    case rel=>exact ⟨xb,k1,k2,k3,k4,rfl,HZ.out⟩
   ·go_wp2_with fail
    obtain ⟨xb,hxb⟩:∃x,wd.heap.size=x:=⟨_,rfl⟩
    have HXB:Hid (w3.heap.size<=xb):=by rw [<-hxb];exact G0.out.size
    obtain ⟨wd,hwn,HA⟩:=al wd #[.string ⟨#[]⟩,.slice none 0 0,.slice none 0 0] 61
    rw [hwn,hxb]
    rw [hxb] at HA
    have HX:Hid (Blk wd xb 61 #[.string ⟨#[]⟩,.slice none 0 0,.slice none 0 0]):=HA.out.1
    try replace HU1:Hid (Disk.Own wd w3.heap.size (.slice k1 nk k3) KY):=HU1.out.grown HA.out.2.1
    try replace HU2:Hid (Disk.Own wd w3.heap.size (.slice k2 nv k4) V):=HU2.out.grown HA.out.2.1
    replace G0:Hid (w3.grownBy wd none):=grown_trans G0.out HA.out.2.1
    clear hwn hxb HA
    refine hK.out _ _ (fun _=>G0.out) ?_
    clear hK K
    try simp only [pN]
    refine wpHold_one (i:=7) rfl (by kernel_rfl) (by rfl) (fun K hK=>?_)
    go_wp2_with fail
    refine (copied65 (.slice a2 n2 c2) V _ (HS.out.2.1.grown (grown_trans B3.out.2.2.2.1 G0.out)) (by have:=HS.out.2.2.2.2.2;omega)).mono ?_
    rintro e wd ⟨u,rfl,hu,gg⟩
    obtain ⟨k2,k4,ek⟩:=hu.seg.shape
    rw [hnv] at ek
    subst ek
    have HU2:Hid (Disk.Own wd w3.heap.size (.slice k2 nv k4) V):=hu.mono G0.out.size
    replace HU1:Hid (Disk.Own wd w3.heap.size (.slice k1 nk k3) KY):=HU1.out.grown gg
    try replace HX:Hid (Blk wd xb 61 #[.string ⟨#[]⟩,.slice none 0 0,.slice none 0 0]):=HX.out.grown gg (by simp)
    replace G0:Hid (w3.grownBy wd none):=grown_trans G0.out gg
    clear gg hu
    go_wp2_with fail
    refine hK.out _ _ (fun _=>G0.out) ?_
    clear hK K
    try simp only [pN]
    refine tK (i:=8) (l':=[]) trivial (G0.out) rfl rfl (fun wk hk=>by obtain ⟨m1,m2,m3⟩:=HC3.out wk hk;go_simp;try rfl) ?_
    try simp only [pN]
    refine wpHold_one (i:=10) rfl (by kernel_rfl) (by rfl) (fun K hK=>?_)
    have f0:=HX.out.free 0
    have f1:=HX.out.free 1
    have f2:=HX.out.free 2
    have b0:=HX.out.cell 0
    have b1:=HX.out.cell 1
    have b2:=HX.out.cell 2
    simp at b0 b1 b2
    go_wp2_with fail
    have HZ:Hid (Blk (((wd.setCell ⟨xb,0,none⟩ (.string ⟨T.toArray⟩)).setCell ⟨xb,1,none⟩ (.slice k1 nk k3)).setCell ⟨xb,2,none⟩ (.slice k2 nv k4)) xb 61 #[.string ⟨T.toArray⟩,.slice k1 nk k3,.slice k2 nv k4]/\Disk.Own (((wd.setCell ⟨xb,0,none⟩ (.string ⟨T.toArray⟩)).setCell ⟨xb,1,none⟩ (.slice k1 nk k3)).setCell ⟨xb,2,none⟩ (.slice k2 nv k4)) w3.heap.size (.slice k1 nk k3) KY/\Disk.Own (((wd.setCell ⟨xb,0,none⟩ (.string ⟨T.toArray⟩)).setCell ⟨xb,1,none⟩ (.slice k1 nk k3)).setCell ⟨xb,2,none⟩ (.slice k2 nv k4)) w3.heap.size (.slice k2 nv k4) V/\w3.grownBy (((wd.setCell ⟨xb,0,none⟩ (.string ⟨T.toArray⟩)).setCell ⟨xb,1,none⟩ (.slice k1 nk k3)).setCell ⟨xb,2,none⟩ (.slice k2 nv k4)) none):=⟨((HX.out.store 0 _).store 1 _).store 2 _,own_set3 HU1.out HX.out (by decide),own_set3 HU2.out HX.out (by decide),grown_new3 G0.out HXB.out⟩
    generalize (((wd.setCell ⟨xb,0,none⟩ (.string ⟨T.toArray⟩)).setCell ⟨xb,1,none⟩ (.slice k1 nk k3)).setCell ⟨xb,2,none⟩ (.slice k2 nv k4))=wz at HZ ⊢
    clear f0 f1 f2 b0 b1 b2
    refine hK.out _ _ (fun _=>HZ.out.2.2.2) ?_
    clear hK K
    try simp only [pN]
    refine wpHold_done (by kernel_rfl) ?_
    refine (‹∀(a:Act) (w:World),Met _ a w->_› _ _ ?_)
    go_meet
    case rel=>exact ⟨xb,k1,k2,k3,k4,rfl,HZ.out⟩
  ·go_wp2_with fail
   obtain ⟨xb,hxb⟩:∃x,wd.heap.size=x:=⟨_,rfl⟩
   have HXB:Hid (w3.heap.size<=xb):=by rw [<-hxb];exact G0.out.size
   obtain ⟨wd,hwn,HA⟩:=al wd #[.string ⟨#[]⟩,.slice none 0 0,.slice none 0 0] 61
   rw [hwn,hxb]
   rw [hxb] at HA
   have HX:Hid (Blk wd xb 61 #[.string ⟨#[]⟩,.slice none 0 0,.slice none 0 0]):=HA.out.1
   try replace HU1:Hid (Disk.Own wd w3.heap.size (.slice k1 nk k3) KY):=HU1.out.grown HA.out.2.1
   try replace HU2:Hid (Disk.Own wd w3.heap.size (.slice k2 nv k4) V):=HU2.out.grown HA.out.2.1
   replace G0:Hid (w3.grownBy wd none):=grown_trans G0.out HA.out.2.1
   clear hwn hxb HA
   refine hK.out _ _ (fun _=>G0.out) ?_
   clear hK K
   try simp only [pN]
   refine wpHold_one (i:=4) rfl (by kernel_rfl) (by rfl) (fun K hK=>?_)
   go_wp2_with fail
   refine (copied65 (.slice a1 n1 c1) KY _ (HS.out.1.grown (grown_trans B3.out.2.2.2.1 G0.out)) (by have:=HS.out.2.2.2.2.1;omega)).mono ?_
   rintro e wd ⟨u,rfl,hu,gg⟩
   obtain ⟨k1,k3,ek⟩:=hu.seg.shape
   rw [hnk] at ek
   subst ek
   have HU1:Hid (Disk.Own wd w3.heap.size (.slice k1 nk k3) KY):=hu.mono G0.out.size
   try replace HX:Hid (Blk wd xb 61 #[.string ⟨#[]⟩,.slice none 0 0,.slice none 0 0]):=HX.out.grown gg (by simp)
   replace G0:Hid (w3.grownBy wd none):=grown_trans G0.out gg
   clear gg hu
   go_wp2_with fail
   refine hK.out _ _ (fun _=>G0.out) ?_
   clear hK K
   try simp only [pN]
   refine wpHold_one (i:=7) rfl (by kernel_rfl) (by rfl) (fun K hK=>?_)
   go_wp2_with fail
   refine (copied65 (.slice a2 n2 c2) V _ (HS.out.2.1.grown (grown_trans B3.out.2.2.2.1 G0.out)) (by have:=HS.out.2.2.2.2.2;omega)).mono ?_
   rintro e wd ⟨u,rfl,hu,gg⟩
   obtain ⟨k2,k4,ek⟩:=hu.seg.shape
   rw [hnv] at ek
   subst ek
   have HU2:Hid (Disk.Own wd w3.heap.size (.slice k2 nv k4) V):=hu.mono G0.out.size
   replace HU1:Hid (Disk.Own wd w3.heap.size (.slice k1 nk k3) KY):=HU1.out.grown gg
   try replace HX:Hid (Blk wd xb 61 #[.string ⟨#[]⟩,.slice none 0 0,.slice none 0 0]):=HX.out.grown gg (by simp)
   replace G0:Hid (w3.grownBy wd none):=grown_trans G0.out gg
   clear gg hu
   go_wp2_with fail
   refine hK.out _ _ (fun _=>G0.out) ?_
   clear hK K
   try simp only [pN]
   refine tK (i:=8) (l':=[]) trivial (G0.out) rfl rfl (fun wk hk=>by obtain ⟨m1,m2,m3⟩:=HC3.out wk hk;go_simp;try rfl) ?_
   try simp only [pN]
   refine wpHold_one (i:=10) rfl (by kernel_rfl) (by rfl) (fun K hK=>?_)
   have f0:=HX.out.free 0
   have f1:=HX.out.free 1
   have f2:=HX.out.free 2
   have b0:=HX.out.cell 0
   have b1:=HX.out.cell 1
   have b2:=HX.out.cell 2
   simp at b0 b1 b2
   go_wp2_with fail
   have HZ:Hid (Blk (((wd.setCell ⟨xb,0,none⟩ (.string ⟨T.toArray⟩)).setCell ⟨xb,1,none⟩ (.slice k1 nk k3)).setCell ⟨xb,2,none⟩ (.slice k2 nv k4)) xb 61 #[.string ⟨T.toArray⟩,.slice k1 nk k3,.slice k2 nv k4]/\Disk.Own (((wd.setCell ⟨xb,0,none⟩ (.string ⟨T.toArray⟩)).setCell ⟨xb,1,none⟩ (.slice k1 nk k3)).setCell ⟨xb,2,none⟩ (.slice k2 nv k4)) w3.heap.size (.slice k1 nk k3) KY/\Disk.Own (((wd.setCell ⟨xb,0,none⟩ (.string ⟨T.toArray⟩)).setCell ⟨xb,1,none⟩ (.slice k1 nk k3)).setCell ⟨xb,2,none⟩ (.slice k2 nv k4)) w3.heap.size (.slice k2 nv k4) V/\w3.grownBy (((wd.setCell ⟨xb,0,none⟩ (.string ⟨T.toArray⟩)).setCell ⟨xb,1,none⟩ (.slice k1 nk k3)).setCell ⟨xb,2,none⟩ (.slice k2 nv k4)) none):=⟨((HX.out.store 0 _).store 1 _).store 2 _,own_set3 HU1.out HX.out (by decide),own_set3 HU2.out HX.out (by decide),grown_new3 G0.out HXB.out⟩
   generalize (((wd.setCell ⟨xb,0,none⟩ (.string ⟨T.toArray⟩)).setCell ⟨xb,1,none⟩ (.slice k1 nk k3)).setCell ⟨xb,2,none⟩ (.slice k2 nv k4))=wz at HZ ⊢
   clear f0 f1 f2 b0 b1 b2
   refine hK.out _ _ (fun _=>HZ.out.2.2.2) ?_
   clear hK K
   try simp only [pN]
   refine wpHold_done (by kernel_rfl) ?_
   refine (‹∀(a:Act) (w:World),Met _ a w->_› _ _ ?_)
   go_meet
   case rel=>exact ⟨xb,k1,k2,k3,k4,rfl,HZ.out⟩
 case rest =>
  obtain ⟨xb,k1,k2,k3,k4,rfl,hx1,hx2,hx3,hx4⟩:=hcut
  have HX:Hid (Blk wc xb 61 #[.string ⟨T.toArray⟩,.slice k1 nk k3,.slice k2 nv k4]/\Disk.Own wc w3.heap.size (.slice k1 nk k3) KY/\Disk.Own wc w3.heap.size (.slice k2 nv k4) V/\w.grownBy wc none/\w3.grownBy wc none):=⟨hx1,hx2,hx3,grown_trans B3.out.2.2.2.1 hx4,hx4⟩
  clear hx1 hx2 hx3 hx4 HC3
  have m0:=HX.out.1.cell 0
  have m1:=HX.out.1.cell 1
  have m2:=HX.out.1.cell 2
  simp at m0 m1 m2
  go_upto_region 2 with fail
  go_wp2_with fail
  refine (find93 (.slice a0 n0 c0) (flatD D) T (.slice k1 nk k3) (.slice k2 nv k4) (KY,V) wc (by rw [HV.out.2];omega) (HV.out.1.nms.grown HX.out.2.2.2.1) HX.out.2.1.seg HX.out.2.2.1.seg).mono ?_
  rintro e w5 ⟨rfl,g5⟩
  obtain ⟨i,hi⟩:∃i,upR (flatD D) (T,KY,V)=i:=⟨_,rfl⟩
  obtain ⟨h,hh⟩:∃h,isR (flatD D) (T,KY,V)=h:=⟨_,rfl⟩
  have hin:i<=n0:=by rw [<-hi,<-HV.out.2];exact up_le _ _
  have HF:Hid (upR (flatD D) (T,KY,V)=i/\isR (flatD D) (T,KY,V)=h/\hasL (rowsOf D T) KY=h):=⟨hi,hh,by rw [<-hh];exact (isF_has HO.out.2.2.2.good.rise T KY V).symm⟩
  rw [hi,hh]
  clear hi hh m0 m1 m2
  go_upto_region 3 with fail
  obtain ⟨w6,hw6,H6⟩:=al w5 #[.bool false,.slice none 0 0,.slice none 0 0] 72
  obtain ⟨sb,hsb⟩:∃x,w5.heap.size=x:=⟨_,rfl⟩
  rw [hsb] at H6
  have B6:Hid (Blk w6 qb 23 #[.int .i64 q.1,.int .i64 q.2]/\Blk w6 ob 67 #[.int .i64 4,.string ⟨T.toArray⟩,.slice a1 n1 c1,.slice a2 n2 c2,.bool hs,.slice a3 n3 c3,.slice a4 n4 c4,.int .i64 mo]/\Blk w6 rb 72 #[.bool false,.slice none 0 0,.slice none 0 0]/\Blk w6 xb 61 #[.string ⟨T.toArray⟩,.slice k1 nk k3,.slice k2 nv k4]/\Disk.Own w6 w.heap.size (.slice k1 nk k3) KY/\Disk.Own w6 w.heap.size (.slice k2 nv k4) V/\Blk w6 sb 72 #[.bool false,.slice none 0 0,.slice none 0 0]/\w.grownBy w6 none/\w.heap.size<=rb/\w.heap.size<=sb/\rb≠sb/\w6.heap.size=sb+1):=by
   have g56:=grown_trans g5 H6.out.2.1
   have g36:=grown_trans HX.out.2.2.2.2 g56
   have l3:=B3.out.2.2.2.1.size
   have l5:=(grown_trans HX.out.2.2.2.2 g5).size
   have lr:=B3.out.2.2.1.lt
   exact ⟨B3.out.1.grown g36 (by simp),B3.out.2.1.grown g36 (by simp),B3.out.2.2.1.grown g36 (by simp),HX.out.1.grown g56 (by simp),(HX.out.2.1.grown g56).mono l3,(HX.out.2.2.1.grown g56).mono l3,H6.out.1,grown_trans B3.out.2.2.2.1 g36,B3.out.2.2.2.2.1,by omega,by omega,H6.out.2.2⟩
  have BC:Hid (∀y:World,w6.grownBy y none->y.cell? ⟨ob,0,none⟩=some (.int .i64 4)/\y.cell? ⟨ob,1,none⟩=some (.string ⟨T.toArray⟩)/\y.cell? ⟨ob,2,none⟩=some (.slice a1 n1 c1)/\y.cell? ⟨ob,4,none⟩=some (.bool hs)/\y.cell? ⟨ob,5,none⟩=some (.slice a3 n3 c3)/\y.cell? ⟨ob,6,none⟩=some (.slice a4 n4 c4)/\y.cell? ⟨ob,7,none⟩=some (.int .i64 mo)/\y.cell? ⟨qb,0,none⟩=some (.int .i64 q.1)/\y.cell? ⟨qb,1,none⟩=some (.int .i64 q.2)):=fun y hy=>by
   have h:=B6.out.2.1.grown hy (by simp)
   have h':=B6.out.1.grown hy (by simp)
   exact ⟨h.cell 0,h.cell 1,h.cell 2,h.cell 4,h.cell 5,h.cell 6,h.cell 7,h'.cell 0,h'.cell 1⟩
  clear g5 HX B3
  go_upto_region 4 with fail
  try rw [hw6]
  try rw [hsb]
  clear hw6 hsb H6
  have x0:=(BC.out w6 (grown_refl _ _)).1
  have HK:Hid (keyB KY=true):=by
   have:=may_key HO.out.2.1 (by rw [<-HP.out];show (4:Int)≠5;decide)
   rw [<-HP.out] at this
   exact this
  obtain ⟨bad,hbad⟩:∃b,b=(!decide (h=hs) || (h && !decide (gotD D T KY=OL))):=⟨_,rfl⟩
  have HM:Hid (opD q D o=if bad=true then .error 1 else putR q D o):=by
   have hold0:hs=false->OL=[]:=by
    have:=(Calls.may_of HO.out.2.1).has
    rw [<-HP.out] at this
    exact this
   have e:meetD D o = !bad:=by
    have hh:hasD D T KY=h:=by
     unfold hasD
     rw [HK.out,HF.out.2.2]
     rfl
    rw [hbad,<-HP.out]
    show (decide (hasD D T KY=hs) && decide (gotD D T KY=OL))=_
    rw [hh]
    cases h with
    | true=>cases hs <;> simp
    | false =>
     have hg:gotD D T KY=[]:=by
      unfold gotD gotL
      rw [if_neg (by rw [HF.out.2.2];simp)]
     cases hs with
     | true=>simp
     | false=>simp [hg,hold0 rfl]
   have hk4:o.kind=4:=by rw [<-HP.out]
   show _=_
   unfold opD
   rw [if_neg (by rw [hk4];decide),if_neg (by rw [hk4];decide),if_neg (by rw [hk4];decide),e]
   cases bad <;> simp [hk4]
  have HBAD:Hid (bad=(!decide (h=hs) || (h && !decide (gotD D T KY=OL)))):=hbad
  clear hbad
  go_upto_region 14 with fail
  clear x0
  go_cut [82] (fun x wc=>x=.bool bad/\w6.grownBy wc none)
  case first =>
   by_cases hhs:h=hs
   ·subst hhs
    cases h with
    | false =>
    ·have E:Hid (bad=false):=by rw [HBAD.out];rfl
     refine wp_region_noPanic ?_
     refine wp_region_hold 1000 (fun y=>w6.grownBy y none) (by kernel_rfl) ?_
     have G0:Hid (w6.grownBy w6.drew none):=grown_drew _ _
     generalize w6.drew=wd at G0 ⊢
     have J:Idx [0,1,2,3,4,5,6,7,8,9,10]:=trivial
     iterate 11 (refine tK J (G0.out) rfl rfl (fun wk hk=>by obtain ⟨m0,m1,m2,m3,m4,m5,m6,m7,m8⟩:=BC.out wk hk;go_simp;try rfl) ?_;replace J:=J.tl;try simp only [pN])
     clear J
     have J:Idx [11,12,13,14,15,16,17,18,19,20]:=trivial
     iterate 10 (refine sk J (G0.out) rfl rfl ?_;replace J:=J.tl;try simp only [pN])
     clear J
     have J:Idx [21,22,23]:=trivial
     iterate 3 (refine tK J (G0.out) rfl rfl (fun wk hk=>by obtain ⟨m0,m1,m2,m3,m4,m5,m6,m7,m8⟩:=BC.out wk hk;go_simp;try rfl) ?_;replace J:=J.tl;try simp only [pN])
     clear J
     refine wpHold_done (by kernel_rfl) ?_
     refine (‹∀(a:Act) (w:World),Met _ a w->_› _ _ ?_)
     go_meet
     case rel=>exact ⟨by rw [E.out],G0.out⟩
    | true =>
    ·obtain ⟨hu,hgot⟩:=atF_got HO.out.2.2.2.good.rise T KY V HK.out HF.out.2.1
     obtain ⟨cb,off,xv,yv,rfl,d0,d1,e2,d2,t2⟩:=nms_at HV.out.1.nms _ hu
     simp only [hgot] at t2
     rw [HF.out.1] at e2
     obtain ⟨ya,yc,ey⟩:=t2.shape
     obtain ⟨ng,hng⟩:∃n,(gotD D T KY).length=n:=⟨_,rfl⟩
     rw [hng] at ey
     subst ey
     have hi1:i<n0:=by rw [<-HF.out.1,<-HV.out.2];exact hu
     have i0:(0:Int)<=(i:Int):=by omega
     have i1:(i:Int)<(n0:Int):=by omega
     have HT:Hid (∀y:World,w6.grownBy y none->y.cell? ⟨cb,off+i*3+2,none⟩=some (.slice ya ng yc)/\(convert 59 9 (.slice ya ng yc)).run Tryz.prog y=.ok (.string ⟨(gotD D T KY).toArray⟩) y/\(convert 59 9 (.slice a3 n3 c3)).run Tryz.prog y=.ok (.string ⟨OL.toArray⟩) y):=fun y hy=>by
      have hy':=grown_trans B6.out.2.2.2.2.2.2.2.1 hy
      exact ⟨hy'.cell e2 (by simp),seg_str (t2.grown hy'),seg_str (HS.out.2.2.1.grown hy')⟩
     obtain ⟨gt,hgt⟩:∃g,gotD D T KY=g:=⟨_,rfl⟩
     rw [hgt] at HT HBAD
     clear d0 d1 d2 t2 e2 hgot hu hng
     by_cases hv0:gt=OL
     ·have E:Hid (bad=false):=by rw [HBAD.out];show _=_;simp [hv0]
      have v1:(gt==OL)=true:=by simpa using hv0
      have v2:(gt != OL)=false:=by simpa using hv0
      clear hv0
      refine wp_region_noPanic ?_
      refine wp_region_hold 1000 (fun y=>w6.grownBy y none) (by kernel_rfl) ?_
      have G0:Hid (w6.grownBy w6.drew none):=grown_drew _ _
      generalize w6.drew=wd at G0 ⊢
      have J:Idx [0,1,2,3,4,5,6,7,8,9,10,11,12,13,14,15,16,17,18,19,20,21,22,23]:=trivial
      iterate 24 (refine tK J (G0.out) rfl rfl (fun wk hk=>by obtain ⟨m0,m1,m2,m3,m4,m5,m6,m7,m8⟩:=BC.out wk hk;obtain ⟨u1,u2,u3⟩:=HT.out wk hk;go_simp;try rfl) ?_;replace J:=J.tl;try simp only [pN])
      clear J
      refine wpHold_done (by kernel_rfl) ?_
      refine (‹∀(a:Act) (w:World),Met _ a w->_› _ _ ?_)
      go_meet
      case rel=>exact ⟨by rw [E.out],G0.out⟩
     ·have E:Hid (bad=true):=by rw [HBAD.out];show _=_;simp [hv0]
      have v1:(gt==OL)=false:=by simpa using hv0
      have v2:(gt != OL)=true:=by simpa using hv0
      clear hv0
      refine wp_region_noPanic ?_
      refine wp_region_hold 1000 (fun y=>w6.grownBy y none) (by kernel_rfl) ?_
      have G0:Hid (w6.grownBy w6.drew none):=grown_drew _ _
      generalize w6.drew=wd at G0 ⊢
      have J:Idx [0,1,2,3,4,5,6,7,8,9,10,11,12,13,14,15,16,17,18,19,20,21,22,23]:=trivial
      iterate 24 (refine tK J (G0.out) rfl rfl (fun wk hk=>by obtain ⟨m0,m1,m2,m3,m4,m5,m6,m7,m8⟩:=BC.out wk hk;obtain ⟨u1,u2,u3⟩:=HT.out wk hk;go_simp;try rfl) ?_;replace J:=J.tl;try simp only [pN])
      clear J
      refine wpHold_done (by kernel_rfl) ?_
      refine (‹∀(a:Act) (w:World),Met _ a w->_› _ _ ?_)
      go_meet
      case rel=>exact ⟨by rw [E.out],G0.out⟩
   ·have E:Hid (bad=true):=by rw [HBAD.out];show _=_;simp [hhs]
    have v1:(h==hs)=false:=by simpa using hhs
    have v2:(h != hs)=true:=by simpa using hhs
    clear hhs
    refine wp_region_noPanic ?_
    refine wp_region_hold 1000 (fun y=>w6.grownBy y none) (by kernel_rfl) ?_
    have G0:Hid (w6.grownBy w6.drew none):=grown_drew _ _
    generalize w6.drew=wd at G0 ⊢
    have J:Idx [0,1,2,3,4,5,6,7,8]:=trivial
    iterate 9 (refine tK J (G0.out) rfl rfl (fun wk hk=>by obtain ⟨m0,m1,m2,m3,m4,m5,m6,m7,m8⟩:=BC.out wk hk;go_simp;try rfl) ?_;replace J:=J.tl;try simp only [pN])
    clear J
    have J:Idx [9,10,11,12,13,14,15,16,17,18,19,20,21]:=trivial
    iterate 13 (refine sk J (G0.out) rfl rfl ?_;replace J:=J.tl;try simp only [pN])
    clear J
    have J:Idx [22,23]:=trivial
    iterate 2 (refine tK J (G0.out) rfl rfl (fun wk hk=>by obtain ⟨m0,m1,m2,m3,m4,m5,m6,m7,m8⟩:=BC.out wk hk;go_simp;try rfl) ?_;replace J:=J.tl;try simp only [pN])
    clear J
    refine wpHold_done (by kernel_rfl) ?_
    refine (‹∀(a:Act) (w:World),Met _ a w->_› _ _ ?_)
    go_meet
    case rel=>exact ⟨by rw [E.out],G0.out⟩
  case rest =>
   obtain ⟨rfl,hgc⟩:=hcut
   have C6:Hid (Blk wc rb 72 #[.bool false,.slice none 0 0,.slice none 0 0]/\Blk wc sb 72 #[.bool false,.slice none 0 0,.slice none 0 0]/\Blk wc xb 61 #[.string ⟨T.toArray⟩,.slice k1 nk k3,.slice k2 nv k4]/\Disk.Own wc w.heap.size (.slice k1 nk k3) KY/\Disk.Own wc w.heap.size (.slice k2 nv k4) V/\w.grownBy wc none/\w6.grownBy wc none/\w.heap.size<=rb/\w.heap.size<=sb/\rb≠sb):=⟨B6.out.2.2.1.grown hgc (by simp),B6.out.2.2.2.2.2.2.1.grown hgc (by simp),B6.out.2.2.2.1.grown hgc (by simp),B6.out.2.2.2.2.1.grown hgc,B6.out.2.2.2.2.2.1.grown hgc,grown_trans B6.out.2.2.2.2.2.2.2.1 hgc,hgc,B6.out.2.2.2.2.2.2.2.2.1,B6.out.2.2.2.2.2.2.2.2.2.1,B6.out.2.2.2.2.2.2.2.2.2.2.1⟩
   clear hgc B6 HBAD
   cases bad with
   | true =>
    have HE1:Hid (opD q D o=.error 1):=by show _=_;rw [HM.out,if_pos rfl]
    have f0:=C6.out.1.free 0
    have f1:=C6.out.1.free 1
    have f2:=C6.out.1.free 2
    have b0:=C6.out.1.cell 0
    have b1:=C6.out.1.cell 1
    have b2:=C6.out.1.cell 2
    have s0:=C6.out.2.1.cell 0
    have s1:=C6.out.2.1.cell 1
    have s2:=C6.out.2.1.cell 2
    simp at b0 b1 b2 s0 s1 s2
    go_wp2_with fail
    refine bodyPost_ret (v:=_) (results_row2 rfl _ _ rb _ rfl (load72 _ rb _ _ _ (((C6.out.1.store 0 (.bool false)).store 1 (.slice none 0 0)).store 2 (.slice none 0 0)))) rfl ?_
    exact ⟨grown_new3 C6.out.2.2.2.2.2.1 C6.out.2.2.2.2.2.2.2.1,.inr ⟨1,HE1.out,by decide,_,_,_,rfl⟩⟩
   | false =>
    have m0:=C6.out.2.2.1.cell 0
    have m1:=C6.out.2.2.1.cell 1
    have m2:=C6.out.2.2.1.cell 2
    simp at m0 m1 m2
    go_upto_region 16 with fail
    go_wp2_with fail
    refine (put94 (X:=X) (.slice a0 n0 c0) (flatD D) T (.slice k1 nk k3) (.slice k2 nv k4) (KY,V) wc (fun g hg=>by have:=HO.out.2.2.1 g hg;have:=C6.out.2.2.2.2.2.1.size;omega) (by rw [HV.out.2];omega) (HV.out.1.grown C6.out.2.2.2.2.2.1) (C6.out.2.2.2.1.mono (Nat.zero_le _)) (C6.out.2.2.2.2.1.mono (Nat.zero_le _)) (off_new HO.out.2.2.1 C6.out.2.2.2.1 (Nat.le_refl _)) (off_new HO.out.2.2.1 C6.out.2.2.2.2.1 (Nat.le_refl _))).mono ?_
    rintro e w8 ⟨u,rfl,hu,g8⟩
    rw [putF_flat HO.out.2.2.2.good.rise] at hu
    obtain ⟨E,hE⟩:∃E,putD D T KY V=E:=⟨_,rfl⟩
    have HGE:Hid (GoodD E):=by
     rw [<-hE]
     refine good_putD HO.out.2.2.2.good ?_ (by have:=HO.out.2.2.2.len;omega)
     unfold okP
     have h1:=may_value HO.out.2.1
     rw [<-HP.out] at h1
     simp only at h1
     rw [HK.out,h1]
     rfl
    have HLE:Hid ((flatD E).length<=4097):=by
     have e1:=sum_stand HO.out.2.2.2.good.rise T (putL (rowsOf D T) KY V) List.length rfl
     have e2:=put_len (rowsOf D T) KY V
     have e3:=HO.out.2.2.2.len
     show _<=_
     rw [flat_len,<-hE]
     unfold putD lenD at *
     omega
    have HPR:Hid (putR q D o=if aboveD q E=0 then .ok (⟨h,[],[]⟩,E) else .error (aboveD q E)):=by
     unfold putR
     rw [<-HP.out]
     simp only [hE,hasD]
     rw [HK.out,HF.out.2.2]
     rfl
    rw [hE] at hu
    obtain ⟨au,nu,cu,rfl,hnu,hcu,hcu',_⟩:=nms_open hu.nms
    have H8:Hid (DRow X w8 (.slice au nu cu) (flatD E)/\Blk w8 rb 72 #[.bool false,.slice none 0 0,.slice none 0 0]/\Blk w8 sb 72 #[.bool false,.slice none 0 0,.slice none 0 0]/\w.grownBy w8 none/\w6.grownBy w8 none/\(flatD E).length=nu):=⟨hu,C6.out.1.grown g8 (by simp),C6.out.2.1.grown g8 (by simp),grown_trans C6.out.2.2.2.2.2.1 g8,grown_trans C6.out.2.2.2.2.2.2.1 g8,hnu⟩
    clear hu g8 m0 m1 m2 hE hnu
    have hn9:nu<=4097:=by rw [<-H8.out.2.2.2.2.2];exact HLE.out
    have x7:=(BC.out w8 H8.out.2.2.2.2.1).2.2.2.2.2.2.2.1
    have f0:=H8.out.2.1.free 0
    have f1:=H8.out.2.1.free 1
    have f2:=H8.out.2.1.free 2
    have b0:=H8.out.2.1.cell 0
    have b1:=H8.out.2.1.cell 1
    have b2:=H8.out.2.1.cell 2
    have s0:=H8.out.2.2.1.cell 0
    have s1:=H8.out.2.2.1.cell 1
    have s2:=H8.out.2.2.1.cell 2
    simp at b0 b1 b2 s0 s1 s2
    by_cases hq1:q.1<(nu:Int)
    ·have HE2:Hid (opD q D o=.error 2):=by
      show _=_
      rw [HM.out,if_neg (by simp),HPR.out]
      unfold aboveD
      rw [<-flat_len,H8.out.2.2.2.2.2,if_pos hq1,if_neg (by decide)]
     go_wp2_with fail
     refine bodyPost_ret (v:=_) (results_row2 rfl _ _ rb _ rfl (load72 _ rb _ _ _ (((H8.out.2.1.store 0 (.bool false)).store 1 (.slice none 0 0)).store 2 (.slice none 0 0)))) rfl ?_
     exact ⟨grown_new3 H8.out.2.2.2.1 C6.out.2.2.2.2.2.2.2.1,.inr ⟨2,HE2.out,by decide,_,_,_,rfl⟩⟩
    ·have HQ1:Hid (¬(q.1<(nu:Int))):=hq1
     go_upto_region 19 with fail
     clear f0 f1 f2 b0 b1 b2 s0 s1 s2 x7 hq1
     go_cut [99] (fun x wc=>x=.bool (decide (q.2<(sizeD E:Int)))/\w8.grownBy wc none)
     case first =>
      refine wp_region_noPanic ?_
      refine wp_region_hold 1000 (fun y=>w8.grownBy y none) (by kernel_rfl) ?_
      have G0:Hid (w8.grownBy w8.drew none):=grown_drew _ _
      generalize w8.drew=wd at G0 ⊢
      have J:Idx [0,2,3]:=trivial
      iterate 3 (refine tK J (G0.out) rfl rfl (fun wk hk=>by obtain ⟨m0,m1,m2,m3,m4,m5,m6,m7,m8⟩:=BC.out wk (grown_trans H8.out.2.2.2.2.1 hk);go_simp;try rfl) ?_;replace J:=J.tl;try simp only [pN])
      clear J
      refine wpHold_one (i:=1) rfl (by kernel_rfl) (by rfl) (fun K hK=>?_)
      go_wp2_with fail
      refine (size39 (.slice au nu cu) (flatD E) (fun k hk=>size_few2 HGE.out HLE.out k) wd (H8.out.1.nms.grown G0.out)).mono ?_
      rw [size_flat]
      rintro e wa ⟨rfl,gg⟩
      have GA:Hid (w8.grownBy wa none):=grown_trans G0.out gg
      clear gg
      go_wp2_with fail
      refine hK.out _ _ (fun _=>GA.out) ?_
      clear hK K
      try simp only [pN]
      refine tK (i:=4) (l':=[]) trivial (GA.out) rfl rfl (fun wk hk=>by obtain ⟨m0,m1,m2,m3,m4,m5,m6,m7,m8⟩:=BC.out wk (grown_trans H8.out.2.2.2.2.1 hk);go_simp;try rfl) ?_
      try simp only [pN]
      refine wpHold_done (by kernel_rfl) ?_
      refine (‹∀(a:Act) (w:World),Met _ a w->_› _ _ ?_)
      go_meet
      case rel=>exact ⟨rfl,GA.out⟩
     case rest =>
      rename_i wq
      obtain ⟨rfl,hgq⟩:=hcut
      have H9:Hid (DRow X wc (.slice au nu cu) (flatD E)/\Blk wc rb 72 #[.bool false,.slice none 0 0,.slice none 0 0]/\Blk wc sb 72 #[.bool false,.slice none 0 0,.slice none 0 0]/\w.grownBy wc none):=⟨H8.out.1.grown hgq,H8.out.2.1.grown hgq (by simp),H8.out.2.2.1.grown hgq (by simp),grown_trans H8.out.2.2.2.1 hgq⟩
      have HL9:Hid (w.heap.size<=rb/\w.heap.size<=sb/\rb≠sb):=C6.out.2.2.2.2.2.2.2
      have HA:Hid (aboveD q E=if q.2<(sizeD E:Int) then 3 else 0):=by
       unfold aboveD
       rw [<-flat_len,H8.out.2.2.2.2.2,if_neg (show ¬(q.1<(nu:Int)) by have:=HQ1.out;omega)]
       rfl
      clear hgq H8 C6
      have f0:=H9.out.2.1.free 0
      have f1:=H9.out.2.1.free 1
      have f2:=H9.out.2.1.free 2
      have b0:=H9.out.2.1.cell 0
      have b1:=H9.out.2.1.cell 1
      have b2:=H9.out.2.1.cell 2
      have s0:=H9.out.2.2.1.cell 0
      have s1:=H9.out.2.2.1.cell 1
      have s2:=H9.out.2.2.1.cell 2
      simp at b0 b1 b2 s0 s1 s2
      by_cases hq2:q.2<(sizeD E:Int)
      ·rw [decide_eq_true hq2]
       have HE3:Hid (opD q D o=.error 3):=by
        show _=_
        rw [HM.out,if_neg (by simp),HPR.out,HA.out,if_pos hq2,if_neg (by decide)]
       clear hq2
       go_wp2_with fail
       refine bodyPost_ret (v:=_) (results_row2 rfl _ _ rb _ rfl (load72 _ rb _ _ _ (((H9.out.2.1.store 0 (.bool false)).store 1 (.slice none 0 0)).store 2 (.slice none 0 0)))) rfl ?_
       exact ⟨grown_new3 H9.out.2.2.2 HL9.out.1,.inr ⟨3,HE3.out,by decide,_,_,_,rfl⟩⟩
      ·rw [decide_eq_false hq2]
       have HE0:Hid (opD q D o=.ok (⟨h,[],[]⟩,E)):=by
        show _=_
        rw [HM.out,if_neg (by simp),HPR.out,HA.out,if_neg hq2,if_pos rfl]
       have f3:=H9.out.2.2.1.free 0
       clear hq2 f0 f1 f2 b0 b1 b2
       go_upto_region 28 with fail
       have B9:Hid (Blk (wc.setCell ⟨sb,0,none⟩ (.bool h)) sb 72 #[.bool h,.slice none 0 0,.slice none 0 0]/\Blk (wc.setCell ⟨sb,0,none⟩ (.bool h)) rb 72 #[.bool false,.slice none 0 0,.slice none 0 0]/\w.grownBy (wc.setCell ⟨sb,0,none⟩ (.bool h)) none/\DRow X (wc.setCell ⟨sb,0,none⟩ (.bool h)) (.slice au nu cu) (flatD E)):=⟨H9.out.2.2.1.store 0 _,H9.out.2.1.grown (grown_setCell _ _ _ _) (by simp;exact fun e=>HL9.out.2.2 e.symm),grown_new H9.out.2.2.2 (grown_setCell _ _ _ _) (fun g hg=>by simp at hg;have:=HL9.out.2.1;omega),H9.out.1.off (grown_setCell _ _ _ _) H9.out.2.2.1 (by decide) (by decide)⟩
       generalize wc.setCell ⟨sb,0,none⟩ (.bool h)=w9 at B9 ⊢
       clear s0 s1 s2 f3 H9
       have f0:=B9.out.2.1.free 0
       have f1:=B9.out.2.1.free 1
       have f2:=B9.out.2.1.free 2
       have b0:=B9.out.2.1.cell 0
       have b1:=B9.out.2.1.cell 1
       have b2:=B9.out.2.1.cell 2
       have s0:=B9.out.1.cell 0
       have s1:=B9.out.1.cell 1
       have s2:=B9.out.1.cell 2
       simp at b0 b1 b2 s0 s1 s2
       go_wp2_with fail
       refine bodyPost_ret (v:=_) (results_row2 rfl _ _ rb _ rfl (load72 _ rb _ _ _ (((B9.out.2.1.store 0 (.bool h)).store 1 (.slice none 0 0)).store 2 (.slice none 0 0)))) rfl ?_
       exact ⟨grown_new3 B9.out.2.2.1 HL9.out.1,.inl ⟨_,_,HE0.out,_,_,_,rfl,Own.nil _ _,TRws.nil _ _,drow_set3 B9.out.2.2.2 B9.out.2.1 (by decide) (by decide)⟩⟩
theorem op68_5 {X:Nat->Prop}(q:Int × Int)(D:DB)(hD:DbQ q D)(v kv vv ol tv:Value)(o:POp)(hkd:o.kind=5)(hmay:mayOp o=true)(w:World)(hX:∀g,X g->g<w.heap.size)(hv:DRow X w v (flatD D))(ho:OpSeg w kv vv ol tv o):Calls Tryz.prog 68 #[quoV q,v,opV kv vv ol tv o] w (ROpE X q D o w):=by
 have HO:Hid (OpSeg w kv vv ol tv o/\mayOp o=true/\(∀g,X g->g<w.heap.size)/\DbQ q D):=⟨ho,hmay,hX,hD⟩
 obtain ⟨a0,n0,c0,rfl,hn0,hc0,hc0',_⟩:=nms_open hv.nms
 have HV:Hid (DRow X w (.slice a0 n0 c0) (flatD D)/\(flatD D).length=n0):=⟨hv,hn0⟩
 have hz0:n0<=4096:=by
  have h1:=hD.len
  rw [<-hn0,flat_len]
  omega
 obtain ⟨a1,n1,c1,a2,n2,c2,a3,n3,c3,a4,n4,c4,rfl,rfl,rfl,rfl⟩:=op_shape ho
 obtain ⟨kd,T,KY,V,hs,OL,to',mo⟩:=o
 simp only at hkd
 subst hkd
 obtain ⟨o,hoo⟩:∃o:POp,(⟨5,T,KY,V,hs,OL,to',mo⟩:POp)=o:=⟨_,rfl⟩
 have HS:Hid (Seg w (.slice a1 n1 c1) KY/\Seg w (.slice a2 n2 c2) V/\Seg w (.slice a3 n3 c3) OL/\Seg w (.slice a4 n4 c4) to'/\KY.length<=1000/\V.length<=1000):=⟨ho.key,ho.value,ho.old,ho.to,may_klen hmay,may_vlen hmay⟩
 have HP:Hid ((⟨5,T,KY,V,hs,OL,to',mo⟩:POp)=o):=hoo
 unfold opV quoV Str
 rw [hoo] at HO
 simp only
 rw [hoo]
 clear ho hD hmay hX hoo hv hn0
 go_enter Tryz.func68,Tryz.ntmps68
 go_upto_region 1 with fail
 obtain ⟨w1,hw1,H1⟩:=al w #[.int .i64 q.1,.int .i64 q.2] 23
 obtain ⟨w2,hw2,H2⟩:=al w1 #[.int .i64 5,.string ⟨T.toArray⟩,.slice a1 n1 c1,.slice a2 n2 c2,.bool hs,.slice a3 n3 c3,.slice a4 n4 c4,.int .i64 mo] 67
 obtain ⟨w3,hw3,H3⟩:=al w2 #[.bool false,.slice none 0 0,.slice none 0 0] 72
 rw [hw1,hw2,hw3]
 obtain ⟨qb,hqb⟩:∃b,w.heap.size=b:=⟨_,rfl⟩
 obtain ⟨ob,hob⟩:∃b,qb+1=b:=⟨_,rfl⟩
 obtain ⟨rb,hrb⟩:∃b,ob+1=b:=⟨_,rfl⟩
 have B3:Hid (Blk w3 qb 23 #[.int .i64 q.1,.int .i64 q.2]/\Blk w3 ob 67 #[.int .i64 5,.string ⟨T.toArray⟩,.slice a1 n1 c1,.slice a2 n2 c2,.bool hs,.slice a3 n3 c3,.slice a4 n4 c4,.int .i64 mo]/\Blk w3 rb 72 #[.bool false,.slice none 0 0,.slice none 0 0]/\w.grownBy w3 none/\w.heap.size<=rb/\w.heap.size=qb):=by
  have s1:=H1.out.2.2
  have s2:=H2.out.2.2
  have g23:=grown_trans H2.out.2.1 H3.out.2.1
  refine ⟨?_,?_,?_,grown_trans H1.out.2.1 g23,by omega,hqb⟩
  ·rw [<-hqb];exact H1.out.1.grown g23 (by simp)
  ·rw [<-hob,<-hqb,<-s1];exact H2.out.1.grown H3.out.2.1 (by simp)
  ·rw [<-hrb,<-hob,<-hqb,<-s1,show w1.heap.size+1=w2.heap.size by omega];exact H3.out.1
 try rw [hqb]
 try rw [hob]
 try rw [hrb]
 clear hw1 hw2 hw3 H1 H2 H3 hqb hob hrb
 have HC3:Hid (∀y:World,w3.grownBy y none->y.cell? ⟨ob,1,none⟩=some (.string ⟨T.toArray⟩)/\y.cell? ⟨ob,2,none⟩=some (.slice a1 n1 c1)/\y.cell? ⟨ob,3,none⟩=some (.slice a2 n2 c2)):=fun y hy=>by
  have h:=B3.out.2.1.grown hy (by simp)
  exact ⟨h.cell 1,h.cell 2,h.cell 3⟩
 obtain ⟨nk,hnk⟩:∃n,KY.length=n:=⟨_,rfl⟩
 obtain ⟨nv,hnv⟩:∃n,V.length=n:=⟨_,rfl⟩
 go_cut [9] (fun x wc=>∃(xb:Nat) (k1 k2:Option Addr) (k3 k4:Nat),x=.pointer (some ⟨xb,0,none⟩)/\Blk wc xb 61 #[.string ⟨T.toArray⟩,.slice k1 nk k3,.slice k2 nv k4]/\Disk.Own wc w3.heap.size (.slice k1 nk k3) KY/\Disk.Own wc w3.heap.size (.slice k2 nv k4) V/\w3.grownBy wc none)
 case first =>
  refine wp_region_noPanic ?_
  refine wp_region_hold 1000 (fun y=>w3.grownBy y none) (by kernel_rfl) ?_
  have G0:Hid (w3.grownBy w3.drew none):=grown_drew _ _
  generalize w3.drew=wd at G0 ⊢
  have J:Idx [0,1,2,3,5,6]:=trivial
  iterate 6 (refine tK J (G0.out) rfl rfl (fun wk hk=>by obtain ⟨m1,m2,m3⟩:=HC3.out wk hk;go_simp;try rfl) ?_;replace J:=J.tl;try simp only [pN])
  clear J
  refine wpHold_two (i:=4) (j:=9) rfl rfl (by kernel_rfl) (by rfl) (by rfl) (fun K hK=>?_) (fun K hK=>?_)
  ·go_wp2_with fail
   refine (copied65 (.slice a1 n1 c1) KY _ (HS.out.1.grown (grown_trans B3.out.2.2.2.1 G0.out)) (by have:=HS.out.2.2.2.2.1;omega)).mono ?_
   rintro e wd ⟨u,rfl,hu,gg⟩
   obtain ⟨k1,k3,ek⟩:=hu.seg.shape
   rw [hnk] at ek
   subst ek
   have HU1:Hid (Disk.Own wd w3.heap.size (.slice k1 nk k3) KY):=hu.mono G0.out.size
   try replace HX:Hid (Blk wd xb 61 #[.string ⟨#[]⟩,.slice none 0 0,.slice none 0 0]):=HX.out.grown gg (by simp)
   replace G0:Hid (w3.grownBy wd none):=grown_trans G0.out gg
   clear gg hu
   go_wp2_with fail
   refine hK.out _ _ (fun _=>G0.out) ?_
   clear hK K
   try simp only [pN]
   refine wpHold_two (i:=7) (j:=9) rfl rfl (by kernel_rfl) (by rfl) (by rfl) (fun K hK=>?_) (fun K hK=>?_)
   ·go_wp2_with fail
    refine (copied65 (.slice a2 n2 c2) V _ (HS.out.2.1.grown (grown_trans B3.out.2.2.2.1 G0.out)) (by have:=HS.out.2.2.2.2.2;omega)).mono ?_
    rintro e wd ⟨u,rfl,hu,gg⟩
    obtain ⟨k2,k4,ek⟩:=hu.seg.shape
    rw [hnv] at ek
    subst ek
    have HU2:Hid (Disk.Own wd w3.heap.size (.slice k2 nv k4) V):=hu.mono G0.out.size
    replace HU1:Hid (Disk.Own wd w3.heap.size (.slice k1 nk k3) KY):=HU1.out.grown gg
    try replace HX:Hid (Blk wd xb 61 #[.string ⟨#[]⟩,.slice none 0 0,.slice none 0 0]):=HX.out.grown gg (by simp)
    replace G0:Hid (w3.grownBy wd none):=grown_trans G0.out gg
    clear gg hu
    go_wp2_with fail
    refine hK.out _ _ (fun _=>G0.out) ?_
    clear hK K
    try simp only [pN]
    refine tK (i:=8) (l':=[]) trivial (G0.out) rfl rfl (fun wk hk=>by obtain ⟨m1,m2,m3⟩:=HC3.out wk hk;go_simp;try rfl) ?_
    try simp only [pN]
    refine wpHold_one (i:=9) rfl (by kernel_rfl) (by rfl) (fun K hK=>?_)
    go_wp2_with fail
    obtain ⟨xb,hxb⟩:∃x,wd.heap.size=x:=⟨_,rfl⟩
    have HXB:Hid (w3.heap.size<=xb):=by rw [<-hxb];exact G0.out.size
    obtain ⟨wd,hwn,HA⟩:=al wd #[.string ⟨#[]⟩,.slice none 0 0,.slice none 0 0] 61
    rw [hwn,hxb]
    rw [hxb] at HA
    have HX:Hid (Blk wd xb 61 #[.string ⟨#[]⟩,.slice none 0 0,.slice none 0 0]):=HA.out.1
    try replace HU1:Hid (Disk.Own wd w3.heap.size (.slice k1 nk k3) KY):=HU1.out.grown HA.out.2.1
    try replace HU2:Hid (Disk.Own wd w3.heap.size (.slice k2 nv k4) V):=HU2.out.grown HA.out.2.1
    replace G0:Hid (w3.grownBy wd none):=grown_trans G0.out HA.out.2.1
    clear hwn hxb HA
    refine hK.out _ _ (fun _=>G0.out) ?_
    clear hK K
    try simp only [pN]
    refine wpHold_one (i:=10) rfl (by kernel_rfl) (by rfl) (fun K hK=>?_)
    have f0:=HX.out.free 0
    have f1:=HX.out.free 1
    have f2:=HX.out.free 2
    have b0:=HX.out.cell 0
    have b1:=HX.out.cell 1
    have b2:=HX.out.cell 2
    simp at b0 b1 b2
    go_wp2_with fail
    have HZ:Hid (Blk (((wd.setCell ⟨xb,0,none⟩ (.string ⟨T.toArray⟩)).setCell ⟨xb,1,none⟩ (.slice k1 nk k3)).setCell ⟨xb,2,none⟩ (.slice k2 nv k4)) xb 61 #[.string ⟨T.toArray⟩,.slice k1 nk k3,.slice k2 nv k4]/\Disk.Own (((wd.setCell ⟨xb,0,none⟩ (.string ⟨T.toArray⟩)).setCell ⟨xb,1,none⟩ (.slice k1 nk k3)).setCell ⟨xb,2,none⟩ (.slice k2 nv k4)) w3.heap.size (.slice k1 nk k3) KY/\Disk.Own (((wd.setCell ⟨xb,0,none⟩ (.string ⟨T.toArray⟩)).setCell ⟨xb,1,none⟩ (.slice k1 nk k3)).setCell ⟨xb,2,none⟩ (.slice k2 nv k4)) w3.heap.size (.slice k2 nv k4) V/\w3.grownBy (((wd.setCell ⟨xb,0,none⟩ (.string ⟨T.toArray⟩)).setCell ⟨xb,1,none⟩ (.slice k1 nk k3)).setCell ⟨xb,2,none⟩ (.slice k2 nv k4)) none):=⟨((HX.out.store 0 _).store 1 _).store 2 _,own_set3 HU1.out HX.out (by decide),own_set3 HU2.out HX.out (by decide),grown_new3 G0.out HXB.out⟩
    generalize (((wd.setCell ⟨xb,0,none⟩ (.string ⟨T.toArray⟩)).setCell ⟨xb,1,none⟩ (.slice k1 nk k3)).setCell ⟨xb,2,none⟩ (.slice k2 nv k4))=wz at HZ ⊢
    clear f0 f1 f2 b0 b1 b2
    refine hK.out _ _ (fun _=>HZ.out.2.2.2) ?_
    clear hK K
    try simp only [pN]
    refine wpHold_done (by kernel_rfl) ?_
    refine (‹∀(a:Act) (w:World),Met _ a w->_› _ _ ?_)
    go_meet
    case rel=>exact ⟨xb,k1,k2,k3,k4,rfl,HZ.out⟩
   ·go_wp2_with fail
    obtain ⟨xb,hxb⟩:∃x,wd.heap.size=x:=⟨_,rfl⟩
    have HXB:Hid (w3.heap.size<=xb):=by rw [<-hxb];exact G0.out.size
    obtain ⟨wd,hwn,HA⟩:=al wd #[.string ⟨#[]⟩,.slice none 0 0,.slice none 0 0] 61
    rw [hwn,hxb]
    rw [hxb] at HA
    have HX:Hid (Blk wd xb 61 #[.string ⟨#[]⟩,.slice none 0 0,.slice none 0 0]):=HA.out.1
    try replace HU1:Hid (Disk.Own wd w3.heap.size (.slice k1 nk k3) KY):=HU1.out.grown HA.out.2.1
    try replace HU2:Hid (Disk.Own wd w3.heap.size (.slice k2 nv k4) V):=HU2.out.grown HA.out.2.1
    replace G0:Hid (w3.grownBy wd none):=grown_trans G0.out HA.out.2.1
    clear hwn hxb HA
    refine hK.out _ _ (fun _=>G0.out) ?_
    clear hK K
    try simp only [pN]
    refine wpHold_one (i:=7) rfl (by kernel_rfl) (by rfl) (fun K hK=>?_)
    go_wp2_with fail
    refine (copied65 (.slice a2 n2 c2) V _ (HS.out.2.1.grown (grown_trans B3.out.2.2.2.1 G0.out)) (by have:=HS.out.2.2.2.2.2;omega)).mono ?_
    rintro e wd ⟨u,rfl,hu,gg⟩
    obtain ⟨k2,k4,ek⟩:=hu.seg.shape
    rw [hnv] at ek
    subst ek
    have HU2:Hid (Disk.Own wd w3.heap.size (.slice k2 nv k4) V):=hu.mono G0.out.size
    replace HU1:Hid (Disk.Own wd w3.heap.size (.slice k1 nk k3) KY):=HU1.out.grown gg
    try replace HX:Hid (Blk wd xb 61 #[.string ⟨#[]⟩,.slice none 0 0,.slice none 0 0]):=HX.out.grown gg (by simp)
    replace G0:Hid (w3.grownBy wd none):=grown_trans G0.out gg
    clear gg hu
    go_wp2_with fail
    refine hK.out _ _ (fun _=>G0.out) ?_
    clear hK K
    try simp only [pN]
    refine tK (i:=8) (l':=[]) trivial (G0.out) rfl rfl (fun wk hk=>by obtain ⟨m1,m2,m3⟩:=HC3.out wk hk;go_simp;try rfl) ?_
    try simp only [pN]
    refine wpHold_one (i:=10) rfl (by kernel_rfl) (by rfl) (fun K hK=>?_)
    have f0:=HX.out.free 0
    have f1:=HX.out.free 1
    have f2:=HX.out.free 2
    have b0:=HX.out.cell 0
    have b1:=HX.out.cell 1
    have b2:=HX.out.cell 2
    simp at b0 b1 b2
    go_wp2_with fail
    have HZ:Hid (Blk (((wd.setCell ⟨xb,0,none⟩ (.string ⟨T.toArray⟩)).setCell ⟨xb,1,none⟩ (.slice k1 nk k3)).setCell ⟨xb,2,none⟩ (.slice k2 nv k4)) xb 61 #[.string ⟨T.toArray⟩,.slice k1 nk k3,.slice k2 nv k4]/\Disk.Own (((wd.setCell ⟨xb,0,none⟩ (.string ⟨T.toArray⟩)).setCell ⟨xb,1,none⟩ (.slice k1 nk k3)).setCell ⟨xb,2,none⟩ (.slice k2 nv k4)) w3.heap.size (.slice k1 nk k3) KY/\Disk.Own (((wd.setCell ⟨xb,0,none⟩ (.string ⟨T.toArray⟩)).setCell ⟨xb,1,none⟩ (.slice k1 nk k3)).setCell ⟨xb,2,none⟩ (.slice k2 nv k4)) w3.heap.size (.slice k2 nv k4) V/\w3.grownBy (((wd.setCell ⟨xb,0,none⟩ (.string ⟨T.toArray⟩)).setCell ⟨xb,1,none⟩ (.slice k1 nk k3)).setCell ⟨xb,2,none⟩ (.slice k2 nv k4)) none):=⟨((HX.out.store 0 _).store 1 _).store 2 _,own_set3 HU1.out HX.out (by decide),own_set3 HU2.out HX.out (by decide),grown_new3 G0.out HXB.out⟩
    generalize (((wd.setCell ⟨xb,0,none⟩ (.string ⟨T.toArray⟩)).setCell ⟨xb,1,none⟩ (.slice k1 nk k3)).setCell ⟨xb,2,none⟩ (.slice k2 nv k4))=wz at HZ ⊢
    clear f0 f1 f2 b0 b1 b2
    refine hK.out _ _ (fun _=>HZ.out.2.2.2) ?_
    clear hK K
    try simp only [pN]
    refine wpHold_done (by kernel_rfl) ?_
    refine (‹∀(a:Act) (w:World),Met _ a w->_› _ _ ?_)
    go_meet
    case rel=>exact ⟨xb,k1,k2,k3,k4,rfl,HZ.out⟩
  ·go_wp2_with fail
   obtain ⟨xb,hxb⟩:∃x,wd.heap.size=x:=⟨_,rfl⟩
   have HXB:Hid (w3.heap.size<=xb):=by rw [<-hxb];exact G0.out.size
   obtain ⟨wd,hwn,HA⟩:=al wd #[.string ⟨#[]⟩,.slice none 0 0,.slice none 0 0] 61
   rw [hwn,hxb]
   rw [hxb] at HA
   have HX:Hid (Blk wd xb 61 #[.string ⟨#[]⟩,.slice none 0 0,.slice none 0 0]):=HA.out.1
   try replace HU1:Hid (Disk.Own wd w3.heap.size (.slice k1 nk k3) KY):=HU1.out.grown HA.out.2.1
   try replace HU2:Hid (Disk.Own wd w3.heap.size (.slice k2 nv k4) V):=HU2.out.grown HA.out.2.1
   replace G0:Hid (w3.grownBy wd none):=grown_trans G0.out HA.out.2.1
   clear hwn hxb HA
   refine hK.out _ _ (fun _=>G0.out) ?_
   clear hK K
   try simp only [pN]
   refine wpHold_one (i:=4) rfl (by kernel_rfl) (by rfl) (fun K hK=>?_)
   go_wp2_with fail
   refine (copied65 (.slice a1 n1 c1) KY _ (HS.out.1.grown (grown_trans B3.out.2.2.2.1 G0.out)) (by have:=HS.out.2.2.2.2.1;omega)).mono ?_
   rintro e wd ⟨u,rfl,hu,gg⟩
   obtain ⟨k1,k3,ek⟩:=hu.seg.shape
   rw [hnk] at ek
   subst ek
   have HU1:Hid (Disk.Own wd w3.heap.size (.slice k1 nk k3) KY):=hu.mono G0.out.size
   try replace HX:Hid (Blk wd xb 61 #[.string ⟨#[]⟩,.slice none 0 0,.slice none 0 0]):=HX.out.grown gg (by simp)
   replace G0:Hid (w3.grownBy wd none):=grown_trans G0.out gg
   clear gg hu
   go_wp2_with fail
   refine hK.out _ _ (fun _=>G0.out) ?_
   clear hK K
   try simp only [pN]
   refine wpHold_one (i:=7) rfl (by kernel_rfl) (by rfl) (fun K hK=>?_)
   go_wp2_with fail
   refine (copied65 (.slice a2 n2 c2) V _ (HS.out.2.1.grown (grown_trans B3.out.2.2.2.1 G0.out)) (by have:=HS.out.2.2.2.2.2;omega)).mono ?_
   rintro e wd ⟨u,rfl,hu,gg⟩
   obtain ⟨k2,k4,ek⟩:=hu.seg.shape
   rw [hnv] at ek
   subst ek
   have HU2:Hid (Disk.Own wd w3.heap.size (.slice k2 nv k4) V):=hu.mono G0.out.size
   replace HU1:Hid (Disk.Own wd w3.heap.size (.slice k1 nk k3) KY):=HU1.out.grown gg
   try replace HX:Hid (Blk wd xb 61 #[.string ⟨#[]⟩,.slice none 0 0,.slice none 0 0]):=HX.out.grown gg (by simp)
   replace G0:Hid (w3.grownBy wd none):=grown_trans G0.out gg
   clear gg hu
   go_wp2_with fail
   refine hK.out _ _ (fun _=>G0.out) ?_
   clear hK K
   try simp only [pN]
   refine tK (i:=8) (l':=[]) trivial (G0.out) rfl rfl (fun wk hk=>by obtain ⟨m1,m2,m3⟩:=HC3.out wk hk;go_simp;try rfl) ?_
   try simp only [pN]
   refine wpHold_one (i:=10) rfl (by kernel_rfl) (by rfl) (fun K hK=>?_)
   have f0:=HX.out.free 0
   have f1:=HX.out.free 1
   have f2:=HX.out.free 2
   have b0:=HX.out.cell 0
   have b1:=HX.out.cell 1
   have b2:=HX.out.cell 2
   simp at b0 b1 b2
   go_wp2_with fail
   have HZ:Hid (Blk (((wd.setCell ⟨xb,0,none⟩ (.string ⟨T.toArray⟩)).setCell ⟨xb,1,none⟩ (.slice k1 nk k3)).setCell ⟨xb,2,none⟩ (.slice k2 nv k4)) xb 61 #[.string ⟨T.toArray⟩,.slice k1 nk k3,.slice k2 nv k4]/\Disk.Own (((wd.setCell ⟨xb,0,none⟩ (.string ⟨T.toArray⟩)).setCell ⟨xb,1,none⟩ (.slice k1 nk k3)).setCell ⟨xb,2,none⟩ (.slice k2 nv k4)) w3.heap.size (.slice k1 nk k3) KY/\Disk.Own (((wd.setCell ⟨xb,0,none⟩ (.string ⟨T.toArray⟩)).setCell ⟨xb,1,none⟩ (.slice k1 nk k3)).setCell ⟨xb,2,none⟩ (.slice k2 nv k4)) w3.heap.size (.slice k2 nv k4) V/\w3.grownBy (((wd.setCell ⟨xb,0,none⟩ (.string ⟨T.toArray⟩)).setCell ⟨xb,1,none⟩ (.slice k1 nk k3)).setCell ⟨xb,2,none⟩ (.slice k2 nv k4)) none):=⟨((HX.out.store 0 _).store 1 _).store 2 _,own_set3 HU1.out HX.out (by decide),own_set3 HU2.out HX.out (by decide),grown_new3 G0.out HXB.out⟩
   generalize (((wd.setCell ⟨xb,0,none⟩ (.string ⟨T.toArray⟩)).setCell ⟨xb,1,none⟩ (.slice k1 nk k3)).setCell ⟨xb,2,none⟩ (.slice k2 nv k4))=wz at HZ ⊢
   clear f0 f1 f2 b0 b1 b2
   refine hK.out _ _ (fun _=>HZ.out.2.2.2) ?_
   clear hK K
   try simp only [pN]
   refine wpHold_done (by kernel_rfl) ?_
   refine (‹∀(a:Act) (w:World),Met _ a w->_› _ _ ?_)
   go_meet
   case rel=>exact ⟨xb,k1,k2,k3,k4,rfl,HZ.out⟩
 case rest =>
  obtain ⟨xb,k1,k2,k3,k4,rfl,hx1,hx2,hx3,hx4⟩:=hcut
  have HX:Hid (Blk wc xb 61 #[.string ⟨T.toArray⟩,.slice k1 nk k3,.slice k2 nv k4]/\Disk.Own wc w3.heap.size (.slice k1 nk k3) KY/\Disk.Own wc w3.heap.size (.slice k2 nv k4) V/\w.grownBy wc none/\w3.grownBy wc none):=⟨hx1,hx2,hx3,grown_trans B3.out.2.2.2.1 hx4,hx4⟩
  clear hx1 hx2 hx3 hx4 HC3
  have m0:=HX.out.1.cell 0
  have m1:=HX.out.1.cell 1
  have m2:=HX.out.1.cell 2
  simp at m0 m1 m2
  go_upto_region 2 with fail
  go_wp2_with fail
  refine (find93 (.slice a0 n0 c0) (flatD D) T (.slice k1 nk k3) (.slice k2 nv k4) (KY,V) wc (by rw [HV.out.2];omega) (HV.out.1.nms.grown HX.out.2.2.2.1) HX.out.2.1.seg HX.out.2.2.1.seg).mono ?_
  rintro e w5 ⟨rfl,g5⟩
  obtain ⟨i,hi⟩:∃i,upR (flatD D) (T,KY,V)=i:=⟨_,rfl⟩
  obtain ⟨h,hh⟩:∃h,isR (flatD D) (T,KY,V)=h:=⟨_,rfl⟩
  have hin:i<=n0:=by rw [<-hi,<-HV.out.2];exact up_le _ _
  have HF:Hid (upR (flatD D) (T,KY,V)=i/\isR (flatD D) (T,KY,V)=h/\hasL (rowsOf D T) KY=h):=⟨hi,hh,by rw [<-hh];exact (isF_has HO.out.2.2.2.good.rise T KY V).symm⟩
  rw [hi,hh]
  clear hi hh m0 m1 m2
  go_upto_region 3 with fail
  obtain ⟨w6,hw6,H6⟩:=al w5 #[.bool false,.slice none 0 0,.slice none 0 0] 72
  obtain ⟨sb,hsb⟩:∃x,w5.heap.size=x:=⟨_,rfl⟩
  rw [hsb] at H6
  have B6:Hid (Blk w6 qb 23 #[.int .i64 q.1,.int .i64 q.2]/\Blk w6 ob 67 #[.int .i64 5,.string ⟨T.toArray⟩,.slice a1 n1 c1,.slice a2 n2 c2,.bool hs,.slice a3 n3 c3,.slice a4 n4 c4,.int .i64 mo]/\Blk w6 rb 72 #[.bool false,.slice none 0 0,.slice none 0 0]/\Blk w6 xb 61 #[.string ⟨T.toArray⟩,.slice k1 nk k3,.slice k2 nv k4]/\Disk.Own w6 w.heap.size (.slice k1 nk k3) KY/\Disk.Own w6 w.heap.size (.slice k2 nv k4) V/\Blk w6 sb 72 #[.bool false,.slice none 0 0,.slice none 0 0]/\w.grownBy w6 none/\w.heap.size<=rb/\w.heap.size<=sb/\rb≠sb/\w6.heap.size=sb+1):=by
   have g56:=grown_trans g5 H6.out.2.1
   have g36:=grown_trans HX.out.2.2.2.2 g56
   have l3:=B3.out.2.2.2.1.size
   have l5:=(grown_trans HX.out.2.2.2.2 g5).size
   have lr:=B3.out.2.2.1.lt
   exact ⟨B3.out.1.grown g36 (by simp),B3.out.2.1.grown g36 (by simp),B3.out.2.2.1.grown g36 (by simp),HX.out.1.grown g56 (by simp),(HX.out.2.1.grown g56).mono l3,(HX.out.2.2.1.grown g56).mono l3,H6.out.1,grown_trans B3.out.2.2.2.1 g36,B3.out.2.2.2.2.1,by omega,by omega,H6.out.2.2⟩
  have BC:Hid (∀y:World,w6.grownBy y none->y.cell? ⟨ob,0,none⟩=some (.int .i64 5)/\y.cell? ⟨ob,1,none⟩=some (.string ⟨T.toArray⟩)/\y.cell? ⟨ob,2,none⟩=some (.slice a1 n1 c1)/\y.cell? ⟨ob,4,none⟩=some (.bool hs)/\y.cell? ⟨ob,5,none⟩=some (.slice a3 n3 c3)/\y.cell? ⟨ob,6,none⟩=some (.slice a4 n4 c4)/\y.cell? ⟨ob,7,none⟩=some (.int .i64 mo)/\y.cell? ⟨qb,0,none⟩=some (.int .i64 q.1)/\y.cell? ⟨qb,1,none⟩=some (.int .i64 q.2)):=fun y hy=>by
   have h:=B6.out.2.1.grown hy (by simp)
   have h':=B6.out.1.grown hy (by simp)
   exact ⟨h.cell 0,h.cell 1,h.cell 2,h.cell 4,h.cell 5,h.cell 6,h.cell 7,h'.cell 0,h'.cell 1⟩
  clear g5 HX B3
  go_upto_region 4 with fail
  try rw [hw6]
  try rw [hsb]
  clear hw6 hsb H6
  have x0:=(BC.out w6 (grown_refl _ _)).1
  have HMO:Hid (opD q D o=.ok (⟨false,[],scanL (rowsOf D T) KY to' mo⟩,D)/\1<=mo/\mo<=64):=by
   have h1:=(Calls.may_of HO.out.2.1).most
   rw [<-HP.out] at h1
   have h2:=h1 rfl
   refine ⟨?_,h2.1,h2.2⟩
   rw [<-HP.out]
   unfold opD
   rw [if_neg (by show ¬((5:Int)=1);decide),if_neg (by show ¬((5:Int)=3);decide),if_pos rfl]
  obtain ⟨m,hm⟩:∃m:Nat,mo=(m:Int):=⟨mo.toNat,by have:=HMO.out;omega⟩
  obtain ⟨P,hP⟩:∃P:NRow->Bool,(fun r:NRow=>decide (r.1=T) && inB r.2.1 KY to')=P:=⟨_,rfl⟩
  have HPP:Hid ((∀r,P r=(decide (r.1=T) && inB r.2.1 KY to'))/\((flatD D).filter P).take m=nm T (scanL (rowsOf D T) KY to' mo)/\m<=64):=⟨fun r=>by rw [<-hP],by
   have:=scanF_flat HO.out.2.2.2.good T KY to' mo
   rw [hP,hm] at this
   rw [hm]
   simpa using this,by have:=HMO.out;omega⟩
  rw [hm] at B6 BC
  try rw [hm]
  have HM0:Hid (mo=(m:Int)):=hm
  clear hP hm
  have HOB:Hid (Blk w6 ob 67 #[.int .i64 5,.string ⟨T.toArray⟩,.slice a1 n1 c1,.slice a2 n2 c2,.bool hs,.slice a3 n3 c3,.slice a4 n4 c4,.int .i64 (m:Int)]/\Blk w6 rb 72 #[.bool false,.slice none 0 0,.slice none 0 0]/\Blk w6 sb 72 #[.bool false,.slice none 0 0,.slice none 0 0]/\w.grownBy w6 none/\w.heap.size<=rb/\w.heap.size<=sb/\rb≠sb/\w6.heap.size=sb+1):=⟨B6.out.2.1,B6.out.2.2.1,B6.out.2.2.2.2.2.2.1,B6.out.2.2.2.2.2.2.2⟩
  clear B6 BC
  go_upto_region 23 with fail
  go_wp2_with fail
  clear x0
  go_loopw [13] (fun t wr=>∃(k c:Nat) (av:Option Addr) (cv:Nat) (L:List PRow),t=.int .i64 (k:Int)/\k<=n0/\c<=m/\Hid (nm T L=((flatD D).take k).filter P/\L.length=c/\Blk wr sb 72 #[.bool false,.slice none 0 0,.slice av c cv]/\TRws wr (sb+1) (.slice av c cv) L/\Blk wr rb 72 #[.bool false,.slice none 0 0,.slice none 0 0]/\Blk wr ob 67 #[.int .i64 5,.string ⟨T.toArray⟩,.slice a1 n1 c1,.slice a2 n2 c2,.bool hs,.slice a3 n3 c3,.slice a4 n4 c4,.int .i64 (m:Int)]/\w.grownBy wr none/\sb+1<=wr.heap.size)) (fun t _=>n0-(intOf t).toNat)
  case atStart=>exact ⟨0,0,none,0,[],rfl,Nat.zero_le _,Nat.zero_le _,by simp [nm],rfl,HOB.out.2.2.1,TRws.nil _ _,HOB.out.2.1,HOB.out.1,HOB.out.2.2.2.1,by have:=HOB.out.2.2.2.2.2.2.2;omega⟩
  case round =>
   obtain ⟨k,c,av,cv,L,rfl,hk,hcm,HR⟩:=hrel
   have hm64:m<=64:=HPP.out.2.2
   obtain ⟨Wr,hWr⟩:∃W:World,W=wr:=⟨_,rfl⟩
   subst hWr
   have p2:=HR.out.2.2.1.cell 2
   have p7:=HR.out.2.2.2.2.2.1.cell 7
   simp at p2 p7
   obtain ⟨gb,hgb⟩:∃b,decide (k<n0/\c<m)=b:=⟨_,rfl⟩
   have HGB:Hid (decide (k<n0/\c<m)=gb):=hgb
   clear hgb
   go_upto_region 24 with fail
   go_cut [117] (fun x wc=>x=.bool gb/\wc=Wr)
   case first =>
    by_cases h1:(k:Int)<(n0:Int)
    ·by_cases h2:(c:Int)<(m:Int)
     ·go_wp2_with fail
      go_meet
      case rel=>exact ⟨by rw [<-HGB.out];simp;omega,rfl⟩
     ·go_wp2_with fail
      go_meet
      case rel=>exact ⟨by rw [<-HGB.out];simp;omega,rfl⟩
    ·go_wp2_with fail
     go_meet
     case rel=>exact ⟨by rw [<-HGB.out];simp;omega,rfl⟩
   case rest =>
    obtain ⟨rfl,hwc⟩:=hcut
    rw [hwc]
    clear hwc
    clear p2 p7
    cases gb with
    | false =>
     have HFIN:Hid (L=scanL (rowsOf D T) KY to' mo):=by
      have h1:¬(k<n0/\c<m):=of_decide_eq_false HGB.out
      have h2:=HPP.out.2.1
      have h3:=HR.out.1
      have h4:(flatD D).filter P=((flatD D).take k).filter P ++ ((flatD D).drop k).filter P:=by rw [<-List.filter_append,List.take_append_drop]
      have hl:(nm T L).length=c:=by simp [nm];exact HR.out.2.1
      have h5:((flatD D).filter P).take m=nm T L:=by
       rw [h4,<-h3]
       rcases Nat.lt_or_ge k n0 with hlt | hge
       ·rw [List.take_append_of_le_length (by omega),List.take_of_length_le (by omega)]
       ·rw [List.drop_of_length_le (by rw [HV.out.2];exact hge),List.filter_nil,List.append_nil,List.take_of_length_le (by omega)]
      rw [h5] at h2
      have h6:=congrArg (List.map Prod.snd) h2
      unfold nm at h6
      rw [List.map_map,List.map_map] at h6
      have e:(Prod.snd ∘ fun r:PRow=>(T,r))=id:=rfl
      rw [e,List.map_id,List.map_id] at h6
      exact h6
     have f0:=HR.out.2.2.2.2.1.free 0
     have f1:=HR.out.2.2.2.2.1.free 1
     have f2:=HR.out.2.2.2.2.1.free 2
     have b0:=HR.out.2.2.2.2.1.cell 0
     have b1:=HR.out.2.2.2.2.1.cell 1
     have b2:=HR.out.2.2.2.2.1.cell 2
     have s0:=HR.out.2.2.1.cell 0
     have s1:=HR.out.2.2.1.cell 1
     have s2:=HR.out.2.2.1.cell 2
     simp at b0 b1 b2 s0 s1 s2
     go_wp2_with fail
     refine bodyPost_ret (v:=_) (results_row2 rfl _ _ rb _ rfl (load72 _ rb _ _ _ (((HR.out.2.2.2.2.1.store 0 (.bool false)).store 1 (.slice none 0 0)).store 2 (.slice av c cv)))) rfl ?_
     have hrw:=HR.out.2.2.2.2.2.2.1
     exact ⟨grown_new3 hrw HOB.out.2.2.2.2.1,.inl ⟨_,_,HMO.out.1,_,_,_,rfl,Own.nil _ _,by rw [<-HFIN.out];exact (trws_set3 HR.out.2.2.2.1 HR.out.2.2.2.2.1 (by decide) (by decide)).mono (by have:=HOB.out.2.2.2.2.2.1;omega),drow_set3 (HV.out.1.grown hrw) HR.out.2.2.2.2.1 (by decide) (by decide)⟩⟩
    | true =>
     have hkc:k<n0/\c<m:=of_decide_eq_true HGB.out
     have hlt:=hkc.1
     have hcl:=hkc.2
     have hkl:k<(flatD D).length:=by rw [HV.out.2];exact hlt
     obtain ⟨b,off,xv,yv,rfl,e0,e1,e2,s1,s2⟩:=nms_at HV.out.1.nms k hkl
     obtain ⟨xa,xc,ex⟩:=s1.shape
     obtain ⟨ya,yc,ey⟩:=s2.shape
     obtain ⟨fr,hfr⟩:∃f,(flatD D)[k]=f:=⟨_,rfl⟩
     have hok:=flat_ok HO.out.2.2.2.good _ (List.getElem_mem hkl)
     rw [hfr] at e0 s1 s2 ex ey hok
     obtain ⟨ft,fk⟩:=fr
     simp only at e0 s1 s2 ex ey hok
     obtain ⟨l1,hl1⟩:∃l,fk.1.length=l:=⟨_,rfl⟩
     obtain ⟨l2,hl2⟩:∃l,fk.2.length=l:=⟨_,rfl⟩
     rw [hl1] at ex
     rw [hl2] at ey
     subst ex ey
     have i0:(0:Int)<=(k:Int):=by omega
     have i1:(k:Int)<(n0:Int):=by omega
     have HT:Hid (Seg w (.slice xa l1 xc) fk.1/\Seg w (.slice ya l2 yc) fk.2/\(flatD D)[k]=(ft,fk)/\fk.1.length=l1/\fk.2.length=l2/\l1<=1000/\l2<=1000):=⟨s1,s2,hfr,hl1,hl2,by have:=okP_len hok;omega,by have:=okP_len hok;omega⟩
     have HC:Hid (∀y:World,w.grownBy y none->y.cell? ⟨b,off+k*3,none⟩=some (.string ⟨ft.toArray⟩)/\y.cell? ⟨b,off+k*3+1,none⟩=some (.slice xa l1 xc)/\y.cell? ⟨b,off+k*3+2,none⟩=some (.slice ya l2 yc)):=fun y hy=>⟨hy.cell e0 (by simp),hy.cell e1 (by simp),hy.cell e2 (by simp)⟩
     have HCO:Hid (∀y:World,Wr.grownBy y none->y.cell? ⟨ob,1,none⟩=some (.string ⟨T.toArray⟩)/\y.cell? ⟨ob,2,none⟩=some (.slice a1 n1 c1)/\y.cell? ⟨ob,6,none⟩=some (.slice a4 n4 c4)):=fun y hy=>by
      have h:=HR.out.2.2.2.2.2.1.grown hy (by simp)
      exact ⟨h.cell 1,h.cell 2,h.cell 6⟩
     clear e0 e1 e2 s1 s2 hl1 hl2 hfr hok
     go_upto_region 26 with fail
     go_cut [139] (fun x wc=>x=.bool (P (ft,fk))/\Wr.grownBy wc none)
     case first =>
      by_cases hft:ft=T
      ·have HFT:Hid (P (ft,fk)=inB fk.1 KY to'):=by
        show _=_
        rw [HPP.out.1]
        simp [hft]
       have v1:(ft==T)=true:=by simpa using hft
       clear hft
       refine wp_region_noPanic ?_
       refine wp_region_hold 1000 (fun y=>Wr.grownBy y none) (by kernel_rfl) ?_
       have G0:Hid (Wr.grownBy Wr.drew none):=grown_drew _ _
       generalize Wr.drew=wd at G0 ⊢
       have J:Idx [0,1,2,3,4,5,6,7,8,9,10,11,12,13,14,15,16,17]:=trivial
       iterate 18 (refine tK J (G0.out) rfl rfl (fun wk hk=>by obtain ⟨m0,m1,m2⟩:=HC.out wk (grown_trans HR.out.2.2.2.2.2.2.1 hk);obtain ⟨m3,m4,m5⟩:=HCO.out wk hk;go_simp;try rfl) ?_;replace J:=J.tl;try simp only [pN])
       clear J
       refine wpHold_one (i:=18) rfl (by kernel_rfl) (by rfl) (fun K hK=>?_)
       go_wp2_with fail
       refine (Names.in29 (.slice xa l1 xc) (.slice a1 n1 c1) (.slice a4 n4 c4) fk.1 KY to' wd (HT.out.1.grown (grown_trans HR.out.2.2.2.2.2.2.1 G0.out)) (HS.out.1.grown (grown_trans HR.out.2.2.2.2.2.2.1 G0.out)) (HS.out.2.2.2.1.grown (grown_trans HR.out.2.2.2.2.2.2.1 G0.out))).mono ?_
       rintro e wa ⟨rfl,mm,hwa⟩
       have GA:Hid (Wr.grownBy wa none):=by rw [hwa];exact grown_trans G0.out (grown_drewN _ _ _)
       clear hwa
       go_wp2_with fail
       refine hK.out _ _ (fun _=>GA.out) ?_
       clear hK K
       try simp only [pN]
       refine tK (i:=19) (l':=[]) trivial (GA.out) rfl rfl (fun wk hk=>by obtain ⟨m0,m1,m2⟩:=HC.out wk (grown_trans HR.out.2.2.2.2.2.2.1 hk);obtain ⟨m3,m4,m5⟩:=HCO.out wk hk;go_simp;try rfl) ?_
       try simp only [pN]
       refine wpHold_done (by kernel_rfl) ?_
       refine (‹∀(a:Act) (w:World),Met _ a w->_› _ _ ?_)
       go_meet
       case rel=>exact ⟨by rw [HFT.out],GA.out⟩
      ·have HFT:Hid (P (ft,fk)=false):=by
        show _=_
        rw [HPP.out.1]
        simp [hft]
       have v1:(ft==T)=false:=by simpa using hft
       clear hft
       refine wp_region_noPanic ?_
       refine wp_region_hold 1000 (fun y=>Wr.grownBy y none) (by kernel_rfl) ?_
       have G0:Hid (Wr.grownBy Wr.drew none):=grown_drew _ _
       generalize Wr.drew=wd at G0 ⊢
       have J:Idx [0,1,2,3,4,5,6,7,8]:=trivial
       iterate 9 (refine tK J (G0.out) rfl rfl (fun wk hk=>by obtain ⟨m0,m1,m2⟩:=HC.out wk (grown_trans HR.out.2.2.2.2.2.2.1 hk);obtain ⟨m3,m4,m5⟩:=HCO.out wk hk;go_simp;try rfl) ?_;replace J:=J.tl;try simp only [pN])
       clear J
       have J:Idx [9,10,11,12,13,14,15,16,17,18]:=trivial
       iterate 10 (refine sk J (G0.out) rfl rfl ?_;replace J:=J.tl;try simp only [pN])
       clear J
       refine tK (i:=19) (l':=[]) trivial (G0.out) rfl rfl (fun wk hk=>by obtain ⟨m0,m1,m2⟩:=HC.out wk (grown_trans HR.out.2.2.2.2.2.2.1 hk);obtain ⟨m3,m4,m5⟩:=HCO.out wk hk;go_simp;try rfl) ?_
       try simp only [pN]
       refine wpHold_done (by kernel_rfl) ?_
       refine (‹∀(a:Act) (w:World),Met _ a w->_› _ _ ?_)
       go_meet
       case rel=>exact ⟨by rw [HFT.out],G0.out⟩
     case rest =>
      obtain ⟨rfl,hgc⟩:=hcut
      have HR2:Hid (nm T L=((flatD D).take k).filter P/\L.length=c/\Blk wc sb 72 #[.bool false,.slice none 0 0,.slice av c cv]/\TRws wc (sb+1) (.slice av c cv) L/\Blk wc rb 72 #[.bool false,.slice none 0 0,.slice none 0 0]/\Blk wc ob 67 #[.int .i64 5,.string ⟨T.toArray⟩,.slice a1 n1 c1,.slice a2 n2 c2,.bool hs,.slice a3 n3 c3,.slice a4 n4 c4,.int .i64 (m:Int)]/\w.grownBy wc none/\sb+1<=wc.heap.size):=⟨HR.out.1,HR.out.2.1,HR.out.2.2.1.grown hgc (by simp),HR.out.2.2.2.1.grown hgc,HR.out.2.2.2.2.1.grown hgc (by simp),HR.out.2.2.2.2.2.1.grown hgc (by simp),grown_trans HR.out.2.2.2.2.2.2.1 hgc,Nat.le_trans HR.out.2.2.2.2.2.2.2 hgc.size⟩
      have HTK:Hid (((flatD D).take (k+1)).filter P=((flatD D).take k).filter P ++ (if P (ft,fk)=true then [(ft,fk)] else [])):=by
       show _=_
       rw [List.take_succ_eq_append_getElem (by rw [HV.out.2];exact hlt),List.filter_append,HT.out.2.2.1]
       congr 1
       by_cases hp:P (ft,fk)=true <;> simp [hp]
      clear hgc HR HCO
      cases hp:P (ft,fk) with
      | false =>
       rw [hp] at HTK
       go_wp2_with fail
       go_roundw
       case rel=>exact ⟨k+1,c,av,cv,L,by go_num,by omega,hcm,by rw [HTK.out,HR2.out.1];simp,HR2.out.2⟩
       case measure =>
        simp [intOf]
        omega
      | true =>
       rw [hp] at HTK
       have HFT:Hid (ft=T):=by
        rw [HPP.out.1] at hp
        simp at hp
        exact hp.1
       clear hp
       go_wp2_with fail
       refine wp_region_noPanic ?_
       refine wp_region_hold 18 (fun y=>w.grownBy y none/\Blk y sb 72 #[.bool false,.slice none 0 0,.slice av c cv]) (by kernel_rfl) ?_
       have G0:Hid (w.grownBy wc.drew none/\Blk wc.drew sb 72 #[.bool false,.slice none 0 0,.slice av c cv]/\wc.grownBy wc.drew none):=⟨grown_trans HR2.out.2.2.2.2.2.2.1 (grown_drew _ _),HR2.out.2.2.1.grown (grown_drew wc none) (by simp),grown_drew _ _⟩
       generalize wc.drew=wd at G0 ⊢
       have J:Idx [0,1,2,3,4,5,6,8,9,10,11,12]:=trivial
       iterate 12 (refine tK J (⟨G0.out.1,G0.out.2.1⟩) rfl rfl (fun wk hk=>by obtain ⟨m0,m1,m2⟩:=HC.out wk hk.1;have m3:=hk.2.cell 2;simp at m3;go_simp;try rfl) ?_;replace J:=J.tl;try simp only [pN])
       clear J
       refine wpHold_one (i:=7) rfl (by kernel_rfl) (by rfl) (fun K hK=>?_)
       go_wp2_with fail
       refine (copied65 (.slice xa l1 xc) fk.1 wd (HT.out.1.grown G0.out.1) (by rw [HT.out.2.2.2.1];have:=HT.out.2.2.2.2.2.1;omega)).mono ?_
       rintro e w3a ⟨u,rfl,hu,gg⟩
       obtain ⟨u1,u2,eu⟩:=hu.seg.shape
       rw [HT.out.2.2.2.1] at eu
       subst eu
       have G1:Hid (w.grownBy w3a none/\Blk w3a sb 72 #[.bool false,.slice none 0 0,.slice av c cv]/\wc.grownBy w3a none/\Disk.Own w3a (sb+1) (.slice u1 l1 u2) fk.1):=⟨grown_trans G0.out.1 gg,G0.out.2.1.grown gg (by simp),grown_trans G0.out.2.2 gg,hu.mono (Nat.le_trans HR2.out.2.2.2.2.2.2.2 G0.out.2.2.size)⟩
       clear hu gg G0
       go_wp2_with fail
       refine hK.out _ _ (fun _=>⟨G1.out.1,G1.out.2.1⟩) ?_
       clear hK K
       try simp only [pN]
       refine wpHold_one (i:=13) rfl (by kernel_rfl) (by rfl) (fun K hK=>?_)
       go_wp2_with fail
       refine (copied65 (.slice ya l2 yc) fk.2 w3a (HT.out.2.1.grown G1.out.1) (by rw [HT.out.2.2.2.2.1];have:=HT.out.2.2.2.2.2.2;omega)).mono ?_
       rintro e w3b ⟨u,rfl,hu,gg⟩
       obtain ⟨u3,u4,eu⟩:=hu.seg.shape
       rw [HT.out.2.2.2.2.1] at eu
       subst eu
       have G2:Hid (w.grownBy w3b none/\Blk w3b sb 72 #[.bool false,.slice none 0 0,.slice av c cv]/\wc.grownBy w3b none/\Disk.Own w3b (sb+1) (.slice u1 l1 u2) fk.1/\Disk.Own w3b (sb+1) (.slice u3 l2 u4) fk.2):=⟨grown_trans G1.out.1 gg,G1.out.2.1.grown gg (by simp),grown_trans G1.out.2.2.1 gg,G1.out.2.2.2.grown gg,hu.mono (Nat.le_trans HR2.out.2.2.2.2.2.2.2 G1.out.2.2.1.size)⟩
       clear hu gg G1
       go_wp2_with fail
       refine hK.out _ _ (fun _=>⟨G2.out.1,G2.out.2.1⟩) ?_
       clear hK K
       try simp only [pN]
       refine tK (i:=14) (l':=[]) trivial (⟨G2.out.1,G2.out.2.1⟩) rfl rfl (fun wk hk=>by obtain ⟨m0,m1,m2⟩:=HC.out wk hk.1;have m3:=hk.2.cell 2;simp at m3;go_simp;try rfl) ?_
       try simp only [pN]
       refine wpHold_one (i:=15) rfl (by kernel_rfl) (by rfl) (fun K hK=>?_)
       go_wp2_with fail
       obtain ⟨w3c,hw3c,H3c⟩:=al w3b #[.slice u1 l1 u2,.slice u3 l2 u4] 86
       rw [hw3c]
       clear hw3c
       have G3:Hid (w.grownBy w3c none/\Blk w3c sb 72 #[.bool false,.slice none 0 0,.slice av c cv]/\wc.grownBy w3c none/\Disk.Own w3c (sb+1) (.slice u1 l1 u2) fk.1/\Disk.Own w3c (sb+1) (.slice u3 l2 u4) fk.2):=⟨grown_trans G2.out.1 H3c.out.2.1,G2.out.2.1.grown H3c.out.2.1 (by simp),grown_trans G2.out.2.2.1 H3c.out.2.1,G2.out.2.2.2.1.grown H3c.out.2.1,G2.out.2.2.2.2.grown H3c.out.2.1⟩
       clear G2
       refine hK.out _ _ (fun _=>⟨G3.out.1,G3.out.2.1⟩) ?_
       clear hK K
       try simp only [pN]
       refine wpHold_one (i:=16) rfl (by kernel_rfl) (by rfl) (fun K hK=>?_)
       refine appR_wp w3c _ _ rfl (sb+1) (.slice av c cv) L _ (.slice u1 l1 u2) (.slice u3 l2 u4) fk rfl rfl (HR2.out.2.2.2.1.grown G3.out.2.2.1) (vec_two w3b _ _ w3c H3c.out.1) G3.out.2.2.2.1 G3.out.2.2.2.2 (by have:=HR2.out.2.1;omega) (Nat.le_trans HR2.out.2.2.2.2.2.2.2 G3.out.2.2.1.size) ?_
       intro a9 c9 w3d ht9 hg9
       rw [HR2.out.2.1] at ht9 ⊢
       have G4:Hid (w.grownBy w3d none/\Blk w3d sb 72 #[.bool false,.slice none 0 0,.slice av c cv]/\TRws w3d (sb+1) (.slice a9 (c+1) c9) (L ++ [fk])/\Blk w3d rb 72 #[.bool false,.slice none 0 0,.slice none 0 0]/\Blk w3d ob 67 #[.int .i64 5,.string ⟨T.toArray⟩,.slice a1 n1 c1,.slice a2 n2 c2,.bool hs,.slice a3 n3 c3,.slice a4 n4 c4,.int .i64 (m:Int)]/\sb+1<=w3d.heap.size):=by
        obtain ⟨qq,hq,hq2⟩:=hg9
        have hsb:=G3.out.2.1.lt
        have hne:∀g,g<=sb->qq≠some g:=fun g hg e=>by have:=hq2 g e;omega
        have hrb:=HOB.out.2.1.lt
        have hob:=HOB.out.1.lt
        have h6:=HOB.out.2.2.2.2.2.2.2
        exact ⟨grown_new G3.out.1 hq (fun g hg=>by have:=hq2 g hg;have:=HOB.out.2.2.2.2.2.1;omega),G3.out.2.1.grown hq (hne _ (Nat.le_refl _)),ht9,(HR2.out.2.2.2.2.1.grown G3.out.2.2.1 (by simp)).grown hq (hne _ (by omega)),(HR2.out.2.2.2.2.2.1.grown G3.out.2.2.1 (by simp)).grown hq (hne _ (by omega)),Nat.le_trans HR2.out.2.2.2.2.2.2.2 (Nat.le_trans G3.out.2.2.1.size hq.size)⟩
       clear ht9 hg9 G3 H3c
       refine hK.out _ _ (fun _=>⟨G4.out.1,G4.out.2.1⟩) ?_
       clear hK K
       try simp only [pN]
       refine tK (i:=17) (l':=[]) trivial (⟨G4.out.1,G4.out.2.1⟩) rfl rfl (fun wk hk=>by obtain ⟨m0,m1,m2⟩:=HC.out wk hk.1;have m3:=hk.2.cell 2;simp at m3;go_simp;try rfl) ?_
       try simp only [pN]
       refine wpHold_one (i:=18) rfl (by kernel_rfl) (by rfl) (fun K hK=>?_)
       have f2:=G4.out.2.1.free 2
       have b2:=G4.out.2.1.cell 2
       simp at b2
       go_wp2_with fail
       have G5:Hid (Blk (w3d.setCell ⟨sb,2,none⟩ (.slice a9 (c+1) c9)) sb 72 #[.bool false,.slice none 0 0,.slice a9 (c+1) c9]/\TRws (w3d.setCell ⟨sb,2,none⟩ (.slice a9 (c+1) c9)) (sb+1) (.slice a9 (c+1) c9) (L ++ [fk])/\Blk (w3d.setCell ⟨sb,2,none⟩ (.slice a9 (c+1) c9)) rb 72 #[.bool false,.slice none 0 0,.slice none 0 0]/\Blk (w3d.setCell ⟨sb,2,none⟩ (.slice a9 (c+1) c9)) ob 67 #[.int .i64 5,.string ⟨T.toArray⟩,.slice a1 n1 c1,.slice a2 n2 c2,.bool hs,.slice a3 n3 c3,.slice a4 n4 c4,.int .i64 (m:Int)]/\w.grownBy (w3d.setCell ⟨sb,2,none⟩ (.slice a9 (c+1) c9)) none/\sb+1<=(w3d.setCell ⟨sb,2,none⟩ (.slice a9 (c+1) c9)).heap.size):=by
        have hg:=grown_setCell w3d sb 2 (.slice a9 (c+1) c9)
        refine ⟨G4.out.2.1.store 2 _,trws_off G4.out.2.2.1 hg G4.out.2.1 (by decide) (by decide),G4.out.2.2.2.1.grown hg (by simp;exact fun e=>HOB.out.2.2.2.2.2.2.1 e.symm),G4.out.2.2.2.2.1.grown hg ?_,grown_new G4.out.1 hg (fun g hh=>by simp at hh;have:=HOB.out.2.2.2.2.2.1;omega),Nat.le_trans G4.out.2.2.2.2.2 hg.size⟩
        simp
        intro e
        have h1:=G4.out.2.1
        have h2:=G4.out.2.2.2.2.1
        rw [<-e] at h2
        unfold Blk at h1 h2
        rw [h1] at h2
        simp at h2
       generalize w3d.setCell ⟨sb,2,none⟩ (.slice a9 (c+1) c9)=w3e at G5 ⊢
       clear f2 b2 G4
       refine hK.out _ _ (fun h=>absurd rfl h) ?_
       clear hK K
       try simp only [pN]
       refine wpHold_done (by kernel_rfl) ?_
       refine (‹∀(a:Act) (w:World),Code.wp Tryz.prog _ _ a w->_› _ _ ?_)
       go_wp2_with fail
       go_roundw
       case rel=>exact ⟨k+1,c+1,a9,c9,L ++ [fk],by go_num,by omega,by omega,by rw [HTK.out,<-HR2.out.1,HFT.out];simp [nm],by simp [HR2.out.2.1],G5.out⟩
       case measure =>
        simp [intOf]
        omega
end Go.Proofs.YtakmlhhapegpoaaGreat
