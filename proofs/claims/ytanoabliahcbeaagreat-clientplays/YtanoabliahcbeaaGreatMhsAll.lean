import Derived.Test.YtanoabliahcbeaaGreatMdeAll
import Derived.Test.YtanoabliahcbeaaGreatCallsRr
import Derived.Deep.Slices
set_option maxHeartbeats 4000000
set_option maxRecDepth 100000
namespace Go.Proofs.YtanoabliahcbeaaGreat
open Go.RowKit Disk
open _root_.Go.Proofs.YtanoabliahcbeaaGreat.Calls _root_.Go.Proofs.YtanoabliahcbeaaGreat.Command
def BehP (m:PMsg)(w:World)(e:Ending)(w':World):Prop:=∃u,e=.returned (.tuple #[u,.int .i64 (backM m)])/\IsSl u/\(backM m=0->Seg w' u (lastM m))/\w.grownBy w' none
theorem behind24 (ov av:Value)(m:PMsg)(w:World)(ho:Ops w ov m.ask.ops)(ha:Seg w av m.tell.answer)(hz:m.tell.answer.length<=140737488355328):Calls Tryz.prog 96 #[msgV ov av m] w (BehP m w):=by
 obtain ⟨ao,n,ca,rfl⟩:=isSl_ops ho
 obtain ⟨bo,p,cb,rfl⟩:=isSl_seg ha
 have HS:Hid (Ops w (.slice ao n ca) m.ask.ops/\Seg w (.slice bo p cb) m.tell.answer/\m.tell.answer.length<=140737488355328):=⟨ho,ha,hz⟩
 clear ho ha hz
 unfold msgV
 go_enter Tryz.func96,Tryz.ntmps96
 go_upto_region 1 with fail
 obtain ⟨W,hW,HW⟩:=boxM w ao n ca bo p cb m
 rw [hW]
 clear hW
 obtain ⟨c0,c1,c2,c3,c4,c5,c6,c7,c8,c9,c10,c11,c12⟩:=HW.out.1.cells
 go_wp2_with fail
 refine (calling46 (.slice ao n ca) (.slice bo p cb) m W ⟨_,_,_,rfl⟩ ⟨_,_,_,rfl⟩).mono ?_
 rintro e w1 ⟨rfl,g1⟩
 have H1:Hid (MB w1 w.heap.size (.slice ao n ca) (.slice bo p cb) m/\w.grownBy w1 none):=⟨HW.out.1.grown g1,grown_trans HW.out.2.1 g1⟩
 clear g1 HW c0 c1 c2 c3 c4 c5 c6 c7 c8 c9 c10 c11 c12
 obtain ⟨c0,c1,c2,c3,c4,c5,c6,c7,c8,c9,c10,c11,c12⟩:=H1.out.1.cells
 cases hcb:callsB m
 rotate_left
 ·have HB:Hid (backM m=chk m.ask.ops/\lastM m=callForm m.ask.ops):=⟨by unfold backM;rw [if_pos hcb],by unfold lastM;rw [if_pos hcb]⟩
  clear hcb
  go_wp2_with fail
  refine (bytes13 (.slice ao n ca) m.ask.ops w1 (HS.out.1.grown H1.out.2)).mono ?_
  rintro e w2 ⟨u,rfl,ho,hg⟩
  have H2:Hid (w.grownBy w2 none/\Own w2 w1.heap.size u (if chk m.ask.ops=0 then callForm m.ask.ops else [])):=⟨grown_trans H1.out.2 hg,ho⟩
  clear hg ho
  go_wp2_with fail
  go_ret2
  refine ⟨u,by rw [HB.out.1];rfl,isSl_seg H2.out.2.seg,fun h=>?_,H2.out.1⟩
  have h3:=H2.out.2.seg
  rw [HB.out.1] at h
  rw [if_pos h] at h3
  rw [HB.out.2]
  exact h3
 go_wp2_with fail
 refine (answering49 (.slice ao n ca) (.slice bo p cb) m w1 ⟨_,_,_,rfl⟩ ⟨_,_,_,rfl⟩).mono ?_
 rintro e w2 ⟨rfl,g2'⟩
 have H2:Hid (MB w2 w.heap.size (.slice ao n ca) (.slice bo p cb) m/\w.grownBy w2 none):=⟨H1.out.1.grown g2',grown_trans H1.out.2 g2'⟩
 clear g2' H1 c0 c1 c2 c3 c4 c5 c6 c7 c8 c9 c10 c11 c12
 obtain ⟨c0,c1,c2,c3,c4,c5,c6,c7,c8,c9,c10,c11,c12⟩:=H2.out.1.cells
 cases han:answersB m
 rotate_left
 ·have HB:Hid (backM m=(readR m.tell.answer).2/\lastM m=m.tell.answer):=⟨by unfold backM;rw [if_neg (by rw [hcb];decide),if_pos han],by unfold lastM;rw [if_neg (by rw [hcb];decide),if_pos han]⟩
  clear hcb han
  go_wp2_with fail
  refine (read28 (.slice bo p cb) m.tell.answer w2 HS.out.2.2 (HS.out.2.1.grown H2.out.2)).mono ?_
  rintro e w3 ⟨u,rfl,ho,hg⟩
  obtain ⟨xo,xn,xc,rfl,hxn⟩:=ho.slice
  clear hxn
  have H3:Hid (MB w3 w.heap.size (.slice ao n ca) (.slice bo p cb) m/\w.grownBy w3 none):=⟨H2.out.1.grown hg,grown_trans H2.out.2 hg⟩
  clear hg ho H2 c0 c1 c2 c3 c4 c5 c6 c7 c8 c9 c10 c11 c12
  go_upto_region 5 with fail
  obtain ⟨W4,hW4,H4⟩:=al1' w3 #[.int .i64 (readR m.tell.answer).1.abort,.int .i64 (readR m.tell.answer).1.place,.slice xo xn xc] 174
  rw [hW4]
  clear hW4
  obtain ⟨c0,c1,c2,c3,c4,c5,c6,c7,c8,c9,c10,c11,c12⟩:=(H3.out.1.grown H4.out.2.1).cells
  go_wp2_with fail
  go_ret2
  refine ⟨_,by rw [HB.out.1];rfl,⟨_,_,_,rfl⟩,fun _=>?_,grown_trans H3.out.2 H4.out.2.1⟩
  rw [HB.out.2]
  exact HS.out.2.1.grown (grown_trans H3.out.2 H4.out.2.1)
 ·have HB:Hid (backM m=0/\lastM m=[]):=⟨by unfold backM;rw [if_neg (by rw [hcb];decide),if_neg (by rw [han];decide)],by unfold lastM;rw [if_neg (by rw [hcb];decide),if_neg (by rw [han];decide)]⟩
  clear hcb han
  go_wp2_with fail
  go_ret2
  exact ⟨_,by rw [HB.out.1];rfl,isSl_nil,fun _=>by rw [HB.out.2];exact seg_nil _,H2.out.2⟩
def BytesM (m:PMsg)(w:World)(e:Ending)(w':World):Prop:=∃u,e=.returned (.tuple #[u,.int .i64 (errM m)])/\Own w' w.heap.size u (if okM m=true then formM m else [])/\w.grownBy w' none
theorem nums_take {m:PMsg}{l:List (Nat × Int)}{k:Nat}(hk:k<l.length):((l.take (k+1)).flatMap fun f=>Wire.numForm (val m f.1).toNat)=((l.take k).flatMap fun f=>Wire.numForm (val m f.1).toNat) ++ Wire.numForm (val m l[k].1).toNat:=by
 rw [List.take_succ_eq_append_getElem hk,List.flatMap_append]
 simp
theorem nums_len {m:PMsg}(hi:InM m):∀(l:List (Nat × Int)),(l.flatMap fun f=>Wire.numForm (val m f.1).toNat).length<=10*l.length
 | []=>by simp
 | f :: l=>by
  have h1:=nums_len hi l
  have h2:=(val_in hi f.1).2
  have h3:(Wire.numForm (val m f.1).toNat).length<=10:=Wire.numForm_len10 _ (by omega)
  rw [List.flatMap_cons,List.length_append,List.length_cons]
  omega
theorem bytes9 (ov av:Value)(m:PMsg)(w:World)(ho:Ops w ov m.ask.ops)(ha:Seg w av m.tell.answer)(hz:m.tell.answer.length<=140737488354304)(hi:InM m):Calls Tryz.prog 69 #[msgV ov av m] w (BytesM m w):=by
 obtain ⟨ao,n,ca,rfl⟩:=isSl_ops ho
 obtain ⟨bo,p,cb,rfl⟩:=isSl_seg ha
 have HS:Hid (Ops w (.slice ao n ca) m.ask.ops/\Seg w (.slice bo p cb) m.tell.answer/\m.tell.answer.length<=140737488354304/\InM m):=⟨ho,ha,hz,hi⟩
 clear ho ha hz hi
 unfold msgV
 go_enter Tryz.func69,Tryz.ntmps69
 go_upto_region 1 with fail
 obtain ⟨W,hW,HW⟩:=boxM w ao n ca bo p cb m
 rw [hW]
 clear hW
 obtain ⟨c0,c1,c2,c3,c4,c5,c6,c7,c8,c9,c10,c11,c12⟩:=HW.out.1.cells
 go_wp2_with fail
 refine (fits23 (.slice ao n ca) (.slice bo p cb) m W (HS.out.1.grown HW.out.2.1) (HS.out.2.1.grown HW.out.2.1)).mono ?_
 rintro e w1 ⟨rfl,g1⟩
 have H1:Hid (MB w1 w.heap.size (.slice ao n ca) (.slice bo p cb) m/\w.grownBy w1 none/\w.heap.size<w1.heap.size):=⟨HW.out.1.grown g1,grown_trans HW.out.2.1 g1,(HW.out.1.grown g1).lt⟩
 clear g1 HW c0 c1 c2 c3 c4 c5 c6 c7 c8 c9 c10 c11 c12
 obtain ⟨c0,c1,c2,c3,c4,c5,c6,c7,c8,c9,c10,c11,c12⟩:=H1.out.1.cells
 cases hft:fitsM m
 ·have HF:Hid (okM m=false):=by
   unfold Hid
   cases h:okM m
   ·rfl
   ·rw [((ok_fits m).1 h).1] at hft;cases hft
  clear hft
  go_wp2_with fail
  go_ret2
  exact ⟨_,by unfold errM;rw [HF.out];rfl,by rw [HF.out];exact Own.nil _ _,H1.out.2.1⟩
 have HFT:Hid (fitsM m=true):=hft
 clear hft
 go_wp2_with fail
 refine (behind24 (.slice ao n ca) (.slice bo p cb) m w1 (HS.out.1.grown H1.out.2.1) (HS.out.2.1.grown H1.out.2.1) (by have:=HS.out.2.2.1;omega)).mono ?_
 rintro e w2 ⟨u,rfl,⟨uo,un,uc,rfl⟩,hl,g2'⟩
 have H2:Hid (MB w2 w.heap.size (.slice ao n ca) (.slice bo p cb) m/\w.grownBy w2 none/\(backM m=0->Seg w2 (.slice uo un uc) (lastM m))/\w.heap.size<w2.heap.size):=⟨H1.out.1.grown g2',grown_trans H1.out.2.1 g2',hl,(H1.out.1.grown g2').lt⟩
 clear g2' hl H1 c0 c1 c2 c3 c4 c5 c6 c7 c8 c9 c10 c11 c12
 by_cases hb:backM m=0
 rotate_left
 ·have q0:(backM m != 0)=true:=by simp [hb]
  have q1:(backM m==0)=false:=by simp [hb]
  have HF:Hid (okM m=false):=by
   unfold Hid
   cases h:okM m
   ·rfl
   ·exact absurd ((ok_fits m).1 h).2 hb
  clear hb
  go_wp2_with fail
  go_ret2
  exact ⟨_,by unfold errM;rw [HF.out];rfl,by rw [HF.out];exact Own.nil _ _,H2.out.2.1⟩
 have HOK:Hid (okM m=true):=(ok_fits m).2 ⟨HFT.out,hb⟩
 rw [hb]
 have HB:Hid (Seg w2 (.slice uo un uc) (lastM m)):=H2.out.2.2.1 hb
 clear hb
 obtain ⟨c0,c1,c2,c3,c4,c5,c6,c7,c8,c9,c10,c11,c12⟩:=H2.out.1.cells
 obtain ⟨hk12,hc0,hc8,hs1,hs7⟩:=ok_said HOK.out
 have wk:IntKind.u8.wrap m.kind=m.kind:=by rw [IntKind.wrap_u8];omega
 have wc:IntKind.u8.wrap m.client=m.client:=by rw [IntKind.wrap_u8];omega
 have ws:IntKind.u8.wrap (saidM m)=saidM m:=by rw [IntKind.wrap_u8];omega
 have HHD:Hid ([Value.int .u8 m.kind,.int .u8 m.client,.int .u8 (saidM m)]=BV (headM m)):=by
  unfold Hid BV headM
  have e1:((UInt8.ofNat m.kind.toNat).toNat:Int)=m.kind:=byte_back (by omega) (by omega)
  have e2:((UInt8.ofNat m.client.toNat).toNat:Int)=m.client:=byte_back hc0 (by omega)
  have e3:((UInt8.ofNat (saidM m).toNat).toNat:Int)=saidM m:=byte_back (by omega) (by omega)
  simp only [List.map_cons,List.map_nil,e1,e2,e3]
 clear hk12 hc0 hc8 hs1 hs7
 go_upto_region 6 with fail
 refine wp_region_noPanic ?_
 refine wp_region_hold 1000 (fun y=>w2.grownBy y none) (by kernel_rfl) ?_
 have G0:Hid (w2.grownBy w2.drew none):=grown_drew _ _
 generalize w2.drew=wd at G0 ⊢
 have J:Idx [0,1,2,3,4,5,6]:=trivial
 iterate 7 (refine tK J (G0.out) rfl rfl (fun wk hk=>by obtain ⟨c0,c1,c2,c3,c4,c5,c6,c7,c8,c9,c10,c11,c12⟩:=(H2.out.1.grown hk).cells;go_simp;try rfl) ?_;replace J:=J.tl;try simp only [pN])
 clear J
 refine wpHold_one (i:=7) rfl (by kernel_rfl) (by rfl) (fun K hK=>?_)
 go_wp2_with fail
 refine (said25 (.slice ao n ca) (.slice bo p cb) m wd ⟨_,_,_,rfl⟩ ⟨_,_,_,rfl⟩).mono ?_
 rintro e wd ⟨rfl,gg⟩
 replace G0:Hid (w2.grownBy wd none):=grown_trans G0.out gg
 clear gg
 go_wp2_with fail
 refine hK.out _ _ (fun _=>G0.out) ?_
 clear hK K
 try simp only [pN]
 have J:Idx [8]:=trivial
 iterate 1 (refine tK J (G0.out) rfl rfl (fun wk hk=>by obtain ⟨c0,c1,c2,c3,c4,c5,c6,c7,c8,c9,c10,c11,c12⟩:=(H2.out.1.grown hk).cells;go_simp;try rfl) ?_;replace J:=J.tl;try simp only [pN])
 clear J
 refine wpHold_one (i:=9) rfl (by kernel_rfl) (by rfl) (fun K hK=>?_)
 go_wp2_with fail
 obtain ⟨hb0,hhb0⟩:∃x,wd.heap.size=x:=⟨_,rfl⟩
 obtain ⟨w3,hw3,H3⟩:=al1' wd #[.int .u8 m.kind,.int .u8 m.client,.int .u8 (saidM m)] 5
 have HSH:Hid (Seg w3 (.slice (some ⟨hb0,0,none⟩) 3 3) (headM m)):=by rw [<-hw3,<-hhb0];exact seg_lit wd _ (0,0) (headM m) HHD.out (by unfold headM;simp)
 rw [hw3,hhb0]
 have G3:Hid (w2.grownBy w3 none):=grown_trans G0.out H3.out.2.1
 clear hw3 hhb0 H3
 refine hK.out _ _ (fun _=>G3.out) ?_
 clear hK K
 try simp only [pN]
 have J:Idx [10]:=trivial
 iterate 1 (refine tK J (G3.out) rfl rfl (fun wk hk=>by obtain ⟨c0,c1,c2,c3,c4,c5,c6,c7,c8,c9,c10,c11,c12⟩:=(H2.out.1.grown hk).cells;go_simp;try rfl) ?_;replace J:=J.tl;try simp only [pN])
 clear J
 refine wpHold_done (by kernel_rfl) ?_
 refine (‹∀(a:Act) (w:World),Code.wp Tryz.prog _ _ a w->_› _ _ ?_)
 have H3:Hid (MB w3 w.heap.size (.slice ao n ca) (.slice bo p cb) m/\w.grownBy w3 none/\Seg w3 (.slice uo un uc) (lastM m)/\w.heap.size<w3.heap.size):=⟨H2.out.1.grown G3.out,grown_trans H2.out.2.1 G3.out,HB.out.grown G3.out,(H2.out.1.grown G3.out).lt⟩
 clear H2 HB G0 G3 wk wc ws HHD c0 c1 c2 c3 c4 c5 c6 c7 c8 c9 c10 c11 c12
 go_wp2_with fail
 refine (numbers26 w.heap.size (.slice ao n ca) (.slice bo p cb) m w3 H3.out.1).mono ?_
 rintro e w4 ⟨v1,rfl,f1,g1⟩
 obtain ⟨l,hl⟩:∃l,fld m=l:=⟨_,rfl⟩
 obtain ⟨nf,hnf⟩:∃x,l.length=x:=⟨_,rfl⟩
 have nf3:nf<=3:=by rw [<-hnf,<-hl];exact fld_len m
 have HL:Hid (fld m=l/\l.length=nf):=⟨hl,hnf⟩
 have H4:Hid (MB w4 w.heap.size (.slice ao n ca) (.slice bo p cb) m/\w.grownBy w4 none/\Flds w4 (w.heap.size+1) w.heap.size v1 l/\Seg w4 (.slice (some ⟨hb0,0,none⟩) 3 3) (headM m)/\Seg w4 (.slice uo un uc) (lastM m)):=⟨H3.out.1.grown g1,grown_trans H3.out.2.1 g1,by rw [<-hl];exact f1.mono (by have:=H3.out.2.2.2;omega),HSH.out.grown g1,H3.out.2.2.1.grown g1⟩
 obtain ⟨a1,rfl⟩:∃a1,v1=.slice a1 nf nf:=by obtain ⟨x,hx⟩:=H4.out.2.2.1.shape;rw [hnf] at hx;exact ⟨x,hx⟩
 clear f1 g1 hl hnf H3 HSH
 go_wp2_with fail
 go_loopw [6,31] (fun x i wr=>∃k:Nat,k<=nf/\i=.int .i64 k/\Hid (MB wr w.heap.size (.slice ao n ca) (.slice bo p cb) m/\w.grownBy wr none/\Flds wr (w.heap.size+1) w.heap.size (.slice a1 nf nf) l/\Seg wr x (headM m ++ (l.take k).flatMap fun f=>Wire.numForm (val m f.1).toNat)/\Seg wr (.slice uo un uc) (lastM m))) (fun _ i _=>nf-(intOf i).toNat)
 case atStart=>exact ⟨0,by omega,rfl,H4.out.1,H4.out.2.1,H4.out.2.2.1,by rw [List.take_zero,List.flatMap_nil,List.append_nil];exact H4.out.2.2.2.1,H4.out.2.2.2.2⟩
 case round =>
  obtain ⟨k,hk,rfl,HR⟩:=hrel
  obtain ⟨A,hA⟩:∃A,(headM m ++ (l.take k).flatMap fun f=>Wire.numForm (val m f.1).toNat)=A:=⟨_,rfl⟩
  have HAL:Hid (A.length<=33):=by
   unfold Hid
   rw [<-hA,List.length_append]
   have h1:=nums_len HS.out.2.2.2 (l.take k)
   have h2:(l.take k).length<=3:=by rw [List.length_take,HL.out.2];omega
   have h3:(headM m).length=3:=rfl
   omega
  have HAS:Hid (Seg wr u6 A):=by rw [<-hA];exact HR.out.2.2.2.1
  obtain ⟨xo,xn,xc,hxs⟩:=isSl_seg HAS.out
  subst hxs
  by_cases hlt:k<nf
  ·have i3:(k:Int)<(nf:Int):=by omega
   have i0:(0:Int)<=(k:Int):=by omega
   have hkl:k<l.length:=by rw [HL.out.2];omega
   obtain ⟨q1,rfl,hq1,x0,x1⟩:=HR.out.2.2.1.at k hkl
   have HO:Hid (isOff l[k].1):=(fld_off m l[k] (by rw [HL.out.1];exact List.getElem_mem hkl)).1
   have HVN:Hid (0<=val m l[k].1/\val m l[k].1<=9223372036854775807):=by
    have h1:leastM m=true:=by have:=HFT.out;simp only [fitsM,Bool.and_eq_true,decide_eq_true_eq] at this;exact this.1.1.1.1.1
    have h2:l[k] ∈ fld m:=by rw [HL.out.1];exact List.getElem_mem hkl
    have h3:=List.all_eq_true.1 h1 l[k] h2
    simp only [decide_eq_true_eq] at h3
    have h4:=(fld_off m l[k] h2).2
    exact ⟨by omega,(val_in HS.out.2.2.2 _).2⟩
   have HT:Hid ((headM m ++ (l.take (k+1)).flatMap fun f=>Wire.numForm (val m f.1).toNat)=A ++ Wire.numForm (val m l[k].1).toNat):=by unfold Hid;rw [nums_take hkl,<-List.append_assoc,hA]
   obtain ⟨f,hf⟩:∃f,l[k]=f:=⟨_,rfl⟩
   rw [hf] at x0 x1 HO HVN HT
   clear hf hkl hA
   obtain ⟨fo,fl⟩:=f
   dsimp only at x0 x1 HO HVN HT
   unfold pt at x0
   have xv:=HR.out.1.at HO.out
   obtain ⟨vv,hvv⟩:∃x,val m fo=x:=⟨_,rfl⟩
   rw [hvv] at xv HVN HT
   clear hvv
   have wv:IntKind.u64.wrap vv=vv:=by have:=HVN.out;rw [IntKind.wrap_u64];omega
   have xv':=fun o=>(World.grownBy_alloc wr o none).cell xv (by simp)
   go_wp2_with fail
   obtain ⟨W5,hW5,H5⟩:=al1' wr #[.pointer (some ⟨w.heap.size,fo,none⟩),.int .i64 fl] 165
   rw [hW5]
   clear hW5
   refine (Wire.number9_int vv vv.toNat (by have:=HVN.out;omega) (by have:=HVN.out;omega) W5).mono ?_
   rintro e w6 ⟨u1,rfl,o1,g1⟩
   obtain ⟨yo,yn,yc,hys⟩:=isSl_seg o1.seg
   subst hys
   have H6:Hid (Seg w6 (.slice xo xn xc) A/\Seg w6 (.slice yo yn yc) (Wire.numForm vv.toNat)/\wr.grownBy w6 none):=⟨HAS.out.grown (grown_trans H5.out.2.1 g1),o1.seg,grown_trans H5.out.2.1 g1⟩
   clear o1 g1 xv xv' x0 x1 H5
   go_wp2_with fail
   refine (Wire.join10 _ [A,Wire.numForm vv.toNat] _ (Wire.segs_two H6.out.1 H6.out.2.1) (by have h1:=HAL.out;have h2:=Wire.numForm_len10 vv.toNat (by have:=HVN.out;omega);simp;omega)).mono ?_
   rintro e w7 ⟨u2,rfl,o2,g2'⟩
   have H7:Hid (Seg w7 u2 (A ++ Wire.numForm vv.toNat)/\wr.grownBy w7 none):=⟨by have:=o2.seg;rw [show [A,Wire.numForm vv.toNat].flatten=A ++ Wire.numForm vv.toNat by simp] at this;exact this,grown_trans H6.out.2.2 (grown_trans (World.grownBy_alloc _ _ none) g2')⟩
   clear o2 g2' H6
   go_wp2_with fail
   go_roundw
   case rel=>exact ⟨k+1,by omega,by go_num,HR.out.1.grown H7.out.2,grown_trans HR.out.2.1 H7.out.2,HR.out.2.2.1.grown H7.out.2,by rw [HT.out];exact H7.out.1,HR.out.2.2.2.2.grown H7.out.2⟩
   case measure=>simp [intOf];omega
  ·have i3:((k:Int)<(nf:Int))=False:=eq_false (by omega)
   have HE:Hid (formM m=A ++ lastM m):=by
    unfold formM numsM Hid
    rw [<-hA,List.take_of_length_le (by rw [HL.out.2];omega),HL.out.1,List.append_assoc]
   have HLL:Hid ((lastM m).length<=140737488354304):=by
    unfold lastM Hid
    by_cases c1:callsB m=true
    ·rw [if_pos c1]
     have:=(ok_fits m).1 HOK.out
     have h2:=this.2
     unfold backM at h2
     rw [if_pos c1] at h2
     have:=(chk0 h2).2
     omega
    ·rw [if_neg c1]
     by_cases c2:answersB m=true
     ·rw [if_pos c2];exact HS.out.2.2.1
     ·rw [if_neg c2];simp
   clear hA
   go_wp2_with fail
   refine (Wire.join10 _ [A,lastM m] _ (Wire.segs_two HAS.out HR.out.2.2.2.2) (by have h1:=HAL.out;have h2:=HLL.out;simp;omega)).mono ?_
   rintro e w7 ⟨u2,rfl,o2,g2'⟩
   have H7:Hid (Own w7 w.heap.size u2 (formM m)/\w.grownBy w7 none):=⟨by rw [HE.out];have h:=o2.mono (show w.heap.size<=_ from Nat.le_trans HR.out.2.1.size (World.grownBy_alloc wr _ none).size);rw [show [A,lastM m].flatten=A ++ lastM m by simp] at h;exact h,grown_trans HR.out.2.1 (grown_trans (World.grownBy_alloc _ _ none) g2')⟩
   clear o2 g2'
   go_wp2_with fail
   go_ret2
   exact ⟨_,by unfold errM;rw [HOK.out];rfl,by rw [HOK.out];exact H7.out.1,H7.out.2⟩
theorem check8 (ov av:Value)(m:PMsg)(w:World)(ho:Ops w ov m.ask.ops)(ha:Seg w av m.tell.answer)(hz:m.tell.answer.length<=140737488354304)(hi:InM m):Calls Tryz.prog 39 #[msgV ov av m] w fun e w'=>e=.returned (.int .i64 (errM m))/\w.grownBy w' none:=by
 obtain ⟨ao,n,ca,rfl⟩:=isSl_ops ho
 obtain ⟨bo,p,cb,rfl⟩:=isSl_seg ha
 have HS:Hid (Ops w (.slice ao n ca) m.ask.ops/\Seg w (.slice bo p cb) m.tell.answer/\m.tell.answer.length<=140737488354304/\InM m):=⟨ho,ha,hz,hi⟩
 clear ho ha hz hi
 unfold msgV
 go_enter Tryz.func39,Tryz.ntmps39
 go_upto_region 1 with fail
 obtain ⟨W,hW,HW⟩:=boxM w ao n ca bo p cb m
 rw [hW]
 clear hW
 obtain ⟨c0,c1,c2,c3,c4,c5,c6,c7,c8,c9,c10,c11,c12⟩:=HW.out.1.cells
 go_wp2_with fail
 refine (bytes9 (.slice ao n ca) (.slice bo p cb) m W (HS.out.1.grown HW.out.2.1) (HS.out.2.1.grown HW.out.2.1) HS.out.2.2.1 HS.out.2.2.2).mono ?_
 rintro e w1 ⟨u,rfl,o1,g1⟩
 have H1:Hid (w.grownBy w1 none):=grown_trans HW.out.2.1 g1
 clear g1 o1
 go_wp2_with fail
 go_ret
 exact ⟨rfl,H1.out⟩
end Go.Proofs.YtanoabliahcbeaaGreat
namespace Go.Proofs.YtanoabliahcbeaaGreat
open Go.RowKit Disk
theorem Tryz.ut30:Tryz.prog.underlying 41=some (.slice (Tryz.prog.elem 41)):=by kernel_rfl
theorem Tryz.size5 (w:World):(sizeOf (Tryz.prog.elem 41)).run Tryz.prog w=.ok 1 w:=by kernel_rfl
theorem run_rest30 (ao:Option Addr)(n cap lo:Nat)(h1:lo<=n)(w:World) :
  (Instr.slice 41 (.slice ao n cap) (some (.int .i64 (lo:Int))) none none).run Tryz.prog w=.ok (sliced ao lo n cap 1) w:=by
 rw [run_slice_l _ 41 ao n cap Tryz.ut30 .i64 lo (by omega) (by omega),Tryz.size5]
 simp [Result.andThen]
theorem seg_rest {w:World}{ao:Option Addr}{n cap:Nat}{L:List UInt8}(hn:L.length=n)(m:Nat)(hm:m<=L.length)(h:Seg w (.slice ao n cap) L):Seg w (sliced ao m n cap 1) (L.drop m):=by
 subst hn
 unfold sliced
 by_cases hc:cap=m
 ·have h2:Seg w (.slice ao (L.length-m) 0) (L.drop m):=Wire.seg_drop_all m hm hc h
  subst hc
  simpa using h2
 ·have h2:Seg w (.slice (Option.map (fun x=>x.add m) ao) (L.length-m) (cap-m)) (L.drop m):=Wire.seg_drop m hm h
  simpa [hc] using h2
end Go.Proofs.YtanoabliahcbeaaGreat
