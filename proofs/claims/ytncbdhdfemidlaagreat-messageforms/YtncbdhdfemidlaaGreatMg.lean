import Derived.Test.YtncbdhdfemidlaaGreatMf
set_option maxHeartbeats 4000000
set_option maxRecDepth 100000
namespace Go.Proofs.YtncbdhdfemidlaaGreat
open Go.RowKit Disk
open _root_.Go.Proofs.YtncbdhdfemidlaaGreat.Calls _root_.Go.Proofs.YtncbdhdfemidlaaGreat.Command
theorem least_step {m:PMsg}{l:List (Nat × Int)}{k:Nat}(hk:k<l.length)(h:(l.take k).all (fun f=>decide (f.2<=val m f.1))=true)(hv:l[k].2<=val m l[k].1):(l.take (k+1)).all (fun f=>decide (f.2<=val m f.1))=true:=by
 rw [List.take_succ_eq_append_getElem hk,List.all_append,h]
 simpa using hv
theorem fits_least {m:PMsg}{l:List (Nat × Int)}(hl:fld m=l){k:Nat}(hk:k<l.length)(hv:val m l[k].1<l[k].2):fitsM m=false:=by
 have:leastM m=false:=by
  unfold leastM
  rw [hl]
  apply Bool.eq_false_iff.2
  intro h
  have:=List.all_eq_true.1 h l[k] (List.getElem_mem hk)
  simp at this
  omega
 unfold fitsM
 rw [this]
 rfl
theorem fits23 (ov av:Value)(m:PMsg)(w:World)(ho:Ops w ov m.ask.ops)(ha:Seg w av m.tell.answer):Calls Tryz.prog 23 #[msgV ov av m] w fun e w'=>e=.returned (.bool (fitsM m))/\w.grownBy w' none:=by
 obtain ⟨ao,n,ca,rfl⟩:=isSl_ops ho
 obtain ⟨bo,p,cb,rfl⟩:=isSl_seg ha
 have HS:Hid (Ops w (.slice ao n ca) m.ask.ops/\Seg w (.slice bo p cb) m.tell.answer):=⟨ho,ha⟩
 clear ho ha
 unfold msgV
 go_enter Tryz.func23,Tryz.ntmps23
 go_upto_region 1 with fail
 obtain ⟨W,hW,HW⟩:=boxM w ao n ca bo p cb m
 rw [hW]
 clear hW
 go_wp2_with fail
 refine (numbers26 w.heap.size (.slice ao n ca) (.slice bo p cb) m W HW.out.1).mono ?_
 rintro e w1 ⟨v1,rfl,f1,g1⟩
 obtain ⟨l,hl⟩:∃l,fld m=l:=⟨_,rfl⟩
 obtain ⟨nf,hnf⟩:∃x,l.length=x:=⟨_,rfl⟩
 have nf3:nf<=3:=by rw [<-hnf,<-hl];exact fld_len m
 have HL:Hid (fld m=l/\l.length=nf):=⟨hl,hnf⟩
 have H1:Hid (MB w1 w.heap.size (.slice ao n ca) (.slice bo p cb) m/\w.grownBy w1 none/\Flds w1 (w.heap.size+1) w.heap.size v1 l):=⟨HW.out.1.grown g1,grown_trans HW.out.2.1 g1,by rw [<-hl];exact f1.mono (by have:=HW.out.2.2;omega)⟩
 obtain ⟨a1,rfl⟩:∃a1,v1=.slice a1 nf nf:=by obtain ⟨x,hx⟩:=H1.out.2.2.shape;rw [hnf] at hx;exact ⟨x,hx⟩
 clear f1 g1 hl hnf HW
 go_wp2_with fail
 go_loopw [9] (fun i wr=>∃k:Nat,k<=nf/\i=.int .i64 k/\Hid (MB wr w.heap.size (.slice ao n ca) (.slice bo p cb) m/\w.grownBy wr none/\Flds wr (w.heap.size+1) w.heap.size (.slice a1 nf nf) l/\(l.take k).all (fun f=>decide (f.2<=val m f.1))=true)) (fun i _=>nf-(intOf i).toNat)
 case atStart=>exact ⟨0,by omega,rfl,H1.out.1,H1.out.2.1,H1.out.2.2,rfl⟩
 case round =>
  obtain ⟨k,hk,rfl,HR⟩:=hrel
  by_cases hlt:k<nf
  ·have i3:(k:Int)<(nf:Int):=by omega
   have i0:(0:Int)<=(k:Int):=by omega
   have hkl:k<l.length:=by rw [HL.out.2];omega
   obtain ⟨q1,rfl,hq1,x0,x1⟩:=HR.out.2.2.1.at k hkl
   have HO:Hid (isOff l[k].1):=(fld_off m l[k] (by rw [HL.out.1];exact List.getElem_mem hkl)).1
   have HY:Hid (val m l[k].1<l[k].2->fitsM m=false):=fits_least HL.out.1 hkl
   have HT:Hid (l[k].2<=val m l[k].1->(l.take (k+1)).all (fun f=>decide (f.2<=val m f.1))=true):=least_step hkl HR.out.2.2.2
   obtain ⟨f,hf⟩:∃f,l[k]=f:=⟨_,rfl⟩
   rw [hf] at x0 x1 HO HY HT
   clear hf hkl
   obtain ⟨fo,fl⟩:=f
   dsimp only at x0 x1 HO HY HT
   unfold pt at x0
   go_upto_region 5 with fail
   obtain ⟨W5,hW5,H5⟩:=al1' wr #[.pointer (some ⟨w.heap.size,fo,none⟩),.int .i64 fl] 67
   rw [hW5]
   clear hW5 x0 x1
   have HD:Hid (∀y,W5.grownBy y none->y.cell? ⟨wr.heap.size,0,none⟩=some (.pointer (some ⟨w.heap.size,fo,none⟩))/\y.cell? ⟨wr.heap.size,1,none⟩=some (.int .i64 fl)/\y.cell? ⟨w.heap.size,fo,none⟩=some (.int .i64 (val m fo))):=fun y hy=>⟨(H5.out.1.grown hy (by simp)).cell 0,(H5.out.1.grown hy (by simp)).cell 1,(HR.out.1.grown (grown_trans H5.out.2.1 hy)).at HO.out⟩
   obtain ⟨vv,hvv⟩:∃x,val m fo=x:=⟨_,rfl⟩
   rw [hvv] at HD HY HT
   clear hvv
   refine wp_region_noPanic ?_
   refine wp_region_hold 1000 (fun y=>W5.grownBy y none) (by kernel_rfl) ?_
   have G0:Hid (W5.grownBy W5.drew none):=grown_drew _ _
   generalize W5.drew=wd at G0 ⊢
   have J:Idx [0,1,2,3,4,5,6]:=trivial
   iterate 7 (refine tK J (G0.out) rfl rfl (fun wk hk=>by obtain ⟨d0,d1,d2⟩:=HD.out wk hk;go_simp;try rfl) ?_;replace J:=J.tl;try simp only [pN])
   clear J
   refine wpHold_done (by kernel_rfl) ?_
   refine (‹∀(a:Act) (w:World),Code.wp Tryz.prog _ _ a w->_› _ _ ?_)
   have HQ:Hid (MB wd w.heap.size (.slice ao n ca) (.slice bo p cb) m/\w.grownBy wd none/\Flds wd (w.heap.size+1) w.heap.size (.slice (some ⟨q1,0,none⟩) nf nf) l):=⟨HR.out.1.grown (grown_trans H5.out.2.1 G0.out),grown_trans HR.out.2.1 (grown_trans H5.out.2.1 G0.out),HR.out.2.2.1.grown (grown_trans H5.out.2.1 G0.out)⟩
   clear HD HO H5 G0 HR
   by_cases hvl:vv<fl
   ·rw [show decide (vv<fl)=true by simp [hvl]]
    have HF:Hid (fitsM m=false):=HY.out hvl
    clear hvl HY HT
    go_wp2_with fail
    go_ret
    exact ⟨by rw [HF.out];rfl,HQ.out.2.1⟩
   ·rw [show decide (vv<fl)=false by simp [hvl]]
    have HF:Hid ((l.take (k+1)).all (fun f=>decide (f.2<=val m f.1))=true):=HT.out (by omega)
    clear hvl HY HT
    go_wp2_with fail
    go_roundw
    case rel=>exact ⟨k+1,by omega,by go_num,HQ.out.1,HQ.out.2.1,HQ.out.2.2,HF.out⟩
    case measure=>simp [intOf];omega
  ·have i3:((k:Int)<(nf:Int))=False:=eq_false (by omega)
   have HF:Hid (leastM m=true):=by
    have h:=HR.out.2.2.2
    rw [List.take_of_length_le (by rw [HL.out.2];omega),<-HL.out.1] at h
    exact h
   have HP:Hid (MB wr w.heap.size (.slice ao n ca) (.slice bo p cb) m/\w.grownBy wr none):=⟨HR.out.1,HR.out.2.1⟩
   have HB:Hid (fitsM m=(!(callsB m && decide (m.ask.mark ≥ m.ask.number)) && decide (0<nf) && decide (0<=m.client) && decide (m.client<8) && decide (m=namedM m))):=by
    unfold fitsM Hid
    rw [HF.out,HL.out.1,HL.out.2]
    rfl
   clear HR HL H1 HF
   have HE:Hid ((callsB m && decide (m.ask.mark ≥ m.ask.number))=false->fitsM m=(decide (0<nf) && decide (0<=m.client) && decide (m.client<8) && decide (m=namedM m))):=by
    intro h
    rw [HB.out,h]
    rfl
   have HX:Hid ((callsB m && decide (m.ask.mark ≥ m.ask.number))=true->fitsM m=false):=by
    intro h
    rw [HB.out,h]
    rfl
   clear HB
   obtain ⟨dc,hdc⟩:∃x,(callsB m && decide (m.ask.mark ≥ m.ask.number))=x:=⟨_,rfl⟩
   have HDC:Hid ((callsB m && decide (m.ask.mark ≥ m.ask.number))=dc):=hdc
   rw [hdc] at HE HX
   clear hdc
   go_upto_region 8 with fail
   go_cut [31] (fun x wc=>x=.bool dc/\Hid (MB wc w.heap.size (.slice ao n ca) (.slice bo p cb) m/\w.grownBy wc none))
   case first =>
    obtain ⟨c0,c1,c2,c3,c4,c5,c6,c7,c8,c9,c10,c11,c12⟩:=HP.out.1.cells
    go_wp2_with fail
    refine (calling46 (.slice ao n ca) (.slice bo p cb) m wr ⟨_,_,_,rfl⟩ ⟨_,_,_,rfl⟩).mono ?_
    rintro e w2 ⟨rfl,g2'⟩
    have H2:Hid (MB w2 w.heap.size (.slice ao n ca) (.slice bo p cb) m/\w.grownBy w2 none):=⟨HP.out.1.grown g2',grown_trans HP.out.2 g2'⟩
    clear g2' HP c0 c1 c2 c3 c4 c5 c6 c7 c8 c9 c10 c11 c12
    obtain ⟨c0,c1,c2,c3,c4,c5,c6,c7,c8,c9,c10,c11,c12⟩:=H2.out.1.cells
    cases hcb:callsB m
    ·have D:Hid (dc=false):=by rw [<-HDC.out,hcb];rfl
     clear hcb
     go_wp2_with fail
     go_meet
     case rel=>exact ⟨by rw [D.out],H2⟩
    ·by_cases hge:m.ask.mark ≥ m.ask.number
     ·have j1:(m.ask.mark ≥ m.ask.number)=True:=eq_true hge
      have j2:(m.ask.number<=m.ask.mark)=True:=eq_true hge
      have D:Hid (dc=true):=by unfold Hid;rw [<-HDC.out,hcb];simp [hge]
      clear hge hcb
      go_wp2_with fail
      go_meet
      case rel=>exact ⟨by rw [D.out],H2⟩
     ·have j1:(m.ask.mark ≥ m.ask.number)=False:=eq_false hge
      have j2:(m.ask.number<=m.ask.mark)=False:=eq_false hge
      have D:Hid (dc=false):=by unfold Hid;rw [<-HDC.out,hcb];simp;omega
      clear hge hcb
      go_wp2_with fail
      go_meet
      case rel=>exact ⟨by rw [D.out],H2⟩
   case rest =>
    obtain ⟨rfl,hc2⟩:=hcut
    obtain ⟨w2,hw2⟩:∃x:World,x=wc:=⟨_,rfl⟩
    subst hw2
    have H2:Hid (MB w2 w.heap.size (.slice ao n ca) (.slice bo p cb) m/\w.grownBy w2 none):=hc2
    clear hc2 HDC HP
    cases dc
    rotate_left
    ·have HF:Hid (fitsM m=false):=HX.out rfl
     clear HE HX
     go_wp2_with fail
     go_ret
     exact ⟨by rw [HF.out];rfl,H2.out.2⟩
    have HF:Hid (fitsM m=(decide (0<nf) && decide (0<=m.client) && decide (m.client<8) && decide (m=namedM m))):=HE.out rfl
    clear HE HX
    go_upto_region 10 with fail
    by_cases hn0:nf=0
    ·subst hn0
     have HF0:Hid (fitsM m=false):=by unfold Hid;rw [HF.out];simp
     clear HF
     refine wp_region_noPanic ?_
     refine wp_region_hold 1000 (fun y=>w2.grownBy y none) (by kernel_rfl) ?_
     have G0:Hid (w2.grownBy w2.drew none):=grown_drew _ _
     generalize w2.drew=wd at G0 ⊢
     have J:Idx [0,1,2,3]:=trivial
     iterate 4 (refine tK J (G0.out) rfl rfl (fun wk hk=>by obtain ⟨c0,c1,c2,c3,c4,c5,c6,c7,c8,c9,c10,c11,c12⟩:=(H2.out.1.grown hk).cells;go_simp;try rfl) ?_;replace J:=J.tl;try simp only [pN])
     clear J
     have J:Idx [4,5,6]:=trivial
     iterate 3 (refine sk J (G0.out) rfl rfl ?_;replace J:=J.tl;try simp only [pN])
     clear J
     have J:Idx [7,8]:=trivial
     iterate 2 (refine tK J (G0.out) rfl rfl (fun wk hk=>by obtain ⟨c0,c1,c2,c3,c4,c5,c6,c7,c8,c9,c10,c11,c12⟩:=(H2.out.1.grown hk).cells;go_simp;try rfl) ?_;replace J:=J.tl;try simp only [pN])
     clear J
     have J:Idx [9,10,11]:=trivial
     iterate 3 (refine sk J (G0.out) rfl rfl ?_;replace J:=J.tl;try simp only [pN])
     clear J
     have J:Idx [12,13]:=trivial
     iterate 2 (refine tK J (G0.out) rfl rfl (fun wk hk=>by obtain ⟨c0,c1,c2,c3,c4,c5,c6,c7,c8,c9,c10,c11,c12⟩:=(H2.out.1.grown hk).cells;go_simp;try rfl) ?_;replace J:=J.tl;try simp only [pN])
     clear J
     have J:Idx [14,15,16,17]:=trivial
     iterate 4 (refine sk J (G0.out) rfl rfl ?_;replace J:=J.tl;try simp only [pN])
     clear J
     have J:Idx [18,19]:=trivial
     iterate 2 (refine tK J (G0.out) rfl rfl (fun wk hk=>by obtain ⟨c0,c1,c2,c3,c4,c5,c6,c7,c8,c9,c10,c11,c12⟩:=(H2.out.1.grown hk).cells;go_simp;try rfl) ?_;replace J:=J.tl;try simp only [pN])
     clear J
     refine wpHold_done (by kernel_rfl) ?_
     refine (‹∀(a:Act) (w:World),Code.wp Tryz.prog _ _ a w->_› _ _ ?_)
     go_wp2_with fail
     go_ret
     exact ⟨by rw [HF0.out];rfl,grown_trans H2.out.2 G0.out⟩
    have k1:((nf:Int) > 0)=True:=eq_true (by omega)
    have k2:((0:Int)<(nf:Int))=True:=eq_true (by omega)
    have k3:(0<nf)=True:=eq_true (by omega)
    have k4:(nf=0)=False:=eq_false hn0
    clear hn0
    by_cases hc0:0<=m.client
    rotate_left
    ·have k5:((0:Int)<=m.client)=False:=eq_false hc0
     have HF0:Hid (fitsM m=false):=by unfold Hid;rw [HF.out];simp [hc0]
     clear HF hc0
     refine wp_region_noPanic ?_
     refine wp_region_hold 1000 (fun y=>w2.grownBy y none) (by kernel_rfl) ?_
     have G0:Hid (w2.grownBy w2.drew none):=grown_drew _ _
     generalize w2.drew=wd at G0 ⊢
     have J:Idx [0,1,2,3,4,5,6,7,8]:=trivial
     iterate 9 (refine tK J (G0.out) rfl rfl (fun wk hk=>by obtain ⟨c0,c1,c2,c3,c4,c5,c6,c7,c8,c9,c10,c11,c12⟩:=(H2.out.1.grown hk).cells;go_simp;try rfl) ?_;replace J:=J.tl;try simp only [pN])
     clear J
     have J:Idx [9,10,11]:=trivial
     iterate 3 (refine sk J (G0.out) rfl rfl ?_;replace J:=J.tl;try simp only [pN])
     clear J
     have J:Idx [12,13]:=trivial
     iterate 2 (refine tK J (G0.out) rfl rfl (fun wk hk=>by obtain ⟨c0,c1,c2,c3,c4,c5,c6,c7,c8,c9,c10,c11,c12⟩:=(H2.out.1.grown hk).cells;go_simp;try rfl) ?_;replace J:=J.tl;try simp only [pN])
     clear J
     have J:Idx [14,15,16,17]:=trivial
     iterate 4 (refine sk J (G0.out) rfl rfl ?_;replace J:=J.tl;try simp only [pN])
     clear J
     have J:Idx [18,19]:=trivial
     iterate 2 (refine tK J (G0.out) rfl rfl (fun wk hk=>by obtain ⟨c0,c1,c2,c3,c4,c5,c6,c7,c8,c9,c10,c11,c12⟩:=(H2.out.1.grown hk).cells;go_simp;try rfl) ?_;replace J:=J.tl;try simp only [pN])
     clear J
     refine wpHold_done (by kernel_rfl) ?_
     refine (‹∀(a:Act) (w:World),Code.wp Tryz.prog _ _ a w->_› _ _ ?_)
     go_wp2_with fail
     go_ret
     exact ⟨by rw [HF0.out];rfl,grown_trans H2.out.2 G0.out⟩
    have k5:((0:Int)<=m.client)=True:=eq_true hc0
    by_cases hc8:m.client<8
    rotate_left
    ·have k6:(m.client<8)=False:=eq_false hc8
     have HF0:Hid (fitsM m=false):=by unfold Hid;rw [HF.out];simp [hc8]
     clear HF hc0 hc8
     refine wp_region_noPanic ?_
     refine wp_region_hold 1000 (fun y=>w2.grownBy y none) (by kernel_rfl) ?_
     have G0:Hid (w2.grownBy w2.drew none):=grown_drew _ _
     generalize w2.drew=wd at G0 ⊢
     have J:Idx [0,1,2,3,4,5,6,7,8,9,10,11,12,13]:=trivial
     iterate 14 (refine tK J (G0.out) rfl rfl (fun wk hk=>by obtain ⟨c0,c1,c2,c3,c4,c5,c6,c7,c8,c9,c10,c11,c12⟩:=(H2.out.1.grown hk).cells;go_simp;try rfl) ?_;replace J:=J.tl;try simp only [pN])
     clear J
     have J:Idx [14,15,16,17]:=trivial
     iterate 4 (refine sk J (G0.out) rfl rfl ?_;replace J:=J.tl;try simp only [pN])
     clear J
     have J:Idx [18,19]:=trivial
     iterate 2 (refine tK J (G0.out) rfl rfl (fun wk hk=>by obtain ⟨c0,c1,c2,c3,c4,c5,c6,c7,c8,c9,c10,c11,c12⟩:=(H2.out.1.grown hk).cells;go_simp;try rfl) ?_;replace J:=J.tl;try simp only [pN])
     clear J
     refine wpHold_done (by kernel_rfl) ?_
     refine (‹∀(a:Act) (w:World),Code.wp Tryz.prog _ _ a w->_› _ _ ?_)
     go_wp2_with fail
     go_ret
     exact ⟨by rw [HF0.out];rfl,grown_trans H2.out.2 G0.out⟩
    have k6:(m.client<8)=True:=eq_true hc8
    have HF0:Hid (fitsM m=decide (m=namedM m)):=by unfold Hid;rw [HF.out];simp [k3,hc0,hc8]
    clear HF hc0 hc8
    refine wp_region_noPanic ?_
    refine wp_region_hold 1000 (fun y=>w2.grownBy y none) (by kernel_rfl) ?_
    have G0:Hid (w2.grownBy w2.drew none):=grown_drew _ _
    generalize w2.drew=wd at G0 ⊢
    have J:Idx [0,1,2,3,4,5,6,7,8,9,10,11,12,13,14,15]:=trivial
    iterate 16 (refine tK J (G0.out) rfl rfl (fun wk hk=>by obtain ⟨c0,c1,c2,c3,c4,c5,c6,c7,c8,c9,c10,c11,c12⟩:=(H2.out.1.grown hk).cells;go_simp;try rfl) ?_;replace J:=J.tl;try simp only [pN])
    clear J
    refine wpHold_one (i:=16) rfl (by kernel_rfl) (by rfl) (fun K hK=>?_)
    go_wp2_with fail
    refine (named47 (.slice ao n ca) (.slice bo p cb) m wd ⟨_,_,_,rfl⟩ ⟨_,_,_,rfl⟩).mono ?_
    rintro e wd ⟨rfl,gg⟩
    replace G0:Hid (w2.grownBy wd none):=grown_trans G0.out gg
    clear gg
    go_wp2_with fail
    refine hK.out _ _ (fun _=>G0.out) ?_
    clear hK K
    try simp only [pN]
    refine wpHold_one (i:=17) rfl (by kernel_rfl) (by rfl) (fun K hK=>?_)
    go_wp2_with fail
    refine (same15 (.slice ao n ca) (.slice bo p cb) (nOv (.slice ao n ca) m) (nAv (.slice bo p cb) m) m (namedM m) wd (HS.out.1.grown (grown_trans H2.out.2 G0.out)) (HS.out.2.grown (grown_trans H2.out.2 G0.out)) (nOv_ops (HS.out.1.grown (grown_trans H2.out.2 G0.out)) (named_ends m).1) (nAv_seg (HS.out.2.grown (grown_trans H2.out.2 G0.out)) (named_ends m).2)).mono ?_
    rintro e wd ⟨rfl,gg⟩
    replace G0:Hid (w2.grownBy wd none):=grown_trans G0.out gg
    clear gg
    go_wp2_with fail
    refine hK.out _ _ (fun _=>G0.out) ?_
    clear hK K
    try simp only [pN]
    have J:Idx [18,19]:=trivial
    iterate 2 (refine tK J (G0.out) rfl rfl (fun wk hk=>by obtain ⟨c0,c1,c2,c3,c4,c5,c6,c7,c8,c9,c10,c11,c12⟩:=(H2.out.1.grown hk).cells;go_simp;try rfl) ?_;replace J:=J.tl;try simp only [pN])
    clear J
    refine wpHold_done (by kernel_rfl) ?_
    refine (‹∀(a:Act) (w:World),Code.wp Tryz.prog _ _ a w->_› _ _ ?_)
    go_wp2_with fail
    go_ret
    exact ⟨by rw [HF0.out];rfl,grown_trans H2.out.2 G0.out⟩
end Go.Proofs.YtncbdhdfemidlaaGreat
