import Derived.Test.YtakmlhhapegpoaaGreatFuwAll
set_option maxHeartbeats 16000000
set_option maxRecDepth 100000
namespace Go.Proofs.YtakmlhhapegpoaaGreat
open Go.RowKit Disk Table
open Names (Str cmpL keyB valueB tabB inB)
theorem stands12 {X Y:Nat->Prop}(b m d:Nat)(q:Int × Int)(D:DB)(hD:DbQ q D)(w:World)(hb:EngB w b q m)(hm:EM X w m D)(hr:REng Y w d q (flatD D)):Calls Tryz.prog 12 #[.pointer (some ⟨b,0,none⟩),.pointer (some ⟨d,0,none⟩)] w fun e w'=>e=.returned (.bool true)/\w.grownBy w' none:=by
 obtain ⟨a0,n0,c0,hn0,hc0,hc0',HR⟩:=reng_open hr
 have HH:Hid (DbQ q D/\EngB w b q m/\EM X w m D/\(flatD D).length=n0/\lenD D=n0):=⟨hD,hb,hm,hn0,by rw [<-flat_len];exact hn0⟩
 have hz:n0<=4096:=by have:=hD.len;rw [<-hn0,flat_len];omega
 clear hD hb hm hr hn0
 refine calls_marks Tryz.func12 rfl ?_
 simp only [Tryz.ntmps12,List.size_toArray,List.length_cons,List.length_nil,Nat.reduceAdd,Nat.reduceSub,Array.replicate_succ,Array.replicate_zero,List.push_toArray,List.append_toArray,List.nil_append,List.cons_append]
 obtain ⟨w1,hw1,H1⟩:=al w #[.pointer (some ⟨d,0,none⟩)] 29
 obtain ⟨w2,hw2,H2⟩:=al w1 #[.bool false] 4
 go_upto_region 1 with fail
 try rw [hw1,hw2]
 obtain ⟨pb,hpb⟩:∃x,w.heap.size=x:=⟨_,rfl⟩
 obtain ⟨rb,hrb⟩:∃x,w1.heap.size=x:=⟨_,rfl⟩
 have B2:Hid (Blk w2 pb 29 #[.pointer (some ⟨d,0,none⟩)]/\Blk w2 rb 4 #[.bool false]/\w.grownBy w2 none/\w.heap.size=pb/\pb+1=rb/\w2.heap.size=rb+1):=by
  have s1:=H1.out.2.2
  have s2:=H2.out.2.2
  refine ⟨?_,?_,grown_trans H1.out.2.1 H2.out.2.1,hpb,by omega,by omega⟩
  ·rw [<-hpb];exact H1.out.1.grown H2.out.2.1 (by simp)
  ·rw [<-hrb];exact H2.out.1
 try rw [hpb]
 try rw [hrb]
 clear hw1 hw2 H1 H2 hpb hrb
 go_wp2_with fail
 refine (all23 (.pointer (some ⟨b,0,none⟩)) ⟨_,rfl⟩ w2).mono ?_
 rintro e w3 ⟨rfl,hk3,g3⟩
 obtain ⟨eb,heb⟩:∃x,w2.heap.size=x:=⟨_,rfl⟩
 rw [heb] at hk3 ⊢
 have B3:Hid (Blk w3 eb 28 #[ptr b]/\Blk w3 pb 29 #[.pointer (some ⟨d,0,none⟩)]/\Blk w3 rb 4 #[.bool false]/\w.grownBy w3 none/\w.heap.size=pb/\pb+1=rb/\rb+1=eb):=⟨hk3,B2.out.1.grown g3 (by simp),B2.out.2.1.grown g3 (by simp),grown_trans B2.out.2.2.1 g3,B2.out.2.2.2.1,B2.out.2.2.2.2.1,by rw [<-heb];exact B2.out.2.2.2.2.2.symm⟩
 clear hk3 g3 heb B2
 have HC:Hid (∀y:World,w3.grownBy y none->y.cell? ⟨pb,0,none⟩=some (.pointer (some ⟨d,0,none⟩))/\y.cell? ⟨d,0,none⟩=some (.int .i64 q.1)/\y.cell? ⟨d,1,none⟩=some (.int .i64 q.2)/\y.cell? ⟨d,2,none⟩=some (.slice a0 n0 c0)):=fun y hy=>by
  have h1:=B3.out.2.1.grown hy (by simp)
  have h2:=HR.out.1.grown (grown_trans B3.out.2.2.2.1 hy) (by simp)
  exact ⟨h1.cell 0,h2.cell 0,h2.cell 1,h2.cell 2⟩
 have hq:=run_neqq q
 have hfn:=fun w:World=>eq_func57 #[.pointer (some ⟨eb,0,none⟩)] w
 go_wp2_with fail
 refine wp_region_noPanic ?_
 refine wp_region_hold 1000 (fun y=>w3.grownBy y none) (by kernel_rfl) ?_
 have G0:Hid (w3.grownBy w3.drew none):=grown_drew _ _
 generalize w3.drew=wd at G0 ⊢
 have J:Idx [0,2,3,4,5]:=trivial
 iterate 5 (refine tK J (G0.out) rfl rfl (fun wk hk=>by obtain ⟨m0,m1,m2,m3⟩:=HC.out wk hk;go_simp;try rfl) ?_;replace J:=J.tl;try simp only [pN])
 clear J
 refine wpHold_one (i:=1) rfl (by kernel_rfl) (by rfl) (fun K hK=>?_)
 go_wp2_with fail
 refine (quota38 b m q wd (Blk.grown HH.out.2.1 (grown_trans B3.out.2.2.2.1 G0.out) (by simp))).mono ?_
 unfold quoV
 rintro e wa ⟨rfl,gg⟩
 have GA:Hid (w3.grownBy wa none):=grown_trans G0.out gg
 clear gg
 go_wp2_with fail
 refine hK.out _ _ (fun _=>GA.out) ?_
 clear hK K
 try simp only [pN]
 have J:Idx [6,7,8,10,11,12,13,14]:=trivial
 iterate 8 (refine tK J (GA.out) rfl rfl (fun wk hk=>by obtain ⟨m0,m1,m2,m3⟩:=HC.out wk hk;go_simp;try rfl) ?_;replace J:=J.tl;try simp only [pN])
 clear J
 refine wpHold_one (i:=9) rfl (by kernel_rfl) (by rfl) (fun K hK=>?_)
 go_wp2_with fail
 refine (len19 (X:=X) b q D HH.out.1.good wa ⟨m,Blk.grown HH.out.2.1 (grown_trans B3.out.2.2.2.1 GA.out) (by simp),HH.out.2.2.1.grown (grown_trans B3.out.2.2.2.1 GA.out)⟩).mono ?_
 rw [HH.out.2.2.2.2]
 rintro e wb ⟨rfl,gg⟩
 have GB:Hid (w3.grownBy wb none):=grown_trans GA.out gg
 clear gg
 go_wp2_with fail
 refine hK.out _ _ (fun _=>GB.out) ?_
 clear hK K
 try simp only [pN]
 have J:Idx [15,16,17,18,20,21,22,23]:=trivial
 iterate 8 (refine tK J (GB.out) rfl rfl (fun wk hk=>by obtain ⟨m0,m1,m2,m3⟩:=HC.out wk hk;go_simp;try rfl) ?_;replace J:=J.tl;try simp only [pN])
 clear J
 refine wpHold_one (i:=19) rfl (by kernel_rfl) (by rfl) (fun K hK=>?_)
 go_wp2_with fail
 refine (size20 (X:=X) b q D HH.out.1.good wb ⟨m,Blk.grown HH.out.2.1 (grown_trans B3.out.2.2.2.1 GB.out) (by simp),HH.out.2.2.1.grown (grown_trans B3.out.2.2.2.1 GB.out)⟩).mono ?_
 rintro e wc ⟨rfl,gg⟩
 have GC:Hid (w3.grownBy wc none):=grown_trans GB.out gg
 clear gg
 go_wp2_with fail
 refine hK.out _ _ (fun _=>GC.out) ?_
 clear hK K
 try simp only [pN]
 refine wpHold_one (i:=24) rfl (by kernel_rfl) (by rfl) (fun K hK=>?_)
 go_wp2_with fail
 refine (size39 (.slice a0 n0 c0) (flatD D) (fun k hk=>size_few2 HH.out.1.good (by rw [HH.out.2.2.2.1];omega) k) wc (HR.out.2.nms.grown (grown_trans B3.out.2.2.2.1 GC.out))).mono ?_
 rw [size_flat]
 rintro e we ⟨rfl,gg⟩
 have GE:Hid (w3.grownBy we none):=grown_trans GC.out gg
 clear gg
 go_wp2_with fail
 refine hK.out _ _ (fun _=>GE.out) ?_
 clear hK K
 try simp only [pN]
 have J:Idx [25,26,27,28,29,30]:=trivial
 iterate 6 (refine tK J (GE.out) rfl rfl (fun wk hk=>by obtain ⟨m0,m1,m2,m3⟩:=HC.out wk hk;go_simp;try rfl) ?_;replace J:=J.tl;try simp only [pN])
 clear J
 refine wpHold_done (by kernel_rfl) ?_
 refine (‹∀(a:Act) (w:World),Code.wp Tryz.prog _ _ a w->_› _ _ ?_)
 go_upto_region 6 with fail
 clear hq hfn
 obtain ⟨w5,hw5,H5⟩:=al we #[.int .i64 0] 3
 obtain ⟨w6,hw6,H6⟩:=al w5 #[.slice none 0 0] 89
 rw [hw5,hw6]
 obtain ⟨ib,hib⟩:∃x,we.heap.size=x:=⟨_,rfl⟩
 obtain ⟨tb,htb⟩:∃x,ib+1=x:=⟨_,rfl⟩
 have htb5:w5.heap.size=tb:=by have:=H5.out.2.2;omega
 rw [hib] at H5
 rw [htb5] at H6
 try rw [hib]
 try rw [htb]
 have B6:Hid (Blk w6 ib 3 #[.int .i64 0]/\Blk w6 tb 89 #[.slice none 0 0]/\Blk w6 eb 28 #[ptr b]/\Blk w6 pb 29 #[.pointer (some ⟨d,0,none⟩)]/\Blk w6 rb 4 #[.bool false]/\EngB w6 b q m/\EM X w6 m D/\w.grownBy w6 none/\ib<tb/\tb<w6.heap.size/\w.heap.size<=pb/\pb<rb/\rb<ib/\Blk w6 d 77 #[.int .i64 q.1,.int .i64 q.2,.slice a0 n0 c0]/\d<w.heap.size):=by
  have g36:=grown_trans GE.out (grown_trans H5.out.2.1 H6.out.2.1)
  have gw:=grown_trans B3.out.2.2.2.1 g36
  have h1:=H5.out.2.2
  have h2:=H6.out.2.2
  have h3:=B3.out.2.2.2.2
  have h4:=GE.out.size
  have h5:=B3.out.1.lt
  exact ⟨H5.out.1.grown H6.out.2.1 (by simp),H6.out.1,B3.out.1.grown g36 (by simp),B3.out.2.1.grown g36 (by simp),B3.out.2.2.1.grown g36 (by simp),Blk.grown HH.out.2.1 gw (by simp),HH.out.2.2.1.grown gw,gw,by omega,by omega,by omega,by omega,by omega,HR.out.1.grown gw (by simp),HR.out.1.lt⟩
 clear hw5 hw6 H5 H6 hib htb htb5
 go_wp2_with fail
 have hap:ApartD w6 (fun i=>i=ib\/i=tb):=fun k hk hl=>by
  rcases hk with rfl | rfl
  ·refine ⟨3,_,B6.out.1,by decide,by decide,by decide,fun j p hc=>?_⟩
   rcases Nat.lt_or_ge j 1 with h | h
   ·obtain rfl:j=0:=by omega
    simp [ptr] at hc
   ·rw [Array.getElem?_eq_none (by simpa using h)] at hc
    cases hc
  ·refine ⟨89,_,B6.out.2.1,by decide,by decide,by decide,fun j p hc=>?_⟩
   rcases Nat.lt_or_ge j 1 with h | h
   ·obtain rfl:j=0:=by omega
    simp [ptr] at hc
   ·rw [Array.getElem?_eq_none (by simpa using h)] at hc
    cases hc
 have HG:Hid _:=gives53 eb b m q D HH.out.1.good (fun i=>i=ib\/i=tb) w6 B6.out.2.2.1 B6.out.2.2.2.2.2.1 B6.out.2.2.2.2.2.2.1 (fun i hi=>by have:=B6.out.2.2.2.2.2.2.2.2;omega) hap
 clear hap
 refine wp_rangeS (gf:=53) (lb:=#[.pointer (some ⟨eb,0,none⟩)]) rfl (enters_of Tryz.func53 (by kernel_rfl) rfl) HG.out ?hps
  (fun k G A=>∃tv,Hid (k<=n0/\Blk A ib 3 #[.int .i64 (k:Int)]/\Blk A tb 89 #[tv]/\Nos A (w6.heap.size+2) tv (tabsF ((flatD D).take k))/\(∀i,tv.ownBlock=some i->G i)/\KeepS w6.heap.size ib tb w6 A)) (fun _=>False) ?hIg ?hXg ?h0 ?hround ?hdone ?hstop
 case hps =>
  rintro s s' W0 W1 xs ⟨_,_,_,x,y,rfl,_⟩
  rfl
 case hIg =>
  rintro k G A B ⟨tv,HA⟩ ht
  exact ⟨tv,HA.out.1,ht.blk HA.out.2.1,ht.blk HA.out.2.2.1,HA.out.2.2.2.1.tn ht,HA.out.2.2.2.2.1,HA.out.2.2.2.2.2.trans (KeepS.of_tn ht (by omega) HA.out.2.2.2.2.2.2.2.2.1)⟩
 case hXg=>exact fun A B h _=>h
 case h0=>exact ⟨_,Nat.zero_le _,B6.out.1,B6.out.2.1,World.ownsRow_nil _ _ _ _,fun i hi=>by simp [Value.ownBlock] at hi,KeepS.refl _ _ _ _⟩
 case hstop=>intro A hA;exact hA.elim
 case hround =>
  rintro l' k k' G W0 W1 xs ⟨tv0,HI⟩ hlt0 htn ⟨rfl,hkl,hkl2,x,y,rfl,ox,oy⟩ ⟨rc,hrc⟩
  obtain ⟨ax,nx,cx,rfl⟩:=Calls.slice_of ox
  obtain ⟨ay,ny,cy,rfl⟩:=Calls.slice_of oy
  have hn1:(flatD D).length=n0:=HH.out.2.2.2.1
  have HMID:=nms_mid HR.out.2.nms hn1 k hkl
  have HTB:=tabs_succ hkl
  obtain ⟨fr,hfr⟩:∃r,(flatD D)[k]=r:=⟨_,rfl⟩
  rw [hfr] at ox oy HMID HTB ⊢
  obtain ⟨tn,fk⟩:=fr
  have HO:Hid (Disk.Own W1 W0.heap.size (.slice ax nx cx) fk.1/\Disk.Own W1 W0.heap.size (.slice ay ny cy) fk.2/\Nms w (sliced a0 k (k+1) c0 3) [(tn,fk)]/\tabsF ((flatD D).take (k+1))=stepT (tabsF ((flatD D).take k)) tn/\w6.heap.size+1<W0.heap.size):=⟨ox,oy,HMID,HTB,hlt0⟩
  have hkn:k<n0:=by omega
  have hny:fk.2.length=ny:=by
   obtain ⟨_,_,e⟩:=oy.seg.shape
   simp at e
   exact e.2.1.symm
  have hny2:ny<=9223372036854775807:=by rw [<-hny];exact oy.seg.len
  have HI1:Hid (Blk W1 ib 3 #[.int .i64 (k:Int)]/\Blk W1 tb 89 #[tv0]/\Nos W1 (w6.heap.size+2) tv0 (tabsF ((flatD D).take k))/\(∀i,tv0.ownBlock=some i->G i)/\KeepS w6.heap.size ib tb w6 W1/\fk.2.length=ny):=⟨htn.blk HI.out.2.1,htn.blk HI.out.2.2.1,HI.out.2.2.2.1.tn htn,HI.out.2.2.2.2.1,HI.out.2.2.2.2.2.trans (KeepS.of_tn htn (by omega) HI.out.2.2.2.2.2.2.2.2.1),hny⟩
  have HL:Hid (W1.heap[w6.heap.size+1]? = some (.loop rc)/\W0.heap.size<=W1.heap.size):=⟨hrc,htn.size⟩
  clear hrc hlt0 htn HI ox oy hfr hkl hkl2 HMID HTB hn1 hny
  simp only [List.zip_toArray,List.zip_cons_cons,List.zip_nil_right,List.foldl_toArray',List.size_toArray,List.foldl_cons,List.foldl_nil,List.setIfInBounds_toArray,List.set_cons_zero,List.set_cons_succ]
  simp only [Str]
  refine region_round (by rintro ⟨_,_,h⟩;exact h) rfl ?_
  go_wp2_with fail
  obtain ⟨Wa,hWa,Ha⟩:=al W1 #[.string ⟨tn.toArray⟩,.slice ax nx cx,.slice ay ny cy] 61
  rw [hWa]
  clear hWa
  refine ⟨Ha.out.2.1,fun r=>?_⟩
  obtain ⟨W2,hW2⟩:∃W2,Wa.putObj (w6.heap.size+1) (.loop r)=W2:=⟨_,rfl⟩
  obtain ⟨xb,hxb⟩:∃x,W1.heap.size=x:=⟨_,rfl⟩
  have HT2:Hid (Tn (w6.heap.size+1) W1 W2/\W2.heap.size=W1.heap.size+1/\(∀i,i<W1.heap.size->i≠w6.heap.size+1->W2.heap[i]? = W1.heap[i]?)/\Blk W2 xb 61 #[.string ⟨tn.toArray⟩,.slice ax nx cx,.slice ay ny cy]/\w6.heap.size+1<W1.heap.size/\W1.heap.size=xb):=by
   have hlt:=(Array.getElem?_eq_some_iff.1 HL.out.1).1
   have hLa:Wa.heap[w6.heap.size+1]? = some (.loop rc):=(Ha.out.2.1.block _ hlt (by simp)).trans HL.out.1
   have htn:Tn (w6.heap.size+1) Wa W2:=by
    rw [<-hW2]
    exact Tn.put _ hLa (Nat.le_refl _)
   refine ⟨(Tn.of_grown Ha.out.2.1).trans htn,?_,fun i h1 h2=>?_,by rw [<-hxb];exact htn.blk Ha.out.1,hlt,hxb⟩
   ·rw [<-hW2]
    have:=Ha.out.2.2
    simp only [World.putObj,Array.size_setIfInBounds]
    exact this
   ·rw [<-hW2,World.putObj_heap_other h2]
    exact Ha.out.2.1.block i h1 (by simp)
  rw [hW2]
  try rw [hxb]
  clear hW2 Ha hxb
  have HI2:Hid (Blk W2 ib 3 #[.int .i64 (k:Int)]/\Blk W2 tb 89 #[tv0]/\Nos W2 (w6.heap.size+2) tv0 (tabsF ((flatD D).take k))/\KeepS w6.heap.size ib tb w6 W2/\Disk.Own W2 W0.heap.size (.slice ax nx cx) fk.1/\Disk.Own W2 W0.heap.size (.slice ay ny cy) fk.2/\Nms W2 (sliced a0 k (k+1) c0 3) [(tn,fk)]/\Blk W2 pb 29 #[.pointer (some ⟨d,0,none⟩)]/\Blk W2 d 77 #[.int .i64 q.1,.int .i64 q.2,.slice a0 n0 c0]/\w.grownBy W2 none):=by
   have t:=HT2.out.1
   have hk2:KeepS w6.heap.size ib tb w6 W2:=HI1.out.2.2.2.2.1.trans (KeepS.of_tn t (by omega) HI1.out.2.2.2.2.1.2.2.2.1)
   have h6:=B6.out
   have gw2:w.grownBy W2 none:=⟨hk2.1.trans h6.2.2.2.2.2.2.2.1.os,hk2.2.1.trans h6.2.2.2.2.2.2.2.1.tape,hk2.2.2.1.trans h6.2.2.2.2.2.2.2.1.output,Nat.le_trans h6.2.2.2.2.2.2.2.1.size hk2.2.2.2.1,fun i hi _=>(hk2.2.2.2.2 i (by have:=h6.2.2.2.2.2.2.2.1.size;omega) (by omega) (by omega)).trans (h6.2.2.2.2.2.2.2.1.block i hi (by simp))⟩
   exact ⟨t.blk HI1.out.1,t.blk HI1.out.2.1,HI1.out.2.2.1.tn t,hk2,t.own HO.out.1,t.own HO.out.2.1,HO.out.2.2.1.grown gw2,h6.2.2.2.1.same (hk2.2.2.2.2 _ h6.2.2.2.1.lt (by omega) (by omega)),h6.2.2.2.2.2.2.2.2.2.2.2.2.2.1.same (hk2.2.2.2.2 _ h6.2.2.2.2.2.2.2.2.2.2.2.2.2.1.lt (by omega) (by omega)),gw2⟩
  have HEND:Hid (∀(a9:Act) (tv:Value) (A:World),SV w6.heap.size xb ib tb W0.heap.size k tn (.slice ax nx cx) (.slice ay ny cy) tv tv0 ny (tabsF ((flatD D).take (k+1))) w6 W2 A->roundEndS w6.heap.size (fun i=>i=ib\/i=tb) (fun k G A=>∃tv,Hid (k<=n0/\Blk A ib 3 #[.int .i64 (k:Int)]/\Blk A tb 89 #[tv]/\Nos A (w6.heap.size+2) tv (tabsF ((flatD D).take k))/\(∀i,tv.ownBlock=some i->G i)/\KeepS w6.heap.size ib tb w6 A)) (fun _=>False) (k+1) G #[.agg #[.string ⟨tn.toArray⟩,.slice ax nx cx,.slice ay ny cy]] W1 W2 .normal a9 (A.setCell ⟨ib,0,none⟩ (.int .i64 ((k+1:Nat):Int)))):=fun a9 tv A hA=>by
   have hg:=grown_setCell A ib 0 (.int .i64 ((k+1:Nat):Int))
   have hoth:∀i,i≠ib->(A.setCell ⟨ib,0,none⟩ (.int .i64 ((k+1:Nat):Int))).heap[i]? = A.heap[i]?:=fun i hi=>heap_setCell_other A _ i _ hi
   have hsz:(A.setCell ⟨ib,0,none⟩ (.int .i64 ((k+1:Nat):Int))).heap.size=A.heap.size:=by simp
   have h6:=B6.out.2.2.2.2.2.2.2.2
   have h2:=HT2.out
   have hyl:∀i,Value.ownBlock (.slice ay ny cy)=some i->W0.heap.size<=i:=fun i hi=>(HO.out.2.1.lt i hi).1
   have htl:∀i,tv0.ownBlock=some i->w6.heap.size+2<=i:=fun i hi=>(World.ownsRow.lt HI2.out.2.2.1 i hi).1
   have h5:=HO.out.2.2.2.2
   have hS:=hA.size
   refine ⟨⟨?_,?_⟩,fun i=>tv.ownBlock=some i,fun i hi=>⟨?_,?_⟩,⟨by omega,fun i h1 h3 h4 h7 h8=>?_⟩,tv,by omega,?_,?_,?_,fun i hi=>hi,?_⟩
   ·rw [hoth _ (by omega)]
    exact hA.same _ (by omega) (by omega) (by omega) (fun e=>by have:=hyl _ e;omega) (fun e=>by have:=htl _ e;omega)
   ·rw [hoth _ (by omega)]
    exact hA.same _ (by omega) (by omega) (by omega) (fun e=>by have:=hyl _ e;omega) (fun e=>by have:=htl _ e;omega)
   ·rcases hA.newt i hi with h | h
    ·exact .inl (HI1.out.2.2.2.1 i h)
    ·exact .inr (by omega)
   ·rw [hsz]
    exact (World.ownsRow.lt hA.nos i hi).2
   ·rw [hoth i (fun e=>h4 (.inl e)),hA.same i (by omega) (fun e=>h4 (.inl e)) (fun e=>h4 (.inr e)) (fun e=>h7 (.inr ⟨#[.string ⟨tn.toArray⟩,.slice ax nx cx,.slice ay ny cy],.slice ay ny cy,by simp,by simp,e⟩)) (fun e=>h8 (HI1.out.2.2.2.1 i e))]
    exact h2.2.2.1 i h1 (by omega)
   ·exact hA.ibk.store 0 _
   ·exact hA.tbk.same (hoth _ (by omega))
   ·exact hA.nos.same fun g hgg=>hoth g (fun e=>hA.nos.other hA.ibk (by decide) (by rw [<-e];exact hgg))
   ·exact hA.keep.trans (KeepS.of_grown hg (by omega) (fun g hgg=>by simp at hgg;exact .inr (.inl hgg.symm)))
  obtain ⟨ta,tc,etv,htc,htc',hcell⟩:=HI2.out.2.2.1.vec
  obtain ⟨p,hp⟩:∃p,tabsF ((flatD D).take k)=p:=⟨_,rfl⟩
  rw [hp] at etv htc hcell
  subst etv
  have HP:Hid (Nos W2 (w6.heap.size+2) (.slice ta p.length tc) p/\p.length<=4096/\tabsF ((flatD D).take k)=p/\tabsF ((flatD D).take (k+1))=stepT p tn):=⟨by have:=HI2.out.2.2.1;rw [hp] at this;exact this,by have h1:=tabs_len ((flatD D).take k);rw [hp] at h1;simp at h1;omega,hp,by rw [HO.out.2.2.2.1,hp]⟩
  have HC8:Hid (∀y:World,W2.grownBy y none->y.cell? ⟨ib,0,none⟩=some (.int .i64 (k:Int))/\y.cell? ⟨pb,0,none⟩=some (.pointer (some ⟨d,0,none⟩))/\y.cell? ⟨d,2,none⟩=some (.slice a0 n0 c0)/\y.cell? ⟨xb,0,none⟩=some (.string ⟨tn.toArray⟩)/\y.cell? ⟨xb,1,none⟩=some (.slice ax nx cx)/\y.cell? ⟨xb,2,none⟩=some (.slice ay ny cy)/\y.cell? ⟨tb,0,none⟩=some (.slice ta p.length tc)):=fun y hy=>by
   have h:=HI2.out
   have hx:=HT2.out.2.2.2.1.grown hy (by simp)
   exact ⟨(h.1.grown hy (by simp)).cell 0,(h.2.2.2.2.2.2.2.1.grown hy (by simp)).cell 0,(h.2.2.2.2.2.2.2.2.1.grown hy (by simp)).cell 2,hx.cell 0,hx.cell 1,hx.cell 2,(h.2.1.grown hy (by simp)).cell 0⟩
  have HLN:Hid (∀j (hj:j<p.length),∃g,ta=some ⟨g,0,none⟩/\∀y:World,W2.grownBy y none->y.cell? ⟨g,0+j,none⟩=some (Str p[j])):=fun j hj=>by
   obtain ⟨g,e1,e2⟩:=hcell j hj
   exact ⟨g,e1,fun y hy=>hy.cell e2 (by simp)⟩
  clear hcell
  have i1:(k:Int)<(n0:Int):=by omega
  have hge:((n0:Int)<=(k:Int))=False:=eq_false (by omega)
  obtain ⟨kp,hkp⟩:∃x,k+1=x:=⟨_,rfl⟩
  have hks:IntKind.i64.wrap ((k:Int)+1)=(kp:Int):=by rw [IntKind.wrap_i64];omega
  obtain ⟨sv,hsv⟩:∃v,sliced a0 k (k+1) c0 3=v:=⟨_,rfl⟩
  have hsl:∀wk,(Instr.slice 24 (.slice a0 n0 c0) (some (.int .i64 (k:Int))) (some (.int .i64 (kp:Int))) none).run Tryz.prog wk=.ok sv wk:=fun wk=>by rw [<-hsv,<-hkp];exact run_piece 24 3 Tryz.ut24 Tryz.size24 a0 n0 c0 k (k+1) (by omega) (by omega) wk
  have HPC:Hid (Nms W2 sv [(tn,fk)]):=by rw [<-hsv];exact HI2.out.2.2.2.2.2.2.1
  clear hsv hkp
  refine wpIn_block (wpIn_seq (wpIn_seq ?_))
  refine region_round_hold 1000 (fun y=>W2.grownBy y none) (by rintro ⟨_,_,h⟩;exact h) rfl (by kernel_rfl) ?_
  have G0:Hid (W2.grownBy W2.drew none):=grown_drew _ _
  generalize W2.drew=wd at G0 ⊢
  have J:Idx [0,1,2,3,4,5,6,7,8,10,11,12,13,14,15,16,17]:=trivial
  iterate 17 (refine tK J (G0.out) rfl rfl (fun wk hk=>by obtain ⟨m0,m1,m2,m3,m4,m5,m6⟩:=HC8.out wk hk;go_simp;try rfl) ?_;replace J:=J.tl;try simp only [pN])
  clear J
  refine wpHold_one (i:=9) rfl (by kernel_rfl) (by rfl) (fun K hK=>?_)
  go_wp2_with fail
  obtain ⟨w9,hw9,H9⟩:=al wd #[.string ⟨tn.toArray⟩,.slice ax nx cx,.slice ay ny cy] 61
  rw [hw9]
  clear hw9
  have G9:Hid (W2.grownBy w9 none):=grown_trans G0.out H9.out.2.1
  refine hK.out _ _ (fun _=>G9.out) ?_
  clear hK K
  try simp only [pN]
  refine wpHold_one (i:=18) rfl (by kernel_rfl) (by rfl) (fun K hK=>?_)
  go_wp2_with fail
  refine (sameRows29 _ sv [(tn,fk)] [(tn,fk)] w9 (by simp) (nms_one (w0:=wd) H9.out.1 (HI2.out.2.2.2.2.1.seg.grown G9.out) (HI2.out.2.2.2.2.2.1.seg.grown G9.out)) (HPC.out.grown G9.out)).mono ?_
  rw [decide_eq_true (rfl:[(tn,fk)]=[(tn,fk)])]
  rintro e wa ⟨rfl,gg⟩
  have GA:Hid (W2.grownBy wa none):=grown_trans G9.out gg
  clear gg
  go_wp2_with fail
  refine hK.out _ _ (fun _=>GA.out) ?_
  clear hK K
  try simp only [pN]
  have J:Idx [19,20]:=trivial
  iterate 2 (refine tK J (GA.out) rfl rfl (fun wk hk=>by obtain ⟨m0,m1,m2,m3,m4,m5,m6⟩:=HC8.out wk hk;go_simp;try rfl) ?_;replace J:=J.tl;try simp only [pN])
  clear J
  refine wpHold_done (by kernel_rfl) ?_
  refine wpIn_cond_false rfl (wpIn_skip ?_)
  rcases Nat.eq_zero_or_pos p.length with hp0 | hp0
  ·have hst:stepT p tn=p ++ [tn]:=by rw [List.length_eq_zero_iff.1 hp0];rfl
   have HC80:=HC8
   rw [hp0] at HC80
   clear hp0
   refine wpIn_seq (wpIn_seq ?_)
   refine region_round_hold 1000 (fun y=>W2.grownBy y none) (by rintro ⟨_,_,h⟩;exact h) rfl (by kernel_rfl) ?_
   have G1:Hid (W2.grownBy wa.drew none):=grown_trans GA.out (grown_drew _ _)
   generalize wa.drew=wb at G1 ⊢
   have J:Idx [0,1,2,3]:=trivial
   iterate 4 (refine tK J (G1.out) rfl rfl (fun wk hk=>by obtain ⟨m0,m1,m2,m3,m4,m5,m6⟩:=HC80.out wk hk;go_simp;try rfl) ?_;replace J:=J.tl;try simp only [pN])
   clear J
   have J:Idx [4,5,6,7,8,9,10,11,12]:=trivial
   iterate 9 (refine sk J (G1.out) rfl rfl ?_;replace J:=J.tl;try simp only [pN])
   clear J
   have J:Idx [13]:=trivial
   iterate 1 (refine tK J (G1.out) rfl rfl (fun wk hk=>by obtain ⟨m0,m1,m2,m3,m4,m5,m6⟩:=HC80.out wk hk;go_simp;try rfl) ?_;replace J:=J.tl;try simp only [pN])
   clear J
   refine wpHold_done (by kernel_rfl) ?_
   refine wpIn_cond_true rfl ?_
   have HST:Hid (stepT p tn=p ++ [tn]):=hst
   clear hst hks hsl hge i1 HC80
   have cq0:=(HC8.out wb G1.out).2.2.2.2.2.2
   have dq0:=(HC8.out wb G1.out).2.2.2.1
   obtain ⟨W3,hW3,H3⟩:=al wb #[.string ⟨tn.toArray⟩] 9
   have HN3:Hid (Nos W3 (w6.heap.size+2) (.slice ta p.length tc) p):=HP.out.1.tn (Tn.of_grown (n0:=0) (grown_trans G1.out H3.out.2.1))
   have hW4:Hid (wb.alloc (.cells #[.string ⟨tn.toArray⟩] 9)=W3):=hW3
   clear hW3
   refine region_round (by rintro ⟨_,_,h⟩;exact h) rfl ?_
   go_wp2_with (at_builtin;rw [hW4.out];refine appN_at W3 rfl _ _ rfl (w6.heap.size+2) (.slice ta p.length tc) p tn wb.heap.size rfl rfl H3.out.1 HN3.out (by have:=HP.out.2.1;omega) (by have:=(grown_trans G1.out H3.out.2.1).size;have:=HT2.out;omega) ?_)
   intro g cap W4 hN4 g4 hg4 hl4
   have H4:Hid (Nos W4 (w6.heap.size+2) (.slice (some ⟨g,0,none⟩) (p.length+1) cap) (p ++ [tn])/\W3.grownBy W4 (Value.ownBlock (.slice ta p.length tc))/\(Value.ownBlock (.slice ta p.length tc)=some g\/g=W3.heap.size)/\Blk W4 tb 89 #[.slice ta p.length tc]/\W2.grownBy W3 none):=by
    have hb3:Blk W3 tb 89 #[.slice ta p.length tc]:=HI2.out.2.1.grown (grown_trans G1.out H3.out.2.1) (by simp)
    exact ⟨hN4,g4,hg4,hb3.grown g4 (HN3.out.other hb3 (by decide)),grown_trans G1.out H3.out.2.1⟩
   clear hN4 g4 hg4 hl4 hW4 cq0 dq0
   have c4:=H4.out.2.2.2.1.cell 0
   simp at c4
   have f4:=H4.out.2.2.2.1.free 0
   go_wp2_with fail
   obtain ⟨nv,hnv⟩:∃x,Value.slice (some ⟨g,0,none⟩) (p.length+1) cap=x:=⟨_,rfl⟩
   have HSV:Hid (SV w6.heap.size xb ib tb W0.heap.size k tn (.slice ax nx cx) (.slice ay ny cy) nv (.slice ta p.length tc) ny (tabsF ((flatD D).take (k+1))) w6 W2 (W4.setCell ⟨tb,0,none⟩ nv)):=by
    rw [HP.out.2.2.2,HST.out]
    rw [<-hnv]
    exact sv_put HI2.out.1 HI2.out.2.2.2.1 HI2.out.2.2.2.2.2.1 HI1.out.2.2.2.2.2 HT2.out.2.2.2.1 HP.out.1 (by have:=HT2.out;omega) H4.out.1 H4.out.2.1 H4.out.2.2.1 H4.out.2.2.2.1 H4.out.2.2.2.2
   rw [hnv]
   generalize W4.setCell ⟨tb,0,none⟩ nv=W5 at HSV ⊢
   clear c4 f4 H4 H3 HN3
   refine wpIn_seq (wpIn_seq ?_)
   refine region_round (by rintro ⟨_,_,h⟩;exact h) rfl ?_
   go_wp2_with fail
   refine wpIn_block ?_
   refine wpIn_loop_upT (fun _ A=>Hid (SV w6.heap.size xb ib tb W0.heap.size k tn (.slice ax nx cx) (.slice ay ny cy) nv (.slice ta p.length tc) ny (tabsF ((flatD D).take (k+1))) w6 W2 A)) ny HSV.out rfl (Nat.le_of_ble_eq_true rfl) ?_
   intro j A x1 x2 x3 x4 x5 x6 x7 x8 x9 x10 x11 HA hjn
   simp only [upT,List.setIfInBounds_toArray,List.set_cons_zero,List.set_cons_succ]
   have v2:=HA.out.row.cell 2
   simp at v2
   refine wpIn_seq (wpIn_seq ?_)
   refine region_round (by rintro ⟨_,_,h⟩;exact h) rfl ?_
   rcases Nat.lt_or_ge j ny with hlt | hge
   ·have i1:(j:Int)<(ny:Int):=by omega
    have i0:(0:Int)<=(j:Int):=by omega
    go_wp2_with fail
    refine wpIn_cond_true rfl (wpIn_skip ?_)
    obtain ⟨vg,cv0,rfl,cv,fv⟩:=HA.out.at j hlt
    refine wpIn_seq (wpIn_block ?_)
    refine region_round (by rintro ⟨_,_,h⟩;exact h) rfl ?_
    go_wp2_with fail
    have HA2:=HA.out.set (by have:=HO.out.2.2.2.2;omega) j hlt
    generalize A.setCell ⟨vg,j,none⟩ (.int .u8 90)=A2 at HA2 ⊢
    have HA3:Hid _:=HA2
    clear HA2 cv fv v2
    refine region_round (by rintro ⟨_,_,h⟩;exact h) rfl ?_
    go_wp2_with fail
    have ej:((j:Int)+1)=((j+1:Nat):Int):=by omega
    rw [ej]
    refine ⟨hlt,?_,HA3.out⟩
    iterate 11 apply Exists.intro
    rfl
   ·have i1:¬((j:Int)<(ny:Int)):=by omega
    go_wp2_with fail
    refine wpIn_cond_false rfl (wpIn_exit ?_)
    have c0:=HA.out.ibk.cell 0
    have f0:=HA.out.ibk.free 0
    simp at c0
    refine region_round (by rintro ⟨_,_,h⟩;exact h) rfl ?_
    go_wp2_with fail
    have ek:((k:Int)+1)=((k+1:Nat):Int):=by omega
    rw [ek]
    exact HEND.out _ nv A HA.out
  ·obtain ⟨pj,hpj⟩:∃x,p.length-1=x:=⟨_,rfl⟩
   have hpl:pj<p.length:=by omega
   obtain ⟨tg,rfl,htg⟩:=HLN.out pj hpl
   have HTG:Hid (∀y:World,W2.grownBy y none->y.cell? ⟨tg,0+pj,none⟩=some (Str p[pj])):=htg
   have hlast:p.getLast? = some p[pj]:=by
    rw [List.getLast?_eq_getElem?,hpj]
    exact List.getElem?_eq_getElem hpl
   obtain ⟨ln,hln⟩:∃x,p[pj]=x:=⟨_,rfl⟩
   rw [hln] at HTG hlast
   have z1:((p.length:Int)==0)=false:=by rw [beq_eq_false_iff_ne];omega
   have z2:(p.length==0)=false:=by rw [beq_eq_false_iff_ne];omega
   have z3:(p.length=0)=False:=eq_false (by omega)
   have z4:IntKind.i64.wrap ((p.length:Int)-1)=(pj:Int):=by rw [IntKind.wrap_i64];omega
   have z5:(0:Int)<=(pj:Int):=by omega
   have z6:(pj:Int)<(p.length:Int):=by omega
   clear htg
   by_cases hlt:ln=tn
   ·have hst:stepT p tn=p:=by unfold stepT;rw [if_pos (by rw [hlast,hlt])]
    have u1:(ln==tn)=true:=by simpa using hlt
    have u2:(ln != tn)=false:=by simpa using hlt
    clear hln hlt hlast hpj hpl hp0
    refine wpIn_seq (wpIn_seq ?_)
    refine region_round_hold 1000 (fun y=>W2.grownBy y none) (by rintro ⟨_,_,h⟩;exact h) rfl (by kernel_rfl) ?_
    have G1:Hid (W2.grownBy wa.drew none):=grown_trans GA.out (grown_drew _ _)
    generalize wa.drew=wb at G1 ⊢
    have J:Idx [0,1,2,3,4,5,6,7,8,9,10,11,12,13]:=trivial
    iterate 14 (refine tK J (G1.out) rfl rfl (fun wk hk=>by obtain ⟨m0,m1,m2,m3,m4,m5,m6⟩:=HC8.out wk hk;have m7:=HTG.out wk hk;simp only [Str,Nat.zero_add] at m7;go_simp;try rfl) ?_;replace J:=J.tl;try simp only [pN])
    clear J
    refine wpHold_done (by kernel_rfl) ?_
    refine wpIn_cond_false rfl (wpIn_skip ?_)
    have HST:Hid (stepT p tn=p):=hst
    clear hst hks hsl hge i1 z1 z2 z3 z4 z5 z6 u1 u2
    have HSV:Hid (SV w6.heap.size xb ib tb W0.heap.size k tn (.slice ax nx cx) (.slice ay ny cy) (.slice (some ⟨tg,0,none⟩) p.length tc) (.slice (some ⟨tg,0,none⟩) p.length tc) ny (tabsF ((flatD D).take (k+1))) w6 W2 wb):=by
     rw [HP.out.2.2.2,HST.out]
     exact sv_stay HI2.out.1 HI2.out.2.1 HI2.out.2.2.2.1 HI2.out.2.2.2.2.2.1 HI1.out.2.2.2.2.2 HT2.out.2.2.2.1 G1.out HP.out.1 (by have:=HT2.out;omega)
    refine wpIn_seq (wpIn_seq ?_)
    refine region_round (by rintro ⟨_,_,h⟩;exact h) rfl ?_
    go_wp2_with fail
    refine wpIn_block ?_
    refine wpIn_loop_upT (fun _ A=>Hid (SV w6.heap.size xb ib tb W0.heap.size k tn (.slice ax nx cx) (.slice ay ny cy) (.slice (some ⟨tg,0,none⟩) p.length tc) (.slice (some ⟨tg,0,none⟩) p.length tc) ny (tabsF ((flatD D).take (k+1))) w6 W2 A)) ny HSV.out rfl (Nat.le_of_ble_eq_true rfl) ?_
    intro j A x1 x2 x3 x4 x5 x6 x7 x8 x9 x10 x11 HA hjn
    simp only [upT,List.setIfInBounds_toArray,List.set_cons_zero,List.set_cons_succ]
    have v2:=HA.out.row.cell 2
    simp at v2
    refine wpIn_seq (wpIn_seq ?_)
    refine region_round (by rintro ⟨_,_,h⟩;exact h) rfl ?_
    rcases Nat.lt_or_ge j ny with hlt | hge
    ·have i1:(j:Int)<(ny:Int):=by omega
     have i0:(0:Int)<=(j:Int):=by omega
     go_wp2_with fail
     refine wpIn_cond_true rfl (wpIn_skip ?_)
     obtain ⟨vg,cv0,rfl,cv,fv⟩:=HA.out.at j hlt
     refine wpIn_seq (wpIn_block ?_)
     refine region_round (by rintro ⟨_,_,h⟩;exact h) rfl ?_
     go_wp2_with fail
     have HA2:=HA.out.set (by have:=HO.out.2.2.2.2;omega) j hlt
     generalize A.setCell ⟨vg,j,none⟩ (.int .u8 90)=A2 at HA2 ⊢
     have HA3:Hid _:=HA2
     clear HA2 cv fv v2
     refine region_round (by rintro ⟨_,_,h⟩;exact h) rfl ?_
     go_wp2_with fail
     have ej:((j:Int)+1)=((j+1:Nat):Int):=by omega
     rw [ej]
     refine ⟨hlt,?_,HA3.out⟩
     iterate 11 apply Exists.intro
     rfl
    ·have i1:¬((j:Int)<(ny:Int)):=by omega
     go_wp2_with fail
     refine wpIn_cond_false rfl (wpIn_exit ?_)
     have c0:=HA.out.ibk.cell 0
     have f0:=HA.out.ibk.free 0
     simp at c0
     refine region_round (by rintro ⟨_,_,h⟩;exact h) rfl ?_
     go_wp2_with fail
     have ek:((k:Int)+1)=((k+1:Nat):Int):=by omega
     rw [ek]
     exact HEND.out _ (.slice (some ⟨tg,0,none⟩) p.length tc) A HA.out
   ·have hst:stepT p tn=p ++ [tn]:=by unfold stepT;rw [if_neg (by rw [hlast];simpa using hlt)]
    have u1:(ln==tn)=false:=by simpa using hlt
    have u2:(ln != tn)=true:=by simpa using hlt
    clear hln hlt hlast hpj hpl hp0
    refine wpIn_seq (wpIn_seq ?_)
    refine region_round_hold 1000 (fun y=>W2.grownBy y none) (by rintro ⟨_,_,h⟩;exact h) rfl (by kernel_rfl) ?_
    have G1:Hid (W2.grownBy wa.drew none):=grown_trans GA.out (grown_drew _ _)
    generalize wa.drew=wb at G1 ⊢
    have J:Idx [0,1,2,3,4,5,6,7,8,9,10,11,12,13]:=trivial
    iterate 14 (refine tK J (G1.out) rfl rfl (fun wk hk=>by obtain ⟨m0,m1,m2,m3,m4,m5,m6⟩:=HC8.out wk hk;have m7:=HTG.out wk hk;simp only [Str,Nat.zero_add] at m7;go_simp;try rfl) ?_;replace J:=J.tl;try simp only [pN])
    clear J
    refine wpHold_done (by kernel_rfl) ?_
    refine wpIn_cond_true rfl ?_
    have HST:Hid (stepT p tn=p ++ [tn]):=hst
    clear hst hks hsl hge i1 z1 z2 z3 z4 z5 z6 u1 u2
    have cq0:=(HC8.out wb G1.out).2.2.2.2.2.2
    have dq0:=(HC8.out wb G1.out).2.2.2.1
    obtain ⟨W3,hW3,H3⟩:=al wb #[.string ⟨tn.toArray⟩] 9
    have HN3:Hid (Nos W3 (w6.heap.size+2) (.slice (some ⟨tg,0,none⟩) p.length tc) p):=HP.out.1.tn (Tn.of_grown (n0:=0) (grown_trans G1.out H3.out.2.1))
    have hW4:Hid (wb.alloc (.cells #[.string ⟨tn.toArray⟩] 9)=W3):=hW3
    clear hW3
    refine region_round (by rintro ⟨_,_,h⟩;exact h) rfl ?_
    go_wp2_with (at_builtin;rw [hW4.out];refine appN_at W3 rfl _ _ rfl (w6.heap.size+2) (.slice (some ⟨tg,0,none⟩) p.length tc) p tn wb.heap.size rfl rfl H3.out.1 HN3.out (by have:=HP.out.2.1;omega) (by have:=(grown_trans G1.out H3.out.2.1).size;have:=HT2.out;omega) ?_)
    intro g cap W4 hN4 g4 hg4 hl4
    have H4:Hid (Nos W4 (w6.heap.size+2) (.slice (some ⟨g,0,none⟩) (p.length+1) cap) (p ++ [tn])/\W3.grownBy W4 (Value.ownBlock (.slice (some ⟨tg,0,none⟩) p.length tc))/\(Value.ownBlock (.slice (some ⟨tg,0,none⟩) p.length tc)=some g\/g=W3.heap.size)/\Blk W4 tb 89 #[.slice (some ⟨tg,0,none⟩) p.length tc]/\W2.grownBy W3 none):=by
     have hb3:Blk W3 tb 89 #[.slice (some ⟨tg,0,none⟩) p.length tc]:=HI2.out.2.1.grown (grown_trans G1.out H3.out.2.1) (by simp)
     exact ⟨hN4,g4,hg4,hb3.grown g4 (HN3.out.other hb3 (by decide)),grown_trans G1.out H3.out.2.1⟩
    clear hN4 g4 hg4 hl4 hW4 cq0 dq0
    have c4:=H4.out.2.2.2.1.cell 0
    simp at c4
    have f4:=H4.out.2.2.2.1.free 0
    go_wp2_with fail
    obtain ⟨nv,hnv⟩:∃x,Value.slice (some ⟨g,0,none⟩) (p.length+1) cap=x:=⟨_,rfl⟩
    have HSV:Hid (SV w6.heap.size xb ib tb W0.heap.size k tn (.slice ax nx cx) (.slice ay ny cy) nv (.slice (some ⟨tg,0,none⟩) p.length tc) ny (tabsF ((flatD D).take (k+1))) w6 W2 (W4.setCell ⟨tb,0,none⟩ nv)):=by
     rw [HP.out.2.2.2,HST.out]
     rw [<-hnv]
     exact sv_put HI2.out.1 HI2.out.2.2.2.1 HI2.out.2.2.2.2.2.1 HI1.out.2.2.2.2.2 HT2.out.2.2.2.1 HP.out.1 (by have:=HT2.out;omega) H4.out.1 H4.out.2.1 H4.out.2.2.1 H4.out.2.2.2.1 H4.out.2.2.2.2
    rw [hnv]
    generalize W4.setCell ⟨tb,0,none⟩ nv=W5 at HSV ⊢
    clear c4 f4 H4 H3 HN3
    refine wpIn_seq (wpIn_seq ?_)
    refine region_round (by rintro ⟨_,_,h⟩;exact h) rfl ?_
    go_wp2_with fail
    refine wpIn_block ?_
    refine wpIn_loop_upT (fun _ A=>Hid (SV w6.heap.size xb ib tb W0.heap.size k tn (.slice ax nx cx) (.slice ay ny cy) nv (.slice (some ⟨tg,0,none⟩) p.length tc) ny (tabsF ((flatD D).take (k+1))) w6 W2 A)) ny HSV.out rfl (Nat.le_of_ble_eq_true rfl) ?_
    intro j A x1 x2 x3 x4 x5 x6 x7 x8 x9 x10 x11 HA hjn
    simp only [upT,List.setIfInBounds_toArray,List.set_cons_zero,List.set_cons_succ]
    have v2:=HA.out.row.cell 2
    simp at v2
    refine wpIn_seq (wpIn_seq ?_)
    refine region_round (by rintro ⟨_,_,h⟩;exact h) rfl ?_
    rcases Nat.lt_or_ge j ny with hlt | hge
    ·have i1:(j:Int)<(ny:Int):=by omega
     have i0:(0:Int)<=(j:Int):=by omega
     go_wp2_with fail
     refine wpIn_cond_true rfl (wpIn_skip ?_)
     obtain ⟨vg,cv0,rfl,cv,fv⟩:=HA.out.at j hlt
     refine wpIn_seq (wpIn_block ?_)
     refine region_round (by rintro ⟨_,_,h⟩;exact h) rfl ?_
     go_wp2_with fail
     have HA2:=HA.out.set (by have:=HO.out.2.2.2.2;omega) j hlt
     generalize A.setCell ⟨vg,j,none⟩ (.int .u8 90)=A2 at HA2 ⊢
     have HA3:Hid _:=HA2
     clear HA2 cv fv v2
     refine region_round (by rintro ⟨_,_,h⟩;exact h) rfl ?_
     go_wp2_with fail
     have ej:((j:Int)+1)=((j+1:Nat):Int):=by omega
     rw [ej]
     refine ⟨hlt,?_,HA3.out⟩
     iterate 11 apply Exists.intro
     rfl
    ·have i1:¬((j:Int)<(ny:Int)):=by omega
     go_wp2_with fail
     refine wpIn_cond_false rfl (wpIn_exit ?_)
     have c0:=HA.out.ibk.cell 0
     have f0:=HA.out.ibk.free 0
     simp at c0
     refine region_round (by rintro ⟨_,_,h⟩;exact h) rfl ?_
     go_wp2_with fail
     have ek:((k:Int)+1)=((k+1:Nat):Int):=by omega
     rw [ek]
     exact HEND.out _ nv A HA.out
 case hdone =>
  rintro A k G hfin ⟨tv,HA⟩ hd
  have h6:=B6.out
  have hkk:=HA.out.2.2.2.2.2
  have hbl:=Blk.lt HH.out.2.1
  have gwA:w.grownBy A none:=⟨hkk.1.trans h6.2.2.2.2.2.2.2.1.os,hkk.2.1.trans h6.2.2.2.2.2.2.2.1.tape,hkk.2.2.1.trans h6.2.2.2.2.2.2.2.1.output,Nat.le_trans h6.2.2.2.2.2.2.2.1.size hkk.2.2.2.1,fun i hi _=>(hkk.2.2.2.2 i (by have:=h6.2.2.2.2.2.2.2.1.size;omega) (by omega) (by omega)).trans (h6.2.2.2.2.2.2.2.1.block i hi (by simp))⟩
  have hnm:Nos A (w6.heap.size+2) tv (namesD D):=by
   have h:=HA.out.2.2.2.1
   rw [hfin,List.take_length,tabs_flat HH.out.1.good] at h
   exact h
  have hkn:k=n0:=by rw [hfin];exact HH.out.2.2.2.1
  have hib:Blk A ib 3 #[.int .i64 (n0:Int)]:=by have h:=HA.out.2.1;rw [hkn] at h;exact h
  obtain ⟨ta,tc,etv,htc,htc',hct⟩:=hnm.vec
  obtain ⟨nl,hnl⟩:∃x,(namesD D).length=x:=⟨_,rfl⟩
  rw [hnl] at etv htc
  subst etv
  have HNL:Hid ((namesD D).length=nl):=hnl
  have H7:Hid (EngB A b q m/\EM X A m D/\Blk A ib 3 #[.int .i64 (n0:Int)]/\Blk A tb 89 #[.slice ta nl tc]/\Blk A pb 29 #[.pointer (some ⟨d,0,none⟩)]/\Blk A rb 4 #[.bool false]/\Blk A d 77 #[.int .i64 q.1,.int .i64 q.2,.slice a0 n0 c0]/\w.grownBy A none/\A.heap[w6.heap.size]? = some (.deferred (some []))):=by
   have sm:∀{x t:Nat} {c:Array Value},Blk w6 x t c->x<ib->Blk A x t c:=fun {x t c} hx hl=>hx.same (hkk.2.2.2.2 x hx.lt (by omega) (by omega))
   have hdl:=h6.2.2.2.2.2.2.2.2.2.2.2.2.2.2
   refine ⟨sm h6.2.2.2.2.2.1 (by omega),em_two h6.2.2.2.2.2.2.1 h6.1 h6.2.1 (by omega) hkk (by decide) (by decide) (by decide) (fun u hu p=>?_) (by decide) (by decide) (by decide) (fun u hu p=>?_),hib,HA.out.2.2.1,sm h6.2.2.2.1 (by omega),sm h6.2.2.2.2.1 (by omega),sm h6.2.2.2.2.2.2.2.2.2.2.2.2.2.1 (by omega),gwA,hd⟩
   ·simp at hu
    subst hu
    simp [ptr]
   ·simp at hu
    subst hu
    simp [ptr]
  have HCT:Hid (∀j (hj:j<nl),∃g,ta=some ⟨g,0,none⟩/\A.cell? ⟨g,0+j,none⟩=some (Str ((namesD D)[j]'(by rw [HNL.out];exact hj)))):=fun j hj=>hct j (by rw [hnl];exact hj)
  have hnz:nl<=9223372036854775807:=by omega
  have HZ9:Hid (w.heap.size<=rb/\rb<w6.heap.size):=⟨by have:=h6.2.2.2.2.2.2.2.2;omega,by have:=h6.2.2.2.2.2.2.2.2;omega⟩
  have HS6:Hid (w.heap.size<=w6.heap.size):=h6.2.2.2.2.2.2.2.1.size
  clear h6 hkk hbl gwA hnm hib hct hnl hd HA HG hfin hkn htc htc' B6
  refine (‹∀(a:Act) (w:World),Code.wp Tryz.prog _ _ a w->_› _ _ ?_)
  go_wp2_with fail
  refine (tables40 (X:=X) b m q D HH.out.1.good A H7.out.1 H7.out.2.1).mono ?_
  rintro e w8 ⟨v8,rfl,hv8,g8⟩
  obtain ⟨ua,uc,ev8,huc,huc',hcu⟩:=hv8.vec
  rw [HNL.out] at ev8 huc
  subst ev8
  have HCU:Hid (∀j (hj:j<nl),∃g,ua=some ⟨g,0,none⟩/\w8.cell? ⟨g,0+j,none⟩=some (Str ((namesD D)[j]'(by rw [HNL.out];exact hj)))):=fun j hj=>hcu j (by rw [HNL.out];exact hj)
  have G8:Hid (A.grownBy w8 none):=g8
  clear hv8 hcu huc huc' g8
  have HC18:Hid (∀y:World,w8.grownBy y none->y.cell? ⟨ib,0,none⟩=some (.int .i64 (n0:Int))/\y.cell? ⟨pb,0,none⟩=some (.pointer (some ⟨d,0,none⟩))/\y.cell? ⟨d,2,none⟩=some (.slice a0 n0 c0)/\y.cell? ⟨tb,0,none⟩=some (.slice ta nl tc)):=fun y hy=>by
   have gy:=grown_trans G8.out hy
   exact ⟨(H7.out.2.2.1.grown gy (by simp)).cell 0,(H7.out.2.2.2.2.1.grown gy (by simp)).cell 0,(H7.out.2.2.2.2.2.2.1.grown gy (by simp)).cell 2,(H7.out.2.2.2.1.grown gy (by simp)).cell 0⟩
  go_wp2_with fail
  refine wp_region_noPanic ?_
  refine wp_region_hold 1000 (fun y=>w8.grownBy y none) (by kernel_rfl) ?_
  have G18:Hid (w8.grownBy w8.drew none):=grown_drew _ _
  generalize w8.drew=wz at G18 ⊢
  have J:Idx [0,1,2,3,4,5,6,7,8,9,10,11,12,13]:=trivial
  iterate 14 (refine tK J (G18.out) rfl rfl (fun wk hk=>by obtain ⟨m0,m1,m2,m3⟩:=HC18.out wk hk;go_simp;try rfl) ?_;replace J:=J.tl;try simp only [pN])
  clear J
  refine wpHold_done (by kernel_rfl) ?_
  refine (‹∀(a:Act) (w:World),Code.wp Tryz.prog _ _ a w->_› _ _ ?_)
  go_wp2_with fail
  go_loopw [11] (fun i wr=>∃j:Nat,j<=nl/\i=.int .i64 (j:Int)/\Hid (w8.grownBy wr none)) (fun i _=>nl-(intOf i).toNat)
  case atStart=>exact ⟨0,Nat.zero_le _,rfl,G18.out⟩
  case round =>
   obtain ⟨j,hj,rfl,HW⟩:=hrel
   rcases Nat.lt_or_ge j nl with hlt | hge
   ·have i0:(0:Int)<=(j:Int):=by omega
    have i1:(j:Int)<(nl:Int):=by omega
    obtain ⟨tg,etg,htg⟩:=HCT.out j hlt
    obtain ⟨ug,eug,hug⟩:=HCU.out j hlt
    subst etg eug
    obtain ⟨nm,hnm⟩:∃x,(namesD D)[j]'(by rw [HNL.out];exact hlt)=x:=⟨_,rfl⟩
    rw [hnm] at htg hug
    rw [Nat.zero_add] at htg hug
    unfold Str at htg hug
    have HC23:Hid (∀y:World,w8.grownBy y none->y.cell? ⟨tg,j,none⟩=some (.string ⟨nm.toArray⟩)/\y.cell? ⟨ug,j,none⟩=some (.string ⟨nm.toArray⟩)/\y.cell? ⟨tb,0,none⟩=some (.slice (some ⟨tg,0,none⟩) nl tc)):=fun y hy=>⟨(grown_trans G8.out hy).cell htg (by simp),hy.cell hug (by simp),(HC18.out y hy).2.2.2⟩
    clear htg hug hnm
    go_wp2_with fail
    refine wp_region_noPanic ?_
    refine wp_region_hold 1000 (fun y=>w8.grownBy y none) (by kernel_rfl) ?_
    have G23:Hid (w8.grownBy wr.drew none):=grown_trans HW.out (grown_drew _ _)
    generalize wr.drew=wy at G23 ⊢
    have J:Idx [0,1,2,3,4,5,6,7,8]:=trivial
    iterate 9 (refine tK J (G23.out) rfl rfl (fun wk hk=>by obtain ⟨m0,m1,m2⟩:=HC23.out wk hk;go_simp;try rfl) ?_;replace J:=J.tl;try simp only [pN])
    clear J
    refine wpHold_done (by kernel_rfl) ?_
    refine (‹∀(a:Act) (w:World),Code.wp Tryz.prog _ _ a w->_› _ _ ?_)
    go_wp2_with fail
    go_roundw
    case rel=>exact ⟨j+1,by omega,by go_num,G23.out⟩
    case measure=>simp [intOf];omega
   ·have i1:¬((j:Int)<(nl:Int)):=by omega
    have hr:=H7.out.2.2.2.2.2.1.grown (grown_trans G8.out HW.out) (by simp)
    have c0:=hr.cell 0
    have f0:=hr.free 0
    simp at c0
    have HRB:Hid (Blk wr rb 4 #[.bool false]/\w.grownBy wr none/\wr.heap[w6.heap.size]? = some (.deferred (some []))):=⟨hr,grown_trans H7.out.2.2.2.2.2.2.2.1 (grown_trans G8.out HW.out),((grown_trans G8.out HW.out).block _ (Array.getElem?_eq_some_iff.1 H7.out.2.2.2.2.2.2.2.2).1 (by simp)).trans H7.out.2.2.2.2.2.2.2.2⟩
    clear hr
    go_wp2_with fail
    have G9:w.grownBy (wr.setCell ⟨rb,0,none⟩ (.bool true)) none:=grown_new HRB.out.2.1 (grown_setCell _ _ _ _) (fun x hx=>by simp at hx;have:=HZ9.out;omega)
    have hw9:(wr.setCell ⟨rb,0,none⟩ (.bool true)).heap[w6.heap.size]? = some (.deferred (some [])):=by
     rw [heap_setCell_other wr _ _ _ (by have:=HZ9.out;simp;omega)]
     exact HRB.out.2.2
    have ht:Tn w6.heap.size (wr.setCell ⟨rb,0,none⟩ (.bool true)) ((wr.setCell ⟨rb,0,none⟩ (.bool true)).putObj w6.heap.size (.deferred none)):=Tn.putD (.deferred none) hw9 (Nat.le_refl _)
    have c9:=(ht.blk (HRB.out.1.store 0 (.bool true))).cell 0
    simp at c9
    refine ⟨by simp,.inl ⟨_,_,rfl,run_takeDeferred hw9,?_⟩⟩
    refine ⟨.bool true,by simp [results,Tryz.results12,go_sem,c9],rfl,ht.os.trans G9.os,ht.tape.trans G9.tape,ht.output.trans G9.output,Nat.le_trans G9.size ht.size,fun i hi hr=>?_⟩
    rw [ht.block i (by have:=G9.size;omega) (.inl (by have:=HS6.out;omega))]
    exact G9.block i hi hr
end Go.Proofs.YtakmlhhapegpoaaGreat
