import Derived.Test.YtadhfejefpildaaGreatGa
import Derived.Test.YtadhfejefpildaaGreatFrameRs
set_option maxHeartbeats 8000000
set_option maxRecDepth 100000
namespace Go.Proofs.YtadhfejefpildaaGreat
open Go.RowKit Disk
open Go.Proofs.YtadhfejefpildaaGreat.Calls
open Go.Proofs.YtadhfejefpildaaGreat.Command
open Go.Proofs.YtadhfejefpildaaGreat.Frame (Frs)
theorem sq {w:World}{B:Nat}{v:Value}{vs:List Value}{l:Frs}(h:Frame.FRow w B v vs l)(hl:l.length<=4398046511104):Frame.FSeg w v l:=by
 obtain ⟨ao,cap,e⟩:=h.shape
 refine ⟨ao,cap,e,hl,fun j hj=>?_⟩
 have hj':j<vs.length:=by rw [h.len];exact hj
 obtain ⟨g,cp,e2,h1,h2⟩:=h.cell j hj hj'
 rw [e] at e2
 simp at e2
 obtain ⟨rfl,rfl⟩:=e2
 exact ⟨g,0,vs[j],rfl,by simpa using h1,by simpa using h2.1,(h.each j hj' hj).seg⟩
theorem t6 {w:World}{ao:Option Addr}{n cap:Nat}{l:Frs}(h:Frame.FSeg w (.slice ao n cap) l)(j:Nat)(hj:j<l.length):∃b off u,ao=some ⟨b,off,none⟩/\w.cell? ⟨b,off+j*2,none⟩=some (.int .i64 l[j].1)/\w.cell? ⟨b,off+j*2+1,none⟩=some u/\Seg w u l[j].2:=by
 obtain ⟨ao',cap',e,_,h4⟩:=h
 simp at e
 obtain ⟨rfl,rfl,rfl⟩:=e
 exact h4 j hj
theorem jI (v:Value)(L:Bs)(fs:Frs)(R:Bs)(w:World)(hs:Seg w v L)(hsc:Frame.Sc L fs R)(hL:L.length<=1048576):Calls Tryz.prog 16 #[v] w (EntP L fs R w):=by
 obtain ⟨ao,cap,e⟩:=hs.shape
 obtain ⟨n,hn⟩:∃n,L.length=n:=⟨_,rfl⟩
 rw [hn] at e
 subst e
 have HS:Hid (Seg w (.slice ao n cap) L/\L.length<=1048576/\L.length=n/\Frame.Sc L fs R):=⟨hs,hL,hn,hsc⟩
 clear hs hL hn hsc
 go_enter Tryz.func16,Tryz.ntmps16
 go_upto_region 1 with fail
 obtain ⟨w1,hw1,H1⟩:=al1 w #[.slice none 0 0,.int .i64 0,.int .i64 0,.int .i64 0] 38
 rw [hw1]
 clear hw1
 obtain ⟨rb,hrb⟩:∃x,w.heap.size=x:=⟨_,rfl⟩
 have HR:Hid (w.heap.size=rb):=hrb
 rw [hrb] at H1 ⊢
 clear hrb
 go_wp2_with fail
 refine (Frame.pZ (.slice ao n cap) L w1 (HS.out.1.grown H1.out.2.1) (by have:=HS.out;omega)).mono ?_
 rintro e w2 ⟨fs',R',vl,vs,hsc',rfl,hfr,g2⟩
 have hun:=Frame.iE fs' hsc' HS.out.2.2.2
 obtain ⟨rfl,rfl⟩:=hun
 have hcnt:fs'.length<=120000:=by have:=hsc'.count;have:=HS.out;omega
 have hfs:=sq hfr (by omega)
 obtain ⟨la,lc,el⟩:=hfs.shape
 obtain ⟨N,hN⟩:∃x,fs'.length=x:=⟨_,rfl⟩
 rw [hN] at el hcnt
 subst el
 obtain ⟨gd,hgd⟩:∃x,(Frame.flat fs').length=x:=⟨_,rfl⟩
 obtain ⟨wy,hwy⟩:∃x,Frame.ends R'=x:=⟨_,rfl⟩
 rw [hgd,hwy]
 have H2:Hid (w.grownBy w2 none/\Blk w2 rb 38 #[.slice none 0 0,.int .i64 0,.int .i64 0,.int .i64 0]/\Frame.FSeg w2 (.slice la N lc) fs'/\fs'.length=N/\(Frame.flat fs').length=gd/\Frame.ends R'=wy):=⟨aa H1.out.2.1 g2,H1.out.1.grown g2 (by simp),hfs,hN,hgd,hwy⟩
 clear hsc' hfr g2 hfs hN hgd hwy H1
 go_upto_region 3 with fail
 obtain ⟨w3,hw3,H3⟩:=al1 w2 #[.slice none 0 0,.int .i64 gd,.int .i64 n,.int .i64 wy] 38
 rw [hw3]
 clear hw3
 obtain ⟨tb,htb⟩:∃x,w2.heap.size=x:=⟨_,rfl⟩
 have HTB:Hid (w2.heap.size=tb/\rb<tb):=⟨htb,by have:=H2.out.2.1.lt;omega⟩
 rw [htb] at H3 ⊢
 clear htb
 obtain ⟨m,hm⟩:∃x,(az 0 fs').1.length=x:=⟨_,rfl⟩
 have HM:Hid ((az 0 fs').1.length=m/\m<=N):=⟨hm,by rw [<-hm,<-H2.out.2.2.2.1];exact cP fs' 0⟩
 clear hm
 go_wp2_with fail
 go_loopw [8] (fun t wr=>∃(k:Nat) (e1:Option Addr) (e3:Nat),t=.int .i64 (k:Int)/\k<=N/\Hid (k<=m/\w.grownBy wr none/\w2.grownBy wr none/\bA wr w3.heap.size (.slice e1 k e3) ((az 0 fs').1.take k)/\Blk wr tb 38 #[.slice e1 k e3,.int .i64 gd,.int .i64 n,.int .i64 wy]/\Blk wr rb 38 #[.slice none 0 0,.int .i64 0,.int .i64 0,.int .i64 0]/\w3.heap.size<=wr.heap.size)) (fun t _=>N-(intOf t).toNat)
 case atStart=>exact ⟨0,none,0,rfl,Nat.zero_le _,Nat.zero_le _,aa H2.out.1 H3.out.2.1,H3.out.2.1,by simpa using iD w3 _,H3.out.1,H2.out.2.1.grown H3.out.2.1 (by simp),Nat.le_refl _⟩
 case round =>
  obtain ⟨k,e1,e3,rfl,hk,HI⟩:=hrel
  by_cases hlt:k<N
  ·have hkl:k<fs'.length:=by rw [H2.out.2.2.2.1];exact hlt
   obtain ⟨b,off,u,rfl,h1,h2,h3⟩:=t6 H2.out.2.2.1 k hkl
   obtain ⟨ua,uc,eu⟩:=h3.shape
   obtain ⟨ul,hul⟩:∃x,fs'[k].2.length=x:=⟨_,rfl⟩
   rw [hul] at eu
   subst eu
   obtain ⟨kd,hkd⟩:∃x,fs'[k].1=x:=⟨_,rfl⟩
   rw [hkd] at h1
   have c0:=HI.out.2.2.1.cell h1 (by simp)
   have c1:=HI.out.2.2.1.cell h2 (by simp)
   have HF:Hid (Seg wr (.slice ua ul uc) fs'[k].2/\fs'[k].2.length<=1048576/\fs'[k].1=kd):=⟨h3.grown HI.out.2.2.1,by have:=(HS.out.2.2.2.at k hkl).2.2.2;have:=HS.out;omega,hkd⟩
   have i0:(0:Int)<=(k:Int):=by omega
   have i1:(k:Int)<(N:Int):=by omega
   clear h1 h2 h3 hul hkd
   go_wp2_with fail
   refine (t5 kd (.slice ua ul uc) fs'[k].2 wr HF.out.1 HF.out.2.1).mono ?_
   rintro e w4 ⟨g4,hR⟩
   clear c0 c1
   have HG4:Hid (wr.grownBy w4 none):=g4
   clear g4
   have hfk:(kd,fs'[k].2)=fs'[k]:=by rw [<-HF.out.2.2]
   rw [hfk] at hR
   by_cases hkm:k<m
   ·have hkE:k<(az 0 fs').1.length:=by rw [HM.out.1];exact hkm
    have hEE:=gZ fs' 0 k hkE hkl
    rcases hR with ⟨en,ov,he,rfl,oo⟩ | ⟨he,_⟩
    rotate_left
    ·rw [hEE.1] at he;cases he
    rw [hEE.1] at he
    cases he
    obtain ⟨en,hen⟩:∃x,(az 0 fs').1[k]=x:=⟨_,rfl⟩
    rw [hen] at hEE oo ⊢
    obtain ⟨o1,o2,o3,eo,hol⟩:=aC.slice oo
    subst eo
    have HE:Hid (aC w4 w3.heap.size (.slice o1 o2 o3) en.2.ops/\(az 0 fs').1.take (k+1)=(az 0 fs').1.take k ++ [en]):=⟨oo.mono HI.out.2.2.2.2.2.2,by rw [<-hen,List.take_succ_eq_append_getElem hkE]⟩
    have HLE:Hid (k+1<=m/\m<=N/\k<N):=⟨hkm,HM.out.2,hlt⟩
    clear hol oo hen hfk
    simp only [entV,entA]
    go_upto_region 7 with fail
    obtain ⟨w5,hw5,H5⟩:=al1 w4 #[.int .i64 en.1,.int .i64 en.2.kind,.int .i64 en.2.token,.int .i64 en.2.session,.int .i64 en.2.number,.int .i64 en.2.mark,.slice o1 o2 o3] 34
    rw [hw5]
    clear hw5
    obtain ⟨eb,heb⟩:∃x,w4.heap.size=x:=⟨_,rfl⟩
    have HEB:Hid (w4.heap.size=eb):=heb
    rw [heb] at H5 ⊢
    clear heb
    have HI5:Hid (w.grownBy w5 none/\bA w5 w3.heap.size (.slice e1 k e3) ((az 0 fs').1.take k)/\Blk w5 tb 38 #[.slice e1 k e3,.int .i64 gd,.int .i64 n,.int .i64 wy]/\Blk w5 rb 38 #[.slice none 0 0,.int .i64 0,.int .i64 0,.int .i64 0]/\w2.grownBy w5 none/\w3.heap.size<=w5.heap.size):=by
     have g:=aa HG4.out H5.out.2.1
     exact ⟨aa HI.out.2.1 g,HI.out.2.2.2.1.grown g,HI.out.2.2.2.2.1.grown g (by simp),HI.out.2.2.2.2.2.1.grown g (by simp),aa HI.out.2.2.1 g,Nat.le_trans HI.out.2.2.2.2.2.2 g.size⟩
    obtain ⟨tl,htl⟩:∃x,(az 0 fs').1.take k=x:=⟨_,rfl⟩
    have HTL:Hid ((az 0 fs').1.take k=tl/\tl.length=k):=⟨htl,by rw [<-htl,List.length_take];omega⟩
    rw [htl] at HE
    clear htl
    rcases Nat.eq_zero_or_pos k with hk0 | hk0
    ·have s6:((0:Int)<(k:Int))=False:=eq_false (by omega)
     have s7:(0<k)=False:=eq_false (by omega)
     have HCC:Hid (∀y:World,w5.grownBy y none->y.cell? ⟨eb,0,none⟩=some (.int .i64 en.1)/\y.cell? ⟨tb,0,none⟩=some (.slice e1 k e3)):=fun y hy=>⟨(H5.out.1.grown hy (by simp)).cell 0,(HI5.out.2.2.1.grown hy (by simp)).cell 0⟩
     refine wp_region_noPanic ?_
     refine am 1000 (fun y=>w5.grownBy y none) (by kernel_rfl) ?_
     have G0:Hid (w5.grownBy w5.drew none):=af _ _
     generalize w5.drew=wd at G0 ⊢
     have J:Idx [0,1,2,3,4,5]:=trivial
     iterate 6 (refine tK J (G0.out) rfl rfl (fun wk hk=>by obtain ⟨m0,m1⟩:=HCC.out wk hk;go_simp;try rfl) ?_;replace J:=J.tl;try simp only [pN])
     have J:Idx [6,7,8,9,10,11,12,13,14,15,16]:=trivial
     iterate 11 (refine sk J (G0.out) rfl rfl ?_;replace J:=J.tl;try simp only [pN])
     have J:Idx [17,18]:=trivial
     iterate 2 (refine tK J (G0.out) rfl rfl (fun wk hk=>by obtain ⟨m0,m1⟩:=HCC.out wk hk;go_simp;try rfl) ?_;replace J:=J.tl;try simp only [pN])
     refine wD ?_
     refine (‹∀(a:Act) (w:World),Code.wp Tryz.prog _ _ a w->_› _ _ ?_)
     clear hEE HCC s6 s7 hk0
     have HI6:Hid (w.grownBy wd none/\bA wd w3.heap.size (.slice e1 k e3) tl/\Blk wd tb 38 #[.slice e1 k e3,.int .i64 gd,.int .i64 n,.int .i64 wy]/\Blk wd rb 38 #[.slice none 0 0,.int .i64 0,.int .i64 0,.int .i64 0]/\w2.grownBy wd none/\w3.heap.size<=wd.heap.size/\Blk wd eb 34 #[.int .i64 en.1,.int .i64 en.2.kind,.int .i64 en.2.token,.int .i64 en.2.session,.int .i64 en.2.number,.int .i64 en.2.mark,.slice o1 o2 o3]/\aC wd w3.heap.size (.slice o1 o2 o3) en.2.ops):=by
      have h:=HI5.out
      have g:=G0.out
      exact ⟨aa h.1 g,(by rw [<-HTL.out.1];exact h.2.1.grown g),h.2.2.1.grown g (by simp),h.2.2.2.1.grown g (by simp),aa h.2.2.2.2.1 g,Nat.le_trans h.2.2.2.2.2 g.size,H5.out.1.grown g (by simp),(HE.out.1.grown H5.out.2.1).grown g⟩
     obtain ⟨c0,c1,c2,c3⟩:=blk4 HI6.out.2.2.1
     obtain ⟨d0,d1,d2,d3,d4,d5,d6⟩:=blk7 HI6.out.2.2.2.2.2.2.1
     obtain ⟨w6,hw6,H6⟩:=al1 wd #[.int .i64 en.1,.int .i64 en.2.kind,.int .i64 en.2.token,.int .i64 en.2.session,.int .i64 en.2.number,.int .i64 en.2.mark,.slice o1 o2 o3] 34
     have HW6:Hid (wd.alloc (.cells #[.int .i64 en.1,.int .i64 en.2.kind,.int .i64 en.2.token,.int .i64 en.2.session,.int .i64 en.2.number,.int .i64 en.2.mark,.slice o1 o2 o3] 34)=w6):=hw6
     clear hw6
     go_wp2_with (at_builtin;rw [HW6.out];refine kV w6 rfl _ _ rfl w3.heap.size (.slice e1 k e3) tl en o1 o2 o3 wd.heap.size rfl rfl (HI6.out.2.1.grown H6.out.2.1) H6.out.1 (HI6.out.2.2.2.2.2.2.2.grown H6.out.2.1) (by rw [HTL.out.2];have:=hcnt;have:=HLE.out;omega) (by have:=HI6.out.2.2.2.2.2.1;have:=H6.out.2.2;omega) ?_)
     intro g cp w7 hN7 g7 hg7 hl7
     rw [HTL.out.2] at hN7 ⊢
     have H7:Hid (bA w7 w3.heap.size (.slice (some ⟨g,0,none⟩) (k+1) cp) ((az 0 fs').1.take (k+1))/\w.grownBy w7 none/\w2.grownBy w7 none/\Blk w7 tb 38 #[.slice e1 k e3,.int .i64 gd,.int .i64 n,.int .i64 wy]/\Blk w7 rb 38 #[.slice none 0 0,.int .i64 0,.int .i64 0,.int .i64 0]/\w3.heap.size<=w7.heap.size):=by
      have h:=HI6.out
      have he:=h.2.1.grown H6.out.2.1
      have hown:∀x,(Value.slice e1 k e3).ownBlock=some x->w3.heap.size<=x:=fun x hx=>(LRow.lt he x hx).1
      have hz3:=H3.out.2.1.size
      have hz2:=H2.out.1.size
      refine ⟨by rw [HE.out.2];exact hN7,ah (aa h.1 H6.out.2.1) g7 (fun x hx=>by have:=hown x hx;omega),ah (aa h.2.2.2.2.1 H6.out.2.1) g7 (fun x hx=>by have:=hown x hx;omega),?_,?_,by have:=g7.size;have:=H6.out.2.2;omega⟩
      ·exact (h.2.2.1.grown H6.out.2.1 (by simp)).grown g7 (dT he (h.2.2.1.grown H6.out.2.1 (by simp)) (by decide))
      ·exact (h.2.2.2.1.grown H6.out.2.1 (by simp)).grown g7 (dT he (h.2.2.2.1.grown H6.out.2.1 (by simp)) (by decide))
     clear hN7 g7 hg7 hl7 HW6 c0 c1 c2 c3 d0 d1 d2 d3 d4 d5 d6
     obtain ⟨c0,c1,c2,c3⟩:=blk4 H7.out.2.2.2.1
     obtain ⟨f0,f1,f2,f3⟩:=eQ H7.out.2.2.2.1
     go_wp2_with fail
     have gs:=ae w7 tb 0 (.slice (some ⟨g,0,none⟩) (k+1) cp)
     have hb8:Blk (w7.setCell ⟨tb,0,none⟩ (.slice (some ⟨g,0,none⟩) (k+1) cp)) tb 38 #[.slice (some ⟨g,0,none⟩) (k+1) cp,.int .i64 gd,.int .i64 n,.int .i64 wy]:=H7.out.2.2.2.1.store 0 _
     generalize w7.setCell ⟨tb,0,none⟩ (.slice (some ⟨g,0,none⟩) (k+1) cp)=w8 at gs hb8 ⊢
     have htb:=HTB.out
     have hz2:=H2.out.1.size
     refine ⟨⟨k+1,some ⟨g,0,none⟩,cp,by go_num,by have:=HLE.out;omega,HLE.out.1,ah H7.out.2.1 gs (fun x hx=>by simp at hx;omega),ah H7.out.2.2.1 gs (fun x hx=>by simp at hx;omega),H7.out.1.set H7.out.2.2.2.1 (by decide) (by decide) (by decide) gs,hb8,H7.out.2.2.2.2.1.grown gs (by simp;omega),by have:=gs.size;have:=H7.out.2.2.2.2.2;omega⟩,by simp [intOf];have:=HLE.out;omega⟩
    ·obtain ⟨j,hj⟩:∃j,k=j+1:=⟨k-1,by omega⟩
     have hjE:j<((az 0 fs').1.take k).length:=by rw [List.length_take,HM.out.1];have:=HI.out.1;omega
     obtain ⟨gb,of2,q1',q2',q3',hea,hat2,hop2⟩:=dZ HI5.out.2.1.ents j hjE
     subst hea
     have hpv:cT 0 (az 0 fs').1 k=(((az 0 fs').1.take k)[j]'hjE).1:=by
      have h9:j<(az 0 fs').1.length:=by rw [HM.out.1];have:=HI.out.1;omega
      rw [List.getElem_take]
      conv=>lhs;rw [hj]
      simp only [cT]
      rw [List.getElem?_eq_getElem h9]
     obtain ⟨pv,hpv'⟩:∃x,(((az 0 fs').1.take k)[j]'hjE).1=x:=⟨_,rfl⟩
     have hpr:1<=pv/\pv<=4611686018427387904:=by
      have h9:j<(az 0 fs').1.length:=by rw [HM.out.1];have:=HI.out.1;omega
      have h8:=bZ.1 (fj h9).1
      rw [<-hpv',List.getElem_take]
      exact ⟨h8.1,h8.2.1⟩
     have hc9:=hat2.1
     rw [hpv'] at hc9 hpv
     have HCC:Hid (∀y:World,w5.grownBy y none->y.cell? ⟨eb,0,none⟩=some (.int .i64 en.1)/\y.cell? ⟨tb,0,none⟩=some (.slice (some ⟨gb,of2,none⟩) k e3)/\y.cell? ⟨gb,of2+j*7,none⟩=some (.int .i64 pv)):=fun y hy=>⟨(H5.out.1.grown hy (by simp)).cell 0,(HI5.out.2.2.1.grown hy (by simp)).cell 0,hy.cell hc9 (by simp)⟩
     have s1:(k:Int)-1=(j:Int):=by omega
     have s2:IntKind.i64.wrap (j:Int)=(j:Int):=fO (by omega) (by have:=hcnt;omega)
     have s3:IntKind.i64.wrap (pv+1)=pv+1:=by
      unfold IntKind.wrap
      simp [IntKind.bits,IntKind.signed]
      omega
     have s4:(0:Int)<=(j:Int):=by omega
     have s5:(j:Int)<(k:Int):=by omega
     have s6:((0:Int)<(k:Int))=True:=eq_true (by omega)
     have s7:(0<k)=True:=eq_true (by omega)
     have s8:(en.1 != pv+1)=false:=by
      have h9:=hEE.2
      rw [hpv] at h9
      have:en.1=pv+1:=Classical.byContradiction fun hne=>h9 ⟨by omega,hne⟩
      rw [this]
      simp
     clear hEE hpv hpv' hpr hc9 hat2 hop2 hj
     refine wp_region_noPanic ?_
     refine am 1000 (fun y=>w5.grownBy y none) (by kernel_rfl) ?_
     have G0:Hid (w5.grownBy w5.drew none):=af _ _
     generalize w5.drew=wd at G0 ⊢
     have J:Idx [0,1,2,3,4,5,6,7,8,9,10,11,12,13,14,15,16,17,18]:=trivial
     iterate 19 (refine tK J (G0.out) rfl rfl (fun wk hk=>by obtain ⟨m0,m1,m2⟩:=HCC.out wk hk;go_simp;try rfl) ?_;replace J:=J.tl;try simp only [pN])
     refine wD ?_
     refine (‹∀(a:Act) (w:World),Code.wp Tryz.prog _ _ a w->_› _ _ ?_)
     clear HCC s1 s2 s3 s4 s5 s6 s7 s8 hk0
     have HI6:Hid (w.grownBy wd none/\bA wd w3.heap.size (.slice (some ⟨gb,of2,none⟩) k e3) tl/\Blk wd tb 38 #[.slice (some ⟨gb,of2,none⟩) k e3,.int .i64 gd,.int .i64 n,.int .i64 wy]/\Blk wd rb 38 #[.slice none 0 0,.int .i64 0,.int .i64 0,.int .i64 0]/\w2.grownBy wd none/\w3.heap.size<=wd.heap.size/\Blk wd eb 34 #[.int .i64 en.1,.int .i64 en.2.kind,.int .i64 en.2.token,.int .i64 en.2.session,.int .i64 en.2.number,.int .i64 en.2.mark,.slice o1 o2 o3]/\aC wd w3.heap.size (.slice o1 o2 o3) en.2.ops):=by
      have h:=HI5.out
      have g:=G0.out
      exact ⟨aa h.1 g,(by rw [<-HTL.out.1];exact h.2.1.grown g),h.2.2.1.grown g (by simp),h.2.2.2.1.grown g (by simp),aa h.2.2.2.2.1 g,Nat.le_trans h.2.2.2.2.2 g.size,H5.out.1.grown g (by simp),(HE.out.1.grown H5.out.2.1).grown g⟩
     obtain ⟨c0,c1,c2,c3⟩:=blk4 HI6.out.2.2.1
     obtain ⟨d0,d1,d2,d3,d4,d5,d6⟩:=blk7 HI6.out.2.2.2.2.2.2.1
     obtain ⟨w6,hw6,H6⟩:=al1 wd #[.int .i64 en.1,.int .i64 en.2.kind,.int .i64 en.2.token,.int .i64 en.2.session,.int .i64 en.2.number,.int .i64 en.2.mark,.slice o1 o2 o3] 34
     have HW6:Hid (wd.alloc (.cells #[.int .i64 en.1,.int .i64 en.2.kind,.int .i64 en.2.token,.int .i64 en.2.session,.int .i64 en.2.number,.int .i64 en.2.mark,.slice o1 o2 o3] 34)=w6):=hw6
     clear hw6
     go_wp2_with (at_builtin;rw [HW6.out];refine kV w6 rfl _ _ rfl w3.heap.size (.slice (some ⟨gb,of2,none⟩) k e3) tl en o1 o2 o3 wd.heap.size rfl rfl (HI6.out.2.1.grown H6.out.2.1) H6.out.1 (HI6.out.2.2.2.2.2.2.2.grown H6.out.2.1) (by rw [HTL.out.2];have:=hcnt;have:=HLE.out;omega) (by have:=HI6.out.2.2.2.2.2.1;have:=H6.out.2.2;omega) ?_)
     intro g cp w7 hN7 g7 hg7 hl7
     rw [HTL.out.2] at hN7 ⊢
     have H7:Hid (bA w7 w3.heap.size (.slice (some ⟨g,0,none⟩) (k+1) cp) ((az 0 fs').1.take (k+1))/\w.grownBy w7 none/\w2.grownBy w7 none/\Blk w7 tb 38 #[.slice (some ⟨gb,of2,none⟩) k e3,.int .i64 gd,.int .i64 n,.int .i64 wy]/\Blk w7 rb 38 #[.slice none 0 0,.int .i64 0,.int .i64 0,.int .i64 0]/\w3.heap.size<=w7.heap.size):=by
      have h:=HI6.out
      have he:=h.2.1.grown H6.out.2.1
      have hown:∀x,(Value.slice (some ⟨gb,of2,none⟩) k e3).ownBlock=some x->w3.heap.size<=x:=fun x hx=>(LRow.lt he x hx).1
      have hz3:=H3.out.2.1.size
      have hz2:=H2.out.1.size
      refine ⟨by rw [HE.out.2];exact hN7,ah (aa h.1 H6.out.2.1) g7 (fun x hx=>by have:=hown x hx;omega),ah (aa h.2.2.2.2.1 H6.out.2.1) g7 (fun x hx=>by have:=hown x hx;omega),?_,?_,by have:=g7.size;have:=H6.out.2.2;omega⟩
      ·exact (h.2.2.1.grown H6.out.2.1 (by simp)).grown g7 (dT he (h.2.2.1.grown H6.out.2.1 (by simp)) (by decide))
      ·exact (h.2.2.2.1.grown H6.out.2.1 (by simp)).grown g7 (dT he (h.2.2.2.1.grown H6.out.2.1 (by simp)) (by decide))
     clear hN7 g7 hg7 hl7 HW6 c0 c1 c2 c3 d0 d1 d2 d3 d4 d5 d6
     obtain ⟨c0,c1,c2,c3⟩:=blk4 H7.out.2.2.2.1
     obtain ⟨f0,f1,f2,f3⟩:=eQ H7.out.2.2.2.1
     go_wp2_with fail
     have gs:=ae w7 tb 0 (.slice (some ⟨g,0,none⟩) (k+1) cp)
     have hb8:Blk (w7.setCell ⟨tb,0,none⟩ (.slice (some ⟨g,0,none⟩) (k+1) cp)) tb 38 #[.slice (some ⟨g,0,none⟩) (k+1) cp,.int .i64 gd,.int .i64 n,.int .i64 wy]:=H7.out.2.2.2.1.store 0 _
     generalize w7.setCell ⟨tb,0,none⟩ (.slice (some ⟨g,0,none⟩) (k+1) cp)=w8 at gs hb8 ⊢
     have htb:=HTB.out
     have hz2:=H2.out.1.size
     refine ⟨⟨k+1,some ⟨g,0,none⟩,cp,by go_num,by have:=HLE.out;omega,HLE.out.1,ah H7.out.2.1 gs (fun x hx=>by simp at hx;omega),ah H7.out.2.2.1 gs (fun x hx=>by simp at hx;omega),H7.out.1.set H7.out.2.2.2.1 (by decide) (by decide) (by decide) gs,hb8,H7.out.2.2.2.2.1.grown gs (by simp;omega),by have:=gs.size;have:=H7.out.2.2.2.2.2;omega⟩,by simp [intOf];have:=HLE.out;omega⟩
   ·have hkM:k=(az 0 fs').1.length:=by rw [HM.out.1];have:=HI.out.1;omega
    have HBAD:Hid ((az 0 fs').2=false):=by
     cases h:(az 0 fs').2 with
     | false=>exact (rfl:false=false)
     | true=>have:=(dm fs' 0).1 h;omega
    have hB:=jx fs' 0 (by rw [<-hkM];exact hkl)
    rw [show fs'[(az 0 fs').1.length]'(by rw [<-hkM];exact hkl)=fs'[k] from by congr 1;exact hkM.symm] at hB
    rw [<-hkM] at hB
    clear hkm hfk
    rcases hR with ⟨en,ov,he,rfl,oo⟩ | ⟨he,en,o1,o2,o3,rfl⟩
    ·obtain ⟨o1,o2,o3,eo,hol⟩:=aC.slice oo
     subst eo
     clear oo hol
     rcases hB with hB | ⟨en',he',hp1,hp2⟩
     ·rw [hB] at he;cases he
     rw [he] at he'
     cases he'
     clear he
     obtain ⟨j,hj⟩:∃j,k=j+1:=by
      cases k with
      | zero=>simp [cT] at hp1
      | succ j=>exact ⟨j,rfl⟩
     have h9:j<(az 0 fs').1.length:=by omega
     have hjE:j<((az 0 fs').1.take k).length:=by rw [List.length_take];omega
     have hpv:cT 0 (az 0 fs').1 k=(((az 0 fs').1.take k)[j]'hjE).1:=by
      rw [List.getElem_take]
      conv=>lhs;rw [hj]
      simp only [cT]
      rw [List.getElem?_eq_getElem h9]
     obtain ⟨pv,hpv'⟩:∃x,(((az 0 fs').1.take k)[j]'hjE).1=x:=⟨_,rfl⟩
     have hpr:1<=pv/\pv<=4611686018427387904:=by
      have h8:=bZ.1 (fj h9).1
      rw [<-hpv',List.getElem_take]
      exact ⟨h8.1,h8.2.1⟩
     rw [hpv,hpv'] at hp1 hp2
     clear hkM
     simp only [entV,entA]
     go_upto_region 7 with fail
     obtain ⟨w5,hw5,H5⟩:=al1 w4 #[.int .i64 en.1,.int .i64 en.2.kind,.int .i64 en.2.token,.int .i64 en.2.session,.int .i64 en.2.number,.int .i64 en.2.mark,.slice o1 o2 o3] 34
     rw [hw5]
     clear hw5
     obtain ⟨eb,heb⟩:∃x,w4.heap.size=x:=⟨_,rfl⟩
     have HEB:Hid (w4.heap.size=eb):=heb
     rw [heb] at H5 ⊢
     clear heb
     have HI5:Hid (w.grownBy w5 none/\bA w5 w3.heap.size (.slice e1 k e3) ((az 0 fs').1.take k)/\Blk w5 tb 38 #[.slice e1 k e3,.int .i64 gd,.int .i64 n,.int .i64 wy]/\Blk w5 rb 38 #[.slice none 0 0,.int .i64 0,.int .i64 0,.int .i64 0]):=by
      have g:=aa HG4.out H5.out.2.1
      exact ⟨aa HI.out.2.1 g,HI.out.2.2.2.1.grown g,HI.out.2.2.2.2.1.grown g (by simp),HI.out.2.2.2.2.2.1.grown g (by simp)⟩
     obtain ⟨gb,of2,q1',q2',q3',hea,hat2,hop2⟩:=dZ HI5.out.2.1.ents j hjE
     subst hea
     have hc9:=hat2.1
     rw [hpv'] at hc9
     have HCC:Hid (∀y:World,w5.grownBy y none->y.cell? ⟨eb,0,none⟩=some (.int .i64 en.1)/\y.cell? ⟨tb,0,none⟩=some (.slice (some ⟨gb,of2,none⟩) k e3)/\y.cell? ⟨gb,of2+j*7,none⟩=some (.int .i64 pv)):=fun y hy=>⟨(H5.out.1.grown hy (by simp)).cell 0,(HI5.out.2.2.1.grown hy (by simp)).cell 0,hy.cell hc9 (by simp)⟩
     have s1:(k:Int)-1=(j:Int):=by omega
     have s2:IntKind.i64.wrap (j:Int)=(j:Int):=fO (by omega) (by have:=hcnt;omega)
     have s3:IntKind.i64.wrap (pv+1)=pv+1:=by
      unfold IntKind.wrap
      simp [IntKind.bits,IntKind.signed]
      omega
     have s4:(0:Int)<=(j:Int):=by omega
     have s5:(j:Int)<(k:Int):=by omega
     have s6:((0:Int)<(k:Int))=True:=eq_true (by omega)
     have s7:(0<k)=True:=eq_true (by omega)
     have s8:(en.1 != pv+1)=true:=by simpa using hp2
     clear hp1 hp2 hpv hpv' hpr hc9 hat2 hop2 hj h9
     refine wp_region_noPanic ?_
     refine am 1000 (fun y=>w5.grownBy y none) (by kernel_rfl) ?_
     have G0:Hid (w5.grownBy w5.drew none):=af _ _
     generalize w5.drew=wd at G0 ⊢
     have J:Idx [0,1,2,3,4,5,6,7,8,9,10,11,12,13,14,15,16,17,18]:=trivial
     iterate 19 (refine tK J (G0.out) rfl rfl (fun wk hk=>by obtain ⟨m0,m1,m2⟩:=HCC.out wk hk;go_simp;try rfl) ?_;replace J:=J.tl;try simp only [pN])
     refine wD ?_
     refine (‹∀(a:Act) (w:World),Code.wp Tryz.prog _ _ a w->_› _ _ ?_)
     clear HCC s1 s2 s3 s4 s5 s6 s7 s8
     have HI6:Hid (w.grownBy wd none/\Blk wd rb 38 #[.slice none 0 0,.int .i64 0,.int .i64 0,.int .i64 0]):=⟨aa HI5.out.1 G0.out,HI5.out.2.2.2.grown G0.out (by simp)⟩
     obtain ⟨c0,c1,c2,c3⟩:=blk4 HI6.out.2
     obtain ⟨f0,f1,f2,f3⟩:=eQ HI6.out.2
     go_wp2_with fail
     obtain ⟨W4,hW4,H4⟩:=set4 HI6.out.2 (.slice none 0 0) (.int .i64 0) (.int .i64 0) (.int .i64 0)
     rw [hW4]
     clear hW4 c0 c1 c2 c3 f0 f1 f2 f3
     obtain ⟨c0,c1,c2,c3⟩:=blk4 H4.out.1
     exact bodyPost_ret (v:=.tuple #[.agg #[.slice none 0 0,.int .i64 0,.int .i64 0,.int .i64 0],.int .i64 8]) (by simp [results,Tryz.results16,go_sem,c0,c1,c2,c3]) rfl ⟨ah HI6.out.1 H4.out.2 (fun x hx=>by simp at hx;have:=HR.out;omega),.inr ⟨HBAD.out,rfl⟩⟩
    ·clear hB he hkM
     simp only [entV,entA]
     go_upto_region 7 with fail
     obtain ⟨w5,hw5,H5⟩:=al1 w4 #[.int .i64 en.1,.int .i64 en.2.kind,.int .i64 en.2.token,.int .i64 en.2.session,.int .i64 en.2.number,.int .i64 en.2.mark,.slice o1 o2 o3] 34
     rw [hw5]
     clear hw5
     obtain ⟨eb,heb⟩:∃x,w4.heap.size=x:=⟨_,rfl⟩
     have HEB:Hid (w4.heap.size=eb):=heb
     rw [heb] at H5 ⊢
     clear heb
     have HI5:Hid (w.grownBy w5 none/\bA w5 w3.heap.size (.slice e1 k e3) ((az 0 fs').1.take k)/\Blk w5 tb 38 #[.slice e1 k e3,.int .i64 gd,.int .i64 n,.int .i64 wy]/\Blk w5 rb 38 #[.slice none 0 0,.int .i64 0,.int .i64 0,.int .i64 0]):=by
      have g:=aa HG4.out H5.out.2.1
      exact ⟨aa HI.out.2.1 g,HI.out.2.2.2.1.grown g,HI.out.2.2.2.2.1.grown g (by simp),HI.out.2.2.2.2.2.1.grown g (by simp)⟩
     refine wp_region_noPanic ?_
     refine am 1000 (fun y=>w5.grownBy y none) (by kernel_rfl) ?_
     have G0:Hid (w5.grownBy w5.drew none):=af _ _
     generalize w5.drew=wd at G0 ⊢
     have J:Idx [0,1,2]:=trivial
     iterate 3 (refine tK J (G0.out) rfl rfl (fun wk hk=>by skip;go_simp;try rfl) ?_;replace J:=J.tl;try simp only [pN])
     have J:Idx [3,4,5,6,7,8,9,10,11,12,13,14,15,16,17]:=trivial
     iterate 15 (refine sk J (G0.out) rfl rfl ?_;replace J:=J.tl;try simp only [pN])
     have J:Idx [18]:=trivial
     iterate 1 (refine tK J (G0.out) rfl rfl (fun wk hk=>by skip;go_simp;try rfl) ?_;replace J:=J.tl;try simp only [pN])
     refine wD ?_
     refine (‹∀(a:Act) (w:World),Code.wp Tryz.prog _ _ a w->_› _ _ ?_)
     have HI6:Hid (w.grownBy wd none/\Blk wd rb 38 #[.slice none 0 0,.int .i64 0,.int .i64 0,.int .i64 0]):=⟨aa HI5.out.1 G0.out,HI5.out.2.2.2.grown G0.out (by simp)⟩
     obtain ⟨c0,c1,c2,c3⟩:=blk4 HI6.out.2
     obtain ⟨f0,f1,f2,f3⟩:=eQ HI6.out.2
     go_wp2_with fail
     obtain ⟨W4,hW4,H4⟩:=set4 HI6.out.2 (.slice none 0 0) (.int .i64 0) (.int .i64 0) (.int .i64 0)
     rw [hW4]
     clear hW4 c0 c1 c2 c3 f0 f1 f2 f3
     obtain ⟨c0,c1,c2,c3⟩:=blk4 H4.out.1
     exact bodyPost_ret (v:=.tuple #[.agg #[.slice none 0 0,.int .i64 0,.int .i64 0,.int .i64 0],.int .i64 8]) (by simp [results,Tryz.results16,go_sem,c0,c1,c2,c3]) rfl ⟨ah HI6.out.1 H4.out.2 (fun x hx=>by simp at hx;have:=HR.out;omega),.inr ⟨HBAD.out,rfl⟩⟩
  ·have hkN:k=N:=by omega
   subst hkN
   have hmk:m=k:=by have:=HM.out;have:=HI.out.1;omega
   have hall:(az 0 fs').2=true:=(dm fs' 0).2 (by rw [HM.out.1,H2.out.2.2.2.1];exact hmk)
   have htk:(az 0 fs').1.take k=(az 0 fs').1:=List.take_of_length_le (by rw [HM.out.1];omega)
   have HE:Hid ((az 0 fs').2=true/\bA wr w.heap.size (.slice e1 k e3) (az 0 fs').1):=⟨hall,by have h:=HI.out.2.2.2.1;rw [htk] at h;exact h.mono (by have:=H3.out.2.1.size;have:=H2.out.1.size;omega)⟩
   clear hall htk hmk hlt
   obtain ⟨c0,c1,c2,c3⟩:=blk4 HI.out.2.2.2.2.1
   obtain ⟨d0,d1,d2,d3⟩:=blk4 HI.out.2.2.2.2.2.1
   obtain ⟨f0,f1,f2,f3⟩:=eQ HI.out.2.2.2.2.2.1
   go_wp2_with fail
   obtain ⟨W4,hW4,H4⟩:=set4 HI.out.2.2.2.2.2.1 (.slice e1 k e3) (.int .i64 gd) (.int .i64 n) (.int .i64 wy)
   rw [hW4]
   clear hW4 c0 c1 c2 c3 d0 d1 d2 d3 f0 f1 f2 f3
   obtain ⟨c0,c1,c2,c3⟩:=blk4 H4.out.1
   have q1:=H2.out.2.2.2.2
   have q2:=HS.out.2.2.1
   refine bodyPost_ret (v:=.tuple #[.agg #[.slice e1 k e3,.int .i64 gd,.int .i64 n,.int .i64 wy],.int .i64 0]) (by simp [results,Tryz.results16,go_sem,c0,c1,c2,c3]) rfl ⟨ah HI.out.2.1 H4.out.2 (fun x hx=>by simp at hx;have:=HR.out;omega),.inl ⟨HE.out.1,_,by rw [q1.1,q1.2,q2],HE.out.2.set HI.out.2.2.2.2.2.1 (by decide) (by decide) (by decide) H4.out.2⟩⟩
end Go.Proofs.YtadhfejefpildaaGreat
