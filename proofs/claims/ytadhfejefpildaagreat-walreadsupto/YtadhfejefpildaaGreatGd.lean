import Derived.Test.YtadhfejefpildaaGreatGb
set_option maxHeartbeats 8000000
set_option maxRecDepth 100000
namespace Go.Proofs.YtadhfejefpildaaGreat
open Go.RowKit Disk Table
open _root_.Go.Proofs.YtadhfejefpildaaGreat.Calls
open _root_.Go.Proofs.YtadhfejefpildaaGreat.Command
open _root_.Go.Proofs.YtadhfejefpildaaGreat.Frame (Frs)
def NumR (_:World)(x:List Value)(e:Int):Prop:=x=[.int .i64 e]
theorem numR_stab:Stab (fun _=>False) NumR:=⟨fun _ _ _ _ h _=>h,fun _ _ _ _ _ _ _ h _ _ _=>h⟩
def NumsO (w:World)(B:Nat)(v:Value)(l:List Int):Prop:=LRow 3 1 NumR w B v l
theorem NumsO.grown {w w':World}{B:Nat}{v:Value}{l:List Int}(h:NumsO w B v l)(hg:w.grownBy w' none):NumsO w' B v l:=LRow.grown h numR_stab hg
theorem NumsO.set {w w':World}{B x t':Nat}{v:Value}{l:List Int}{cc:Array Value}(h:NumsO w B v l)(hx:Blk w x t' cc)(h1:t'≠3)(hg:w.grownBy w' (some x)):NumsO w' B v l:=LRow.set h numR_stab hx h1 (fun e=>e) hg
theorem numsO_nil (w:World)(B:Nat):NumsO w B (.slice none 0 0) []:=lrow_nil w B
theorem NumsO.mono {w:World}{B B':Nat}{v:Value}{l:List Int}(h:NumsO w B v l)(hB:B'<=B):NumsO w B' v l:=LRow.mono h hB
theorem NumsO.cell {w:World}{B:Nat}{v:Value}{l:List Int}(h:NumsO w B v l)(j:Nat)(hj:j<l.length):∃g cap,v=.slice (some ⟨g,0,none⟩) l.length cap/\w.cell? ⟨g,j,none⟩=some (.int .i64 l[j]):=by
 obtain ⟨vs,h1,h2,h3,h4⟩:=h
 have hjv:j<vs.length:=by omega
 have hR:=h4 j hjv hj
 have hfl:vs.flatten=l.map (fun e=>Value.int .i64 e):=by
  clear h1 h3 hR hjv hj
  induction vs generalizing l with
  | nil=>cases l with
   | nil=>rfl
   | cons _ _=>simp at h2
  | cons x vs ih=>cases l with
   | nil=>simp at h2
   | cons e l =>
    have h5:=h4 0 (by simp) (by simp)
    simp only [List.getElem_cons_zero,NumR] at h5
    subst h5
    simp only [List.flatten_cons,List.map_cons,List.singleton_append,List.cons.injEq,true_and]
    exact ih (by simpa using h2) (fun i a b=>by have h:=h4 (i+1) (by simpa using a) (by simpa using b);simp only [List.getElem_cons_succ] at h;exact h)
 rw [hfl] at h1
 rcases id h1.2 with ⟨_,h0⟩ | ⟨g,cap,cur,e,_⟩
 ·omega
 ·subst e
  refine ⟨g,cap,rfl,?_⟩
  have:=h1.cellAt j (by simpa using hj)
  rw [this]
  simp [hj]
theorem NumsO.beside {w w':World}{B B':Nat}{v u:Value}{l:List Int}{E:List PEnt}(h:NumsO w B v l)(he:EntsO w B' u E)(hg:w.grownBy w' u.ownBlock):NumsO w' B v l:=by
 cases hu:u.ownBlock with
 | none=>rw [hu] at hg;exact h.grown hg
 | some k =>
  obtain ⟨vs,h1,_⟩:=id he
  obtain ⟨cur,hb⟩:=owns_blk h1 hu
  rw [hu] at hg
  exact h.set hb (by decide) hg
theorem EntsO.beside {w w':World}{B B':Nat}{v u:Value}{l:List Int}{E:List PEnt}(he:EntsO w B' u E)(h:NumsO w B v l)(hg:w.grownBy w' v.ownBlock):EntsO w' B' u E:=by
 cases hu:v.ownBlock with
 | none=>rw [hu] at hg;exact he.grown hg
 | some k =>
  obtain ⟨vs,h1,_⟩:=id h
  obtain ⟨cur,hb⟩:=owns_blk h1 hu
  rw [hu] at hg
  exact he.set hb (by decide) (by decide) (by decide) hg
theorem info3:(Tryz.prog.info? 3).map (fun i=>(i.zero,i.size,i.bytes))=some (some (.int .i64 0),1,8):=by kernel_rfl
theorem ut56:Tryz.prog.underlying 56=some (.slice 3):=by kernel_rfl
theorem appI_wp {o:Oper}{a:Act}{K:Act->World->Prop}{Q:Exit->Act->World->Prop}(w:World)(s x:Operand)(ho:o.op=.call { callee:=.builtin .append,args:=#[s,x],argTypes:=#[56,56] })
  (B:Nat) (v:Value) (l:List Int) (e:Int) (g:Nat) (hs:a.eval s=v) (hx:a.eval x=.slice (some ⟨g,0,none⟩) 1 1) (hrow:NumsO w B v l) (hc:Blk w g 3 #[.int .i64 e]) (hb:l.length<=1000000) (hB:B<=w.heap.size)
  (h:∀g' cap' w',NumsO w' B (.slice (some ⟨g',0,none⟩) (l.length+1) cap') (l ++ [e])->w.grownBy w' v.ownBlock->(v.ownBlock=some g'\/g'=w.heap.size)->g'<w'.heap.size->K (a.put o.dst (.slice (some ⟨g',0,none⟩) (l.length+1) cap')) w'):o.wp Tryz.prog a w K Q:=by
 obtain ⟨i0,hi,hz0,hz1,hz2⟩:=info_parts info3
 obtain ⟨vs,h1,h2,h3,h4⟩:=hrow
 have q0:=hc.cell 0
 refine wp_append_lies w s x 56 ho B 3 i0 _ 1 8 ut56 hi hz0 hz1 hz2 rfl (by decide) v l.length vs.flatten hs h1 ⟨g,0,none⟩ 1 1 [.int .i64 e] hx rfl ?_ ?_ (by decide) (by unfold maxLen;omega) (by omega) hB w.heap.size rfl ?_
 ·intro j y hj
  rw [add_addr]
  match j,hj with
  | 0,hj=>simp at hj;subst hj;exact q0
  | j+1,hj=>simp at hj
 ·intro y hy
  simp at hy
  subst hy
  rfl
 ·intro g' cap' w' r2 r3 r4 r5
  exact h g' cap' w' (LRow.snoc numR_stab (fun e=>e) h1 h2 h3 h4 rfl rfl r3 r2) r3 r4 r5
theorem appI_at {ops:Array Oper}{rest:List Oper}{o:Oper}{a:Act}{Q:Exit->Act->World->Prop}(w:World)(hw:Region.wanted o (yielded ops a.tmps)=true)(s x:Operand)(ho:o.op=.call { callee:=.builtin .append,args:=#[s,x],argTypes:=#[56,56] })
  (B:Nat) (v:Value) (l:List Int) (e:Int) (g:Nat) (hs:a.eval s=v) (hx:a.eval x=.slice (some ⟨g,0,none⟩) 1 1) (hrow:NumsO w B v l) (hc:Blk w g 3 #[.int .i64 e]) (hb:l.length<=1000000) (hB:B<=w.heap.size)
  (h:∀g' cap' w',NumsO w' B (.slice (some ⟨g',0,none⟩) (l.length+1) cap') (l ++ [e])->w.grownBy w' v.ownBlock->(v.ownBlock=some g'\/g'=w.heap.size)->g'<w'.heap.size->wpList Tryz.prog ops Q rest (a.put o.dst (.slice (some ⟨g',0,none⟩) (l.length+1) cap')) w'):wpList Tryz.prog ops Q (o :: rest) a w :=
 BigFrame.wpList_want hw fun _ hK=>appI_wp w s x ho B v l e g hs hx hrow hc hb hB fun g' cap' w' h1 h2 h3 h4=>hK _ _ (h g' cap' w' h1 h2 h3 h4)
def places (fs:Frs)(k:Nat):List Int:=(List.range k).map fun j=>(placeE fs j:Int)
theorem places_len (fs:Frs)(k:Nat):(places fs k).length=k:=by simp [places]
theorem places_succ (fs:Frs)(k:Nat):places fs (k+1)=places fs k ++ [(placeE fs k:Int)]:=by simp [places,List.range_succ]
theorem places_at (fs:Frs)(k j:Nat)(h:j<(places fs k).length):(places fs k)[j]=(placeE fs j:Int):=by simp [places]
def FrontP (fs:Frs)(w:World)(x:Ending)(w':World):Prop:=w.grownBy w' none/\∃v u,x=.returned (.tuple #[v,u])/\EntsO w' w.heap.size v (entsL 0 fs).1/\NumsO w' w.heap.size u (places fs (entsL 0 fs).1.length)
theorem front20 (v:Value)(L:Bs)(fs:Frs)(R:Bs)(w:World)(hs:Seg w v L)(hsc:Frame.Sc L fs R)(hL:L.length<=1048576):Calls Tryz.prog 20 #[v] w (FrontP fs w):=by
 obtain ⟨ao,cap,e⟩:=hs.shape
 obtain ⟨n,hn⟩:∃n,L.length=n:=⟨_,rfl⟩
 rw [hn] at e
 subst e
 have HS:Hid (Seg w (.slice ao n cap) L/\L.length<=1048576/\L.length=n/\Frame.Sc L fs R):=⟨hs,hL,hn,hsc⟩
 clear hs hL hn hsc
 go_enter Tryz.func20,Tryz.ntmps20
 go_wp2_with fail
 refine (Frame.refscan14 (.slice ao n cap) L w HS.out.1 (by have:=HS.out;omega)).mono ?_
 rintro e w2 ⟨fs',R',vl,vs,hsc',rfl,hfr,g2⟩
 have hun:=Frame.sc_unique fs' hsc' HS.out.2.2.2
 obtain ⟨rfl,rfl⟩:=hun
 have hcnt:fs'.length<=120000:=by have:=hsc'.count;have:=HS.out;omega
 have hfs:=frow_seg hfr (by omega)
 obtain ⟨la,lc,el⟩:=hfs.shape
 obtain ⟨N,hN⟩:∃x,fs'.length=x:=⟨_,rfl⟩
 rw [hN] at el hcnt
 subst el
 obtain ⟨gd,hgd⟩:∃x,(Frame.flat fs').length=x:=⟨_,rfl⟩
 obtain ⟨wy,hwy⟩:∃x,Frame.ends R'=x:=⟨_,rfl⟩
 rw [hgd,hwy]
 have H2:Hid (w.grownBy w2 none/\Frame.FSeg w2 (.slice la N lc) fs'/\fs'.length=N):=⟨g2,hfs,hN⟩
 clear hsc' hfr g2 hfs hN hgd hwy
 obtain ⟨m,hm⟩:∃x,(entsL 0 fs').1.length=x:=⟨_,rfl⟩
 have HM:Hid ((entsL 0 fs').1.length=m/\m<=N):=⟨hm,by rw [<-hm,<-H2.out.2.2];exact ents_le fs' 0⟩
 clear hm
 have HFIN:Hid (∀(k:Nat) (e1:Option Addr) (e3:Nat) (p1:Option Addr) (p3:Nat) (W:World),k=(entsL 0 fs').1.length->w2.grownBy W none->EntsO W w2.heap.size (.slice e1 k e3) ((entsL 0 fs').1.take k)->NumsO W w2.heap.size (.slice p1 k p3) (places fs' k)->FrontP fs' w (.returned (.tuple #[.slice e1 k e3,.slice p1 k p3])) W):=by
  intro k e1 e3 p1 p3 W hk hg he hn
  have hz:=H2.out.1.size
  rw [hk,List.take_length] at he
  rw [hk] at hn
  rw [hk]
  exact ⟨grown_trans H2.out.1 hg,_,_,rfl,he.mono hz,hn.mono hz⟩
 go_wp2_with fail
 go_loopw [7,8,9,10] (fun t7 t8 t9 t10 wr=>∃(k:Nat) (e1:Option Addr) (e3:Nat) (p1:Option Addr) (p3:Nat) (pl:Nat),t10=.int .i64 (k:Int)/\t7=.slice e1 k e3/\t8=.slice p1 k p3/\t9=.int .i64 (pl:Int)/\k<=N/\Hid (k<=m/\placeE fs' k=pl/\w2.grownBy wr none/\EntsO wr w2.heap.size (.slice e1 k e3) ((entsL 0 fs').1.take k)/\NumsO wr w2.heap.size (.slice p1 k p3) (places fs' k)/\w2.heap.size<=wr.heap.size)) (fun _ _ _ t10 _=>N-(intOf t10).toNat)
 case atStart=>exact ⟨0,none,0,none,0,0,rfl,rfl,rfl,rfl,Nat.zero_le _,Nat.zero_le _,rfl,⟨rfl,rfl,rfl,Nat.le_refl _,fun _ _ _=>rfl⟩,by simpa using entsO_nil w2 _,by simpa [places] using numsO_nil w2 _,Nat.le_refl _⟩
 case round =>
  obtain ⟨k,e1,e3,p1,p3,pl,rfl,rfl,rfl,rfl,hk,HI⟩:=hrel
  by_cases hlt:k<N
  ·have hkl:k<fs'.length:=by rw [H2.out.2.2];exact hlt
   obtain ⟨b,off,u,rfl,h1,h2,h3⟩:=fseg_at H2.out.2.1 k hkl
   obtain ⟨ua,uc,eu⟩:=h3.shape
   obtain ⟨ul,hul⟩:∃x,fs'[k].2.length=x:=⟨_,rfl⟩
   rw [hul] at eu
   subst eu
   obtain ⟨kd,hkd⟩:∃x,fs'[k].1=x:=⟨_,rfl⟩
   rw [hkd] at h1
   have c0:=HI.out.2.2.1.cell h1 (by simp)
   have c1:=HI.out.2.2.1.cell h2 (by simp)
   have HF:Hid (Seg wr (.slice ua ul uc) fs'[k].2/\fs'[k].2.length<=1048576/\fs'[k].1=kd/\fs'[k].2.length=ul/\(∀y,w2.grownBy y none->y.cell? ⟨b,off+k*2,none⟩=some (.int .i64 kd)/\y.cell? ⟨b,off+k*2+1,none⟩=some (.slice ua ul uc)/\Seg y (.slice ua ul uc) fs'[k].2)/\placeE fs' (k+1)=pl+(9+ul)/\pl+(9+ul)<=2000000/\∃kn:Nat,kd=(kn:Int)/\kn<256):=by
    have ha:=HS.out.2.2.2.at k hkl
    have hp:=Frame.flat_take_len fs' k hkl
    have hpl:(Frame.flat (fs'.take k)).length=pl:=HI.out.2.1
    refine ⟨h3.grown HI.out.2.2.1,by have:=ha.2.2.2;have:=HS.out;omega,hkd,hul,fun y hy=>⟨hy.cell h1 (by simp),hy.cell h2 (by simp),h3.grown hy⟩,by unfold placeE;omega,by have:=ha.2.2.2;have:=HS.out;omega,_,hkd.symm.trans ha.2.1.symm,Frame.kindOf_lt _⟩
   have i0:(0:Int)<=(k:Int):=by omega
   have i1:(k:Int)<(N:Int):=by omega
   clear h1 h2 h3 hul hkd
   go_wp2_with fail
   refine (readD49 kd (.slice ua ul uc) fs'[k].2 wr HF.out.1 HF.out.2.1).mono ?_
   rintro e w4 ⟨g4,hR⟩
   clear c0 c1
   have HG4:Hid (wr.grownBy w4 none):=g4
   clear g4
   have hfk:(kd,fs'[k].2)=fs'[k]:=by rw [<-HF.out.2.2.1]
   rw [hfk] at hR
   by_cases hkm:k<m
   ·have hkE:k<(entsL 0 fs').1.length:=by rw [HM.out.1];exact hkm
    have hEE:=ents_at fs' 0 k hkE hkl
    rcases hR with ⟨en,ov,he,rfl,oo⟩ | ⟨he,_⟩
    rotate_left
    ·rw [hEE.1] at he;cases he
    rw [hEE.1] at he
    cases he
    obtain ⟨en,hen⟩:∃x,(entsL 0 fs').1[k]=x:=⟨_,rfl⟩
    rw [hen] at hEE oo ⊢
    obtain ⟨o1,o2,o3,eo,hol⟩:=OpsOwn.slice oo
    subst eo
    have HE:Hid (OpsOwn w4 w2.heap.size (.slice o1 o2 o3) en.2.ops/\(entsL 0 fs').1.take (k+1)=(entsL 0 fs').1.take k ++ [en]):=⟨oo.mono HI.out.2.2.2.2.2,by rw [<-hen,List.take_succ_eq_append_getElem hkE]⟩
    have HLE:Hid (k+1<=m/\m<=N/\k<N):=⟨hkm,HM.out.2,hlt⟩
    clear hol oo hen hfk
    simp only [entV,entA]
    go_upto_region 9 with fail
    obtain ⟨w5,hw5,H5⟩:=al1 w4 #[.int .i64 en.1,.int .i64 en.2.kind,.int .i64 en.2.token,.int .i64 en.2.session,.int .i64 en.2.number,.int .i64 en.2.mark,.slice o1 o2 o3] 34
    rw [hw5]
    clear hw5
    obtain ⟨eb,heb⟩:∃x,w4.heap.size=x:=⟨_,rfl⟩
    rw [heb] at H5 ⊢
    clear heb
    have HI5:Hid (w2.grownBy w5 none/\EntsO w5 w2.heap.size (.slice e1 k e3) ((entsL 0 fs').1.take k)/\NumsO w5 w2.heap.size (.slice p1 k p3) (places fs' k)/\w2.heap.size<=w5.heap.size/\wr.grownBy w5 none):=by
     have g:=grown_trans HG4.out H5.out.2.1
     exact ⟨grown_trans HI.out.2.2.1 g,HI.out.2.2.2.1.grown g,HI.out.2.2.2.2.1.grown g,Nat.le_trans HI.out.2.2.2.2.2 g.size,g⟩
    obtain ⟨tl,htl⟩:∃x,(entsL 0 fs').1.take k=x:=⟨_,rfl⟩
    have HTL:Hid ((entsL 0 fs').1.take k=tl/\tl.length=k):=⟨htl,by rw [<-htl,List.length_take];omega⟩
    rw [htl] at HE
    clear htl
    rcases Nat.eq_zero_or_pos k with hk0 | hk0
    ·have s6:((0:Int)<(k:Int))=False:=eq_false (by omega)
     have s7:(0<k)=False:=eq_false (by omega)
     refine wp_region_noPanic ?_
     refine wp_region_hold 1000 (fun y=>w5.grownBy y none) (by kernel_rfl) ?_
     have G0:Hid (w5.grownBy w5.drew none):=grown_drew _ _
     generalize w5.drew=wd at G0 ⊢
     have J:Idx [0,1,2,3,4,5]:=trivial
     iterate 6 (refine tK J (G0.out) rfl rfl (fun wk hk=>by skip;go_simp;try rfl) ?_;replace J:=J.tl;try simp only [pN])
     clear J
     have J:Idx [6,7,8,9,10,11,12,13,14,15]:=trivial
     iterate 10 (refine sk J (G0.out) rfl rfl ?_;replace J:=J.tl;try simp only [pN])
     clear J
     have J:Idx [16,17]:=trivial
     iterate 2 (refine tK J (G0.out) rfl rfl (fun wk hk=>by skip;go_simp;try rfl) ?_;replace J:=J.tl;try simp only [pN])
     clear J
     refine wpHold_done (by kernel_rfl) ?_
     refine (‹∀(a:Act) (w:World),Code.wp Tryz.prog _ _ a w->_› _ _ ?_)
     clear hEE s6 s7 hk0
     have HI6:Hid (w2.grownBy wd none/\EntsO wd w2.heap.size (.slice e1 k e3) tl/\NumsO wd w2.heap.size (.slice p1 k p3) (places fs' k)/\w2.heap.size<=wd.heap.size/\wr.grownBy wd none/\Blk wd eb 34 #[.int .i64 en.1,.int .i64 en.2.kind,.int .i64 en.2.token,.int .i64 en.2.session,.int .i64 en.2.number,.int .i64 en.2.mark,.slice o1 o2 o3]/\OpsOwn wd w2.heap.size (.slice o1 o2 o3) en.2.ops):=by
      have h:=HI5.out
      have g:=G0.out
      exact ⟨grown_trans h.1 g,(by rw [<-HTL.out.1];exact h.2.1.grown g),h.2.2.1.grown g,Nat.le_trans h.2.2.2.1 g.size,grown_trans h.2.2.2.2 g,H5.out.1.grown g (by simp),(HE.out.1.grown H5.out.2.1).grown g⟩
     obtain ⟨d0,d1,d2,d3,d4,d5,d6⟩:=blk7 HI6.out.2.2.2.2.2.1
     obtain ⟨w6,hw6,H6⟩:=al1 wd #[.int .i64 en.1,.int .i64 en.2.kind,.int .i64 en.2.token,.int .i64 en.2.session,.int .i64 en.2.number,.int .i64 en.2.mark,.slice o1 o2 o3] 34
     have HW6:Hid (wd.alloc (.cells #[.int .i64 en.1,.int .i64 en.2.kind,.int .i64 en.2.token,.int .i64 en.2.session,.int .i64 en.2.number,.int .i64 en.2.mark,.slice o1 o2 o3] 34)=w6):=hw6
     clear hw6
     go_wp2_with (at_builtin;rw [HW6.out];refine appE_at w6 rfl _ _ rfl w2.heap.size (.slice e1 k e3) tl en o1 o2 o3 wd.heap.size rfl rfl (HI6.out.2.1.grown H6.out.2.1) H6.out.1 (HI6.out.2.2.2.2.2.2.grown H6.out.2.1) (by rw [HTL.out.2];have:=hcnt;have:=HLE.out;omega) (by have:=HI6.out.2.2.2.1;have:=H6.out.2.2;omega) ?_)
     intro g cp w7 hN7 g7 hg7 hl7
     rw [HTL.out.2] at hN7 ⊢
     have H7:Hid (EntsO w7 w2.heap.size (.slice (some ⟨g,0,none⟩) (k+1) cp) ((entsL 0 fs').1.take (k+1))/\w2.grownBy w7 none/\NumsO w7 w2.heap.size (.slice p1 k p3) (places fs' k)/\w2.heap.size<=w7.heap.size):=by
      have h:=HI6.out
      have he:=h.2.1.grown H6.out.2.1
      have hown:∀x,(Value.slice e1 k e3).ownBlock=some x->w2.heap.size<=x:=fun x hx=>(LRow.lt he x hx).1
      exact ⟨by rw [HE.out.2];exact hN7,grown_new (grown_trans h.1 H6.out.2.1) g7 (fun x hx=>hown x hx),(h.2.2.1.grown H6.out.2.1).beside he g7,by have:=g7.size;have:=H6.out.2.2;omega⟩
     clear hN7 g7 hg7 hl7 HW6 d0 d1 d2 d3 d4 d5 d6
     obtain ⟨w8,hw8,H8⟩:=al1 w7 #[.int .i64 (pl:Int)] 3
     have HW8:Hid (w7.alloc (.cells #[.int .i64 (pl:Int)] 3)=w8):=hw8
     clear hw8
     go_wp2_with (at_builtin;rw [HW8.out];refine appI_at w8 rfl _ _ rfl w2.heap.size (.slice p1 k p3) (places fs' k) (pl:Int) w7.heap.size rfl rfl (H7.out.2.2.1.grown H8.out.2.1) H8.out.1 (by rw [places_len];have:=hcnt;have:=HLE.out;omega) (by have:=H7.out.2.2.2;have:=H8.out.2.2;omega) ?_)
     intro g' cp' w9 hN9 g9 hg9 hl9
     rw [places_len] at hN9 ⊢
     have H9:Hid (EntsO w9 w2.heap.size (.slice (some ⟨g,0,none⟩) (k+1) cp) ((entsL 0 fs').1.take (k+1))/\w2.grownBy w9 none/\NumsO w9 w2.heap.size (.slice (some ⟨g',0,none⟩) (k+1) cp') (places fs' (k+1))/\w2.heap.size<=w9.heap.size):=by
      have h:=H7.out
      have he:=h.2.2.1.grown H8.out.2.1
      have hown:∀x,(Value.slice p1 k p3).ownBlock=some x->w2.heap.size<=x:=fun x hx=>(LRow.lt he x hx).1
      exact ⟨(h.1.grown H8.out.2.1).beside he g9,grown_new (grown_trans h.2.1 H8.out.2.1) g9 (fun x hx=>hown x hx),by rw [places_succ,HI.out.2.1];exact hN9,by have:=g9.size;have:=H8.out.2.2;omega⟩
     clear hN9 g9 hg9 hl9 HW8
     have HFF:Hid (∀y:World,w9.grownBy y none->y.cell? ⟨b,off+k*2,none⟩=some (.int .i64 kd)/\y.cell? ⟨b,off+k*2+1,none⟩=some (.slice ua ul uc)):=fun y hy=>by
      have h:=HF.out.2.2.2.2.1 y (grown_trans H9.out.2.1 hy)
      exact ⟨h.1,h.2.1⟩
     have s9:IntKind.i64.wrap ((pl:Int)+(9+(ul:Int)))=((pl+(9+ul):Nat):Int):=by
      have:=HF.out.2.2.2.2.2.2.1
      rw [wrap_small' (by omega) (by omega)]
      omega
     go_upto_region 13 with fail
     refine wp_region_noPanic ?_
     refine wp_region_hold 1000 (fun y=>w9.grownBy y none) (by kernel_rfl) ?_
     have G1:Hid (w9.grownBy w9.drew none):=grown_drew _ _
     generalize w9.drew=wx at G1 ⊢
     have J:Idx [0,1,2,3,4,5,6,7,8,9,10]:=trivial
     iterate 11 (refine tK J (G1.out) rfl rfl (fun wk hk=>by obtain ⟨m0,m1⟩:=HFF.out wk hk;go_simp;try rfl) ?_;replace J:=J.tl;try simp only [pN])
     clear J
     refine wpHold_one (i:=11) rfl (by kernel_rfl) (by rfl) (fun K hK=>?_)
     go_wp2_with fail
     obtain ⟨kn,hkn,hk256⟩:=HF.out.2.2.2.2.2.2.2
     refine (show Calls Tryz.prog 43 #[.int .i64 kd,.slice ua ul uc] wx _ from hkn ▸ Frame.refput11 kn (.slice ua ul uc) fs'[k].2 wx hk256 (HF.out.2.2.2.2.1 wx (grown_trans H9.out.2.1 G1.out)).2.2 (by have:=HF.out.2.1;omega)).mono ?_
     clear hkn hk256
     rintro e wz ⟨z,rfl,oz,gz⟩
     obtain ⟨za,zc,ez⟩:=oz.seg.shape
     rw [Frame.frm_len,HF.out.2.2.2.1] at ez
     subst ez
     have G2:Hid (w9.grownBy wz none):=grown_trans G1.out gz
     clear gz oz kn
     go_wp2_with fail
     refine hK.out _ _ (fun _=>G2.out) ?_
     clear hK K
     try simp only [pN]
     have J:Idx [12,13,14]:=trivial
     iterate 3 (refine tK J (G2.out) rfl rfl (fun wk hk=>by obtain ⟨m0,m1⟩:=HFF.out wk hk;go_simp;try rfl) ?_;replace J:=J.tl;try simp only [pN])
     clear J
     refine wpHold_done (by kernel_rfl) ?_
     refine (‹∀(a:Act) (w:World),Code.wp Tryz.prog _ _ a w->_› _ _ ?_)
     go_wp2_with fail
     exact ⟨⟨k+1,some ⟨g,0,none⟩,cp,some ⟨g',0,none⟩,cp',pl+(9+ul),by go_num,rfl,rfl,by go_num,by have:=HLE.out;omega,HLE.out.1,HF.out.2.2.2.2.2.1,grown_trans H9.out.2.1 G2.out,H9.out.1.grown G2.out,H9.out.2.2.1.grown G2.out,Nat.le_trans H9.out.2.2.2 G2.out.size⟩,by simp [intOf];have:=HLE.out;omega⟩
    ·obtain ⟨j,hj⟩:∃j,k=j+1:=⟨k-1,by omega⟩
     have h9:j<(entsL 0 fs').1.length:=by rw [HM.out.1];have:=HI.out.1;omega
     have hjE:j<((entsL 0 fs').1.take k).length:=by rw [List.length_take];omega
     obtain ⟨gb,of2,q1',q2',q3',hea,hat2,hop2⟩:=ents_at' HI5.out.2.1.ents j hjE
     subst hea
     have hpv:prevE 0 (entsL 0 fs').1 k=(((entsL 0 fs').1.take k)[j]'hjE).1:=by
      rw [List.getElem_take]
      conv=>lhs;rw [hj]
      simp only [prevE]
      rw [List.getElem?_eq_getElem h9]
     obtain ⟨pv,hpv'⟩:∃x,(((entsL 0 fs').1.take k)[j]'hjE).1=x:=⟨_,rfl⟩
     have hpr:1<=pv/\pv<=4611686018427387904:=by
      have h8:=okE_iff.1 (ents_ok h9).1
      rw [<-hpv',List.getElem_take]
      exact ⟨h8.1,h8.2.1⟩
     have hc9:=hat2.1
     rw [hpv'] at hc9 hpv
     have HCC:Hid (∀y:World,w5.grownBy y none->y.cell? ⟨eb,0,none⟩=some (.int .i64 en.1)/\y.cell? ⟨gb,of2+j*7,none⟩=some (.int .i64 pv)):=fun y hy=>⟨(H5.out.1.grown hy (by simp)).cell 0,hy.cell hc9 (by simp)⟩
     have s1:(k:Int)-1=(j:Int):=by omega
     have s2:IntKind.i64.wrap (j:Int)=(j:Int):=wrap_small' (by omega) (by have:=hcnt;omega)
     have s3:IntKind.i64.wrap (pv+1)=pv+1:=by
      unfold IntKind.wrap
      simp [IntKind.bits,IntKind.signed]
      omega
     have s4:(0:Int)<=(j:Int):=by omega
     have s5:(j:Int)<(k:Int):=by omega
     have s6:((0:Int)<(k:Int))=True:=eq_true (by omega)
     have s7:(0<k)=True:=eq_true (by omega)
     have s8:(en.1 != pv+1)=false:=by
      have h9:=hEE.2
      rw [hpv] at h9
      have:en.1=pv+1:=Classical.byContradiction fun hne=>h9 ⟨by omega,hne⟩
      rw [this]
      simp
     clear hEE hpv hpv' hpr hc9 hat2 hop2 hj
     refine wp_region_noPanic ?_
     refine wp_region_hold 1000 (fun y=>w5.grownBy y none) (by kernel_rfl) ?_
     have G0:Hid (w5.grownBy w5.drew none):=grown_drew _ _
     generalize w5.drew=wd at G0 ⊢
     have J:Idx [0,1,2,3,4,5,6,7,8,9,10,11,12,13,14,15,16,17]:=trivial
     iterate 18 (refine tK J (G0.out) rfl rfl (fun wk hk=>by obtain ⟨m0,m1⟩:=HCC.out wk hk;go_simp;try rfl) ?_;replace J:=J.tl;try simp only [pN])
     clear J
     refine wpHold_done (by kernel_rfl) ?_
     refine (‹∀(a:Act) (w:World),Code.wp Tryz.prog _ _ a w->_› _ _ ?_)
     clear HCC s1 s2 s3 s4 s5 s6 s7 s8 hk0
     have HI6:Hid (w2.grownBy wd none/\EntsO wd w2.heap.size (.slice (some ⟨gb,of2,none⟩) k e3) tl/\NumsO wd w2.heap.size (.slice p1 k p3) (places fs' k)/\w2.heap.size<=wd.heap.size/\wr.grownBy wd none/\Blk wd eb 34 #[.int .i64 en.1,.int .i64 en.2.kind,.int .i64 en.2.token,.int .i64 en.2.session,.int .i64 en.2.number,.int .i64 en.2.mark,.slice o1 o2 o3]/\OpsOwn wd w2.heap.size (.slice o1 o2 o3) en.2.ops):=by
      have h:=HI5.out
      have g:=G0.out
      exact ⟨grown_trans h.1 g,(by rw [<-HTL.out.1];exact h.2.1.grown g),h.2.2.1.grown g,Nat.le_trans h.2.2.2.1 g.size,grown_trans h.2.2.2.2 g,H5.out.1.grown g (by simp),(HE.out.1.grown H5.out.2.1).grown g⟩
     obtain ⟨d0,d1,d2,d3,d4,d5,d6⟩:=blk7 HI6.out.2.2.2.2.2.1
     obtain ⟨w6,hw6,H6⟩:=al1 wd #[.int .i64 en.1,.int .i64 en.2.kind,.int .i64 en.2.token,.int .i64 en.2.session,.int .i64 en.2.number,.int .i64 en.2.mark,.slice o1 o2 o3] 34
     have HW6:Hid (wd.alloc (.cells #[.int .i64 en.1,.int .i64 en.2.kind,.int .i64 en.2.token,.int .i64 en.2.session,.int .i64 en.2.number,.int .i64 en.2.mark,.slice o1 o2 o3] 34)=w6):=hw6
     clear hw6
     go_wp2_with (at_builtin;rw [HW6.out];refine appE_at w6 rfl _ _ rfl w2.heap.size (.slice (some ⟨gb,of2,none⟩) k e3) tl en o1 o2 o3 wd.heap.size rfl rfl (HI6.out.2.1.grown H6.out.2.1) H6.out.1 (HI6.out.2.2.2.2.2.2.grown H6.out.2.1) (by rw [HTL.out.2];have:=hcnt;have:=HLE.out;omega) (by have:=HI6.out.2.2.2.1;have:=H6.out.2.2;omega) ?_)
     intro g cp w7 hN7 g7 hg7 hl7
     rw [HTL.out.2] at hN7 ⊢
     have H7:Hid (EntsO w7 w2.heap.size (.slice (some ⟨g,0,none⟩) (k+1) cp) ((entsL 0 fs').1.take (k+1))/\w2.grownBy w7 none/\NumsO w7 w2.heap.size (.slice p1 k p3) (places fs' k)/\w2.heap.size<=w7.heap.size):=by
      have h:=HI6.out
      have he:=h.2.1.grown H6.out.2.1
      have hown:∀x,(Value.slice (some ⟨gb,of2,none⟩) k e3).ownBlock=some x->w2.heap.size<=x:=fun x hx=>(LRow.lt he x hx).1
      exact ⟨by rw [HE.out.2];exact hN7,grown_new (grown_trans h.1 H6.out.2.1) g7 (fun x hx=>hown x hx),(h.2.2.1.grown H6.out.2.1).beside he g7,by have:=g7.size;have:=H6.out.2.2;omega⟩
     clear hN7 g7 hg7 hl7 HW6 d0 d1 d2 d3 d4 d5 d6
     obtain ⟨w8,hw8,H8⟩:=al1 w7 #[.int .i64 (pl:Int)] 3
     have HW8:Hid (w7.alloc (.cells #[.int .i64 (pl:Int)] 3)=w8):=hw8
     clear hw8
     go_wp2_with (at_builtin;rw [HW8.out];refine appI_at w8 rfl _ _ rfl w2.heap.size (.slice p1 k p3) (places fs' k) (pl:Int) w7.heap.size rfl rfl (H7.out.2.2.1.grown H8.out.2.1) H8.out.1 (by rw [places_len];have:=hcnt;have:=HLE.out;omega) (by have:=H7.out.2.2.2;have:=H8.out.2.2;omega) ?_)
     intro g' cp' w9 hN9 g9 hg9 hl9
     rw [places_len] at hN9 ⊢
     have H9:Hid (EntsO w9 w2.heap.size (.slice (some ⟨g,0,none⟩) (k+1) cp) ((entsL 0 fs').1.take (k+1))/\w2.grownBy w9 none/\NumsO w9 w2.heap.size (.slice (some ⟨g',0,none⟩) (k+1) cp') (places fs' (k+1))/\w2.heap.size<=w9.heap.size):=by
      have h:=H7.out
      have he:=h.2.2.1.grown H8.out.2.1
      have hown:∀x,(Value.slice p1 k p3).ownBlock=some x->w2.heap.size<=x:=fun x hx=>(LRow.lt he x hx).1
      exact ⟨(h.1.grown H8.out.2.1).beside he g9,grown_new (grown_trans h.2.1 H8.out.2.1) g9 (fun x hx=>hown x hx),by rw [places_succ,HI.out.2.1];exact hN9,by have:=g9.size;have:=H8.out.2.2;omega⟩
     clear hN9 g9 hg9 hl9 HW8
     have HFF:Hid (∀y:World,w9.grownBy y none->y.cell? ⟨b,off+k*2,none⟩=some (.int .i64 kd)/\y.cell? ⟨b,off+k*2+1,none⟩=some (.slice ua ul uc)):=fun y hy=>by
      have h:=HF.out.2.2.2.2.1 y (grown_trans H9.out.2.1 hy)
      exact ⟨h.1,h.2.1⟩
     have s9:IntKind.i64.wrap ((pl:Int)+(9+(ul:Int)))=((pl+(9+ul):Nat):Int):=by
      have:=HF.out.2.2.2.2.2.2.1
      rw [wrap_small' (by omega) (by omega)]
      omega
     go_upto_region 13 with fail
     refine wp_region_noPanic ?_
     refine wp_region_hold 1000 (fun y=>w9.grownBy y none) (by kernel_rfl) ?_
     have G1:Hid (w9.grownBy w9.drew none):=grown_drew _ _
     generalize w9.drew=wx at G1 ⊢
     have J:Idx [0,1,2,3,4,5,6,7,8,9,10]:=trivial
     iterate 11 (refine tK J (G1.out) rfl rfl (fun wk hk=>by obtain ⟨m0,m1⟩:=HFF.out wk hk;go_simp;try rfl) ?_;replace J:=J.tl;try simp only [pN])
     clear J
     refine wpHold_one (i:=11) rfl (by kernel_rfl) (by rfl) (fun K hK=>?_)
     go_wp2_with fail
     obtain ⟨kn,hkn,hk256⟩:=HF.out.2.2.2.2.2.2.2
     refine (show Calls Tryz.prog 43 #[.int .i64 kd,.slice ua ul uc] wx _ from hkn ▸ Frame.refput11 kn (.slice ua ul uc) fs'[k].2 wx hk256 (HF.out.2.2.2.2.1 wx (grown_trans H9.out.2.1 G1.out)).2.2 (by have:=HF.out.2.1;omega)).mono ?_
     clear hkn hk256
     rintro e wz ⟨z,rfl,oz,gz⟩
     obtain ⟨za,zc,ez⟩:=oz.seg.shape
     rw [Frame.frm_len,HF.out.2.2.2.1] at ez
     subst ez
     have G2:Hid (w9.grownBy wz none):=grown_trans G1.out gz
     clear gz oz kn
     go_wp2_with fail
     refine hK.out _ _ (fun _=>G2.out) ?_
     clear hK K
     try simp only [pN]
     have J:Idx [12,13,14]:=trivial
     iterate 3 (refine tK J (G2.out) rfl rfl (fun wk hk=>by obtain ⟨m0,m1⟩:=HFF.out wk hk;go_simp;try rfl) ?_;replace J:=J.tl;try simp only [pN])
     clear J
     refine wpHold_done (by kernel_rfl) ?_
     refine (‹∀(a:Act) (w:World),Code.wp Tryz.prog _ _ a w->_› _ _ ?_)
     go_wp2_with fail
     exact ⟨⟨k+1,some ⟨g,0,none⟩,cp,some ⟨g',0,none⟩,cp',pl+(9+ul),by go_num,rfl,rfl,by go_num,by have:=HLE.out;omega,HLE.out.1,HF.out.2.2.2.2.2.1,grown_trans H9.out.2.1 G2.out,H9.out.1.grown G2.out,H9.out.2.2.1.grown G2.out,Nat.le_trans H9.out.2.2.2 G2.out.size⟩,by simp [intOf];have:=HLE.out;omega⟩
   ·have hkM:k=(entsL 0 fs').1.length:=by rw [HM.out.1];have:=HI.out.1;omega
    have hB:=ents_bad fs' 0 (by rw [<-hkM];exact hkl)
    rw [show fs'[(entsL 0 fs').1.length]'(by rw [<-hkM];exact hkl)=fs'[k] from by congr 1;exact hkM.symm] at hB
    rw [<-hkM] at hB
    have HKM:Hid (k=(entsL 0 fs').1.length):=hkM
    clear hkm hfk
    rcases hR with ⟨en,ov,he,rfl,oo⟩ | ⟨he,en,o1,o2,o3,rfl⟩
    ·obtain ⟨o1,o2,o3,eo,hol⟩:=OpsOwn.slice oo
     subst eo
     clear oo hol
     rcases hB with hB | ⟨en',he',hp1,hp2⟩
     ·rw [hB] at he;cases he
     rw [he] at he'
     cases he'
     clear he
     obtain ⟨j,hj⟩:∃j,k=j+1:=by
      cases k with
      | zero=>simp [prevE] at hp1
      | succ j=>exact ⟨j,rfl⟩
     have h9:j<(entsL 0 fs').1.length:=by omega
     have hjE:j<((entsL 0 fs').1.take k).length:=by rw [List.length_take];omega
     clear hkM
     simp only [entV,entA]
     go_upto_region 9 with fail
     obtain ⟨w5,hw5,H5⟩:=al1 w4 #[.int .i64 en.1,.int .i64 en.2.kind,.int .i64 en.2.token,.int .i64 en.2.session,.int .i64 en.2.number,.int .i64 en.2.mark,.slice o1 o2 o3] 34
     rw [hw5]
     clear hw5
     obtain ⟨eb,heb⟩:∃x,w4.heap.size=x:=⟨_,rfl⟩
     rw [heb] at H5 ⊢
     clear heb
     have HI5:Hid (w2.grownBy w5 none/\EntsO w5 w2.heap.size (.slice e1 k e3) ((entsL 0 fs').1.take k)/\NumsO w5 w2.heap.size (.slice p1 k p3) (places fs' k)/\w2.heap.size<=w5.heap.size/\wr.grownBy w5 none):=by
      have g:=grown_trans HG4.out H5.out.2.1
      exact ⟨grown_trans HI.out.2.2.1 g,HI.out.2.2.2.1.grown g,HI.out.2.2.2.2.1.grown g,Nat.le_trans HI.out.2.2.2.2.2 g.size,g⟩
     obtain ⟨gb,of2,q1',q2',q3',hea,hat2,hop2⟩:=ents_at' HI5.out.2.1.ents j hjE
     subst hea
     have hpv:prevE 0 (entsL 0 fs').1 k=(((entsL 0 fs').1.take k)[j]'hjE).1:=by
      rw [List.getElem_take]
      conv=>lhs;rw [hj]
      simp only [prevE]
      rw [List.getElem?_eq_getElem h9]
     obtain ⟨pv,hpv'⟩:∃x,(((entsL 0 fs').1.take k)[j]'hjE).1=x:=⟨_,rfl⟩
     have hpr:1<=pv/\pv<=4611686018427387904:=by
      have h8:=okE_iff.1 (ents_ok h9).1
      rw [<-hpv',List.getElem_take]
      exact ⟨h8.1,h8.2.1⟩
     have hc9:=hat2.1
     rw [hpv'] at hc9 hpv
     have HCC:Hid (∀y:World,w5.grownBy y none->y.cell? ⟨eb,0,none⟩=some (.int .i64 en.1)/\y.cell? ⟨gb,of2+j*7,none⟩=some (.int .i64 pv)):=fun y hy=>⟨(H5.out.1.grown hy (by simp)).cell 0,hy.cell hc9 (by simp)⟩
     rw [hpv] at hp1 hp2
     have s1:(k:Int)-1=(j:Int):=by omega
     have s2:IntKind.i64.wrap (j:Int)=(j:Int):=wrap_small' (by omega) (by have:=hcnt;omega)
     have s3:IntKind.i64.wrap (pv+1)=pv+1:=by
      unfold IntKind.wrap
      simp [IntKind.bits,IntKind.signed]
      omega
     have s4:(0:Int)<=(j:Int):=by omega
     have s5:(j:Int)<(k:Int):=by omega
     have s6:((0:Int)<(k:Int))=True:=eq_true (by omega)
     have s7:(0<k)=True:=eq_true (by omega)
     have s8:(en.1 != pv+1)=true:=by simpa using hp2
     clear hp1 hp2 hpv hpv' hpr hc9 hat2 hop2 hj h9
     refine wp_region_noPanic ?_
     refine wp_region_hold 1000 (fun y=>w5.grownBy y none) (by kernel_rfl) ?_
     have G0:Hid (w5.grownBy w5.drew none):=grown_drew _ _
     generalize w5.drew=wd at G0 ⊢
     have J:Idx [0,1,2,3,4,5,6,7,8,9,10,11,12,13,14,15,16,17]:=trivial
     iterate 18 (refine tK J (G0.out) rfl rfl (fun wk hk=>by obtain ⟨m0,m1⟩:=HCC.out wk hk;go_simp;try rfl) ?_;replace J:=J.tl;try simp only [pN])
     clear J
     refine wpHold_done (by kernel_rfl) ?_
     refine (‹∀(a:Act) (w:World),Code.wp Tryz.prog _ _ a w->_› _ _ ?_)
     clear HCC s1 s2 s3 s4 s5 s6 s7 s8
     go_wp2_with fail
     exact bodyPost_ret (v:=.tuple #[.slice (some ⟨gb,of2,none⟩) k e3,.slice p1 k p3]) (by simp [results,Tryz.results20]) rfl (HFIN.out k (some ⟨gb,of2,none⟩) e3 p1 p3 wd HKM.out (grown_trans HI5.out.1 G0.out) (HI5.out.2.1.grown G0.out) (HI5.out.2.2.1.grown G0.out))
    ·clear hB he hkM
     simp only [entV,entA]
     go_upto_region 9 with fail
     obtain ⟨w5,hw5,H5⟩:=al1 w4 #[.int .i64 en.1,.int .i64 en.2.kind,.int .i64 en.2.token,.int .i64 en.2.session,.int .i64 en.2.number,.int .i64 en.2.mark,.slice o1 o2 o3] 34
     rw [hw5]
     clear hw5
     obtain ⟨eb,heb⟩:∃x,w4.heap.size=x:=⟨_,rfl⟩
     rw [heb] at H5 ⊢
     clear heb
     have HI5:Hid (w2.grownBy w5 none/\EntsO w5 w2.heap.size (.slice e1 k e3) ((entsL 0 fs').1.take k)/\NumsO w5 w2.heap.size (.slice p1 k p3) (places fs' k)/\w2.heap.size<=w5.heap.size/\wr.grownBy w5 none):=by
      have g:=grown_trans HG4.out H5.out.2.1
      exact ⟨grown_trans HI.out.2.2.1 g,HI.out.2.2.2.1.grown g,HI.out.2.2.2.2.1.grown g,Nat.le_trans HI.out.2.2.2.2.2 g.size,g⟩
     refine wp_region_noPanic ?_
     refine wp_region_hold 1000 (fun y=>w5.grownBy y none) (by kernel_rfl) ?_
     have G0:Hid (w5.grownBy w5.drew none):=grown_drew _ _
     generalize w5.drew=wd at G0 ⊢
     have J:Idx [0,1,2]:=trivial
     iterate 3 (refine tK J (G0.out) rfl rfl (fun wk hk=>by skip;go_simp;try rfl) ?_;replace J:=J.tl;try simp only [pN])
     clear J
     have J:Idx [3,4,5,6,7,8,9,10,11,12,13,14,15,16]:=trivial
     iterate 14 (refine sk J (G0.out) rfl rfl ?_;replace J:=J.tl;try simp only [pN])
     clear J
     have J:Idx [17]:=trivial
     iterate 1 (refine tK J (G0.out) rfl rfl (fun wk hk=>by skip;go_simp;try rfl) ?_;replace J:=J.tl;try simp only [pN])
     clear J
     refine wpHold_done (by kernel_rfl) ?_
     refine (‹∀(a:Act) (w:World),Code.wp Tryz.prog _ _ a w->_› _ _ ?_)
     go_wp2_with fail
     exact bodyPost_ret (v:=.tuple #[.slice e1 k e3,.slice p1 k p3]) (by simp [results,Tryz.results20]) rfl (HFIN.out k e1 e3 p1 p3 wd HKM.out (grown_trans HI5.out.1 G0.out) (HI5.out.2.1.grown G0.out) (HI5.out.2.2.1.grown G0.out))
  ·have hkm:k=(entsL 0 fs').1.length:=by have:=HM.out;have:=HI.out.1;omega
   go_wp2_with fail
   exact bodyPost_ret (v:=.tuple #[.slice e1 k e3,.slice p1 k p3]) (by simp [results,Tryz.results20]) rfl (HFIN.out k e1 e3 p1 p3 wr hkm HI.out.2.2.1 HI.out.2.2.2.1 HI.out.2.2.2.2.1)
end Go.Proofs.YtadhfejefpildaaGreat
