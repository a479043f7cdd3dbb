import Derived.Test.YtadhfejefpildaaGreatEe
set_option maxHeartbeats 8000000
set_option maxRecDepth 100000
namespace Go.Proofs.YtadhfejefpildaaGreat
open Go.RowKit Disk Table
open _root_.Go.Proofs.YtadhfejefpildaaGreat.Calls
open _root_.Go.Proofs.YtadhfejefpildaaGreat.Command
open _root_.Go.Proofs.YtadhfejefpildaaGreat.Frame (Frs)
def Xa (fs:Frs)(k:Nat)(W0 W1:World)(xs:Array Value):Prop :=
 ∃(h:k<(entsL 0 fs).1.length) (ov:Value),xs=#[.int .i64 (placeE fs k:Nat),entV ov (entsL 0 fs).1[k]]/\OpsOwn W1 W0.heap.size ov (entsL 0 fs).1[k].2.ops
def WAllP (L:Bs)(w:World)(x:Ending)(w':World):Prop:=∃Ax Cx Bx u,x=.returned (.func (.func 50) #[] #[.pointer (some ⟨Ax,0,none⟩)])/\w.heap.size<=Ax/\w.heap.size<=Cx/\w.heap.size<=Bx/\Blk w' Ax 96 #[.func (.func 80) #[] #[.pointer (some ⟨Cx,0,none⟩)]]/\Blk w' Cx 141 #[.func (.func 108) #[] #[.pointer (some ⟨Bx,0,none⟩)]]/\Blk w' Bx 23 #[u]/\Disk.Own w' w.heap.size u L/\w.grownBy w' none
theorem all17 (v:Value)(L:Bs)(w:World)(hs:Seg w v L)(hL:L.length<=140737488355328):Calls Tryz.prog 17 #[v] w (WAllP L w):=by
 obtain ⟨ao,cap,e⟩:=hs.shape
 have HS:Hid (Seg w v L/\L.length<=140737488355328):=⟨hs,hL⟩
 obtain ⟨n,hn⟩:∃n,L.length=n:=⟨_,rfl⟩
 rw [hn] at e
 subst e
 clear hs hL hn
 go_enter Tryz.func17,Tryz.ntmps17
 go_wp2_with fail
 refine (records45 (.slice ao n cap) L w HS.out.1 HS.out.2).mono ?_
 rintro e w1 ⟨Cx,Bx,u,rfl,hc,hb,h1,h2,h3,g1⟩
 have H1:Hid (w.heap.size<=Cx/\w.heap.size<=Bx/\Blk w1 Cx 141 #[.func (.func 108) #[] #[.pointer (some ⟨Bx,0,none⟩)]]/\Blk w1 Bx 23 #[u]/\Disk.Own w1 w.heap.size u L/\w.grownBy w1 none):=⟨hc,hb,h1,h2,h3,g1⟩
 clear hc hb h1 h2 h3 g1
 obtain ⟨w2,hw2,H2⟩:=al1 w1 #[.nilFunc] 96
 have b0:=H2.out.1.cell 0
 have f0:=H2.out.1.free 0
 simp at b0
 obtain ⟨Ax,hAx⟩:∃x,w1.heap.size=x:=⟨_,rfl⟩
 have HAX:Hid (w1.heap.size=Ax):=hAx
 rw [hAx] at H2 b0 f0
 have hst:∀(x:World) (a:Addr),(store a (.func (.func 80) #[] #[.pointer (some ⟨Cx,0,none⟩)])).run Tryz.prog x=stored Tryz.prog x a (.func (.func 80) #[] #[.pointer (some ⟨Cx,0,none⟩)]) .plain:=fun x a=>run_store Tryz.prog x a _ .plain rfl
 go_wp2_with fail
 go_ret
 have g:=grown_new H2.out.2.1 (grown_setCell w2 Ax 0 (.func (.func 80) #[] #[.pointer (some ⟨Cx,0,none⟩)])) (fun x hx=>by simp at hx;omega)
 have h:=H1.out
 exact ⟨Ax,Cx,Bx,u,rfl,by rw [<-HAX.out];exact h.2.2.2.2.2.size,h.1,h.2.1,H2.out.1.store 0 _,h.2.2.1.grown g (by simp),h.2.2.2.1.grown g (by simp),h.2.2.2.2.1.grown g,grown_trans h.2.2.2.2.2 g⟩
theorem allS (Fw:Nat->Prop)(Ax Cx Bx:Nat)(v:Value)(L:Bs)(fs:Frs)(R:Bs)(w:World)(ha:Blk w Ax 96 #[.func (.func 80) #[] #[.pointer (some ⟨Cx,0,none⟩)]])(hc:Blk w Cx 141 #[.func (.func 108) #[] #[.pointer (some ⟨Bx,0,none⟩)]])(hb:Blk w Bx 23 #[v])(hs:Seg w v L)(hsc:Frame.Sc L fs R)(hL:L.length<=140737488355328)(hP:¬Fw Bx)(hPs:L≠[]->∀b off n c,v=.slice (some ⟨b,off,none⟩) n c->¬Fw b)(hFw:∀i,Fw i->i<w.heap.size) :
  GivesN Tryz.prog 50 #[.pointer (some ⟨Ax,0,none⟩)] (entsL 0 fs).1.length (Xa fs) Fw w:=by
 intro lp J Jx W hgW hJ hJx hY h0
 obtain ⟨W2,hW2,H2⟩:=al1 W #[.func (.yield lp) #[] #[]] 110
 have HG:Hid (GivesN Tryz.prog 80 #[.pointer (some ⟨Cx,0,none⟩)] (Nr fs) (Xr fs) (fun i=>Fw i\/(w.heap.size<=i/\i<W.heap.size)) W2):=by
  have g:=grown_trans hgW H2.out.2.1
  have hz:=hgW.size
  refine recordsS _ Cx Bx v L fs R W2 (hc.grown g (by simp)) (hb.grown g (by simp)) (hs.grown g) hsc hL ?_ ?_ ?_
  ·have:=hb.lt
   rintro (h | h)
   ·exact hP h
   ·omega
  ·intro hne b off n c e
   have:=Frame.seg_blk hs hne e
   rintro (h | h)
   ·exact hPs hne b off n c e h
   ·omega
  ·have:=H2.out.2.2
   rintro i (h | h)
   ·have:=hFw i h;omega
   ·omega
 have HC:Hid (w.heap.size<=W.heap.size/\(∀i,Fw i->i<w.heap.size)):=⟨hgW.size,hFw⟩
 have HJ:Hid _:=hJ
 have HJX:Hid _:=hJx
 have HY:Hid _:=hY
 have H0:Hid (J 0 (fun _=>False) W):=h0
 have c0:=(ha.grown (grown_trans hgW H2.out.2.1) (by simp)).cell 0
 simp at c0
 clear ha hc hb hs hsc hL hP hPs hFw hJ hJx hY h0 hgW
 show Calls Tryz.prog 50 #[.func (.yield lp) #[] #[],.pointer (some ⟨Ax,0,none⟩)] W _
 refine calls_marks Tryz.func50 rfl ?_
 simp only [Tryz.ntmps50,List.size_toArray,List.length_cons,List.length_nil,Nat.reduceAdd,Nat.reduceSub,Array.replicate_succ,Array.replicate_zero,List.push_toArray,List.append_toArray,List.nil_append,List.cons_append]
 go_wp2_with fail
 clear c0
 obtain ⟨yb,hyb⟩:∃x,W.heap.size=x:=⟨_,rfl⟩
 have HW:Hid (Blk W2 yb 110 #[.func (.yield lp) #[] #[]]/\W2.heap.size=yb+1/\W.heap.size=yb/\W.grownBy W2 none/\w.heap.size<=yb):=by
  have h:=H2.out
  rw [hyb] at h
  exact ⟨h.1,h.2.2,hyb,h.2.1,by have:=HC.out.1;omega⟩
 rw [hyb] at HG HJ HJX HY ⊢
 clear hW2 H2 hyb
 obtain ⟨m,hm⟩:∃x,(entsL 0 fs).1.length=x:=⟨_,rfl⟩
 have HM:Hid ((entsL 0 fs).1.length=m):=hm
 clear hm
 refine wp_rangeS (gf:=80) (lb:=#[.pointer (some ⟨Cx,0,none⟩)]) rfl (enters_of Tryz.func80 (by kernel_rfl) rfl) HG.out ?hps
  (fun k G A=>Hid (k<=m/\J k G A/\Blk A yb 110 #[.func (.yield lp) #[] #[]]/\yb+1<=A.heap.size/\∀i,G i->yb+3<=i/\i<A.heap.size))
  (fun A=>Hid ((∃G,J m G A)\/Jx A)) ?hIg ?hXg ?h0 ?hround ?hdone ?hstop
 case hps =>
  rintro k k' W0 W1 xs ⟨_,_,⟨_,_,rfl,_⟩ | ⟨_,_,rfl⟩⟩
  ·rfl
  ·rfl
 case hIg =>
  rintro k G A B HA ht
  have hz:=HW.out.2.1
  exact ⟨HA.out.1,HJ.out _ _ _ _ HA.out.2.1 (ht.mono (by omega)),ht.blk HA.out.2.2.1 (.inl (by decide)),Nat.le_trans HA.out.2.2.2.1 ht.size,fun i hi=>⟨(HA.out.2.2.2.2 i hi).1,Nat.lt_of_lt_of_le (HA.out.2.2.2.2 i hi).2 ht.size⟩⟩
 case hXg =>
  rintro A B HA ht
  have hz:=HW.out.2.1
  rcases HA.out with ⟨G,h⟩ | h
  ·exact .inl ⟨G,HJ.out _ _ _ _ h (ht.mono (by omega))⟩
  ·exact .inr (HJX.out _ _ h (ht.mono (by omega)))
 case h0=>exact ⟨Nat.zero_le _,HJ.out _ _ _ _ H0.out (Tx.of_grown HW.out.2.2.2.1),HW.out.1,Nat.le_of_eq HW.out.2.1.symm,fun _ h=>h.elim⟩
 case hstop =>
  intro A HA hd
  have HD:Hid _:=hd
  clear hd
  go_wp2_with fail
  refine ⟨by simp,.inl ⟨_,_,rfl,run_takeDeferred HD.out,?_⟩⟩
  have hz:=HW.out.2.1
  have ht:=Tx.putD (n0:=yb) (.deferred none) HD.out (by omega)
  refine ⟨_,results_none rfl _ _ _,⟨_,rfl⟩,?_⟩
  rcases HA.out with ⟨G,h⟩ | h
  ·exact .inl ⟨_,G,HM.out.symm,HJ.out _ _ _ _ h ht⟩
  ·exact .inr (HJX.out _ _ h ht)
 case hdone =>
  rintro A s G hs HA hd
  have HD:Hid _:=hd
  have HS:Hid (s=Nr fs):=hs
  clear hd hs
  go_wp2_with fail
  refine ⟨by simp,.inl ⟨_,_,rfl,run_takeDeferred HD.out,?_⟩⟩
  have hz:=HW.out.2.1
  have ht:=Tx.putD (n0:=yb) (.deferred none) HD.out (by omega)
  have hml:=HA.out.1
  have hs:=HS.out
  have e:(entsL 0 fs).1.length=s:=by
   have:=HM.out
   unfold Nr at hs
   split at hs <;> omega
  exact ⟨_,results_none rfl _ _ _,⟨_,rfl⟩,.inl ⟨_,G,e.symm,HJ.out _ _ _ _ HA.out.2.1 ht⟩⟩
 case hround =>
  rintro l' k k' G W0 W1 xs HI hlt0 htn ⟨rfl,hk,hX⟩ ⟨rc,hrc⟩
  have HO:Hid (Tx (W2.heap.size+2) W0 W1/\W2.heap.size+1<W0.heap.size/\W1.heap[W2.heap.size+1]? = some (.loop rc)):=⟨htn,hlt0,hrc⟩
  clear htn hlt0 hrc
  rcases hX with ⟨hkm,ov,rfl,oo⟩ | ⟨hkm,hkl,rfl⟩
  ·obtain ⟨o1,o2,o3,eo,hol⟩:=OpsOwn.slice oo
   subst eo
   obtain ⟨e1,he1⟩:∃x,(entsL 0 fs).1[k]=x:=⟨_,rfl⟩
   obtain ⟨pl,hpl⟩:∃x,placeE fs k=x:=⟨_,rfl⟩
   obtain ⟨qn,hqn⟩:∃x,placeE fs (k+1)=x:=⟨_,rfl⟩
   rw [he1] at oo
   have HE:Hid (OpsOwn W1 W0.heap.size (.slice o1 o2 o3) e1.2.ops/\(∃h:k<(entsL 0 fs).1.length,(entsL 0 fs).1[k]=e1)/\placeE fs k=pl):=⟨oo,⟨hkm,he1⟩,hpl⟩
   rw [he1,hpl,hqn]
   clear oo he1 hpl hqn hol
   simp only [recV,List.zip_toArray,List.zip_cons_cons,List.zip_nil_right,List.foldl_toArray',List.size_toArray,List.foldl_cons,List.foldl_nil,List.setIfInBounds_toArray,List.set_cons_zero,List.set_cons_succ]
   refine wpIn_seq ?_
   refine region_round (by rintro ⟨_,_,h⟩;exact h) rfl ?_
   go_wp2_with fail
   obtain ⟨Wa,hWa,HA⟩:=al1 W1 #[.int .i64 pl,.int .i64 qn,.int .i64 e1.1,.int .i64 e1.2.kind,.int .i64 e1.2.token,.int .i64 e1.2.session,.int .i64 e1.2.number,.int .i64 e1.2.mark,.slice o1 o2 o3] 99
   rw [hWa]
   clear hWa
   refine region_round (by rintro ⟨_,_,h⟩;exact h) rfl ?_
   go_wp2_with fail
   refine ⟨HA.out.2.1,fun r=>?_⟩
   obtain ⟨fb,hfb⟩:∃x,W1.heap.size=x:=⟨_,rfl⟩
   obtain ⟨W3,hW3⟩:∃W3,Wa.putObj (W2.heap.size+1) (.loop r)=W3:=⟨_,rfl⟩
   have HT3:Hid (Tx (W2.heap.size+1) W1 W3/\W3.heap.size=fb+1/\W1.heap.size=fb/\(∀i,i<fb->i≠W2.heap.size+1->W3.heap[i]? = W1.heap[i]?)/\Blk W3 fb 99 #[.int .i64 pl,.int .i64 qn,.int .i64 e1.1,.int .i64 e1.2.kind,.int .i64 e1.2.token,.int .i64 e1.2.session,.int .i64 e1.2.number,.int .i64 e1.2.mark,.slice o1 o2 o3]):=by
    have hl:Wa.heap[W2.heap.size+1]? = some (.loop rc):=(HA.out.2.1.block _ (by have:=HO.out;have:=HO.out.1.size;omega) (by simp)).trans HO.out.2.2
    have ht:Tx (W2.heap.size+1) Wa W3:=by rw [<-hW3];exact Tx.put _ hl (Nat.le_refl _)
    have hb:=HA.out.1
    rw [hfb] at hb
    refine ⟨(Tx.of_grown HA.out.2.1).trans ht,?_,hfb,fun i hi hn=>by rw [<-hW3,World.putObj_heap_other hn];exact HA.out.2.1.block i (by omega) (by simp),ht.blk hb (.inl (by decide))⟩
    rw [<-hW3]
    simp [World.putObj]
    have:=HA.out.2.2
    omega
   rw [hW3,hfb]
   clear hW3 hfb
   have HT0:Hid (Tx (W2.heap.size+1) W0 W3):=(HO.out.1.mono (Nat.le_succ _)).trans HT3.out.1
   obtain ⟨c0,c1,c2,c3,c4,c5,c6,c7,c8⟩:=blk9 HT3.out.2.2.2.2
   have y0:=(HT0.out.blk HI.out.2.2.1 (.inl (by decide))).cell 0
   simp at y0
   refine wpIn_block (wpIn_seq ?_)
   refine wpIn_region_lit ?_
   iterate 8
    refine wpListIn_step fun K1 hK1=>?_
    rw [if_pos (by rfl)]
    refine oper_round l' 0 (fun c=>by simp) ?_
    have HK1:Hid _:=hK1
    clear hK1
    go_wp2_with fail
    refine HK1.out _ _ ?_
    clear HK1 K1
   clear c0 c1 c2 c3 c4 c5 c6 c7 c8 y0
   have HXA:Hid (Xa fs k W0 W3 #[.int .i64 pl,entV (.slice o1 o2 o3) e1]):=by
    obtain ⟨h1,h2⟩:=HE.out.2.1
    exact ⟨h1,.slice o1 o2 o3,by rw [h2,HE.out.2.2],by rw [h2];exact opsOwn_tx HE.out.1 HT3.out.1⟩
   have HYY:=HY.out k (k+1) G W0 W3 _ HI.out.2.1 (by have:=HI.out.2.2.2.1;have:=HW.out;omega) (HT0.out.mono (by have:=HW.out;omega)) ⟨rfl,HE.out.2.1.1,HXA.out⟩
   have hxs:∀i,HandA #[.int .i64 pl,entV (.slice o1 o2 o3) e1] i->(Value.slice o1 o2 o3).ownBlock=some i:=by
    rintro i (⟨x,hx,hb⟩ | ⟨c,x,hc,hx,hb⟩)
    ·simp at hx
     rcases hx with rfl | rfl <;> simp [entV,entA,Value.ownBlock] at hb
    ·simp [entV,entA] at hc
     subst hc
     simp at hx
     rcases hx with rfl | rfl | rfl | rfl | rfl | rfl | rfl <;> first | exact hb | simp [Value.ownBlock] at hb
   have keep:∀(W':World),KeptG w.heap.size yb Fw G #[.int .i64 pl,entV (.slice o1 o2 o3) e1] W3 W'->(W'.heap[W2.heap.size]? = W3.heap[W2.heap.size]?/\W'.heap[W2.heap.size+1]? = W3.heap[W2.heap.size+1]?)/\KeptG W2.heap.size (W2.heap.size+2) (fun i=>Fw i\/(w.heap.size<=i/\i<yb)) G #[.agg #[.int .i64 pl,.int .i64 qn,.int .i64 e1.1,.int .i64 e1.2.kind,.int .i64 e1.2.token,.int .i64 e1.2.session,.int .i64 e1.2.number,.int .i64 e1.2.mark,.slice o1 o2 o3],.int .i64 0] W1 W'/\Blk W' yb 110 #[.func (.yield lp) #[] #[]]/\fb+1<=W'.heap.size:=by
    intro W' hkp
    have z1:=HW.out
    have z2:=HT3.out
    have z4:=HI.out
    have z5:=HO.out
    have z6:=HC.out
    have hz5:=z5.1.size
    have hnF:∀i,yb<=i->¬Fw i:=fun i h hf=>by have:=z6.2 i hf;omega
    have hnG:∀i,i<yb+3->¬G i:=fun i h hg=>by have:=(z4.2.2.2.2 i hg).1;omega
    have hnX:∀i,i<W0.heap.size->¬HandA #[.int .i64 pl,entV (.slice o1 o2 o3) e1] i:=fun i h hh=>by have:=(HE.out.1.1.lt i (hxs i hh)).1;omega
    have hk1:=hkp.1
    refine ⟨⟨hkp.2 _ (by omega) (.inr (by omega)) (hnF _ (by omega)) (hnX _ (by omega)) (hnG _ (by omega)),hkp.2 _ (by omega) (.inr (by omega)) (hnF _ (by omega)) (hnX _ (by omega)) (hnG _ (by omega))⟩,⟨by omega,fun i h1 h2 h3 h4 h5=>?_⟩,?_,by omega⟩
    ·rw [<-z2.2.2.2.1 i (by omega) (by omega)]
     refine hkp.2 i (by omega) ?_ (fun h=>h3 (.inl h)) (fun hh=>h4 (.inr ⟨#[.int .i64 pl,.int .i64 qn,.int .i64 e1.1,.int .i64 e1.2.kind,.int .i64 e1.2.token,.int .i64 e1.2.session,.int .i64 e1.2.number,.int .i64 e1.2.mark,.slice o1 o2 o3],.slice o1 o2 o3,by simp,by simp,hxs i hh⟩)) h5
     rcases Nat.lt_or_ge i w.heap.size with h | h
     ·exact .inl h
     ·rcases Nat.lt_or_ge i yb with h6 | h6
      ·exact absurd (.inr ⟨h,h6⟩) h3
      ·exact .inr h6
    ·exact (HT0.out.blk z4.2.2.1 (.inl (by decide))).same (hkp.2 _ (by omega) (.inr (by omega)) (hnF _ (by omega)) (hnX _ (by omega)) (hnG _ (by omega)))
   refine wpListIn_step fun K1 hK1=>?_
   rw [if_pos (by rfl)]
   refine yield_round (l':=l') HYY rfl rfl rfl rfl ?_
   rintro e W' (⟨rfl,G',hnew,hJ',hkept⟩ | ⟨rfl,hx,hkept⟩)
   ·refine ⟨_,rfl,hK1 _ _ ?_⟩
    clear hK1 K1
    iterate 2
     refine wpListIn_step fun K1 hK1=>?_
     rw [if_pos (by rfl)]
     refine oper_round l' 0 (fun c=>by simp) ?_
     have HK1:Hid _:=hK1
     clear hK1
     go_wp2_with fail
     refine HK1.out _ _ ?_
     clear HK1 K1
    refine wpListIn_nil ?_
    refine wpIn_cond_false rfl (wpIn_skip ?_)
    have hh:=keep W' hkept
    have z1:=HW.out
    have z2:=HT3.out
    have z4:=HI.out
    have z5:=HO.out
    have hz5:=z5.1.size
    refine ⟨hh.1,G',fun i hi=>⟨?_,(hnew i hi).2⟩,hh.2.1,⟨by have:=HM.out;omega,hJ',hh.2.2.1,by omega,fun i hi=>⟨?_,(hnew i hi).2⟩⟩⟩
    ·rcases (hnew i hi).1 with h | h
     ·exact .inl h
     ·exact .inr (by omega)
    ·rcases (hnew i hi).1 with h | h
     ·exact (z4.2.2.2.2 i h).1
     ·omega
   ·refine ⟨_,rfl,hK1 _ _ ?_⟩
    clear hK1 K1
    iterate 2
     refine wpListIn_step fun K1 hK1=>?_
     rw [if_pos (by rfl)]
     refine oper_round l' 0 (fun c=>by simp) ?_
     have HK1:Hid _:=hK1
     clear hK1
     go_wp2_with fail
     refine HK1.out _ _ ?_
     clear HK1 K1
    refine wpListIn_nil ?_
    refine wpIn_cond_true rfl (wpIn_ret ?_)
    have hh:=keep W' hkept
    exact ⟨hh.1,hh.2.1,.inr hx⟩
  ·have hkM:k=m:=by rw [<-HM.out];exact hkm
   clear hkm hkl
   rw [recV_zero]
   simp only [List.zip_toArray,List.zip_cons_cons,List.zip_nil_right,List.foldl_toArray',List.size_toArray,List.foldl_cons,List.foldl_nil,List.setIfInBounds_toArray,List.set_cons_zero,List.set_cons_succ]
   refine wpIn_seq ?_
   refine region_round (by rintro ⟨_,_,h⟩;exact h) rfl ?_
   go_wp2_with fail
   obtain ⟨Wa,hWa,HA⟩:=al1 W1 #[.int .i64 0,.int .i64 0,.int .i64 0,.int .i64 0,.int .i64 0,.int .i64 0,.int .i64 0,.int .i64 0,.slice none 0 0] 99
   rw [hWa]
   clear hWa
   refine region_round (by rintro ⟨_,_,h⟩;exact h) rfl ?_
   go_wp2_with fail
   refine ⟨HA.out.2.1,fun r=>?_⟩
   obtain ⟨fb,hfb⟩:∃x,W1.heap.size=x:=⟨_,rfl⟩
   obtain ⟨W3,hW3⟩:∃W3,Wa.putObj (W2.heap.size+1) (.loop r)=W3:=⟨_,rfl⟩
   have HT3:Hid (Tx (W2.heap.size+1) W1 W3/\W3.heap.size=fb+1/\W1.heap.size=fb/\(∀i,i<fb->i≠W2.heap.size+1->W3.heap[i]? = W1.heap[i]?)/\Blk W3 fb 99 #[.int .i64 0,.int .i64 0,.int .i64 0,.int .i64 0,.int .i64 0,.int .i64 0,.int .i64 0,.int .i64 0,.slice none 0 0]):=by
    have hl:Wa.heap[W2.heap.size+1]? = some (.loop rc):=(HA.out.2.1.block _ (by have:=HO.out;have:=HO.out.1.size;omega) (by simp)).trans HO.out.2.2
    have ht:Tx (W2.heap.size+1) Wa W3:=by rw [<-hW3];exact Tx.put _ hl (Nat.le_refl _)
    have hb:=HA.out.1
    rw [hfb] at hb
    refine ⟨(Tx.of_grown HA.out.2.1).trans ht,?_,hfb,fun i hi hn=>by rw [<-hW3,World.putObj_heap_other hn];exact HA.out.2.1.block i (by omega) (by simp),ht.blk hb (.inl (by decide))⟩
    rw [<-hW3]
    simp [World.putObj]
    have:=HA.out.2.2
    omega
   rw [hW3,hfb]
   clear hW3 hfb
   have HT0:Hid (Tx (W2.heap.size+1) W0 W3):=(HO.out.1.mono (Nat.le_succ _)).trans HT3.out.1
   refine wpIn_block (wpIn_seq ?_)
   refine region_round (by rintro ⟨_,_,h⟩;exact h) rfl ?_
   go_wp2_with fail
   refine wpIn_cond_true rfl (wpIn_ret ?_)
   have z1:=HW.out
   have z2:=HT3.out
   have z4:=HI.out
   have z5:=HO.out
   have hz5:=z5.1.size
   refine ⟨⟨rfl,rfl⟩,⟨by omega,fun i h1 h2 h3 h4 h5=>z2.2.2.2.1 i (by omega) (by omega)⟩,.inl ⟨G,?_⟩⟩
   rw [<-hkM]
   exact HJ.out _ _ _ _ z4.2.1 (HT0.out.mono (by omega))
end Go.Proofs.YtadhfejefpildaaGreat
