import Derived.Test.YtadhfejefpildaaGreatEd
set_option maxHeartbeats 8000000
set_option maxRecDepth 100000
namespace Go.Proofs.YtadhfejefpildaaGreat
open Go.RowKit Disk Table
open Go.Proofs.YtadhfejefpildaaGreat.Calls
open Go.Proofs.YtadhfejefpildaaGreat.Command
open Go.Proofs.YtadhfejefpildaaGreat.Frame (Frs)
def EntP (L:Bs)(fs:Frs)(R:Bs)(w:World)(x:Ending)(w':World):Prop:=w.grownBy w' none/\(((az 0 fs).2=true/\∃v,x=.returned (.tuple #[.agg #[v,.int .i64 ((Frame.flat fs).length:Nat),.int .i64 (L.length:Nat),.int .i64 (Frame.ends R:Nat)],.int .i64 0])/\bA w' w.heap.size v (az 0 fs).1)\/((az 0 fs).2=false/\x=.returned (.tuple #[.agg #[.slice none 0 0,.int .i64 0,.int .i64 0,.int .i64 0],.int .i64 8])))
theorem blk4 {w:World}{b t:Nat}{x y z u:Value}(h:Blk w b t #[x,y,z,u]):w.cell? ⟨b,0,none⟩=some x/\w.cell? ⟨b,1,none⟩=some y/\w.cell? ⟨b,2,none⟩=some z/\w.cell? ⟨b,3,none⟩=some u:=⟨h.cell 0,h.cell 1,h.cell 2,h.cell 3⟩
theorem eQ {w:World}{b t:Nat}{c:Array Value}(h:Blk w b t c):w.frozen? ⟨b,0,none⟩=false/\w.frozen? ⟨b,1,none⟩=false/\w.frozen? ⟨b,2,none⟩=false/\w.frozen? ⟨b,3,none⟩=false:=⟨h.free 0,h.free 1,h.free 2,h.free 3⟩
theorem set4 {x:World}{b t:Nat}{c0 c1 c2 c3:Value}(h:Blk x b t #[c0,c1,c2,c3])(v0 v1 v2 v3:Value):∃W,(((x.setCell ⟨b,0,none⟩ v0).setCell ⟨b,1,none⟩ v1).setCell ⟨b,2,none⟩ v2).setCell ⟨b,3,none⟩ v3=W/\Hid (Blk W b t #[v0,v1,v2,v3]/\x.grownBy W (some b)) :=
 ⟨_,rfl,(((h.store 0 v0).store 1 v1).store 2 v2).store 3 v3,aa (aa (aa (ae _ _ _ _) (ae _ _ _ _)) (ae _ _ _ _)) (ae _ _ _ _)⟩
theorem eR {w w':World}{b i:Nat}{o:Obj}(hg:w.grownBy w' (some b))(h:w.heap[i]? = some o)(hb:i≠b):w'.heap[i]? = some o:=(hg.block i (Array.getElem?_eq_some_iff.1 h).1 (by simp;omega)).trans h
theorem Tx.grown {n0:Nat}{w A B:World}(h:Tx n0 A B)(hg:w.grownBy A none)(hn:w.heap.size<=n0):w.grownBy B none :=
 ⟨h.os.trans hg.os,h.tape.trans hg.tape,h.output.trans hg.output,Nat.le_trans hg.size h.size,fun i hi _=>(h.block i (Nat.lt_of_lt_of_le hi hg.size) (.inl (by omega))).trans (hg.block i hi (by simp))⟩
theorem dT {w:World}{B:Nat}{v:Value}{E:List PEnt}(h:bA w B v E){b t:Nat}{c:Array Value}(hb:Blk w b t c)(ht:t≠34):v.ownBlock≠some b:=fun e=>by
 obtain ⟨vs,h1,_⟩:=h
 obtain ⟨cur,hg⟩:=eM h1 e
 exact ht (dW hb hg)
theorem kz:recV 0 0 (.slice none 0 0) (0,bi)=.agg #[.int .i64 0,.int .i64 0,.int .i64 0,.int .i64 0,.int .i64 0,.int .i64 0,.int .i64 0,.int .i64 0,.slice none 0 0]:=rfl
theorem pX (v:Value)(L:Bs)(fs:Frs)(R:Bs)(w:World)(hs:Seg w v L)(hsc:Frame.Sc L fs R)(hL:L.length<=9000000):Calls Tryz.prog 10 #[v] w (EntP L fs R w):=by
 obtain ⟨ao,cap,e⟩:=hs.shape
 obtain ⟨n,hn⟩:∃n,L.length=n:=⟨_,rfl⟩
 rw [hn] at e
 subst e
 have hcl:n<=cap/\cap<=9223372036854775807:=by
  obtain ⟨a',c',hv',q1,q2,q3,q4⟩:=hs
  simp at hv'
  obtain ⟨rfl,_,rfl⟩:=hv'
  unfold maxLen at q2
  exact ⟨by omega,by omega⟩
 have HS:Hid (Seg w (.slice ao n cap) L/\L.length<=9000000/\L.length=n/\Frame.Sc L fs R):=⟨hs,hL,hn,hsc⟩
 clear hs hL hn hsc
 refine di Tryz.func10 rfl ?_
 simp only [Tryz.ntmps10,List.size_toArray,List.length_cons,List.length_nil,Nat.reduceAdd,Nat.reduceSub,Array.replicate_succ,Array.replicate_zero,List.push_toArray,List.append_toArray,List.nil_append,List.cons_append]
 go_upto_region 2 with fail
 obtain ⟨W,hW,HW⟩:=al3 w #[.slice none 0 0,.int .i64 0,.int .i64 0,.int .i64 0] #[.int .i64 0] #[.slice none 0 0,.int .i64 0,.int .i64 n,.int .i64 0] 38 24 38
 rw [hW]
 clear hW
 obtain ⟨rb,hrb⟩:∃x,w.heap.size=x:=⟨_,rfl⟩
 have HR:Hid (w.heap.size=rb):=hrb
 rw [hrb] at HW ⊢
 clear hrb
 go_wp2_with fail
 refine (kw (.slice ao n cap) L W (HS.out.1.grown HW.out.2.2.2.1) (by have:=HS.out;omega)).mono ?_
 rintro e w1 ⟨Cx,Bx,u,rfl,hC,hB,hbC,hbB,hu,g1⟩
 have hWs:=HW.out.2.2.2.2
 have H1:Hid (Blk w1 rb 38 #[.slice none 0 0,.int .i64 0,.int .i64 0,.int .i64 0]/\Blk w1 (rb+1) 24 #[.int .i64 0]/\Blk w1 (rb+1+1) 38 #[.slice none 0 0,.int .i64 0,.int .i64 n,.int .i64 0]/\w.grownBy w1 none/\rb+3<=w1.heap.size):=⟨HW.out.1.grown g1 (by simp),HW.out.2.1.grown g1 (by simp),HW.out.2.2.1.grown g1 (by simp),aa HW.out.2.2.2.1 g1,by have:=g1.size;have:=HR.out;omega⟩
 have HG:Hid (jO Tryz.prog 80 #[.pointer (some ⟨Cx,0,none⟩)] (Nr fs) (Xr fs) (fun i=>i=rb\/i=rb+1\/i=rb+1+1) w1):=by
  have hr:=HR.out
  refine mw _ Cx Bx u L fs R w1 hbC hbB hu.seg HS.out.2.2.2 (by have:=HS.out;omega) (by omega) ?_ (by have:=H1.out.2.2.2.2;intro i hi;omega)
  intro _ b off nn c e
  have:=(hu.lt b (by rw [e];rfl)).1
  omega
 clear hbC hbB hu g1 hC hB HW hWs
 go_wp2_with fail
 obtain ⟨m,hm⟩:∃x,(az 0 fs).1.length=x:=⟨_,rfl⟩
 have HM:Hid ((az 0 fs).1.length=m/\m<=fs.length/\m<=1000000):=⟨hm,by rw [<-hm];exact cP fs 0,by have:=cP fs 0;have:=HS.out.2.2.2.count;have:=HS.out;omega⟩
 clear hm
 refine iG (gf:=80) (lb:=#[.pointer (some ⟨Cx,0,none⟩)]) rfl (enters_of Tryz.func80 (by kernel_rfl) rfl) HG.out ?hps
  (fun k G A=>∃(e1:Option Addr) (e3:Nat),Hid (k<=m/\bA A (w1.heap.size+2) (.slice e1 k e3) ((az 0 fs).1.take k)/\Blk A (rb+1+1) 38 #[.slice e1 k e3,.int .i64 (aR fs k:Nat),.int .i64 n,.int .i64 0]/\Blk A rb 38 #[.slice none 0 0,.int .i64 0,.int .i64 0,.int .i64 0]/\Blk A (rb+1) 24 #[.int .i64 0]/\w.grownBy A none/\(∀g,(Value.slice e1 k e3).ownBlock=some g->G g)/\w1.heap.size<=A.heap.size))
  (fun A=>Hid (Blk A rb 38 #[.slice none 0 0,.int .i64 0,.int .i64 0,.int .i64 0]/\Blk A (rb+1) 24 #[.int .i64 8]/\w.grownBy A none/\(az 0 fs).2=false)) ?hIg ?hXg ?h0 ?hround ?hdone ?hstop
 case hps =>
  rintro k k' W0 W1 xs ⟨_,_,(⟨_,_,rfl,_⟩ | ⟨_,_,rfl⟩)⟩ <;> rfl
 case hIg =>
  rintro k G A B ⟨e1,e3,HA⟩ ht
  have hz:=H1.out.2.2.2.2
  have hr:=HR.out
  have h:=HA.out
  exact ⟨e1,e3,h.1,h.2.1.tx ht,ht.blk h.2.2.1 (.inl (by decide)),ht.blk h.2.2.2.1 (.inl (by decide)),ht.blk h.2.2.2.2.1 (.inl (by decide)),ht.grown h.2.2.2.2.2.1 (by omega),h.2.2.2.2.2.2.1,Nat.le_trans h.2.2.2.2.2.2.2 ht.size⟩
 case hXg =>
  rintro A B HA ht
  have hz:=H1.out.2.2.2.2
  have hr:=HR.out
  exact ⟨ht.blk HA.out.1 (.inl (by decide)),ht.blk HA.out.2.1 (.inl (by decide)),ht.grown HA.out.2.2.1 (by omega),HA.out.2.2.2⟩
 case h0=>exact ⟨none,0,Nat.zero_le _,by simpa using iD w1 _,by simpa [aR,Frame.flat] using H1.out.2.2.1,H1.out.1,H1.out.2.1,H1.out.2.2.2.1,fun g hg=>by simp [Value.ownBlock] at hg,Nat.le_refl _⟩
 case hstop =>
  intro A HA hd
  have HD:Hid _:=hd
  clear hd
  go_wp2_with fail
  refine ⟨by simp,.inl ⟨_,_,rfl,run_takeDeferred HD.out,?_⟩⟩
  have hz:=H1.out.2.2.2.2
  have hr:=HR.out
  have ht:=Tx.putD (n0:=w1.heap.size) (.deferred none) HD.out (Nat.le_refl _)
  obtain ⟨z0,z1,z2,z3⟩:=blk4 (ht.blk HA.out.1 (.inl (by decide)))
  have z4:=(ht.blk HA.out.2.1 (.inl (by decide))).cell 0
  simp at z4
  exact ⟨.tuple #[.agg #[.slice none 0 0,.int .i64 0,.int .i64 0,.int .i64 0],.int .i64 8],by simp [results,Tryz.results10,go_sem,z0,z1,z2,z3,z4],ht.grown HA.out.2.2.1 (by omega),.inr ⟨HA.out.2.2.2,rfl⟩⟩
 case hdone =>
  rintro A s G hs ⟨e1,e3,HA⟩ hd
  have hsm:s=m/\m=fs.length/\(az 0 fs).2=true:=by
   have h1:=HA.out.1
   have h2:=HM.out
   rcases Nat.lt_or_ge (az 0 fs).1.length fs.length with h | h
   ·have:=lu h
    have hs':s=Nr fs:=hs
    omega
   ·have:=nW (fs:=fs) (by omega)
    have hs':s=Nr fs:=hs
    exact ⟨by omega,by omega,(dm fs 0).2 (by omega)⟩
  obtain ⟨rfl,hmf,hall⟩:=hsm
  have hpl:aR fs s=(Frame.flat fs).length:=by unfold aR;rw [hmf,List.take_length]
  have hdr:=HS.out.2.2.2.end
  have hln:=HS.out.2.2.2.len
  obtain ⟨gd,hgd⟩:∃x,(Frame.flat fs).length=x:=⟨_,rfl⟩
  have htk:(az 0 fs).1.take s=(az 0 fs).1:=by rw [<-HM.out.1,List.take_length]
  have HA':Hid (bA A (w1.heap.size+2) (.slice e1 s e3) (az 0 fs).1/\Blk A (rb+1+1) 38 #[.slice e1 s e3,.int .i64 gd,.int .i64 n,.int .i64 0]/\Blk A rb 38 #[.slice none 0 0,.int .i64 0,.int .i64 0,.int .i64 0]/\Blk A (rb+1) 24 #[.int .i64 0]/\w.grownBy A none/\w1.heap.size<=A.heap.size/\A.heap[w1.heap.size]? = some (.deferred (some []))/\(az 0 fs).2=true/\(Frame.flat fs).length=gd):=by
   have h:=HA.out
   rw [htk,hpl,hgd] at h
   exact ⟨h.2.1,h.2.2.1,h.2.2.2.1,h.2.2.2.2.1,h.2.2.2.2.2.1,h.2.2.2.2.2.2.2,hd,hall,hgd⟩
  have HSG:Hid (Seg A (.slice ao L.length cap) L):=by rw [HS.out.2.2.1];exact HS.out.1.grown HA'.out.2.2.2.2.1
  rw [hgd] at hdr hln
  obtain ⟨q,hq⟩:∃x,R.length=x:=⟨_,rfl⟩
  have hnq:n-gd=q:=by have:=HS.out.2.2.1;omega
  have hgn:(gd:Int)<=(n:Int):=by have:=HS.out.2.2.1;omega
  have hg0:(0:Int)<=(gd:Int):=by omega
  have HSD:Hid ((gd=cap/\Hid (Seg A (.slice ao q 0) R))\/(¬cap=gd/\Hid (Seg A (.slice (Option.map (fun x=>x.add gd) ao) q (cap-gd)) R))):=by
   have h2:L.length-gd=q:=by rw [HS.out.2.2.1];omega
   by_cases hck:cap=gd
   ·have:=bk gd (by rw [HS.out.2.2.1];omega) hck HSG.out
    rw [h2,hdr] at this
    exact .inl ⟨hck.symm,this⟩
   ·have:=bC gd (by rw [HS.out.2.2.1];omega) HSG.out
    rw [h2,hdr] at this
    exact .inr ⟨hck,this⟩
  have HQ:Hid (R.length=q/\q<=9000000/\gd<=9000000):=⟨hq,by have:=HS.out;omega,by have:=HS.out;omega⟩
  have hwg:IntKind.i64.wrap (gd:Int)=(gd:Int):=by
   have:=HQ.out
   unfold IntKind.wrap
   simp [IntKind.bits,IntKind.signed]
   omega
  clear hs HA hd hmf hall hpl hdr hln hgd htk hq HSG
  refine (‹∀(a:Act) (w:World),Code.wp Tryz.prog _ _ a w->_› _ _ ?_)
  obtain ⟨c0,c1,c2,c3⟩:=blk4 HA'.out.2.1
  rcases HSD.out with ⟨hck,HSR⟩ | ⟨hck,HSR⟩
  all_goals
   try subst hck
   clear HSD
   go_wp2_with fail
   refine (Frame.vB _ R A HSR.out (by have:=HQ.out;omega)).mono ?_
   rintro e w2 ⟨fs',R',vl,vs,hsc',rfl,hfr,g2⟩
   have hun:=Frame.iE fs' hsc' (Frame.kY R HS.out.2.2.2.last)
   obtain ⟨rfl,rfl⟩:=hun
   have H2:Hid (bA w2 (w1.heap.size+2) (.slice e1 s e3) (az 0 fs).1/\Blk w2 (rb+1+1) 38 #[.slice e1 s e3,.int .i64 gd,.int .i64 n,.int .i64 0]/\Blk w2 rb 38 #[.slice none 0 0,.int .i64 0,.int .i64 0,.int .i64 0]/\Blk w2 (rb+1) 24 #[.int .i64 0]/\w.grownBy w2 none/\w1.heap.size<=w2.heap.size/\w2.heap[w1.heap.size]? = some (.deferred (some []))):=by
    have h:=HA'.out
    refine ⟨h.1.grown g2,h.2.1.grown g2 (by simp),h.2.2.1.grown g2 (by simp),h.2.2.2.1.grown g2 (by simp),aa h.2.2.2.2.1 g2,Nat.le_trans h.2.2.2.2.2.1 g2.size,?_⟩
    rw [g2.block _ (Array.getElem?_eq_some_iff.1 h.2.2.2.2.2.2.1).1 (by simp)]
    exact h.2.2.2.2.2.2.1
   obtain ⟨wy,hwy⟩:∃x,Frame.ends R'=x:=⟨_,rfl⟩
   have HWY:Hid (Frame.ends R'=wy):=hwy
   rw [hwy]
   clear hwy g2 hfr hsc' c0 c1 c2 c3
   obtain ⟨c0,c1,c2,c3⟩:=blk4 H2.out.2.1
   obtain ⟨f0,f1,f2,f3⟩:=eQ H2.out.2.1
   obtain ⟨r0,r1,r2,r3⟩:=blk4 H2.out.2.2.1
   obtain ⟨p0,p1,p2,p3⟩:=eQ H2.out.2.2.1
   have x0:=H2.out.2.2.2.1.cell 0
   have y0:=H2.out.2.2.2.1.free 0
   simp at x0
   rw [show (Frame.flat ([]:Frs)).length=0 from rfl]
   go_wp2_with fail
   have hr:=HR.out
   have hz1:=H1.out.2.2.2.2
   have h2:=H2.out
   have ga:=ae w2 (rb+1+1) 3 (.int .i64 wy)
   generalize hwa:w2.setCell ⟨rb+1+1,3,none⟩ (.int .i64 wy)=wa at ga ⊢
   have ha1:=h2.1.set h2.2.1 (by decide) (by decide) (by decide) ga
   have ha2:=h2.2.2.1.grown ga (by simp;omega)
   have ha3:=h2.2.2.2.1.grown ga (by simp)
   have ha4:=eR ga h2.2.2.2.2.2.2 (by omega)
   obtain ⟨wb,hwb,HB⟩:=set4 ha2 (.slice e1 s e3) (.int .i64 gd) (.int .i64 n) (.int .i64 wy)
   rw [hwb]
   have hb1:=ha1.set ha2 (by decide) (by decide) (by decide) HB.out.2
   have hb3:=ha3.grown HB.out.2 (by simp)
   have hb4:=eR HB.out.2 ha4 (by omega)
   have gc:=ae wb (rb+1) 0 (.int .i64 0)
   have hc3:=hb3.store 0 (.int .i64 0)
   generalize wb.setCell ⟨rb+1,0,none⟩ (.int .i64 0)=wc at gc hc3 ⊢
   have hc1:=hb1.set hb3 (by decide) (by decide) (by decide) gc
   have hc2:=HB.out.1.grown gc (by simp)
   have hc4:=eR gc hb4 (by omega)
   have gg:w.grownBy wc none:=ah (ah (ah h2.2.2.2.2.1 ga (fun x hx=>by simp at hx;omega)) HB.out.2 (fun x hx=>by simp at hx;omega)) gc (fun x hx=>by simp at hx;omega)
   refine ⟨by simp,.inl ⟨_,_,rfl,run_takeDeferred hc4,?_⟩⟩
   have ht:=Tx.putD (n0:=w1.heap.size) (.deferred none) hc4 (Nat.le_refl _)
   obtain ⟨z0,z1,z2,z3⟩:=blk4 (ht.blk hc2 (.inl (by decide)))
   have z4:=(ht.blk hc3 (.inl (by decide))).cell 0
   simp at z4
   refine ⟨.tuple #[.agg #[.slice e1 s e3,.int .i64 gd,.int .i64 n,.int .i64 wy],.int .i64 0],by simp [results,Tryz.results10,go_sem,z0,z1,z2,z3,z4],ht.grown gg (by omega),.inl ⟨HA'.out.2.2.2.2.2.2.2.1,.slice e1 s e3,by rw [HA'.out.2.2.2.2.2.2.2.2,HS.out.2.2.1,HWY.out],(hc1.tx ht).mono (by omega)⟩⟩
 case hround =>
  rintro l' k k' G W0 W1 xs ⟨e1,e3,HI⟩ hlt0 htn ⟨rfl,hkN,hX⟩ ⟨rc,hrc⟩
  have HO:Hid (Tx (w1.heap.size+2) W0 W1/\w1.heap.size+1<W0.heap.size/\W1.heap[w1.heap.size+1]? = some (.loop rc)):=⟨htn,hlt0,hrc⟩
  clear htn hlt0 hrc
  rcases hX with ⟨hk,ov,rfl,oo⟩ | ⟨hk,hkf,rfl⟩
  ·obtain ⟨o1,o2,o3,eo,hol⟩:=aC.slice oo
   subst eo
   obtain ⟨en,hen⟩:∃x,(az 0 fs).1[k]=x:=⟨_,rfl⟩
   have HE:Hid (aC W1 W0.heap.size (.slice o1 o2 o3) en.2.ops/\(az 0 fs).1.take (k+1)=(az 0 fs).1.take k ++ [en]/\k<m):=⟨by rw [<-hen];exact oo,by rw [<-hen,List.take_succ_eq_append_getElem hk],by rw [<-HM.out.1];exact hk⟩
   rw [hen]
   clear hol oo hen hk
   obtain ⟨p1,hp1⟩:∃x,aR fs k=x:=⟨_,rfl⟩
   obtain ⟨p2,hp2⟩:∃x,aR fs (k+1)=x:=⟨_,rfl⟩
   have HP:Hid (aR fs k=p1/\aR fs (k+1)=p2):=⟨hp1,hp2⟩
   rw [hp1] at HI
   rw [hp1,hp2]
   clear hp1 hp2
   simp only [recV,List.zip_toArray,List.zip_cons_cons,List.zip_nil_right,List.foldl_toArray',List.size_toArray,List.foldl_cons,List.foldl_nil,List.setIfInBounds_toArray,List.set_cons_zero,List.set_cons_succ]
   refine wpIn_seq ?_
   refine aF (by rintro ⟨_,_,h⟩;exact h) rfl ?_
   obtain ⟨Wa,hWa,HA⟩:=al1 W1 #[.int .i64 p1,.int .i64 p2,.int .i64 en.1,.int .i64 en.2.kind,.int .i64 en.2.token,.int .i64 en.2.session,.int .i64 en.2.number,.int .i64 en.2.mark,.slice o1 o2 o3] 99
   go_wp2_with fail
   try rw [hWa]
   refine aF (by rintro ⟨_,_,h⟩;exact h) rfl ?_
   go_wp2_with fail
   refine ⟨HA.out.2.1,fun r=>?_⟩
   obtain ⟨fb,hfb⟩:∃x,W1.heap.size=x:=⟨_,rfl⟩
   obtain ⟨W3,hW3⟩:∃W3,Wa.putObj (w1.heap.size+1) (.loop r)=W3:=⟨_,rfl⟩
   have HT3:Hid (Tx (w1.heap.size+1) W1 W3/\W3.heap.size=fb+1/\W1.heap.size=fb/\(∀i,i<fb->i≠w1.heap.size+1->W3.heap[i]? = W1.heap[i]?)/\Blk W3 fb 99 #[.int .i64 p1,.int .i64 p2,.int .i64 en.1,.int .i64 en.2.kind,.int .i64 en.2.token,.int .i64 en.2.session,.int .i64 en.2.number,.int .i64 en.2.mark,.slice o1 o2 o3]):=by
    have hl:Wa.heap[w1.heap.size+1]? = some (.loop rc):=(HA.out.2.1.block _ (by have:=HO.out;have:=HO.out.1.size;omega) (by simp)).trans HO.out.2.2
    have ht:Tx (w1.heap.size+1) Wa W3:=by rw [<-hW3];exact Tx.put _ hl (Nat.le_refl _)
    have hb:=HA.out.1
    rw [hfb] at hb
    refine ⟨(Tx.of_grown HA.out.2.1).trans ht,?_,hfb,fun i hi hn=>?_,ht.blk hb (.inl (by decide))⟩
    ·rw [<-hW3]
     simp [World.putObj]
     have:=HA.out.2.2
     omega
    ·rw [<-hW3,World.putObj_heap_other hn]
     exact HA.out.2.1.block i (by omega) (by simp)
   rw [hW3,hfb]
   clear hWa hW3 hfb
   have HT0:Hid (Tx (w1.heap.size+1) W0 W3):=(HO.out.1.mono (Nat.le_succ _)).trans HT3.out.1
   have HI3:Hid (bA W3 (w1.heap.size+2) (.slice e1 k e3) ((az 0 fs).1.take k)/\Blk W3 (rb+1+1) 38 #[.slice e1 k e3,.int .i64 p1,.int .i64 n,.int .i64 0]/\Blk W3 rb 38 #[.slice none 0 0,.int .i64 0,.int .i64 0,.int .i64 0]/\Blk W3 (rb+1) 24 #[.int .i64 0]/\w.grownBy W3 none/\aC W3 (w1.heap.size+2) (.slice o1 o2 o3) en.2.ops):=by
    have h:=HI.out
    have hr:=HR.out
    have hz:=H1.out.2.2.2.2
    have ht:=HT0.out
    exact ⟨h.2.1.tx ht,ht.blk h.2.2.1 (.inl (by decide)),ht.blk h.2.2.2.1 (.inl (by decide)),ht.blk h.2.2.2.2.1 (.inl (by decide)),ht.grown h.2.2.2.2.2.1 (by omega),(qr HE.out.1 HT3.out.1).mono (by have:=HO.out;omega)⟩
   obtain ⟨c0,c1,c2,c3⟩:=blk4 HI3.out.2.1
   have d1:=HT3.out.2.2.2.2.cell 1
   have d2:=HT3.out.2.2.2.2.cell 2
   have d3:=HT3.out.2.2.2.2.cell 3
   have d4:=HT3.out.2.2.2.2.cell 4
   have d5:=HT3.out.2.2.2.2.cell 5
   have d6:=HT3.out.2.2.2.2.cell 6
   have d7:=HT3.out.2.2.2.2.cell 7
   have d8:=HT3.out.2.2.2.2.cell 8
   simp at d1 d2 d3 d4 d5 d6 d7 d8
   refine wpIn_block (wpIn_seq (wpIn_seq ?_))
   refine aF (by rintro ⟨_,_,h⟩;exact h) rfl ?_
   go_wp2_with fail
   refine wpIn_cond_false rfl (wpIn_skip ?_)
   refine wpIn_seq ?_
   refine aF (by rintro ⟨_,_,h⟩;exact h) rfl ?_
   obtain ⟨W4,hW4,H4⟩:=al1 W3 #[.int .i64 en.1,.int .i64 en.2.kind,.int .i64 en.2.token,.int .i64 en.2.session,.int .i64 en.2.number,.int .i64 en.2.mark,.slice o1 o2 o3] 34
   have HW4:Hid (W3.alloc (.cells #[.int .i64 en.1,.int .i64 en.2.kind,.int .i64 en.2.token,.int .i64 en.2.session,.int .i64 en.2.number,.int .i64 en.2.mark,.slice o1 o2 o3] 34)=W4):=hW4
   clear hW4
   have hlk:((az 0 fs).1.take k).length=k:=by rw [List.length_take,HM.out.1];have:=HI.out.1;omega
   have HLK:Hid (((az 0 fs).1.take k).length=k):=hlk
   obtain ⟨tl,htl⟩:∃x,(az 0 fs).1.take k=x:=⟨_,rfl⟩
   rw [htl] at HI3 HE HLK
   clear hlk htl
   go_wp2_with (at_builtin;rw [HW4.out];refine kV W4 rfl _ _ rfl (w1.heap.size+2) (.slice e1 k e3) tl en o1 o2 o3 W3.heap.size rfl rfl (HI3.out.1.grown H4.out.2.1) H4.out.1 (HI3.out.2.2.2.2.2.grown H4.out.2.1) (by rw [HLK.out];have:=HI.out.1;have:=HM.out;omega) (by have:=HT0.out.size;have:=HO.out;have:=H4.out.2.2;omega) ?_)
   intro g cp W5 hN5 g5 hg5 hl5
   rw [HLK.out] at hN5 ⊢
   have H5:Hid (bA W5 (w1.heap.size+2) (.slice (some ⟨g,0,none⟩) (k+1) cp) (tl ++ [en])/\W4.grownBy W5 (Value.slice e1 k e3).ownBlock/\((Value.slice e1 k e3).ownBlock=some g\/g=W4.heap.size)/\g<W5.heap.size/\Blk W5 (rb+1+1) 38 #[.slice e1 k e3,.int .i64 p1,.int .i64 n,.int .i64 0]/\Blk W5 fb 99 #[.int .i64 p1,.int .i64 p2,.int .i64 en.1,.int .i64 en.2.kind,.int .i64 en.2.token,.int .i64 en.2.session,.int .i64 en.2.number,.int .i64 en.2.mark,.slice o1 o2 o3]):=by
    have hb3:=HI3.out.2.1.grown H4.out.2.1 (by simp)
    have hf3:=HT3.out.2.2.2.2.grown H4.out.2.1 (by simp)
    have he:=HI3.out.1.grown H4.out.2.1
    exact ⟨hN5,g5,hg5,hl5,hb3.grown g5 (dT he hb3 (by decide)),hf3.grown g5 (dT he hf3 (by decide))⟩
   clear hN5 g5 hg5 hl5 HW4 c0 c1 c2 c3 d1 d2 d3 d4 d5 d6 d7 d8
   obtain ⟨c0,c1,c2,c3⟩:=blk4 H5.out.2.2.2.2.1
   obtain ⟨f0,f1,f2,f3⟩:=eQ H5.out.2.2.2.2.1
   have d1:=H5.out.2.2.2.2.2.cell 1
   simp at d1
   go_wp2_with fail
   have gs6:=ae W5 (rb+1+1) 0 (.slice (some ⟨g,0,none⟩) (k+1) cp)
   have hb6:Blk (W5.setCell ⟨rb+1+1,0,none⟩ (.slice (some ⟨g,0,none⟩) (k+1) cp)) (rb+1+1) 38 #[.slice (some ⟨g,0,none⟩) (k+1) cp,.int .i64 p1,.int .i64 n,.int .i64 0]:=H5.out.2.2.2.2.1.store 0 _
   generalize W5.setCell ⟨rb+1+1,0,none⟩ (.slice (some ⟨g,0,none⟩) (k+1) cp)=W6 at gs6 hb6 ⊢
   have H6:Hid (Blk W6 (rb+1+1) 38 #[.slice (some ⟨g,0,none⟩) (k+1) cp,.int .i64 p1,.int .i64 n,.int .i64 0]/\W5.grownBy W6 (some (rb+1+1))/\Blk W6 fb 99 #[.int .i64 p1,.int .i64 p2,.int .i64 en.1,.int .i64 en.2.kind,.int .i64 en.2.token,.int .i64 en.2.session,.int .i64 en.2.number,.int .i64 en.2.mark,.slice o1 o2 o3]):=⟨hb6,gs6,H5.out.2.2.2.2.2.grown gs6 (by have h1:=HT3.out;have h2:=HO.out;have h3:=HO.out.1.size;have h4:=H1.out.2.2.2.2;simp;omega)⟩
   clear hb6 gs6 c0 c1 c2 c3 f0 f1 f2 f3 d1
   obtain ⟨c0,c1,c2,c3⟩:=blk4 H6.out.1
   obtain ⟨f0,f1,f2,f3⟩:=eQ H6.out.1
   have d1:=H6.out.2.2.cell 1
   simp at d1
   refine aF (by rintro ⟨_,_,h⟩;exact h) rfl ?_
   go_wp2_with fail
   have gs7:=ae W6 (rb+1+1) 1 (.int .i64 p2)
   have hb7:Blk (W6.setCell ⟨rb+1+1,1,none⟩ (.int .i64 p2)) (rb+1+1) 38 #[.slice (some ⟨g,0,none⟩) (k+1) cp,.int .i64 p2,.int .i64 n,.int .i64 0]:=H6.out.1.store 1 _
   generalize W6.setCell ⟨rb+1+1,1,none⟩ (.int .i64 p2)=W7 at gs7 hb7 ⊢
   have i5:=H5.out
   have i4:=H4.out
   have i6:=H6.out.2.1
   have i3:=HI3.out
   have t3:=HT3.out
   have o3':=HO.out
   have s0:=HO.out.1.size
   have s5:=i5.2.1.size
   have s6:=i6.size
   have s7:=gs7.size
   have hr:=HR.out
   have hz:=H1.out.2.2.2.2
   have hown:∀i,(Value.slice e1 k e3).ownBlock=some i->w1.heap.size+2<=i/\i<W0.heap.size:=fun i hi=>LRow.lt HI.out.2.1 i hi
   have g67:W5.grownBy W7 (some (rb+1+1)):=aa i6 gs7
   have key:∀i,i<W3.heap.size->i≠rb+1+1->(Value.slice e1 k e3).ownBlock≠some i->W7.heap[i]? = W3.heap[i]?:=fun i hi hb hv=>by
    rw [g67.block i (by omega) (by simp;omega),i5.2.1.block i (by omega) (fun e=>hv e.symm)]
    exact i4.2.1.block i hi (by simp)
   have hgb:g≠rb+1+1:=by
    rcases i5.2.2.1 with h | h
    ·have:=hown g h;omega
    ·omega
   have hE7:bA W7 (w1.heap.size+2) (.slice (some ⟨g,0,none⟩) (k+1) cp) ((az 0 fs).1.take (k+1)):=by
    rw [HE.out.2.1]
    exact i5.1.set i5.2.2.2.2.1 (by decide) (by decide) (by decide) g67
   have hW7:w.grownBy W7 none:=by
    have h45:W4.grownBy W7 none\/True:=.inr trivial
    refine ⟨g67.os.trans (i5.2.1.os.trans (i4.2.1.os.trans i3.2.2.2.2.1.os)),g67.tape.trans (i5.2.1.tape.trans (i4.2.1.tape.trans i3.2.2.2.2.1.tape)),g67.output.trans (i5.2.1.output.trans (i4.2.1.output.trans i3.2.2.2.2.1.output)),by have:=i3.2.2.2.2.1.size;omega,fun i hi _=>?_⟩
    rw [key i (by omega) (by omega) (fun e=>by have:=hown i e;omega)]
    exact i3.2.2.2.2.1.block i hi (by simp)
   refine ⟨⟨key _ (by omega) (by omega) (fun e=>by have:=hown _ e;omega),key _ (by omega) (by omega) (fun e=>by have:=hown _ e;omega)⟩,fun i=>i=g,?_,⟨by omega,fun i h1 h2 h3 _ h5=>?_⟩,some ⟨g,0,none⟩,cp,by have:=HE.out.2.2;omega,hE7,by rw [HP.out.2];exact hb7,i3.2.2.1.same (key _ (by omega) (by omega) (fun e=>by have:=hown _ e;omega)),i3.2.2.2.1.same (key _ (by omega) (by omega) (fun e=>by have:=hown _ e;omega)),hW7,fun g' hg'=>by simp [Value.ownBlock] at hg';exact hg'.symm,by omega⟩
   ·rintro i rfl
    refine ⟨?_,by omega⟩
    rcases i5.2.2.1 with h | h
    ·exact .inl (HI.out.2.2.2.2.2.2.1 _ h)
    ·exact .inr (by omega)
   ·rw [key i (by omega) (fun e=>h3 (.inr (.inr e))) (fun e=>h5 (HI.out.2.2.2.2.2.2.1 _ e))]
    exact t3.2.2.2.1 i (by omega) (by omega)
  ·have hbad:(az 0 fs).2=false:=by
    cases h:(az 0 fs).2 with
    | false=>rfl
    | true=>have:=(dm fs 0).1 h;omega
   have HBAD:Hid ((az 0 fs).2=false):=hbad
   clear hbad hk hkf
   rw [kz]
   simp only [List.zip_toArray,List.zip_cons_cons,List.zip_nil_right,List.foldl_toArray',List.size_toArray,List.foldl_cons,List.foldl_nil,List.setIfInBounds_toArray,List.set_cons_zero,List.set_cons_succ]
   refine wpIn_seq ?_
   refine aF (by rintro ⟨_,_,h⟩;exact h) rfl ?_
   go_wp2_with fail
   obtain ⟨Wa,hWa,HA⟩:=al1 W1 #[.int .i64 0,.int .i64 0,.int .i64 0,.int .i64 0,.int .i64 0,.int .i64 0,.int .i64 0,.int .i64 0,.slice none 0 0] 99
   rw [hWa]
   clear hWa
   refine aF (by rintro ⟨_,_,h⟩;exact h) rfl ?_
   go_wp2_with fail
   refine ⟨HA.out.2.1,fun r=>?_⟩
   obtain ⟨W3,hW3⟩:∃W3,Wa.putObj (w1.heap.size+1) (.loop r)=W3:=⟨_,rfl⟩
   have HT3:Hid (Tx (w1.heap.size+1) W1 W3/\W1.heap.size<=W3.heap.size/\(∀i,i<W1.heap.size->i≠w1.heap.size+1->W3.heap[i]? = W1.heap[i]?)):=by
    have hl:Wa.heap[w1.heap.size+1]? = some (.loop rc):=(HA.out.2.1.block _ (by have:=HO.out;have:=HO.out.1.size;omega) (by simp)).trans HO.out.2.2
    have ht:Tx (w1.heap.size+1) Wa W3:=by rw [<-hW3];exact Tx.put _ hl (Nat.le_refl _)
    refine ⟨(Tx.of_grown HA.out.2.1).trans ht,Nat.le_trans HA.out.2.1.size ht.size,fun i hi hn=>?_⟩
    rw [<-hW3,World.putObj_heap_other hn]
    exact HA.out.2.1.block i (by omega) (by simp)
   rw [hW3]
   clear hW3
   have HT0:Hid (Tx (w1.heap.size+1) W0 W3):=(HO.out.1.mono (Nat.le_succ _)).trans HT3.out.1
   have HI3:Hid (Blk W3 rb 38 #[.slice none 0 0,.int .i64 0,.int .i64 0,.int .i64 0]/\Blk W3 (rb+1) 24 #[.int .i64 0]/\w.grownBy W3 none):=by
    have h:=HI.out
    have hr:=HR.out
    have hz:=H1.out.2.2.2.2
    have ht:=HT0.out
    exact ⟨ht.blk h.2.2.2.1 (.inl (by decide)),ht.blk h.2.2.2.2.1 (.inl (by decide)),ht.grown h.2.2.2.2.2.1 (by omega)⟩
   obtain ⟨c0,c1,c2,c3⟩:=blk4 HI3.out.1
   obtain ⟨f0,f1,f2,f3⟩:=eQ HI3.out.1
   have x0:=HI3.out.2.1.cell 0
   have y0:=HI3.out.2.1.free 0
   simp at x0
   refine wpIn_block (wpIn_seq (wpIn_seq ?_))
   refine aF (by rintro ⟨_,_,h⟩;exact h) rfl ?_
   go_wp2_with fail
   refine wpIn_cond_true rfl (wpIn_seq ?_)
   refine aF (by rintro ⟨_,_,h⟩;exact h) rfl ?_
   go_wp2_with fail
   obtain ⟨W4,hW4,H4⟩:=set4 HI3.out.1 (.slice none 0 0) (.int .i64 0) (.int .i64 0) (.int .i64 0)
   rw [hW4]
   clear hW4
   have hx4:=HI3.out.2.1.grown H4.out.2 (by simp)
   have g5:=ae W4 (rb+1) 0 (.int .i64 8)
   have hx5:=hx4.store 0 (.int .i64 8)
   generalize W4.setCell ⟨rb+1,0,none⟩ (.int .i64 8)=W5 at g5 hx5 ⊢
   refine wpIn_ret ?_
   have hr:=HR.out
   have hz:=H1.out.2.2.2.2
   have o':=HO.out
   have s0:=HO.out.1.size
   have t3:=HT3.out
   have s4:=H4.out.2.size
   have s5:=g5.size
   have key:∀i,i<W3.heap.size->i≠rb->i≠rb+1->W5.heap[i]? = W3.heap[i]?:=fun i h1 h2 h3=>by
    rw [g5.block i (by omega) (by simp;omega)]
    exact H4.out.2.block i h1 (by simp;omega)
   refine ⟨⟨key _ (by omega) (by omega) (by omega),key _ (by omega) (by omega) (by omega)⟩,⟨by omega,fun i h1 h2 h3 _ _=>?_⟩,H4.out.1.grown g5 (by simp),hx5,ah (ah HI3.out.2.2 H4.out.2 (fun x hx=>by simp at hx;omega)) g5 (fun x hx=>by simp at hx;omega),HBAD.out⟩
   rw [key i (by omega) (fun e=>h3 (.inl e)) (fun e=>h3 (.inr (.inl e)))]
   exact t3.2.2 i h1 (by omega)
end Go.Proofs.YtadhfejefpildaaGreat
