import Derived.Test.YtadhfejefpildaaGreatHa
set_option maxHeartbeats 8000000
set_option maxRecDepth 100000
namespace Go.Proofs.YtadhfejefpildaaGreat
open Go.RowKit Disk Table
open Go.Proofs.YtadhfejefpildaaGreat.Calls
open Go.Proofs.YtadhfejefpildaaGreat.Command
open Go.Proofs.YtadhfejefpildaaGreat.Frame (Frs)
def CutP (F:Nat->Prop)(v:Value)(S:St)(fs:Frs)(n:Int)(w:World)(x:Ending)(w':World):Prop:=x=.returned (.tuple #[.int .i64 (cutS S fs n).1,.int .i64 (cutS S fs n).2.1])/\DAft w F w' v (cutS S fs n).2.2
theorem qg (n:Int)(w:World):Calls Tryz.prog 25 #[.pointer none,.int .i64 n] w fun e w'=>e=.returned (.tuple #[.int .i64 0,.int .i64 1])/\w.grownBy w' none:=by
 obtain ⟨w1,hw1,H1⟩:=al3 w #[.int .i64 n] #[.int .i64 0] #[.int .i64 0] 2 3 24
 refine di Tryz.func25 rfl ?_
 simp only [Tryz.ntmps25,List.size_toArray,List.length_cons,List.length_nil,Nat.reduceAdd,Nat.reduceSub,Array.replicate_succ,Array.replicate_zero,List.push_toArray,List.append_toArray,List.nil_append,List.cons_append]
 go_wp2_with fail
 try rw [hw1]
 clear hw1
 obtain ⟨rb,hrb⟩:∃x,w.heap.size=x:=⟨_,rfl⟩
 have HR:Hid (w.heap.size=rb):=hrb
 rw [hrb] at H1 ⊢
 clear hrb
 refine (fq w1).mono ?_
 rintro e w2 ⟨rfl,g2⟩
 have H2:Hid (Blk w2 (rb+1) 3 #[.int .i64 0]/\Blk w2 (rb+1+1) 24 #[.int .i64 0]/\w.grownBy w2 none):=⟨H1.out.2.1.grown g2 (by simp),H1.out.2.2.1.grown g2 (by simp),aa H1.out.2.2.2.1 g2⟩
 clear g2 H1
 have c0:=H2.out.1.cell 0
 have c1:=H2.out.2.1.cell 0
 have f0:=H2.out.1.free 0
 have f1:=H2.out.2.1.free 0
 simp at c0 c1
 go_wp2_with fail
 have ga:=ae w2 (rb+1) 0 (.int .i64 0)
 have ha:=H2.out.1.store 0 (.int .i64 0)
 have ha2:=H2.out.2.1.grown ga (by simp)
 generalize w2.setCell ⟨rb+1,0,none⟩ (.int .i64 0)=wa at ga ha ha2 ⊢
 have gb:=ae wa (rb+1+1) 0 (.int .i64 1)
 have hb:=ha2.store 0 (.int .i64 1)
 have hb1:=ha.grown gb (by simp)
 generalize wa.setCell ⟨rb+1+1,0,none⟩ (.int .i64 1)=wb at gb hb hb1 ⊢
 have z0:=hb1.cell 0
 have z1:=hb.cell 0
 simp at z0 z1
 have hr:=HR.out
 exact ⟨.tuple #[.int .i64 0,.int .i64 1],by simp [results,Tryz.results25,go_sem,z0,z1],rfl,ah (ah H2.out.2.2 ga (fun x hx=>by simp at hx;omega)) gb (fun x hx=>by simp at hx;omega)⟩
theorem ww (F:Nat->Prop)(v:Value)(S:St)(fs:Frs)(R:Bs)(n:Int)(w:World)(h:DK w F v S)(hm:S.steps<9223372036854775807)(hsc:Frame.Sc S.log fs R)(hL:S.log.length<=9000000):Calls Tryz.prog 25 #[v,.int .i64 n] w (CutP F v S fs n w):=by
 have HD:Hid (DK w F v S/\Frame.Sc S.log fs R/\S.log.length<=9000000/\S.steps<9223372036854775807/\S.Ok):=⟨h,hsc,hL,hm,h.ok⟩
 obtain ⟨b,lv,v0,v1,rfl,hb⟩:=h
 clear hb hsc hL hm
 obtain ⟨w1,hw1,H1⟩:=al3 w #[.int .i64 n] #[.int .i64 0] #[.int .i64 0] 2 3 24
 refine di Tryz.func25 rfl ?_
 simp only [Tryz.ntmps25,List.size_toArray,List.length_cons,List.length_nil,Nat.reduceAdd,Nat.reduceSub,Array.replicate_succ,Array.replicate_zero,List.push_toArray,List.append_toArray,List.nil_append,List.cons_append]
 go_wp2_with fail
 try rw [hw1]
 clear hw1
 obtain ⟨rb,hrb⟩:∃x,w.heap.size=x:=⟨_,rfl⟩
 have HR:Hid (w.heap.size=rb):=hrb
 rw [hrb] at H1 ⊢
 clear hrb
 refine (jz F _ S w1 (HD.out.1.grown H1.out.2.2.2.1)).mono ?_
 rintro e w2 ⟨rfl,g2⟩
 have H2:Hid (Blk w2 rb 2 #[.int .i64 n]/\Blk w2 (rb+1) 3 #[.int .i64 0]/\Blk w2 (rb+1+1) 24 #[.int .i64 0]/\w.grownBy w2 none):=⟨H1.out.1.grown g2 (by simp),H1.out.2.1.grown g2 (by simp),H1.out.2.2.1.grown g2 (by simp),aa H1.out.2.2.2.1 g2⟩
 clear g2 H1
 have c0:=H2.out.1.cell 0
 simp at c0
 by_cases hn:n<0
 ·have HN:Hid (cutS S fs n=(0,2,S)):=by unfold Hid cutS;rw [if_pos hn]
  have q1:=eq_true hn
  clear hn
  have c1:=H2.out.2.1.cell 0
  have c2:=H2.out.2.2.1.cell 0
  have f0:=H2.out.2.1.free 0
  have f1:=H2.out.2.2.1.free 0
  simp at c1 c2
  go_wp2_with fail
  have ga:=ae w2 (rb+1) 0 (.int .i64 0)
  have ha:=H2.out.2.1.store 0 (.int .i64 0)
  have ha2:=H2.out.2.2.1.grown ga (by simp)
  generalize w2.setCell ⟨rb+1,0,none⟩ (.int .i64 0)=wa at ga ha ha2 ⊢
  have gb:=ae wa (rb+1+1) 0 (.int .i64 2)
  have hb:=ha2.store 0 (.int .i64 2)
  have hb1:=ha.grown gb (by simp)
  generalize wa.setCell ⟨rb+1+1,0,none⟩ (.int .i64 2)=wb at gb hb hb1 ⊢
  have z0:=hb1.cell 0
  have z1:=hb.cell 0
  simp at z0 z1
  have hr:=HR.out
  have gg:w.grownBy wb none:=ah (ah H2.out.2.2.2 ga (fun x hx=>by simp at hx;omega)) gb (fun x hx=>by simp at hx;omega)
  exact ⟨.tuple #[.int .i64 0,.int .i64 2],by simp [results,Tryz.results25,go_sem,z0,z1],by rw [HN.out],by rw [HN.out];exact ⟨F,HD.out.1.grown gg,aP gg⟩⟩
 have q1:=eq_false hn
 have HN:Hid (¬n<0):=hn
 clear hn
 go_wp2_with fail
 refine (uz F _ S w2 (HD.out.1.grown H2.out.2.2.2)).mono ?_
 rintro e w3 ⟨rfl,hw3⟩
 subst hw3
 obtain ⟨su,hsu⟩:∃x,S.sure=x:=⟨_,rfl⟩
 have HSU:Hid (S.sure=su):=hsu
 rw [hsu]
 clear hsu
 go_upto_region 6 with fail
 obtain ⟨w4,hw4,H4⟩:=al3 w3 #[.int .i64 0] #[.int .i64 0] #[.int .i64 su] 3 3 3
 rw [hw4]
 clear hw4
 obtain ⟨ub,hub⟩:∃x,w3.heap.size=x:=⟨_,rfl⟩
 have HUB:Hid (w3.heap.size=ub/\rb+3<=ub):=⟨hub,by have:=H2.out.2.2.1.lt;omega⟩
 rw [hub] at H4 ⊢
 clear hub
 have G4:Hid (w.grownBy w4 none):=aa H2.out.2.2.2 H4.out.2.2.2.1
 go_wp2_with fail
 refine (oI F _ S w4 (HD.out.1.grown G4.out)).mono ?_
 rintro e w5 ⟨u,rfl,ou,g5⟩
 obtain ⟨ua,un,uc,eu⟩:=Calls.aB ou
 subst eu
 have H5:Hid (Disk.Own w5 w4.heap.size (.slice ua un uc) S.log/\w4.grownBy w5 none):=⟨ou,g5⟩
 clear ou g5
 go_wp2_with fail
 refine (kw (.slice ua un uc) S.log w5 H5.out.1.seg (by have:=HD.out;omega)).mono ?_
 rintro e w6 ⟨Cx,Bx,u',rfl,hC,hB,hbC,hbB,hu',g6⟩
 have H6:Hid (Blk w6 rb 2 #[.int .i64 n]/\Blk w6 (rb+1) 3 #[.int .i64 0]/\Blk w6 (rb+1+1) 24 #[.int .i64 0]/\Blk w6 ub 3 #[.int .i64 0]/\Blk w6 (ub+1) 3 #[.int .i64 0]/\Blk w6 (ub+1+1) 3 #[.int .i64 su]/\w.grownBy w6 none/\ub+3<=w6.heap.size):=by
  have g:=aa H4.out.2.2.2.1 (aa H5.out.2 g6)
  have g':=aa H5.out.2 g6
  exact ⟨H2.out.1.grown g (by simp),H2.out.2.1.grown g (by simp),H2.out.2.2.1.grown g (by simp),H4.out.1.grown g' (by simp),H4.out.2.1.grown g' (by simp),H4.out.2.2.1.grown g' (by simp),aa G4.out g',by have:=H4.out.2.2.2.2;have:=g'.size;have:=HUB.out;omega⟩
 have HG:Hid (jO Tryz.prog 80 #[.pointer (some ⟨Cx,0,none⟩)] (Nr fs) (Xr fs) (fun i=>i=ub\/i=ub+1\/i=rb+1\/i=rb+1+1) w6):=by
  have hr:=HR.out
  have hub:=HUB.out
  have hz4:=H4.out.2.2.2.2
  have hz5:=H5.out.2.size
  refine mw _ Cx Bx u' S.log fs R w6 hbC hbB hu'.seg HD.out.2.1 (by have:=HD.out;omega) (by omega) ?_ (by have:=H6.out.2.2.2.2.2.2.2;intro i hi;omega)
  intro _ b off nn c e
  have:=(hu'.lt b (by rw [e];rfl)).1
  omega
 clear hbC hbB hu' g6 hC hB
 go_wp2_with fail
 obtain ⟨m,hm⟩:∃x,(az 0 fs).1.length=x:=⟨_,rfl⟩
 have HM:Hid ((az 0 fs).1.length=m/\m<=fs.length/\m<=1000000):=⟨hm,by rw [<-hm];exact cP fs 0,by have:=cP fs 0;have:=HD.out.2.1.count;have:=HD.out;omega⟩
 clear hm
 have HPL:Hid (∀k,k<=m->aR fs k<=9000000):=fun k hk=>by
  have:=HD.out.2.1.len
  have:=Frame.fp fs k
  have:=HD.out
  unfold aR
  omega
 obtain ⟨A,hA⟩:∃A,cutA fs n su=A:=⟨_,rfl⟩
 have HAC:Hid (cutA fs n su=A/\(∀k,A (k+1)=true->A k=true)/\(∀k,cnt A k<=k)):=⟨hA,by rw [<-hA];exact eV fs n su,nT A⟩
 clear hA
 refine iG (gf:=80) (lb:=#[.pointer (some ⟨Cx,0,none⟩)]) rfl (enters_of Tryz.func80 (by kernel_rfl) rfl) HG.out ?hps
  (fun k G W=>Hid (k<=m/\Blk W ub 3 #[.int .i64 (cnt A k:Nat)]/\Blk W (ub+1) 3 #[.int .i64 (aR fs (cnt A k):Nat)]/\Blk W (ub+1+1) 3 #[.int .i64 su]/\Blk W rb 2 #[.int .i64 n]/\Blk W (rb+1) 3 #[.int .i64 0]/\Blk W (rb+1+1) 24 #[.int .i64 0]/\w.grownBy W none/\w6.heap.size<=W.heap.size/\(∀i,¬G i)))
  (fun W=>Hid (Blk W (rb+1) 3 #[.int .i64 0]/\Blk W (rb+1+1) 24 #[.int .i64 8]/\w.grownBy W none/\(az 0 fs).2=false)) ?hIg ?hXg ?h0 ?hround ?hdone ?hstop
 case hps =>
  rintro k k' W0 W1 xs ⟨_,_,(⟨_,_,rfl,_⟩ | ⟨_,_,rfl⟩)⟩ <;> rfl
 case hIg =>
  rintro k G W W' HA ht
  have hz:=H6.out.2.2.2.2.2.2.2
  have hr:=HR.out
  have hub:=HUB.out
  have h:=HA.out
  exact ⟨h.1,ht.blk h.2.1 (.inl (by decide)),ht.blk h.2.2.1 (.inl (by decide)),ht.blk h.2.2.2.1 (.inl (by decide)),ht.blk h.2.2.2.2.1 (.inr (by omega)),ht.blk h.2.2.2.2.2.1 (.inl (by decide)),ht.blk h.2.2.2.2.2.2.1 (.inl (by decide)),ht.grown h.2.2.2.2.2.2.2.1 (by omega),Nat.le_trans h.2.2.2.2.2.2.2.2.1 ht.size,h.2.2.2.2.2.2.2.2.2⟩
 case hXg =>
  rintro W W' HA ht
  have hz:=H6.out.2.2.2.2.2.2.2
  have hr:=HR.out
  have hub:=HUB.out
  exact ⟨ht.blk HA.out.1 (.inl (by decide)),ht.blk HA.out.2.1 (.inl (by decide)),ht.grown HA.out.2.2.1 (by omega),HA.out.2.2.2⟩
 case h0 =>
  have h:=H6.out
  exact ⟨Nat.zero_le _,by simpa [cnt] using h.2.2.2.1,by simpa [cnt,aR,Frame.flat] using h.2.2.2.2.1,h.2.2.2.2.2.1,h.1,h.2.1,h.2.2.1,h.2.2.2.2.2.2.1,Nat.le_refl _,fun _ h=>h⟩
 case hstop =>
  intro W HA hd
  have HDD:Hid _:=hd
  clear hd
  go_wp2_with fail
  refine ⟨by simp,.inl ⟨_,_,rfl,run_takeDeferred HDD.out,?_⟩⟩
  have hz:=H6.out.2.2.2.2.2.2.2
  have hr:=HR.out
  have hub:=HUB.out
  have ht:=Tx.putD (n0:=w6.heap.size) (.deferred none) HDD.out (Nat.le_refl _)
  have z0:=(ht.blk HA.out.1 (.inl (by decide))).cell 0
  have z1:=(ht.blk HA.out.2.1 (.inl (by decide))).cell 0
  simp at z0 z1
  have gg:=ht.grown HA.out.2.2.1 (by omega)
  have HC:cutS S fs n=(0,8,S):=by unfold cutS;rw [if_neg (show ¬n<0 by have:=HN.out;omega),if_pos HA.out.2.2.2]
  exact ⟨.tuple #[.int .i64 0,.int .i64 8],by simp [results,Tryz.results25,go_sem,z0,z1],by rw [HC],by rw [HC];exact ⟨F,HD.out.1.grown gg,aP gg⟩⟩
 case hdone =>
  rintro W s G hs HA hd
  have hsm:s=m/\(az 0 fs).2=true:=by
   have h1:=HA.out.1
   have h2:=HM.out
   rcases Nat.lt_or_ge (az 0 fs).1.length fs.length with h | h
   ·have:=lu h
    have hs':s=Nr fs:=hs
    omega
   ·have:=nW (fs:=fs) (by omega)
    have hs':s=Nr fs:=hs
    exact ⟨by omega,(dm fs 0).2 (by omega)⟩
  obtain ⟨rfl,hall⟩:=hsm
  obtain ⟨c,hc⟩:∃c,cnt A s=c:=⟨_,rfl⟩
  obtain ⟨pl,hpl⟩:∃x,aR fs c=x:=⟨_,rfl⟩
  have HCN:Hid (cutN fs n S.sure=c/\cutS S fs n=(((c:Nat):Int),0,if c=0 then S else S.drop (pl:Nat))/\c<=1000000/\pl<=9000000/\S.dropBad (pl:Nat)=false):=by
   have e1:cutN fs n S.sure=c:=by unfold cutN;rw [HSU.out,HAC.out.1,HM.out.1];exact hc
   have e2:=gk fs n S.sure
   have e3:=HAC.out.2.2 s
   have e4:=HM.out.2.2
   rw [e1,hpl] at e2
   refine ⟨e1,?_,by omega,by rw [<-hpl];exact HPL.out c (by omega),?_⟩
   ·unfold cutS
    rw [if_neg (show ¬n<0 by have:=HN.out;omega),if_neg (by rw [hall];simp),e1,hpl]
   ·unfold St.dropBad
    simp
    omega
  have HI:Hid (Blk W ub 3 #[.int .i64 (c:Nat)]/\Blk W (ub+1) 3 #[.int .i64 (pl:Nat)]/\Blk W (rb+1) 3 #[.int .i64 0]/\Blk W (rb+1+1) 24 #[.int .i64 0]/\w.grownBy W none/\w6.heap.size<=W.heap.size/\W.heap[w6.heap.size]? = some (.deferred (some []))):=by
   have h:=HA.out
   rw [hc,hpl] at h
   exact ⟨h.2.1,h.2.2.1,h.2.2.2.2.2.1,h.2.2.2.2.2.2.1,h.2.2.2.2.2.2.2.1,h.2.2.2.2.2.2.2.2.1,hd⟩
  clear hs HA hd hall hc hpl
  refine (‹∀(a:Act) (w:World),Code.wp Tryz.prog _ _ a w->_› _ _ ?_)
  have c1:=HI.out.1.cell 0
  have c2:=HI.out.2.1.cell 0
  simp at c1 c2
  have hmf:∀(fn:Fn) (first cap:Array Value) (w:World),(Instr.makeFunc fn first cap).run Tryz.prog w=.ok (.func fn first cap) w:=fun _ _ _ _=>rfl
  go_wp2_with fail
  refine (vC F _ S c pl W (HD.out.1.grown HI.out.2.2.2.2.1) (by have:=HCN.out;omega) (by have:=HCN.out;omega) HD.out.2.2.2.1 HCN.out.2.2.2.2).mono ?_
  rintro e wd ⟨rfl,F',hk',ha'⟩
  have H7:Hid (DK wd F' (.pointer (some ⟨b,0,none⟩)) (if c=0 then S else S.drop (pl:Nat))/\Aft W F wd F'/\Blk wd (rb+1) 3 #[.int .i64 0]/\Blk wd (rb+1+1) 24 #[.int .i64 0]/\wd.heap[w6.heap.size]? = some (.deferred (some []))/\(∀k,F k->k<rb)):=by
   have hr:=HR.out
   have hub:=HUB.out
   have hz:=H6.out.2.2.2.2.2.2.2
   have hF:∀k,F k->k<rb:=fun k hk=>by have:=HD.out.1.lt k hk;omega
   have key:∀k,rb<=k->k<W.heap.size->wd.heap[k]? = W.heap[k]?:=fun k h1 h2=>ha'.fr.block k h2 (fun e=>by have:=hF k e;omega)
   exact ⟨hk',ha',HI.out.2.2.1.same (key _ (by omega) HI.out.2.2.1.lt),HI.out.2.2.2.1.same (key _ (by omega) HI.out.2.2.2.1.lt),(key _ (by omega) (Array.getElem?_eq_some_iff.1 HI.out.2.2.2.2.2.2).1).trans HI.out.2.2.2.2.2.2,hF⟩
  clear hk' ha' c1 c2
  have c1:=H7.out.2.2.1.cell 0
  have c2:=H7.out.2.2.2.1.cell 0
  have f1:=H7.out.2.2.1.free 0
  have f2:=H7.out.2.2.2.1.free 0
  simp at c1 c2
  go_wp2_with fail
  have ga:=ae wd (rb+1) 0 (.int .i64 (c:Nat))
  have ha:=H7.out.2.2.1.store 0 (.int .i64 (c:Nat))
  have ha2:=H7.out.2.2.2.1.grown ga (by simp)
  generalize wd.setCell ⟨rb+1,0,none⟩ (.int .i64 (c:Nat))=wa at ga ha ha2 ⊢
  have gb:=ae wa (rb+1+1) 0 (.int .i64 0)
  have hb:=ha2.store 0 (.int .i64 0)
  have hb1:=ha.grown gb (by simp)
  generalize wa.setCell ⟨rb+1+1,0,none⟩ (.int .i64 0)=wb at gb hb hb1 ⊢
  have hr:=HR.out
  have hub:=HUB.out
  have hz:=H6.out.2.2.2.2.2.2.2
  have h7:=H7.out
  have hd4:=eR gb (eR ga h7.2.2.2.2.1 (by omega)) (by omega)
  refine ⟨by simp,.inl ⟨_,_,rfl,run_takeDeferred hd4,?_⟩⟩
  have ht:=Tx.putD (n0:=w6.heap.size) (.deferred none) hd4 (Nat.le_refl _)
  have z0:=(ht.blk hb1 (.inl (by decide))).cell 0
  have z1:=(ht.blk hb (.inl (by decide))).cell 0
  simp at z0 z1
  refine ⟨.tuple #[.int .i64 (c:Nat),.int .i64 0],by simp [results,Tryz.results25,go_sem,z0,z1],by rw [HCN.out.2.1],?_⟩
  rw [HCN.out.2.1]
  have hs1:=ga.size
  have hs2:=gb.size
  have key:∀k,k<wd.heap.size->k≠rb+1->k≠rb+1+1->k≠w6.heap.size->(wb.putObj w6.heap.size (.deferred none)).heap[k]? = wd.heap[k]?:=fun k h1 h2 h3 h4=>by
   rw [World.putObj_heap_other (by omega),gb.block k (by omega) (by simp;omega)]
   exact ga.block k h1 (by simp;omega)
  have hwd:w6.heap.size<=W.heap.size:=HI.out.2.2.2.2.2.1
  have hF':∀k,F' k->k≠rb+1/\k≠rb+1+1/\k≠w6.heap.size:=fun k hk=>by
   have hmk:=(Array.getElem?_eq_some_iff.1 HI.out.2.2.2.2.2.2).1
   rcases h7.2.1.sub k hk with h | h
   ·have:=h7.2.2.2.2.2 k h
    omega
   ·omega
  have hg:=HI.out.2.2.2.2.1
  have hsz:=hg.size
  have hw1:=h7.2.1.fr.size
  refine ⟨F',h7.1.same (by have:=ht.size;omega) (fun k hk=>key k (h7.1.lt k hk) (hF' k hk).1 (hF' k hk).2.1 (hF' k hk).2.2),⟨?_,fun k hk=>?_⟩⟩
  ·refine ⟨ht.os.trans (gb.os.trans (ga.os.trans (h7.2.1.fr.os.trans hg.os))),ht.tape.trans (gb.tape.trans (ga.tape.trans (h7.2.1.fr.tape.trans hg.tape))),ht.output.trans (gb.output.trans (ga.output.trans (h7.2.1.fr.output.trans hg.output))),by have:=ht.size;omega,fun k hk hn=>?_⟩
   rw [key k (by omega) (by omega) (by omega) (by omega),h7.2.1.fr.block k (by omega) hn]
   exact hg.block k hk (by simp)
  ·rcases h7.2.1.sub k hk with h | h
   ·exact .inl h
   ·exact .inr (by omega)
 case hround =>
  rintro l' k k' G W0 W1 xs HI hlt0 htn ⟨rfl,hkN,hX⟩ ⟨rc,hrc⟩
  have HO:Hid (Tx (w6.heap.size+2) W0 W1/\w6.heap.size+1<W0.heap.size/\W1.heap[w6.heap.size+1]? = some (.loop rc)):=⟨htn,hlt0,hrc⟩
  clear htn hlt0 hrc
  rcases hX with ⟨hk,ov,rfl,oo⟩ | ⟨hk,hkf,rfl⟩
  ·obtain ⟨o1,o2,o3,eo,hol⟩:=aC.slice oo
   subst eo
   obtain ⟨en,hen⟩:∃x,(az 0 fs).1[k]=x:=⟨_,rfl⟩
   obtain ⟨p1,hp1⟩:∃x,aR fs k=x:=⟨_,rfl⟩
   obtain ⟨p2,hp2⟩:∃x,aR fs (k+1)=x:=⟨_,rfl⟩
   obtain ⟨ct,hct⟩:∃x,cnt A k=x:=⟨_,rfl⟩
   obtain ⟨pc,hpc⟩:∃x,aR fs (cnt A k)=x:=⟨_,rfl⟩
   have HE:Hid (k<m/\(A k=true<->en.1<=n/\p2<=su)/\aR fs (k+1)=p2/\cnt A k=ct/\aR fs (cnt A k)=pc/\ct<=1000000):=⟨by rw [<-HM.out.1];exact hk,by rw [<-HAC.out.1,ft hk,hen,hp2],hp2,hct,hpc,by have:=HAC.out.2.2 k;have:=HI.out.1;have:=HM.out;omega⟩
   rw [hpc,hct] at HI
   rw [hen,hp1,hp2]
   clear hol oo hen hk hp1 hp2 hct hpc
   simp only [recV,List.zip_toArray,List.zip_cons_cons,List.zip_nil_right,List.foldl_toArray',List.size_toArray,List.foldl_cons,List.foldl_nil,List.setIfInBounds_toArray,List.set_cons_zero,List.set_cons_succ]
   refine wpIn_seq ?_
   refine aF (by rintro ⟨_,_,h⟩;exact h) rfl ?_
   obtain ⟨Wa,hWa,HA⟩:=al1 W1 #[.int .i64 p1,.int .i64 p2,.int .i64 en.1,.int .i64 en.2.kind,.int .i64 en.2.token,.int .i64 en.2.session,.int .i64 en.2.number,.int .i64 en.2.mark,.slice o1 o2 o3] 99
   go_wp2_with fail
   try rw [hWa]
   refine aF (by rintro ⟨_,_,h⟩;exact h) rfl ?_
   go_wp2_with fail
   refine ⟨HA.out.2.1,fun r=>?_⟩
   obtain ⟨fb,hfb⟩:∃x,W1.heap.size=x:=⟨_,rfl⟩
   obtain ⟨W3,hW3⟩:∃W3,Wa.putObj (w6.heap.size+1) (.loop r)=W3:=⟨_,rfl⟩
   have HT3:Hid (Tx (w6.heap.size+1) W1 W3/\W3.heap.size=fb+1/\W1.heap.size=fb/\(∀i,i<fb->i≠w6.heap.size+1->W3.heap[i]? = W1.heap[i]?)/\Blk W3 fb 99 #[.int .i64 p1,.int .i64 p2,.int .i64 en.1,.int .i64 en.2.kind,.int .i64 en.2.token,.int .i64 en.2.session,.int .i64 en.2.number,.int .i64 en.2.mark,.slice o1 o2 o3]):=by
    have hl:Wa.heap[w6.heap.size+1]? = some (.loop rc):=(HA.out.2.1.block _ (by have:=HO.out;have:=HO.out.1.size;omega) (by simp)).trans HO.out.2.2
    have ht:Tx (w6.heap.size+1) Wa W3:=by rw [<-hW3];exact Tx.put _ hl (Nat.le_refl _)
    have hb:=HA.out.1
    rw [hfb] at hb
    refine ⟨(Tx.of_grown HA.out.2.1).trans ht,?_,hfb,fun i hi hn=>?_,ht.blk hb (.inl (by decide))⟩
    ·rw [<-hW3]
     simp [World.putObj]
     have:=HA.out.2.2
     omega
    ·rw [<-hW3,World.putObj_heap_other hn]
     exact HA.out.2.1.block i (by omega) (by simp)
   rw [hW3,hfb]
   clear hWa hW3 hfb
   have HT0:Hid (Tx (w6.heap.size+1) W0 W3):=(HO.out.1.mono (Nat.le_succ _)).trans HT3.out.1
   have HI3:Hid (Blk W3 ub 3 #[.int .i64 (ct:Nat)]/\Blk W3 (ub+1) 3 #[.int .i64 (pc:Nat)]/\Blk W3 (ub+1+1) 3 #[.int .i64 su]/\Blk W3 rb 2 #[.int .i64 n]/\Blk W3 (rb+1) 3 #[.int .i64 0]/\Blk W3 (rb+1+1) 24 #[.int .i64 0]/\w.grownBy W3 none/\w6.heap.size<=W3.heap.size):=by
    have h:=HI.out
    have hr:=HR.out
    have hub:=HUB.out
    have hz:=H6.out.2.2.2.2.2.2.2
    have ht:=HT0.out
    exact ⟨ht.blk h.2.1 (.inl (by decide)),ht.blk h.2.2.1 (.inl (by decide)),ht.blk h.2.2.2.1 (.inl (by decide)),ht.blk h.2.2.2.2.1 (.inr (by omega)),ht.blk h.2.2.2.2.2.1 (.inl (by decide)),ht.blk h.2.2.2.2.2.2.1 (.inl (by decide)),ht.grown h.2.2.2.2.2.2.2.1 (by omega),Nat.le_trans h.2.2.2.2.2.2.2.2.1 ht.size⟩
   have c0:=HI3.out.1.cell 0
   have c1:=HI3.out.2.1.cell 0
   have c2:=HI3.out.2.2.1.cell 0
   have c3:=HI3.out.2.2.2.1.cell 0
   have f0:=HI3.out.1.free 0
   have f1:=HI3.out.2.1.free 0
   have d1:=HT3.out.2.2.2.2.cell 1
   have d2:=HT3.out.2.2.2.2.cell 2
   simp at c0 c1 c2 c3 d1 d2
   have hcw:IntKind.i64.wrap ((ct:Int)+1)=((ct+1:Nat):Int):=by
    have:=HE.out
    unfold IntKind.wrap
    simp [IntKind.bits,IntKind.signed]
    omega
   have HEND:Hid (∀W5:World,(∀i,i≠ub->i≠ub+1->i<W3.heap.size->W5.heap[i]? = W3.heap[i]?)->W3.grownBy W5 none\/True->W3.heap.size<=W5.heap.size->(W5.os=W3.os/\W5.tape=W3.tape/\W5.output=W3.output)->Blk W5 ub 3 #[.int .i64 (cnt A (k+1):Nat)]->Blk W5 (ub+1) 3 #[.int .i64 (aR fs (cnt A (k+1)):Nat)]->((W5.heap[w6.heap.size]? = W3.heap[w6.heap.size]?/\W5.heap[w6.heap.size+1]? = W3.heap[w6.heap.size+1]?)/\∃G',NewG G G' W1 W5/\il w6.heap.size (w6.heap.size+2) (fun i=>i=ub\/i=ub+1\/i=rb+1\/i=rb+1+1) G #[.agg #[.int .i64 p1,.int .i64 p2,.int .i64 en.1,.int .i64 en.2.kind,.int .i64 en.2.token,.int .i64 en.2.session,.int .i64 en.2.number,.int .i64 en.2.mark,.slice o1 o2 o3],.int .i64 0] W1 W5/\Hid (k+1<=m/\Blk W5 ub 3 #[.int .i64 (cnt A (k+1):Nat)]/\Blk W5 (ub+1) 3 #[.int .i64 (aR fs (cnt A (k+1)):Nat)]/\Blk W5 (ub+1+1) 3 #[.int .i64 su]/\Blk W5 rb 2 #[.int .i64 n]/\Blk W5 (rb+1) 3 #[.int .i64 0]/\Blk W5 (rb+1+1) 24 #[.int .i64 0]/\w.grownBy W5 none/\w6.heap.size<=W5.heap.size/\(∀i,¬G' i)))):=fun W5 keep _ hsz hoo hb0 hb1=>by
    have hr:=HR.out
    have hub:=HUB.out
    have hz:=H6.out.2.2.2.2.2.2.2
    have o':=HO.out
    have s0:=HO.out.1.size
    have t3:=HT3.out
    have i3:=HI3.out
    have hg:=i3.2.2.2.2.2.2.1
    have hgs:=hg.size
    refine ⟨⟨keep _ (by omega) (by omega) (by omega),keep _ (by omega) (by omega) (by omega)⟩,fun _=>False,fun _ h=>h.elim,⟨by omega,fun i h1 h2 h3 _ _=>?_⟩,HE.out.1,hb0,hb1,i3.2.2.1.same (keep _ (by omega) (by omega) i3.2.2.1.lt),i3.2.2.2.1.same (keep _ (by omega) (by omega) i3.2.2.2.1.lt),i3.2.2.2.2.1.same (keep _ (by omega) (by omega) i3.2.2.2.2.1.lt),i3.2.2.2.2.2.1.same (keep _ (by omega) (by omega) i3.2.2.2.2.2.1.lt),⟨hoo.1.trans hg.os,hoo.2.1.trans hg.tape,hoo.2.2.trans hg.output,by omega,fun i hi _=>?_⟩,by omega,fun _ h=>h⟩
    ·rw [keep i (fun e=>h3 (.inl e)) (fun e=>h3 (.inr (.inl e))) (by omega)]
     exact t3.2.2.2.1 i (by omega) (by omega)
    ·rw [keep i (by omega) (by omega) (by omega)]
     exact hg.block i hi (by simp)
   refine wpIn_block (wpIn_seq (wpIn_seq ?_))
   refine aF (by rintro ⟨_,_,h⟩;exact h) rfl ?_
   go_wp2_with fail
   refine wpIn_cond_false rfl (wpIn_skip ?_)
   refine wpIn_seq ?_
   refine aF (by rintro ⟨_,_,h⟩;exact h) rfl ?_
   by_cases ha:A k=true
   ·have hk1:=HE.out.2.1.1 ha
    have q2:=eq_true hk1.1
    have q3:((p2:Int)<=(su:Int))=True:=eq_true (by omega)
    have q4:=eq_true hk1.2
    have HAK:Hid (cnt A (k+1)=k+1/\cnt A (k+1)=ct+1/\aR fs (cnt A (k+1))=p2):=by
     have e1:=i9 HAC.out.2.1 k ha
     have e2:=t8 ha
     exact ⟨e1,by rw [e2,HE.out.2.2.2.1],by rw [e1];exact HE.out.2.2.1⟩
    clear hk1 ha
    go_wp2_with fail
    refine wpIn_cond_true rfl (wpIn_seq ?_)
    refine aF (by rintro ⟨_,_,h⟩;exact h) rfl ?_
    go_wp2_with fail
    have ga:=ae W3 ub 0 (.int .i64 ((ct:Int)+1))
    have hb0:=HI3.out.1.store 0 (.int .i64 ((ct:Int)+1))
    have hb1:=HI3.out.2.1.grown ga (by simp)
    have hbd:=HT3.out.2.2.2.2.grown ga (by have:=HT3.out;have:=HO.out;have:=HO.out.1.size;have:=H6.out.2.2.2.2.2.2.2;simp;omega)
    generalize W3.setCell ⟨ub,0,none⟩ (.int .i64 ((ct:Int)+1))=W4 at ga hb0 hb1 hbd ⊢
    have H4':Hid (Blk W4 ub 3 #[.int .i64 ((ct:Int)+1)]/\Blk W4 (ub+1) 3 #[.int .i64 (pc:Nat)]/\W3.grownBy W4 (some ub)/\Blk W4 fb 99 #[.int .i64 p1,.int .i64 p2,.int .i64 en.1,.int .i64 en.2.kind,.int .i64 en.2.token,.int .i64 en.2.session,.int .i64 en.2.number,.int .i64 en.2.mark,.slice o1 o2 o3]):=⟨by simpa using hb0,hb1,ga,hbd⟩
    clear ga hb0 hb1 hbd c0 c1 c2 c3 f0 f1 d1 d2
    have d1:=H4'.out.2.2.2.cell 1
    have c1:=H4'.out.2.1.cell 0
    have f1:=H4'.out.2.1.free 0
    simp at d1 c1
    refine aF (by rintro ⟨_,_,h⟩;exact h) rfl ?_
    go_wp2_with fail
    have gb:=ae W4 (ub+1) 0 (.int .i64 (p2:Nat))
    have hb1:=H4'.out.2.1.store 0 (.int .i64 (p2:Nat))
    have hb0:=H4'.out.1.grown gb (by simp)
    generalize W4.setCell ⟨ub+1,0,none⟩ (.int .i64 (p2:Nat))=W5 at gb hb0 hb1 ⊢
    have ga:=H4'.out.2.2.1
    refine HEND.out W5 (fun i h1 h2 h3=>?_) (.inr trivial) (Nat.le_trans ga.size gb.size) ⟨gb.os.trans ga.os,gb.tape.trans ga.tape,gb.output.trans ga.output⟩ ?_ ?_
    ·rw [gb.block i (by have:=ga.size;omega) (by simp;omega)]
     exact ga.block i h3 (by simp;omega)
    ·rw [HAK.out.2.1]
     simpa using hb0
    ·rw [HAK.out.2.2]
     simpa using hb1
   ·have q2:(en.1<=n/\p2<=su)->False:=fun h=>ha (HE.out.2.1.2 h)
    have HAK:Hid (cnt A (k+1)=ct/\aR fs (cnt A (k+1))=pc):=by
     have e2:cnt A (k+1)=cnt A k:=nU (by simpa using ha)
     exact ⟨by rw [e2];exact HE.out.2.2.2.1,by rw [e2];exact HE.out.2.2.2.2.1⟩
    clear ha
    by_cases h1:en.1<=n
    ·have h2:¬p2<=su:=fun h=>q2 ⟨h1,h⟩
     have q3:=eq_true h1
     have q4:((p2:Int)<=(su:Int))=False:=eq_false (by omega)
     have q5:=eq_false h2
     clear h1 h2 q2
     go_wp2_with fail
     refine wpIn_cond_false rfl (wpIn_skip ?_)
     exact HEND.out W3 (fun _ _ _ _=>rfl) (.inr trivial) (Nat.le_refl _) ⟨rfl,rfl,rfl⟩ (by rw [HAK.out.1];exact HI3.out.1) (by rw [HAK.out.2];exact HI3.out.2.1)
    ·have q3:=eq_false h1
     clear h1 q2
     go_wp2_with fail
     refine wpIn_cond_false rfl (wpIn_skip ?_)
     exact HEND.out W3 (fun _ _ _ _=>rfl) (.inr trivial) (Nat.le_refl _) ⟨rfl,rfl,rfl⟩ (by rw [HAK.out.1];exact HI3.out.1) (by rw [HAK.out.2];exact HI3.out.2.1)
  ·have hbad:(az 0 fs).2=false:=by
    cases h:(az 0 fs).2 with
    | false=>rfl
    | true=>have:=(dm fs 0).1 h;omega
   have HBAD:Hid ((az 0 fs).2=false):=hbad
   clear hbad hk hkf
   rw [kz]
   simp only [List.zip_toArray,List.zip_cons_cons,List.zip_nil_right,List.foldl_toArray',List.size_toArray,List.foldl_cons,List.foldl_nil,List.setIfInBounds_toArray,List.set_cons_zero,List.set_cons_succ]
   refine wpIn_seq ?_
   refine aF (by rintro ⟨_,_,h⟩;exact h) rfl ?_
   go_wp2_with fail
   obtain ⟨Wa,hWa,HA⟩:=al1 W1 #[.int .i64 0,.int .i64 0,.int .i64 0,.int .i64 0,.int .i64 0,.int .i64 0,.int .i64 0,.int .i64 0,.slice none 0 0] 99
   rw [hWa]
   clear hWa
   refine aF (by rintro ⟨_,_,h⟩;exact h) rfl ?_
   go_wp2_with fail
   refine ⟨HA.out.2.1,fun r=>?_⟩
   obtain ⟨W3,hW3⟩:∃W3,Wa.putObj (w6.heap.size+1) (.loop r)=W3:=⟨_,rfl⟩
   have HT3:Hid (Tx (w6.heap.size+1) W1 W3/\W1.heap.size<=W3.heap.size/\(∀i,i<W1.heap.size->i≠w6.heap.size+1->W3.heap[i]? = W1.heap[i]?)):=by
    have hl:Wa.heap[w6.heap.size+1]? = some (.loop rc):=(HA.out.2.1.block _ (by have:=HO.out;have:=HO.out.1.size;omega) (by simp)).trans HO.out.2.2
    have ht:Tx (w6.heap.size+1) Wa W3:=by rw [<-hW3];exact Tx.put _ hl (Nat.le_refl _)
    refine ⟨(Tx.of_grown HA.out.2.1).trans ht,Nat.le_trans HA.out.2.1.size ht.size,fun i hi hn=>?_⟩
    rw [<-hW3,World.putObj_heap_other hn]
    exact HA.out.2.1.block i (by omega) (by simp)
   rw [hW3]
   clear hW3
   have HT0:Hid (Tx (w6.heap.size+1) W0 W3):=(HO.out.1.mono (Nat.le_succ _)).trans HT3.out.1
   have HI3:Hid (Blk W3 (rb+1) 3 #[.int .i64 0]/\Blk W3 (rb+1+1) 24 #[.int .i64 0]/\w.grownBy W3 none):=by
    have h:=HI.out
    have hr:=HR.out
    have hub:=HUB.out
    have hz:=H6.out.2.2.2.2.2.2.2
    have ht:=HT0.out
    exact ⟨ht.blk h.2.2.2.2.2.1 (.inl (by decide)),ht.blk h.2.2.2.2.2.2.1 (.inl (by decide)),ht.grown h.2.2.2.2.2.2.2.1 (by omega)⟩
   have c0:=HI3.out.1.cell 0
   have f0:=HI3.out.1.free 0
   have c1:=HI3.out.2.1.cell 0
   have f1:=HI3.out.2.1.free 0
   simp at c0 c1
   refine wpIn_block (wpIn_seq (wpIn_seq ?_))
   refine aF (by rintro ⟨_,_,h⟩;exact h) rfl ?_
   go_wp2_with fail
   refine wpIn_cond_true rfl (wpIn_seq ?_)
   refine aF (by rintro ⟨_,_,h⟩;exact h) rfl ?_
   go_wp2_with fail
   have g4:=ae W3 (rb+1) 0 (.int .i64 0)
   have ha4:=HI3.out.1.store 0 (.int .i64 0)
   have hx4:=HI3.out.2.1.grown g4 (by simp)
   generalize W3.setCell ⟨rb+1,0,none⟩ (.int .i64 0)=W4 at g4 ha4 hx4 ⊢
   have g5:=ae W4 (rb+1+1) 0 (.int .i64 8)
   have hx5:=hx4.store 0 (.int .i64 8)
   generalize W4.setCell ⟨rb+1+1,0,none⟩ (.int .i64 8)=W5 at g5 hx5 ⊢
   refine wpIn_ret ?_
   have hr:=HR.out
   have hub:=HUB.out
   have hz:=H6.out.2.2.2.2.2.2.2
   have o':=HO.out
   have s0:=HO.out.1.size
   have t3:=HT3.out
   have s4:=g4.size
   have s5:=g5.size
   have key:∀i,i<W3.heap.size->i≠rb+1->i≠rb+1+1->W5.heap[i]? = W3.heap[i]?:=fun i h1 h2 h3=>by
    rw [g5.block i (by omega) (by simp;omega)]
    exact g4.block i h1 (by simp;omega)
   refine ⟨⟨key _ (by omega) (by omega) (by omega),key _ (by omega) (by omega) (by omega)⟩,⟨by omega,fun i h1 h2 h3 _ _=>?_⟩,(ha4.grown g5 (by simp)),hx5,ah (ah HI3.out.2.2 g4 (fun x hx=>by simp at hx;omega)) g5 (fun x hx=>by simp at hx;omega),HBAD.out⟩
   rw [key i (by omega) (fun e=>h3 (.inr (.inr (.inl e)))) (fun e=>h3 (.inr (.inr (.inr e))))]
   exact t3.2.2 i h1 (by omega)
end Go.Proofs.YtadhfejefpildaaGreat
