import Derived.Test.YtncbdhdfemidlaaGreatQloAll
import Derived.Deep.RegionHeld3
set_option maxHeartbeats 8000000
set_option maxRecDepth 100000
namespace Go.Proofs.YtncbdhdfemidlaaGreat
open Go.RowKit Disk Table L5
open _root_.Go.Proofs.YtncbdhdfemidlaaGreat.Calls _root_.Go.Proofs.YtncbdhdfemidlaaGreat.Command
theorem goes1:Goes1:=by
 intro p a W w x0 v q l x8 wq eb Z E vn v7 z ms hp hS hI hz hE hM hG
 obtain ⟨ao,n,cap,rfl,hn,hn',_⟩:=msgs_open hI.bx.ms
 obtain ⟨p1,p3,rfl⟩:=hI.row.sl
 obtain ⟨wn,hwn⟩:∃x,(wv l l.length).length=x:=⟨_,rfl⟩
 rw [hwn] at hI ⊢
 have HI:Hid (GI w W x0 (.slice ao n cap) q l x8 (.slice p1 wn p3) eb Z E vn/\Blk W z 3 #[.int .i64 (p:Int)]/\E<=z/\Mks W E ms/\(∀m ∈ l,GoodM m)/\l.length=n/\n<=1034834473200/\(wv l l.length).length=wn/\p<2):=⟨hI,hz,hE,hM,hG,hn,hn',hwn,hp⟩
 obtain ⟨t,rfl⟩:=hS.eq
 obtain ⟨x1,hx1⟩:∃x,x0+1=x:=⟨_,rfl⟩
 obtain ⟨x2,hx2⟩:∃x,x0+2=x:=⟨_,rfl⟩
 have HX:Hid (x0+1=x1/\x0+2=x2):=⟨hx1,hx2⟩
 rw [hx1,hx2]
 obtain ⟨w1,hw1,H1⟩:=al1 W #[.int .i64 0] 3
 obtain ⟨j0,hj0⟩:∃x,W.heap.size=x:=⟨_,rfl⟩
 rw [hj0] at H1
 have HW:Hid (W.alloc (.cells #[.int .i64 0] 3)=w1/\W.heap.size=j0):=⟨hw1,hj0⟩
 obtain ⟨sz,hsz⟩:∃x,w1.heap.size=x:=⟨_,rfl⟩
 have HSZ:Hid (w1.heap.size=sz/\sz=j0+1/\E<=z/\z<j0/\E<=j0/\∀s ∈ ms,s<j0):=⟨hsz,by have:=H1.out.2.2;omega,hE,by rw [<-hj0];exact hz.lt,by have:=hI.st.1;omega,fun s hs=>by rw [<-hj0];exact (Array.getElem?_eq_some_iff.1 (hM.2 s hs).2).1⟩
 clear hS hI hz hE hM hG hx1 hx2 hw1 hj0 hn hn' hwn hsz hp
 unfold g9 rnd5 r25 r20 r17 r9 b5
 dsimp only [Tryz.f5,Option.getD,L5.cL,L5.cR,L5.cB,L5.cW]
 go_wp2_with fail
 rw [HW.out.1,HW.out.2]
 have HGV:Hid (GivesS Tryz.prog 69 #[.pointer (some ⟨eb,0,none⟩)] 0 (FinW (l.map nowM)) (Xw (l.map nowM)) (fun i=>i=j0) w1):=by
  have g:=HI.out.1.grown H1.out.2.1
  refine writtenS _ eb Z E vn (l.map nowM) w1 g.nb g.st (good_now HI.out.2.2.2.2.1) (fun i _ h e=>?_)
  have:=HSZ.out
  omega
 refine wp_rangeB (id:=10) (gf:=69) (lb:=#[.pointer (some ⟨eb,0,none⟩)]) rfl (enters_of Tryz.func69 (by kernel_rfl) rfl) HGV.out ?hps
  (fun s G A=>Hid (s<=n/\GI w A x0 (.slice ao n cap) q l x8 (.slice p1 wn p3) eb Z E vn/\Blk A z 3 #[.int .i64 (p:Int)]/\Blk A j0 3 #[.int .i64 ((wants l s).length:Int)]/\sz<=A.heap.size/\Mks A E ms/\∀i,¬G i))
  (fun A=>Hid (GI w A x0 (.slice ao n cap) q l x8 (.slice p1 wn p3) eb Z E vn/\Blk A z 3 #[.int .i64 (p:Int)]/\Blk A j0 3 #[.int .i64 q]/\sz<=A.heap.size/\Mks A E ms/\p=0)) ?hIg ?hXg ?h0 ?hround
  (fun A=>Hid (∃k:Int,GI w A x0 (.slice ao n cap) q l x8 (.slice p1 wn p3) eb Z E vn/\Blk A z 3 #[.int .i64 (p:Int)]/\Blk A j0 3 #[.int .i64 k]/\sz<=A.heap.size/\Mks A E ms/\(k=(wn:Int)\/(p=0/\k=q)))) ?hdone ?hstop ?hnext
 case hps =>
  rintro k k' W0 W1 xs ⟨_,_,_,_,_,_,_,rfl,_⟩
  rfl
 case hIg =>
  rintro k G A B HA ht
  have h:=HA.out
  have hs:=HSZ.out
  exact ⟨h.1,h.2.1.tx ht (by omega),ht.blk h.2.2.1 (.inl (by decide)),ht.blk h.2.2.2.1 (.inl (by decide)),Nat.le_trans h.2.2.2.2.1 ht.size,h.2.2.2.2.2.1.keep (fun s hs'=>by have:=hs.2.2.2.2.2 s hs';omega) ht,h.2.2.2.2.2.2⟩
 case hXg =>
  rintro A B HA ht
  have h:=HA.out
  have hs:=HSZ.out
  exact ⟨h.1.tx ht (by omega),ht.blk h.2.1 (.inl (by decide)),ht.blk h.2.2.1 (.inl (by decide)),Nat.le_trans h.2.2.2.1 ht.size,h.2.2.2.2.1.keep (fun s hs'=>by have:=hs.2.2.2.2.2 s hs';omega) ht,h.2.2.2.2.2⟩
 case h0 =>
  exact ⟨Nat.zero_le _,HI.out.1.grown H1.out.2.1,HI.out.2.1.grown H1.out.2.1 (by simp),by simpa [wants] using H1.out.1,Nat.le_of_eq HSZ.out.1.symm,HI.out.2.2.2.1.late H1.out.2.1 (by simp),fun _ h=>h⟩
 case hdone =>
  intro A s G hf HA
  have h:=HA.out
  refine ⟨((wants l s).length:Int),h.2.1,h.2.2.1,h.2.2.2.1,h.2.2.2.2.1,h.2.2.2.2.2.1,.inl ?_⟩
  have hl:=HI.out.2.2.2.2.2.1
  have e:=wants_fin (l:=l) (s:=s) (by omega) fun i hi h1=>by
   have:=hf i (by simpa using hi) h1
   rw [List.getElem_map,okM_now] at this
   exact this
  have hw:=HI.out.2.2.2.2.2.2.2.1
  unfold wv at hw
  rw [List.length_map,e] at hw
  rw [hw]
 case hstop =>
  intro A HA
  have h:=HA.out
  exact ⟨q,h.1,h.2.1,h.2.2.1,h.2.2.2.1,h.2.2.2.2.1,.inr ⟨h.2.2.2.2.2,rfl⟩⟩
 case hnext =>
  intro A HP hd
  obtain ⟨k,HA⟩:∃k:Int,Hid (GI w A x0 (.slice ao n cap) q l x8 (.slice p1 wn p3) eb Z E vn/\Blk A z 3 #[.int .i64 (p:Int)]/\Blk A j0 3 #[.int .i64 k]/\sz<=A.heap.size/\Mks A E ms/\(k=(wn:Int)\/(p=0/\k=q))):=by
   obtain ⟨k,h⟩:=HP.out
   exact ⟨k,h⟩
  have HD:Hid (Mks A E (sz :: ms)):=by
   have hs:=HSZ.out
   rw [hs.1] at hd
   refine ⟨List.pairwise_cons.2 ⟨fun s h=>by have:=hs.2.2.2.2.2 s h;omega,HA.out.2.2.2.2.1.1⟩,fun s h=>?_⟩
   rcases List.mem_cons.1 h with rfl | h
   ·exact ⟨by omega,hd⟩
   ·exact HA.out.2.2.2.2.1.2 s h
  rw [HSZ.out.1]
  clear HP hd
  refine (‹∀(a:Act) (w:World),Code.wp Tryz.prog _ _ a w->_› _ _ ?_)
  dsimp only
  have v0:=HA.out.2.1.cell 0
  have v1:=HA.out.2.2.1.cell 0
  have v2:=HA.out.1.box.cell 0
  have v3:=HA.out.1.bx.b1.cell 0
  rw [HX.out.1] at v3
  simp at v0 v1 v2 v3
  have n1:((wn:Int) != (wn:Int))=false:=by simp
  have n2:(q != q)=false:=by simp
  have hp:=HI.out.2.2.2.2.2.2.2.2
  obtain rfl | rfl:p=0\/p=1:=by omega
  ·by_cases hkw:k=(wn:Int)
   ·subst hkw
    clear hp
    go_wp2_with fail
    exact ⟨sz,⟨rfl,rfl,rfl,by rw [HX.out.1];rfl,by rw [HX.out.2];rfl,rfl,rfl,rfl,rfl⟩,HA.out.1,HA.out.2.1,HD.out⟩
   ·have hkq:k=q:=by rcases HA.out.2.2.2.2.2 with h | h;exact absurd h hkw;exact h.2
    subst hkq
    have n3:(k != (wn:Int))=true:=by rw [bne_iff_ne];exact hkw
    clear hp hkw
    go_wp2_with fail
    exact ⟨sz,⟨rfl,rfl,rfl,by rw [HX.out.1];rfl,by rw [HX.out.2];rfl,rfl,rfl,rfl,rfl⟩,HA.out.1,HA.out.2.1,HD.out⟩
  ·have hkw:k=(wn:Int):=by rcases HA.out.2.2.2.2.2 with h | h;exact h;exact absurd h.1 (by decide)
   subst hkw
   clear hp
   go_wp2_with fail
   exact ⟨sz,⟨rfl,rfl,rfl,by rw [HX.out.1];rfl,by rw [HX.out.2];rfl,rfl,rfl,rfl,rfl⟩,HA.out.1,HA.out.2.1,HD.out⟩
 case hround =>
  rintro l' s s' G W0 W1 xs HR hlt0 htn ⟨pp,hpp,bv,hsp,rfl,hbt,hok,rfl,ob⟩ ⟨rc,hrc⟩
  have hpl:pp<l.length:=by simpa using hpp
  rw [List.getElem_map,okM_now] at hok
  rw [List.getElem_map,now_ok hok] at ob
  have hbt':∀i (hi:i<l.length),s<=i->i<pp->okM l[i]=false:=fun i hi h1 h2=>by
   have:=hbt i (by simpa using hi) h1 h2
   rw [List.getElem_map,okM_now] at this
   exact this
  obtain ⟨wa1,wa2,wa3⟩:=wants_at hsp hbt' hpl hok
  obtain ⟨u1,u2,u3,rfl⟩:=isSl_on ob
  obtain ⟨cn,hcn⟩:∃x,(wants l s).length=x:=⟨_,rfl⟩
  rw [hcn] at wa1 wa2 wa3 HR
  obtain ⟨m,hm⟩:∃x,l[pp]=x:=⟨_,rfl⟩
  rw [hm] at ob hok
  have hwl:(wants l l.length).length=wn:=by have h:=HI.out.2.2.2.2.2.2.2.1;unfold wv at h;rwa [List.length_map] at h
  have HO:Hid (Tx (w1.heap.size+2) W0 W1/\w1.heap.size+1<W0.heap.size/\W1.heap[w1.heap.size+1]? = some (.loop rc)):=⟨htn,hlt0,hrc⟩
  have HM:Hid (Disk.Own W1 W0.heap.size (.slice u1 u2 u3) (formM m)/\okM m=true/\GoodM m/\pp<n/\cn<wn/\(wv l l.length)[cn]? = some (.int .i64 (pp:Int))/\(wants l (pp+1)).length=cn+1):=by
   refine ⟨ob,hok,by rw [<-hm];exact HI.out.2.2.2.2.1 _ (List.getElem_mem hpl),by have:=HI.out.2.2.2.2.2.1;omega,by omega,?_,wa3⟩
   unfold wv
   rw [List.getElem?_map,wa1]
   rfl
  obtain ⟨b,off,o1,o2,o3,a1,a2,a3,e0,q1,qo,qa⟩:=msgs_at HR.out.2.1.bx.ms pp hpl
  rw [hm] at q1 qo qa
  subst e0
  have hwn0:0<wn:=by omega
  obtain ⟨gp,rfl⟩:∃gp,p1=some ⟨gp,0,none⟩:=by
   rcases HI.out.1.row.shape with ⟨e,_⟩ | ⟨g,cp,C,e,_⟩
   ·simp at e;omega
   ·simp at e;exact ⟨g,e.1⟩
  have HQ:Hid (MsAt w b (off+pp*13) (.slice o1 o2 o3) (.slice a1 a2 a3) m/\Ops w (.slice o1 o2 o3) m.ask.ops/\Seg w (.slice a1 a2 a3) m.tell.answer):=⟨q1,qo,qa⟩
  clear htn hlt0 hrc ob hok hbt hbt' hsp wa1 wa2 wa3 hm hpl hpp q1 qo qa hcn hwl hwn0
  simp only [List.zip_toArray,List.zip_cons_cons,List.zip_nil_right,List.foldl_toArray',List.size_toArray,List.foldl_cons,List.foldl_nil,List.setIfInBounds_toArray,List.set_cons_zero,List.set_cons_succ]
  refine wpIn_seq ?_
  refine region_round (by rintro ⟨_,_,h⟩;exact h) rfl ?_
  go_wp2_with fail
  refine region_round (by rintro ⟨_,_,h⟩;exact h) rfl ?_
  go_wp2_with fail
  refine ⟨grown_refl _ _,fun r=>?_⟩
  obtain ⟨W3,hW3⟩:∃W3,W1.putObj (w1.heap.size+1) (.loop r)=W3:=⟨_,rfl⟩
  have HT3:Hid (Tx (w1.heap.size+1) W0 W3/\Tx (w1.heap.size+1) W1 W3/\W3.heap.size=W1.heap.size/\(∀i,i≠w1.heap.size+1->W3.heap[i]? = W1.heap[i]?)):=by
   have ht:Tx (w1.heap.size+1) W1 W3:=by rw [<-hW3];exact Tx.put _ HO.out.2.2 (Nat.le_refl _)
   exact ⟨(HO.out.1.mono (Nat.le_succ _)).trans ht,ht,by rw [<-hW3];simp [World.putObj],fun i hi=>by rw [<-hW3,World.putObj_heap_other hi]⟩
  rw [hW3]
  clear hW3
  have HB:Hid (GI w W3 x0 (.slice (some ⟨b,off,none⟩) n cap) q l x8 (.slice (some ⟨gp,0,none⟩) wn p3) eb Z E vn/\Blk W3 z 3 #[.int .i64 (p:Int)]/\Blk W3 j0 3 #[.int .i64 (cn:Int)]/\sz<=W0.heap.size/\Mks W3 E ms/\Disk.Own W3 W0.heap.size (.slice u1 u2 u3) (formM m)/\sz<=W3.heap.size):=by
   have h:=HR.out
   have hs:=HSZ.out
   have ht:=HT3.out.1
   exact ⟨h.2.1.tx ht (by omega),ht.blk h.2.2.1 (.inl (by decide)),ht.blk h.2.2.2.1 (.inl (by decide)),h.2.2.2.2.1,h.2.2.2.2.2.1.keep (fun s hs'=>by have:=hs.2.2.2.2.2 s hs';omega) ht,HT3.out.2.1.own HM.out.1,Nat.le_trans h.2.2.2.2.1 ht.size⟩
  obtain ⟨X,hX⟩:∃X:ByteArray,(⟨(formM m).toArray⟩:ByteArray)=X:=⟨_,rfl⟩
  have HCC:Hid (∀y:World,W3.grownBy y none->y.cell? ⟨j0,0,none⟩=some (.int .i64 (cn:Int))/\y.cell? ⟨x8,0,none⟩=some (.slice (some ⟨gp,0,none⟩) wn p3)/\y.cell? ⟨gp,cn,none⟩=some (.int .i64 (pp:Int))/\y.cell? ⟨x0,0,none⟩=some (.slice (some ⟨b,off,none⟩) n cap)/\MsAt y b (off+pp*13) (.slice o1 o2 o3) (.slice a1 a2 a3) m/\(convert 30 9 (.slice u1 u2 u3)).run Tryz.prog y=.ok (.string X) y):=fun y hy=>by
   have h:=HB.out
   have hg:=h.1.grown hy
   have hc:=hg.row.cell cn (by rw [HI.out.2.2.2.2.2.2.2.1];exact HM.out.2.2.2.2.1)
   have he:=HM.out.2.2.2.2.2.1
   rw [List.getElem?_eq_getElem (by rw [HI.out.2.2.2.2.2.2.2.1];exact HM.out.2.2.2.2.1)] at he
   rw [Option.some.inj he] at hc
   exact ⟨(h.2.2.1.grown hy (by simp)).cell 0,hg.box.cell 0,hc,hg.bx.b0.cell 0,HQ.out.1.grown hg.bx.gr,by rw [<-hX];exact seg_str (h.2.2.2.2.2.1.grown hy).seg⟩
  have s0:(0:Int)<=(cn:Int):=by omega
  have s1:(cn:Int)<(wn:Int):=by have:=HM.out.2.2.2.2.1;omega
  have s2:decide ((wn:Int)<=(cn:Int))=false:=by simp;omega
  have s3:((wn:Int)<=(cn:Int))=False:=eq_false (by omega)
  have s3':(wn<=cn)=False:=eq_false (by omega)
  have s4:((pp:Int) != (pp:Int))=false:=by simp
  have s5:(X.toList != X.toList)=false:=by simp
  have s6:(0:Int)<=(pp:Int):=by omega
  have s7:(pp:Int)<(n:Int):=by have:=HM.out.2.2.2.1;omega
  refine wpIn_block (wpIn_seq (wpIn_seq ?_))
  refine region_round_hold 1000 (fun y=>W3.grownBy y none) (by rintro ⟨_,_,h⟩;exact h) rfl (by kernel_rfl) ?_
  have G0:Hid (W3.grownBy W3.drew none):=grown_drew _ _
  generalize W3.drew=wd at G0 ⊢
  have J:Idx [0,1,2,3,4,5,6,7,8,9,10,11,12,13,14,15,16,17,18]:=trivial
  iterate 19 (refine tK J (G0.out) rfl rfl (fun wk hk=>by obtain ⟨m0,m1,m2,m3,⟨k0,k1,k2,k3,k4,k5,k6,k7,k8,k9,k10,k11,k12⟩,sc⟩:=HCC.out wk hk;rw [Nat.add_zero] at k0;go_simp;try rfl) ?_;replace J:=J.tl;try simp only [pN])
  clear J
  refine wpHold_one (i:=19) rfl (by kernel_rfl) (by rfl) (fun K hK=>?_)
  go_wp2_with fail
  refine (form19 (.slice o1 o2 o3) (.slice a1 a2 a3) m wd (HQ.out.2.1.grown (grown_trans HB.out.1.bx.gr G0.out)) (HQ.out.2.2.grown (grown_trans HB.out.1.bx.gr G0.out)) (by have:=HM.out.2.2.1.len;omega) HM.out.2.2.1.inm HM.out.2.1).mono ?_
  rintro e wz ⟨fu,rfl,hfu,gz⟩
  obtain ⟨f1,f2,f3,rfl⟩:=isSl_on hfu
  have G2:Hid (W3.grownBy wz none/\(convert 30 9 (.slice f1 f2 f3)).run Tryz.prog wz=.ok (.string X) wz):=⟨grown_trans G0.out gz,by rw [<-hX];exact seg_str hfu.seg⟩
  clear gz hfu
  go_wp2_with fail
  refine hK.out _ _ (fun _=>G2.out.1) ?_
  clear hK K
  try simp only [pN]
  refine wpHold_one (i:=20) rfl (by kernel_rfl) (by rfl) (fun K hK=>?_)
  have sc:=G2.out.2
  go_wp2_with fail
  refine hK.out _ _ (fun _=>G2.out.1) ?_
  clear hK K sc
  try simp only [pN]
  have J:Idx [21,22]:=trivial
  iterate 2 (refine tK J (G2.out.1) rfl rfl (fun wk hk=>by obtain ⟨m0,m1,m2,m3,⟨k0,k1,k2,k3,k4,k5,k6,k7,k8,k9,k10,k11,k12⟩,sc⟩:=HCC.out wk hk;rw [Nat.add_zero] at k0;go_simp;try rfl) ?_;replace J:=J.tl;try simp only [pN])
  clear J
  refine wpHold_done (by kernel_rfl) ?_
  refine wpIn_cond_false rfl (wpIn_skip ?_)
  clear HCC s0 s1 s2 s3 s3' s4 s5 s6 s7
  have HV:Hid (GI w wz x0 (.slice (some ⟨b,off,none⟩) n cap) q l x8 (.slice (some ⟨gp,0,none⟩) wn p3) eb Z E vn/\Blk wz z 3 #[.int .i64 (p:Int)]/\Blk wz j0 3 #[.int .i64 (cn:Int)]/\Mks wz E ms/\Disk.Own wz W0.heap.size (.slice u1 u2 u3) (formM m)):=by
   have h:=HB.out
   have g:=G2.out.1
   exact ⟨h.1.grown g,h.2.1.grown g (by simp),h.2.2.1.grown g (by simp),h.2.2.2.2.1.late g (by simp),h.2.2.2.2.2.1.grown g⟩
  have HZ:Hid (∀k,(Value.slice u1 u2 u3).ownBlock=some k->sz+1<k/\∃t c,Blk wz k t c):=fun k hk=>by
   have h1:=(HV.out.2.2.2.2.lt k hk).1
   have h2:=HO.out.2.1
   have h3:=HSZ.out.1
   obtain ⟨c,hc⟩:=owns_blk HV.out.2.2.2.2 hk
   exact ⟨by omega,_,c,hc⟩
  refine wpIn_seq ?_
  refine region_round (by rintro ⟨_,_,h⟩;exact h) rfl ?_
  go_wp2_with fail
  refine (over14 W0.heap.size (.slice u1 u2 u3) (formM m) wz HV.out.2.2.2.2 (by have h2:=form_len HM.out.2.1 HM.out.2.2.1.inm;have h3:=HM.out.2.2.1.len;omega)).mono ?_
  rintro e wy ⟨rfl,gy,_⟩
  have HY:Hid (GI w wy x0 (.slice (some ⟨b,off,none⟩) n cap) q l x8 (.slice (some ⟨gp,0,none⟩) wn p3) eb Z E vn/\Blk wy z 3 #[.int .i64 (p:Int)]/\Blk wy j0 3 #[.int .i64 (cn:Int)]/\Mks wy E ms/\wz.grownBy wy (Value.slice u1 u2 u3).ownBlock):=by
   have h:=HV.out
   have hs:=HSZ.out
   exact ⟨h.1.late gy fun k hk=>by have:=(HZ.out k hk).1;omega,h.2.1.grown gy fun e=>by have:=(HZ.out z e).1;omega,h.2.2.1.grown gy fun e=>by have:=(HZ.out j0 e).1;omega,h.2.2.2.1.late gy fun k hk=>(HZ.out k hk).2,gy⟩
  clear gy
  have v0:=HY.out.2.2.1.cell 0
  have v1:=HY.out.2.2.1.free 0
  simp at v0
  have v2:IntKind.i64.wrap ((cn:Int)+1)=((cn+1:Nat):Int):=by
   have h1:=HM.out.2.2.2.2.1
   have h2:=HI.out.2.2.2.2.2.1
   have h3:=HI.out.2.2.2.2.2.2.1
   have h4:=HI.out.2.2.2.2.2.2.2.1
   have h5:=wv_len l l.length
   rw [IntKind.wrap_i64]
   push_cast
   omega
  go_wp2_with fail
  refine wpIn_seq ?_
  refine region_round (by rintro ⟨_,_,h⟩;exact h) rfl ?_
  go_wp2_with fail
  have gs:wy.grownBy (wy.setCell ⟨j0,0,none⟩ (.int .i64 ((cn:Int)+1))) (some j0):=grown_setCell _ _ _ _
  have hb5:=HY.out.2.2.1.store 0 (.int .i64 ((cn:Int)+1))
  obtain ⟨W5,hW5⟩:∃x,wy.setCell ⟨j0,0,none⟩ (.int .i64 ((cn:Int)+1))=x:=⟨_,rfl⟩
  rw [hW5] at gs hb5
  rw [hW5]
  have H5:Hid (GI w W5 x0 (.slice (some ⟨b,off,none⟩) n cap) q l x8 (.slice (some ⟨gp,0,none⟩) wn p3) eb Z E vn/\Blk W5 z 3 #[.int .i64 (p:Int)]/\Blk W5 j0 3 #[.int .i64 ((cn+1:Nat):Int)]/\Mks W5 E ms/\(W5.heap[w1.heap.size]? = W3.heap[w1.heap.size]?/\W5.heap[w1.heap.size+1]? = W3.heap[w1.heap.size+1]?)/\KeptG w1.heap.size (w1.heap.size+2) (fun i=>i=j0) G #[.int .i64 (pp:Int),.slice u1 u2 u3] W1 W5/\sz<=W5.heap.size):=by
   have h:=HY.out
   have hs:=HSZ.out
   have hz3:=HT3.out.2.2.1
   have g2:=G2.out.1
   have k1:=g2.size
   have k2:=h.2.2.2.2.size
   have k3:=gs.size
   have ho:=HO.out.2.1
   have ho1:=HO.out.1.size
   have keep:∀i,i≠j0->i<W3.heap.size->(Value.slice u1 u2 u3).ownBlock≠some i->W5.heap[i]? = W3.heap[i]?:=fun i n1 n2 n3 =>
    ((gs.block i (by omega) (by simp;omega)).trans (h.2.2.2.2.block i (by omega) (fun e=>n3 e.symm))).trans (g2.block i n2 (by simp))
   have far:∀i,i<=sz+1->(Value.slice u1 u2 u3).ownBlock≠some i:=fun i hi e=>by have:=(HZ.out i e).1;omega
   refine ⟨h.1.late gs fun k hk=>?_,h.2.1.grown gs fun e=>?_,by simpa using hb5,h.2.2.2.1.late gs fun k hk=>?_,⟨keep _ (by omega) (by omega) (far _ (by omega)),keep _ (by omega) (by omega) (far _ (by omega))⟩,⟨by omega,fun i i1 i2 i3 i4 _=>?_⟩,by omega⟩
   ·simp at hk
    subst hk
    omega
   ·simp at e
    omega
   ·simp at hk
    subst hk
    exact ⟨_,_,h.2.2.1⟩
   ·rw [keep i i3 (by omega) fun e=>i4 (.inl ⟨_,by simp,e⟩)]
    exact HT3.out.2.2.2 i (by omega)
  clear gs hb5 v0 v1 v2 hW5
  have v0:=H5.out.2.1.cell 0
  have v1:=H5.out.2.2.1.cell 0
  have v3:=H5.out.1.bx.b1.cell 0
  rw [HX.out.1] at v3
  simp at v0 v1 v3
  have hp:=HI.out.2.2.2.2.2.2.2.2
  refine wpIn_seq ?_
  obtain rfl | rfl:p=0\/p=1:=by omega
  ·by_cases hcq:((cn+1:Nat):Int)=q
   ·have hcq1:(cn:Int)+1=q:=by omega
    refine region_round (by rintro ⟨_,_,h⟩;exact h) rfl ?_
    clear hp
    go_wp2_with fail
    refine wpIn_cond_true rfl (wpIn_exit ?_)
    exact ⟨rfl,H5.out.2.2.2.2.1,H5.out.2.2.2.2.2.1,H5.out.1,H5.out.2.1,by rw [<-hcq];exact H5.out.2.2.1,H5.out.2.2.2.2.2.2,H5.out.2.2.2.1,by simp⟩
   ·have hq:((cn:Int)+1==q)=false:=by simp;omega
    have hq':((cn:Int)+1=q)=False:=eq_false (by omega)
    refine region_round (by rintro ⟨_,_,h⟩;exact h) rfl ?_
    clear hp
    go_wp2_with fail
    refine wpIn_cond_false rfl (wpIn_skip ?_)
    exact ⟨H5.out.2.2.2.2.1,fun _=>False,fun _ h=>h.elim,H5.out.2.2.2.2.2.1,by have:=HM.out.2.2.2.1;omega,H5.out.1,H5.out.2.1,by rw [HM.out.2.2.2.2.2.2];exact H5.out.2.2.1,H5.out.2.2.2.2.2.2,H5.out.2.2.2.1,fun _ h=>h⟩
  ·refine region_round (by rintro ⟨_,_,h⟩;exact h) rfl ?_
   clear hp
   go_wp2_with fail
   refine wpIn_cond_false rfl (wpIn_skip ?_)
   exact ⟨H5.out.2.2.2.2.1,fun _=>False,fun _ h=>h.elim,H5.out.2.2.2.2.2.1,by have:=HM.out.2.2.2.1;omega,H5.out.1,H5.out.2.1,by rw [HM.out.2.2.2.2.2.2];exact H5.out.2.2.1,H5.out.2.2.2.2.2.2,H5.out.2.2.2.1,fun _ h=>h⟩
end Go.Proofs.YtncbdhdfemidlaaGreat
