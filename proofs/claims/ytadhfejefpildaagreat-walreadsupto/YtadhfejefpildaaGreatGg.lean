import Derived.Test.YtadhfejefpildaaGreatGc
import Derived.Test.YtadhfejefpildaaGreatGd
import Derived.Test.YtadhfejefpildaaGreatGe
import Derived.Test.YtadhfejefpildaaGreatGf
set_option maxHeartbeats 8000000
set_option maxRecDepth 100000
namespace Go.Proofs.YtadhfejefpildaaGreat
open Go.RowKit Disk Table
open _root_.Go.Proofs.YtadhfejefpildaaGreat.Calls
open _root_.Go.Proofs.YtadhfejefpildaaGreat.Command
open _root_.Go.Proofs.YtadhfejefpildaaGreat.Frame (Frs)
theorem fn52 (gf:Nat)(lb:Array Value)(w:World):(binOp .eql 52 (.func (.func gf) #[] lb) .nilFunc).run Tryz.prog w=.ok (.bool false) w:=by kernel_rfl
theorem lent_grown {w w':World}{B:Nat}{v:Value}{L:Bs}(h:Lent w B v L)(hg:w.grownBy w' none):Lent w' B v L:=h.same fun k hk=>hg.block k (h.lt k hk).2 (by simp)
theorem entP_all (L:Bs)(fs:Frs)(R:Bs)(hsc:Frame.Sc L fs R)(hL:L.length<=1048576):∃(E:List PEnt) (g n y er:Int),E.length<=4398046511104/\∀w x w',EntP L fs R w x w'->∃ao k cap,x=.returned (.tuple #[.agg #[.slice ao k cap,.int .i64 g,.int .i64 n,.int .i64 y],.int .i64 er])/\Ents w' (.slice ao k cap) E/\w.grownBy w' none:=by
 have hc:=hsc.count
 have hle:=ents_le fs 0
 cases h:(entsL 0 fs).2 with
 | true =>
  refine ⟨(entsL 0 fs).1,((Frame.flat fs).length:Nat),(L.length:Nat),(Frame.ends R:Nat),0,by omega,fun w x w' hp=>?_⟩
  obtain ⟨hg,⟨_,v,rfl,he⟩ | ⟨h',_⟩⟩:=hp
  ·obtain ⟨ao,cap,e⟩:=LRow.shape he
   exact ⟨ao,_,cap,by rw [e],by rw [<-e];exact he.ents,hg⟩
  ·rw [h] at h';cases h'
 | false =>
  refine ⟨[],0,0,0,8,by simp,fun w x w' hp=>?_⟩
  obtain ⟨hg,⟨h',_⟩ | ⟨_,rfl⟩⟩:=hp
  ·rw [h] at h';cases h'
  ·exact ⟨none,0,0,rfl,(entsO_nil w' 0).ents,hg⟩
theorem reads4 (v:Value)(L:Bs)(n:Int)(w:World)(hs:Seg w v L)(hL:L.length<=1048576):Calls Tryz.prog 4 #[v,.int .i64 n] w fun e w'=>e=.returned (.bool true)/\w.grownBy w' none:=by
 obtain ⟨fs,R,hsc⟩:=Frame.sc_exists _ L (Nat.le_refl _)
 obtain ⟨E,eg,en,ey,er,hE,hall⟩:=entP_all L fs R hsc hL
 obtain ⟨ao,cap,e⟩:=hs.shape
 obtain ⟨q,hq⟩:∃q,L.length=q:=⟨_,rfl⟩
 rw [hq] at e
 subst e
 have hq2:q<=1048576:=by omega
 have HS:Hid (Seg w (.slice ao q cap) L/\L.length<=1048576/\L.length=q/\Frame.Sc L fs R):=⟨hs,hL,hq,hsc⟩
 have HEA:Hid (E.length<=4398046511104/\∀w x w',EntP L fs R w x w'->∃ao k cap,x=.returned (.tuple #[.agg #[.slice ao k cap,.int .i64 eg,.int .i64 en,.int .i64 ey],.int .i64 er])/\Ents w' (.slice ao k cap) E/\w.grownBy w' none):=⟨hE,hall⟩
 clear hs hL hq hsc hE hall
 obtain ⟨w1,hw1,H1⟩:=al2' w #[.int .i64 n] #[.bool false] 3 4
 refine calls_marks Tryz.func4 rfl ?_
 simp only [Tryz.ntmps4,List.size_toArray,List.length_cons,List.length_nil,Nat.reduceAdd,Nat.reduceSub,Array.replicate_succ,Array.replicate_zero,List.push_toArray,List.append_toArray,List.nil_append,List.cons_append]
 go_wp2_with fail
 try rw [hw1]
 obtain ⟨nb,hnb⟩:∃x,w.heap.size=x:=⟨_,rfl⟩
 have HN:Hid (w.heap.size=nb):=hnb
 rw [hnb] at H1 ⊢
 clear hw1 hnb
 refine (lent6 (.slice ao q cap) L w1 (HS.out.1.grown H1.out.2.2.1) (by have:=HS.out;omega)).mono ?_
 rintro e w2 ⟨u,rfl,hu,g2⟩
 obtain ⟨lb,lc,rfl,hown⟩:=id hu
 obtain ⟨hlen⟩:Nonempty (L.length=q):=⟨HS.out.2.2.1⟩
 rw [hlen] at hu
 have H2:Hid (Lent w2 w1.heap.size (.slice (some ⟨lb,0,none⟩) q lc) L/\w1.grownBy w2 none/\w.heap.size<=lb/\lb<w2.heap.size/\w1.heap.size<=lb):=⟨hu,g2,by have:=(hu.lt lb rfl).1;have:=H1.out.2.2.1.size;omega,(hu.lt lb rfl).2,(hu.lt lb rfl).1⟩
 rw [hlen]
 clear hu g2 hown hlen
 go_wp2_with fail
 refine (entries10 (.slice (some ⟨lb,0,none⟩) q lc) L fs R w2 H2.out.1.seg HS.out.2.2.2 (by have:=HS.out;omega)).mono ?_
 rintro e w3 hp
 obtain ⟨a1,k1,c1,rfl,he1,g3⟩:=HEA.out.2 _ _ _ hp
 have H3:Hid (Ents w3 (.slice a1 k1 c1) E/\w2.grownBy w3 none):=⟨he1,g3⟩
 clear hp he1 g3
 go_upto_region 3 with fail
 obtain ⟨w4,hw4,H4⟩:=al1 w3 #[.slice a1 k1 c1,.int .i64 eg,.int .i64 en,.int .i64 ey] 38
 rw [hw4]
 clear hw4
 obtain ⟨sb,hsb⟩:∃x,w3.heap.size=x:=⟨_,rfl⟩
 rw [hsb] at H4 ⊢
 clear hsb
 have G4:Hid (w2.grownBy w4 none/\w.grownBy w4 none):=by
  have g:=grown_trans H3.out.2 H4.out.2.1
  exact ⟨g,grown_trans H1.out.2.2.1 (grown_trans H2.out.2.1 g)⟩
 go_wp2_with fail
 refine (entriesD16 (.slice ao q cap) L fs R w4 (HS.out.1.grown G4.out.2) HS.out.2.2.2 HS.out.2.1).mono ?_
 rintro e w5 hp
 obtain ⟨a2,k2,c2,rfl,he2,g5⟩:=HEA.out.2 _ _ _ hp
 have H5:Hid (Ents w5 (.slice a2 k2 c2) E/\w4.grownBy w5 none):=⟨he2,g5⟩
 clear hp he2 g5
 go_upto_region 4 with fail
 obtain ⟨w6,hw6,H6⟩:=al1 w5 #[.slice a2 k2 c2,.int .i64 eg,.int .i64 en,.int .i64 ey] 38
 rw [hw6]
 clear hw6
 obtain ⟨sd,hsd⟩:∃x,w5.heap.size=x:=⟨_,rfl⟩
 rw [hsd] at H6 ⊢
 clear hsd
 have G6:Hid (w4.grownBy w6 none/\w2.grownBy w6 none):=by
  have g:=grown_trans H5.out.2 H6.out.2.1
  exact ⟨g,grown_trans G4.out.1 g⟩
 go_wp2_with fail
 refine (all17 (.slice (some ⟨lb,0,none⟩) q lc) L w6 (H2.out.1.seg.grown G6.out.2) (by have:=HS.out;omega)).mono ?_
 rintro e w7 ⟨Ax,Cx,Bx,u,rfl,hA1,hC1,hB1,hA,hC,hB,hu,g7⟩
 obtain ⟨ua,un,uc,eu⟩:=Calls.slice_of hu
 subst eu
 have H7:Hid (w6.heap.size<=Ax/\w6.heap.size<=Cx/\w6.heap.size<=Bx/\Blk w7 Ax 96 #[.func (.func 80) #[] #[.pointer (some ⟨Cx,0,none⟩)]]/\Blk w7 Cx 141 #[.func (.func 108) #[] #[.pointer (some ⟨Bx,0,none⟩)]]/\Blk w7 Bx 23 #[.slice ua un uc]/\Disk.Own w7 w6.heap.size (.slice ua un uc) L/\w6.grownBy w7 none):=⟨hA1,hC1,hB1,hA,hC,hB,hu,g7⟩
 clear hA1 hC1 hB1 hA hC hB hu g7
 have q1:(er != er)=false:=by simp
 have hfn:=fn52 50 #[.pointer (some ⟨Ax,0,none⟩)] w7
 obtain ⟨x0,x1,x2,x3⟩:=blk4 ((H4.out.1.grown G6.out.1 (by simp)).grown H7.out.2.2.2.2.2.2.2 (by simp))
 obtain ⟨y0,y1,y2,y3⟩:=blk4 (H6.out.1.grown H7.out.2.2.2.2.2.2.2 (by simp))
 go_wp2_with fail
 refine (sameLogged18 (.slice a1 k1 c1) (.slice a2 k2 c2) E eg en ey w7 (((H3.out.1.grown H4.out.2.1).grown G6.out.1).grown H7.out.2.2.2.2.2.2.2) ((H5.out.1.grown H6.out.2.1).grown H7.out.2.2.2.2.2.2.2) HEA.out.1).mono ?_
 rintro e w8 ⟨rfl,g8⟩
 have H8:Hid (w6.grownBy w8 none/\w7.grownBy w8 none):=⟨grown_trans H7.out.2.2.2.2.2.2.2 g8,g8⟩
 clear g8 x0 x1 x2 x3 y0 y1 y2 y3
 go_wp2_with fail
 have G8:Hid (w2.grownBy w8 none/\w.grownBy w8 none/\w7.grownBy w8 none):=by
  have g:=grown_trans G6.out.2 H8.out.1
  exact ⟨g,grown_trans H1.out.2.2.1 (grown_trans H2.out.2.1 g),H8.out.2⟩
 refine (left19 (.slice (some ⟨lb,0,none⟩) q lc) (.slice ao q cap) w1.heap.size L w8 (lent_grown H2.out.1 G8.out.1) (HS.out.1.grown G8.out.2.1) (by have:=HS.out;omega)).mono ?_
 rintro e w9 ⟨rfl,g9⟩
 have H9:Hid (w2.grownBy w9 none/\w7.grownBy w9 none):=⟨grown_trans G8.out.1 g9,grown_trans G8.out.2.2 g9⟩
 clear g9 H8 G8 q1 hfn
 go_wp2_with fail
 obtain ⟨z,hz⟩:∃x,L.length=x:=⟨_,rfl⟩
 have HO:Hid (Over w9 w9 lb q):=by
  obtain ⟨_,_,e,ho⟩:=lent_grown H2.out.1 H9.out.1
  simp at e
  obtain ⟨rfl,rfl,rfl⟩:=e
  rw [HS.out.2.2.1] at ho
  exact ho.over _ (by simp)
 clear hz z
 go_loopw [11] (fun t wr=>∃k:Nat,k<=q/\t=.int .i64 (k:Int)/\Hid (Over w9 wr lb q)) (fun t _=>q-(intOf t).toNat)
 case atStart=>exact ⟨0,Nat.zero_le _,rfl,HO.out⟩
 case round =>
  obtain ⟨k,hk,rfl,HV⟩:=hrel
  by_cases hlt:k<q
  ·obtain ⟨⟨x,hx⟩,hf⟩:=HV.out.facts k hlt
   have i1:(0:Int)<=(k:Int):=by omega
   have i2:(k:Int)<(q:Int):=by omega
   go_wp2_with fail
   exact ⟨⟨k+1,by omega,by go_num,HV.out.step k⟩,by simp [intOf];omega⟩
  ·have i2:((k:Int)<(q:Int))=False:=eq_false (by omega)
   have GR:Hid (w.grownBy wr none/\w7.heap.size<=wr.heap.size/\Blk wr nb 3 #[.int .i64 n]/\Blk wr (nb+1) 4 #[.bool false]/\Blk wr Ax 96 #[.func (.func 80) #[] #[.pointer (some ⟨Cx,0,none⟩)]]/\Blk wr Cx 141 #[.func (.func 108) #[] #[.pointer (some ⟨Bx,0,none⟩)]]/\Blk wr Bx 23 #[.slice ua un uc]/\Disk.Own wr w6.heap.size (.slice ua un uc) L):=by
    have hov:=HV.out.1
    have h7:=H7.out
    have g79:=H9.out.2
    have z1:=H1.out.2.2.1.size
    have z2:=H2.out
    have z4:=H2.out.2.1.size
    have z5:=G6.out.2.size
    have g1:=grown_trans H2.out.2.1 H9.out.1
    exact ⟨grown_new (grown_trans H1.out.2.2.1 g1) hov (fun x hx=>by simp at hx;omega),Nat.le_trans g79.size hov.size,(H1.out.1.grown g1 (by simp)).grown hov (by simp;have:=(H1.out.1).lt;omega),(H1.out.2.1.grown g1 (by simp)).grown hov (by simp;have:=(H1.out.2.1).lt;omega),(h7.2.2.2.1.grown g79 (by simp)).grown hov (by simp;omega),(h7.2.2.2.2.1.grown g79 (by simp)).grown hov (by simp;omega),(h7.2.2.2.2.2.1.grown g79 (by simp)).grown hov (by simp;omega),(h7.2.2.2.2.2.2.1.grown g79).same fun x hx=>hov.block x (by have:=((h7.2.2.2.2.2.2.1.grown g79).lt x hx).2;omega) (by have:=((h7.2.2.2.2.2.2.1.grown g79).lt x hx).1;simp;omega)⟩
   go_wp2_with fail
   refine (front20 (.slice ao q cap) L fs R wr (HS.out.1.grown GR.out.1) HS.out.2.2.2 HS.out.2.1).mono ?_
   rintro e wf ⟨gf,fv,fu,rfl,hfe,hfn⟩
   obtain ⟨m,hm⟩:∃x,(entsL 0 fs).1.length=x:=⟨_,rfl⟩
   obtain ⟨f1,f3,e1⟩:=LRow.shape hfe
   obtain ⟨p1,p3,e2⟩:=LRow.shape hfn
   rw [places_len,hm] at e2
   rw [hm] at e1
   subst e1
   subst e2
   rw [hm] at hfn
   have HF:Hid (EntsO wf wr.heap.size (.slice f1 m f3) (entsL 0 fs).1/\NumsO wf wr.heap.size (.slice p1 m p3) (places fs m)/\wr.grownBy wf none/\(entsL 0 fs).1.length=m/\m<=120000):=⟨hfe,hfn,gf,hm,by have:=HS.out.2.2.2.count;have:=ents_le fs 0;have:=HS.out;omega⟩
   clear hfe hfn gf hm
   obtain ⟨wa,hwa,HA⟩:=al2' wf #[.slice f1 m f3] #[.slice p1 m p3] 22 56
   go_upto_region 12 with fail
   try rw [hwa]
   clear hwa
   obtain ⟨tb,htb⟩:∃x,wf.heap.size=x:=⟨_,rfl⟩
   rw [htb] at HA ⊢
   have HB:Hid (Blk wa nb 3 #[.int .i64 n]/\Blk wa (nb+1) 4 #[.bool false]/\Blk wa tb 22 #[.slice f1 m f3]/\Blk wa (tb+1) 56 #[.slice p1 m p3]/\Ents wa (.slice f1 m f3) (entsL 0 fs).1/\NumsO wa wr.heap.size (.slice p1 m p3) (places fs m)/\Blk wa Ax 96 #[.func (.func 80) #[] #[.pointer (some ⟨Cx,0,none⟩)]]/\Blk wa Cx 141 #[.func (.func 108) #[] #[.pointer (some ⟨Bx,0,none⟩)]]/\Blk wa Bx 23 #[.slice ua un uc]/\Disk.Own wa w6.heap.size (.slice ua un uc) L/\w.grownBy wa none):=by
    have g:=grown_trans HF.out.2.2.1 HA.out.2.2.1
    have h:=GR.out
    exact ⟨h.2.2.1.grown g (by simp),h.2.2.2.1.grown g (by simp),HA.out.1,HA.out.2.1,(HF.out.1.grown HA.out.2.2.1).ents,HF.out.2.1.grown HA.out.2.2.1,h.2.2.2.2.1.grown g (by simp),h.2.2.2.2.2.1.grown g (by simp),h.2.2.2.2.2.2.1.grown g (by simp),h.2.2.2.2.2.2.2.grown g,grown_trans h.1 g⟩
   have HM:Hid ((entsL 0 fs).1.length=m/\m<=120000):=HF.out.2.2.2
   clear htb HA HF GR HV HO i2 hlt hk
   clear H9 H7 G6 H6 H5 G4 H4 H3 HEA
   obtain ⟨w10,hw10,H10⟩:=al1 wa #[.int .i64 0] 3
   obtain ⟨z0,hz0⟩:∃x,wa.heap.size=x:=⟨_,rfl⟩
   have HZ:Hid (wa.heap.size=z0):=hz0
   rw [hz0] at H10
   have HW10:Hid (wa.alloc (.cells #[.int .i64 0] 3)=w10):=hw10
   clear hw10 hz0
   go_wp2_with fail
   rw [HW10.out,HZ.out]
   clear HW10
   have I0:Hid (wa.grownBy w10 none/\Blk w10 z0 3 #[.int .i64 0]/\z0<=z0):=⟨H10.out.2.1,H10.out.1,Nat.le_refl _⟩
   clear H10
   refine wp_loop_rounds 3 ?_
   rw [rounds_succ]
   have c0:=I0.out.2.1.cell 0
   simp at c0
   obtain ⟨wy0,hwy,HY0⟩:=al1 w10 #[.int .i64 0] 3
   obtain ⟨jb0,hjb⟩:∃x,w10.heap.size=x:=⟨_,rfl⟩
   rw [hjb] at HY0
   have HWY:Hid (w10.alloc (.cells #[.int .i64 0] 3)=wy0):=hwy
   clear hwy
   go_wp2_with fail
   rw [HWY.out]
   try rw [hjb]
   clear c0 HWY
   have HJ0:Hid (w10.heap.size=jb0/\z0<jb0/\z0<=jb0):=⟨hjb,by have:=I0.out.2.1.lt;omega,by have:=I0.out.1.size;have:=HZ.out;omega⟩
   clear hjb
   obtain ⟨sz0,hsz⟩:∃x,wy0.heap.size=x:=⟨_,rfl⟩
   have HSZ0:Hid (wy0.heap.size=sz0/\sz0=jb0+1):=⟨hsz,by have:=HY0.out.2.2;have:=HJ0.out.1;omega⟩
   clear hsz
   have HGV:Hid (GivesN Tryz.prog 50 #[.pointer (some ⟨Ax,0,none⟩)] (entsL 0 fs).1.length (Xa fs) (fun i=>i=jb0) wy0):=by
    have g:=grown_trans I0.out.1 HY0.out.2.1
    have h:=HB.out
    have hj:=HJ0.out
    have hz:=HZ.out
    refine allS _ Ax Cx Bx (.slice ua un uc) L fs R wy0 (h.2.2.2.2.2.2.1.grown g (by simp)) (h.2.2.2.2.2.2.2.1.grown g (by simp)) (h.2.2.2.2.2.2.2.2.1.grown g (by simp)) (h.2.2.2.2.2.2.2.2.2.1.seg.grown g) HS.out.2.2.2 (by have:=HS.out;omega) ?_ ?_ ?_
    ·have:=h.2.2.2.2.2.2.2.2.1.lt
     omega
    ·intro hne b off n c e
     have:=Frame.seg_blk h.2.2.2.2.2.2.2.2.2.1.seg hne e
     omega
    ·intro i hi
     have:=HSZ0.out
     omega
   refine wp_rangeB (id:=4) (gf:=50) (lb:=#[.pointer (some ⟨Ax,0,none⟩)]) rfl (enters_of Tryz.func50 (by kernel_rfl) rfl) HGV.out ?_
    (fun k G A=>Hid (k<=m/\wa.grownBy A none/\Blk A z0 3 #[.int .i64 0]/\Blk A jb0 3 #[.int .i64 (k:Int)]/\sz0<=A.heap.size/\(∀i,¬G i)))
    (fun A=>Hid (0=0/\wa.grownBy A none/\Blk A z0 3 #[.int .i64 0]/\Blk A jb0 3 #[.int .i64 n]/\sz0<=A.heap.size)) ?_ ?_ ?_ ?_
    (fun A=>Hid (∃j:Int,wa.grownBy A none/\Blk A z0 3 #[.int .i64 0]/\Blk A jb0 3 #[.int .i64 j]/\sz0<=A.heap.size/\(j=(m:Int)\/(0=0/\j=n)))) ?_ ?_ ?_
   ·rintro k k' W0 W1 xs ⟨_,_,_,_,rfl,_⟩
    rfl
   ·rintro k G A B HA ht
    have hz:=HSZ0.out
    have hj:=HJ0.out
    have hz0:=HZ.out
    have h:=HA.out
    exact ⟨h.1,ht.grown h.2.1 (by omega),ht.blk h.2.2.1 (.inl (by decide)),ht.blk h.2.2.2.1 (.inl (by decide)),Nat.le_trans h.2.2.2.2.1 ht.size,h.2.2.2.2.2⟩
   ·rintro A B HA ht
    have hz:=HSZ0.out
    have hj:=HJ0.out
    have hz0:=HZ.out
    have h:=HA.out
    exact ⟨h.1,ht.grown h.2.1 (by omega),ht.blk h.2.2.1 (.inl (by decide)),ht.blk h.2.2.2.1 (.inl (by decide)),Nat.le_trans h.2.2.2.2 ht.size⟩
   ·exact ⟨Nat.zero_le _,grown_trans I0.out.1 HY0.out.2.1,I0.out.2.1.grown HY0.out.2.1 (by simp),HY0.out.1,Nat.le_of_eq HSZ0.out.1.symm,fun _ h=>h⟩
   ·rintro l' k k' G W0 W1 xs HI hlt0 htn ⟨rfl,hk,hkm,ov,rfl,oo⟩ ⟨rc,hrc⟩
    have HO:Hid (Tx (wy0.heap.size+2) W0 W1/\wy0.heap.size+1<W0.heap.size/\W1.heap[wy0.heap.size+1]? = some (.loop rc)):=⟨htn,hlt0,hrc⟩
    clear htn hlt0 hrc
    obtain ⟨o1,o2,o3,eo,hol⟩:=OpsOwn.slice oo
    subst eo
    have hkE:=hkm
    have hk':k<m:=by rw [<-HM.out.1];exact hkm
    obtain ⟨ga,oa,r1,r2,r3,ef,hea,hpa⟩:=ents_at' HB.out.2.2.2.2.1 k hkm
    obtain ⟨gp,pc,ep,hpp⟩:=HB.out.2.2.2.2.2.1.cell k (by rw [places_len];exact hk')
    rw [places_at] at hpp
    rw [places_len] at ep
    obtain ⟨rfl,rfl⟩:f1=some ⟨ga,oa,none⟩/\p1=some ⟨gp,0,none⟩:=⟨ef,by simpa using (Value.slice.inj ep).1⟩
    obtain ⟨e1,he1⟩:∃x,(entsL 0 fs).1[k]=x:=⟨_,rfl⟩
    obtain ⟨pl,hpl⟩:∃x,placeE fs k=x:=⟨_,rfl⟩
    rw [he1] at oo hea hpa ⊢
    rw [hpl] at hpp ⊢
    have HE:Hid (OpsOwn W1 W0.heap.size (.slice o1 o2 o3) e1.2.ops/\Ops wa (.slice r1 r2 r3) e1.2.ops/\EntAt wa ga (oa+k*7) r1 r2 r3 e1/\wa.cell? ⟨gp,k,none⟩=some (.int .i64 pl)/\k<m):=⟨oo,hpa,hea,hpp,hk'⟩
    clear oo hpa hea hpp hol he1 hpl ef ep hk' hkE
    simp only [entV,entA,List.zip_toArray,List.zip_cons_cons,List.zip_nil_right,List.foldl_toArray',List.size_toArray,List.foldl_cons,List.foldl_nil,List.setIfInBounds_toArray,List.set_cons_zero,List.set_cons_succ]
    refine wpIn_seq ?_
    refine region_round (by rintro ⟨_,_,h⟩;exact h) rfl ?_
    go_wp2_with fail
    refine region_round (by rintro ⟨_,_,h⟩;exact h) rfl ?_
    obtain ⟨Wa,hWa,HA⟩:=al1 W1 #[.int .i64 e1.1,.int .i64 e1.2.kind,.int .i64 e1.2.token,.int .i64 e1.2.session,.int .i64 e1.2.number,.int .i64 e1.2.mark,.slice o1 o2 o3] 34
    go_wp2_with fail
    try rw [hWa]
    clear hWa
    refine ⟨HA.out.2.1,fun r=>?_⟩
    obtain ⟨fb,hfb⟩:∃x,W1.heap.size=x:=⟨_,rfl⟩
    obtain ⟨W3,hW3⟩:∃W3,Wa.putObj (wy0.heap.size+1) (.loop r)=W3:=⟨_,rfl⟩
    have HT3:Hid (Tx (wy0.heap.size+1) W1 W3/\W3.heap.size=fb+1/\W1.heap.size=fb/\(∀i,i<fb->i≠wy0.heap.size+1->W3.heap[i]? = W1.heap[i]?)/\Blk W3 fb 34 #[.int .i64 e1.1,.int .i64 e1.2.kind,.int .i64 e1.2.token,.int .i64 e1.2.session,.int .i64 e1.2.number,.int .i64 e1.2.mark,.slice o1 o2 o3]):=by
     have hl:Wa.heap[wy0.heap.size+1]? = some (.loop rc):=(HA.out.2.1.block _ (by have:=HO.out;have:=HO.out.1.size;omega) (by simp)).trans HO.out.2.2
     have ht:Tx (wy0.heap.size+1) Wa W3:=by rw [<-hW3];exact Tx.put _ hl (Nat.le_refl _)
     have hb:=HA.out.1
     rw [hfb] at hb
     refine ⟨(Tx.of_grown HA.out.2.1).trans ht,?_,hfb,fun i hi hn=>by rw [<-hW3,World.putObj_heap_other hn];exact HA.out.2.1.block i (by omega) (by simp),ht.blk hb (.inl (by decide))⟩
     rw [<-hW3]
     simp [World.putObj]
     have:=HA.out.2.2
     omega
    rw [hW3,hfb]
    clear hW3 hfb
    have HT0:Hid (Tx (wy0.heap.size+1) W0 W3):=(HO.out.1.mono (Nat.le_succ _)).trans HT3.out.1
    have HG3:Hid (wa.grownBy W3 none/\Blk W3 z0 3 #[.int .i64 0]/\Blk W3 jb0 3 #[.int .i64 (k:Int)]):=by
     have h:=HI.out
     have hz:=HSZ0.out
     have hj:=HJ0.out
     have hz0:=HZ.out
     exact ⟨HT0.out.grown h.2.1 (by omega),HT0.out.blk h.2.2.1 (.inl (by decide)),HT0.out.blk h.2.2.2.1 (.inl (by decide))⟩
    have HCC:Hid (∀y:World,W3.grownBy y none->y.cell? ⟨jb0,0,none⟩=some (.int .i64 (k:Int))/\y.cell? ⟨tb,0,none⟩=some (.slice (some ⟨ga,oa,none⟩) m f3)/\y.cell? ⟨tb+1,0,none⟩=some (.slice (some ⟨gp,0,none⟩) m p3)/\y.cell? ⟨gp,k,none⟩=some (.int .i64 pl)/\EntAt y ga (oa+k*7) r1 r2 r3 e1/\EntAt y fb 0 o1 o2 o3 e1):=fun y hy=>by
     have g:=grown_trans HG3.out.1 hy
     have hh:=HE.out.2.2.1
     obtain ⟨d0,d1,d2,d3,d4,d5,d6⟩:=blk7 (HT3.out.2.2.2.2.grown hy (by simp))
     exact ⟨(HG3.out.2.2.grown hy (by simp)).cell 0,(HB.out.2.2.1.grown g (by simp)).cell 0,(HB.out.2.2.2.1.grown g (by simp)).cell 0,g.cell HE.out.2.2.2.1 (by simp),⟨g.cell hh.1 (by simp),g.cell hh.2.1 (by simp),g.cell hh.2.2.1 (by simp),g.cell hh.2.2.2.1 (by simp),g.cell hh.2.2.2.2.1 (by simp),g.cell hh.2.2.2.2.2.1 (by simp),g.cell hh.2.2.2.2.2.2 (by simp)⟩,⟨d0,d1,d2,d3,d4,d5,d6⟩⟩
    have s0:(0:Int)<=(k:Int):=by omega
    have s1:(k:Int)<(m:Int):=by have:=HE.out.2.2.2.2;omega
    have s2:decide ((m:Int)<=(k:Int))=false:=by simp;omega
    have s3:((m:Int)<=(k:Int))=False:=eq_false (by omega)
    have s3':(m<=k)=False:=eq_false (by omega)
    have s4:((pl:Int) != (pl:Int))=false:=by simp
    have s5:(e1.1 != e1.1)=false:=by simp
    refine wpIn_block (wpIn_seq (wpIn_seq ?_))
    refine region_round_hold 1000 (fun y=>W3.grownBy y none) (by rintro ⟨_,_,h⟩;exact h) rfl (by kernel_rfl) ?_
    have G0:Hid (W3.grownBy W3.drew none):=grown_drew _ _
    generalize W3.drew=wd at G0 ⊢
    have J:Idx [0,1,2,3,4,5,6,7,8,9,10,11,12,13,14,15,16,17,18,19,20,21,22,23,24,25,26,27,28,29]:=trivial
    iterate 30 (refine tK J (G0.out) rfl rfl (fun wk hk=>by obtain ⟨m0,m1,m2,m3,⟨n0,n1,n2,n3,n4,n5,n6⟩,⟨k0,k1,k2,k3,k4,k5,k6⟩⟩:=HCC.out wk hk;go_simp;try rfl) ?_;replace J:=J.tl;try simp only [pN])
    clear J
    refine wpHold_one (i:=30) rfl (by kernel_rfl) (by rfl) (fun K hK=>?_)
    go_wp2_with fail
    refine (same16 (.slice o1 o2 o3) (.slice r1 r2 r3) e1.2 e1.2 wd (OpsOwn.ops ((opsOwn_tx HE.out.1 HT3.out.1).grown G0.out)) (HE.out.2.1.grown (grown_trans HG3.out.1 G0.out))).mono ?_
    rintro e wz ⟨rfl,gz⟩
    have G2:Hid (W3.grownBy wz none):=grown_trans G0.out gz
    clear gz
    go_wp2_with fail
    refine hK.out _ _ (fun _=>G2.out) ?_
    clear hK K
    try simp only [pN]
    have J:Idx [31,32]:=trivial
    iterate 2 (refine tK J (G2.out) rfl rfl (fun wk hk=>by obtain ⟨m0,m1,m2,m3,⟨n0,n1,n2,n3,n4,n5,n6⟩,⟨k0,k1,k2,k3,k4,k5,k6⟩⟩:=HCC.out wk hk;go_simp;try rfl) ?_;replace J:=J.tl;try simp only [pN])
    clear J
    refine wpHold_done (by kernel_rfl) ?_
    refine wpIn_cond_false rfl (wpIn_skip ?_)
    clear HCC s0 s1 s2 s3 s3' s4 s5 G0
    have HV:Hid (Blk wz jb0 3 #[.int .i64 (k:Int)]/\Blk wz z0 3 #[.int .i64 0]/\wa.grownBy wz none/\Blk wz nb 3 #[.int .i64 n]):=⟨HG3.out.2.2.grown G2.out (by simp),HG3.out.2.1.grown G2.out (by simp),grown_trans HG3.out.1 G2.out,HB.out.1.grown (grown_trans HG3.out.1 G2.out) (by simp)⟩
    have v0:=HV.out.1.cell 0
    have v1:=HV.out.1.free 0
    simp at v0
    have v2:IntKind.i64.wrap ((k:Int)+1)=((k+1:Nat):Int):=by
     have:=HM.out.2
     have:=HE.out.2.2.2.2
     rw [wrap_small' (by omega) (by omega)]
     omega
    refine wpIn_seq ?_
    refine region_round (by rintro ⟨_,_,h⟩;exact h) rfl ?_
    go_wp2_with fail
    have gs:=grown_setCell wz jb0 0 (.int .i64 ((k:Int)+1))
    have hb5:=HV.out.1.store 0 (.int .i64 ((k:Int)+1))
    have hzs:(wz.setCell ⟨jb0,0,none⟩ (.int .i64 ((k:Int)+1))).heap.size=wz.heap.size:=by simp
    generalize wz.setCell ⟨jb0,0,none⟩ (.int .i64 ((k:Int)+1))=W5 at gs hb5 hzs ⊢
    have H5':Hid (Blk W5 jb0 3 #[.int .i64 ((k+1:Nat):Int)]/\Blk W5 z0 3 #[.int .i64 0]/\wa.grownBy W5 none/\Blk W5 nb 3 #[.int .i64 n]/\(W5.heap[wy0.heap.size]? = W3.heap[wy0.heap.size]?/\W5.heap[wy0.heap.size+1]? = W3.heap[wy0.heap.size+1]?)/\KeptG wy0.heap.size (wy0.heap.size+2) (fun i=>i=jb0) G #[.int .i64 pl,.agg #[.int .i64 e1.1,.int .i64 e1.2.kind,.int .i64 e1.2.token,.int .i64 e1.2.session,.int .i64 e1.2.number,.int .i64 e1.2.mark,.slice o1 o2 o3]] W1 W5/\sz0<=W5.heap.size):=by
     have hj:=HJ0.out
     have hz:=HSZ0.out
     have hz0:=HZ.out
     have z2:=HT3.out
     have z3:=HO.out
     have hz3:=z3.1.size
     have hg2:=G2.out.size
     have keep:∀i,i≠jb0->i<W3.heap.size->W5.heap[i]? = W3.heap[i]?:=fun i h1 h2=>(gs.block i (by omega) (by simp;omega)).trans (G2.out.block i h2 (by simp))
     refine ⟨by simpa using hb5,HV.out.2.1.grown gs (by simp;omega),grown_new HV.out.2.2.1 gs (fun x hx=>by simp at hx;omega),HV.out.2.2.2.grown gs (by simp;have:=HB.out.1.lt;omega),⟨keep _ (by omega) (by omega),keep _ (by omega) (by omega)⟩,⟨by omega,fun i h1 h2 h3 _ _=>?_⟩,by omega⟩
     rw [keep i h3 (by omega)]
     exact z2.2.2.2.1 i (by omega) (by omega)
    clear gs hb5 hzs v0 v1 v2
    have v0:=H5'.out.1.cell 0
    have v1:=H5'.out.2.1.cell 0
    have v2:=H5'.out.2.2.2.1.cell 0
    simp at v0 v1 v2
    refine wpIn_seq ?_
    by_cases hn:((k+1:Nat):Int)=n
    ·have hq:((k+1:Nat):Int)=n:=hn
     have hq':(k:Int)+1=n:=by omega
     refine region_round (by rintro ⟨_,_,h⟩;exact h) rfl ?_
     go_wp2_with fail
     refine wpIn_cond_true rfl (wpIn_exit ?_)
     refine ⟨rfl,H5'.out.2.2.2.2.1,H5'.out.2.2.2.2.2.1,by simp,H5'.out.2.2.1,H5'.out.2.1,by rw [<-hq];exact H5'.out.1,H5'.out.2.2.2.2.2.2⟩
    ·have hq:((k:Int)+1==n)=false:=by simp;omega
     have hq':((k:Int)+1=n)=False:=eq_false (by omega)
     refine region_round (by rintro ⟨_,_,h⟩;exact h) rfl ?_
     go_wp2_with fail
     refine wpIn_cond_false rfl (wpIn_skip ?_)
     refine ⟨H5'.out.2.2.2.2.1,fun _=>False,fun _ h=>h.elim,H5'.out.2.2.2.2.2.1,by have:=HE.out.2.2.2.2;omega,H5'.out.2.2.1,H5'.out.2.1,H5'.out.1,H5'.out.2.2.2.2.2.2,fun _ h=>h⟩
   ·rintro A s G rfl HA
    have h:=HA.out
    rw [HM.out.1] at h
    exact ⟨(m:Int),h.2.1,h.2.2.1,h.2.2.2.1,h.2.2.2.2.1,.inl rfl⟩
   ·intro A HA
    have h:=HA.out
    exact ⟨n,h.2.1,h.2.2.1,h.2.2.2.1,h.2.2.2.2,.inr ⟨h.1,rfl⟩⟩
   intro A0 HP hd
   have HD0:Hid (A0.heap[sz0]? = some (.deferred (some []))/\jb0<sz0):=⟨by rw [<-HSZ0.out.1];exact hd,by have:=HSZ0.out;omega⟩
   rw [HSZ0.out.1]
   clear hd
   refine (‹∀(a:Act) (w:World),Code.wp Tryz.prog _ _ a w->_› _ _ ?_)
   obtain ⟨j,HP'⟩:∃j:Int,Hid (wa.grownBy A0 none/\Blk A0 z0 3 #[.int .i64 0]/\Blk A0 jb0 3 #[.int .i64 j]/\sz0<=A0.heap.size/\(j=(m:Int)\/(0=0/\j=n))):=by
    obtain ⟨j,h⟩:=HP.out
    exact ⟨j,h⟩
   clear HP
   have HTB:Hid (Blk A0 tb 22 #[.slice f1 m f3]/\Blk A0 nb 3 #[.int .i64 n]):=⟨HB.out.2.2.1.grown HP'.out.1 (by simp),HB.out.1.grown HP'.out.1 (by simp)⟩
   have v0:=HP'.out.2.2.1.cell 0
   have v1:=HP'.out.2.1.cell 0
   have v2:=HTB.out.1.cell 0
   have v3:=HTB.out.2.cell 0
   simp at v0 v1 v2 v3
   have HC:Hid (j=(m:Int)\/(¬j=(m:Int)/\(0=0/\j=n))):=by
    rcases HP'.out.2.2.2.2 with h | h
    ·exact .inl h
    ·by_cases hj:j=(m:Int)
     ·exact .inl hj
     ·exact .inr ⟨hj,h⟩
   obtain ⟨wn0,hwn,HN0⟩:=al1 A0 #[.int .i64 0] 3
   obtain ⟨pn0,hpn⟩:∃x,A0.heap.size=x:=⟨_,rfl⟩
   rw [hpn] at HN0
   have HWN:Hid (A0.alloc (.cells #[.int .i64 0] 3)=wn0/\A0.heap.size=pn0):=⟨hwn,hpn⟩
   clear hwn hpn
   rcases HC.out with h | ⟨h2,_,h3⟩
   rotate_left
   have q1:(n==(m:Int))=false:=by simp;omega
   have q2:(n=(m:Int))=False:=eq_false (by omega)
   have h:=h3
   clear h2 h3
   rotate_left
   all_goals
    clear HC
    rw [h] at v0
    clear h
    go_upto_region 14 with fail
    rw [HWN.out.1,HWN.out.2]
    have b0:=HN0.out.1.cell 0
    have b1:=HN0.out.1.free 0
    simp at b0
    clear v0 v1 v2 v3
    try clear q1 q2
    go_wp2_with fail
    have gs:=grown_setCell wn0 pn0 0 (.int .i64 1)
    have hb5:=HN0.out.1.store 0 (.int .i64 1)
    have hzs:(wn0.setCell ⟨pn0,0,none⟩ (.int .i64 1)).heap.size=wn0.heap.size:=by simp
    generalize wn0.setCell ⟨pn0,0,none⟩ (.int .i64 1)=wx1 at gs hb5 hzs ⊢
    have I1:Hid (wa.grownBy wx1 none/\Blk wx1 pn0 3 #[.int .i64 1]/\z0<=pn0/\wx1.heap[sz0]? = some (.deferred (some []))/\sz0<wx1.heap.size/\z0<=sz0):=by
     have hz0:=HZ.out
     have hi:=I0.out
     have hg:=HP'.out.1.size
     have hpn:=HWN.out.2
     have hd:=HD0.out
     have hj:=HJ0.out
     have hsl:=(Array.getElem?_eq_some_iff.1 hd.1).1
     have hn2:=HN0.out.2.2
     refine ⟨grown_new (grown_trans HP'.out.1 HN0.out.2.1) gs (fun x hx=>by simp at hx;omega),by simpa using hb5,by omega,((gs.block _ (by omega) (by simp;omega)).trans (HN0.out.2.1.block _ hsl (by simp))).trans hd.1,by omega,by omega⟩
    clear gs hb5 hzs b0 b1 HTB HP' HWN HN0 HD0 HSZ0 HY0 HGV I0 HJ0
    try rw [rounds_succ]
    have c0:=I1.out.2.1.cell 0
    simp at c0
    obtain ⟨wy1,hwy,HY1⟩:=al1 wx1 #[.int .i64 0] 3
    obtain ⟨jb1,hjb⟩:∃x,wx1.heap.size=x:=⟨_,rfl⟩
    rw [hjb] at HY1
    have HWY:Hid (wx1.alloc (.cells #[.int .i64 0] 3)=wy1):=hwy
    clear hwy
    go_wp2_with fail
    rw [HWY.out]
    try rw [hjb]
    clear c0 HWY
    have HJ1:Hid (wx1.heap.size=jb1/\pn0<jb1/\z0<=jb1):=⟨hjb,by have:=I1.out.2.1.lt;omega,by have:=I1.out.1.size;have:=HZ.out;omega⟩
    clear hjb
    obtain ⟨sz1,hsz⟩:∃x,wy1.heap.size=x:=⟨_,rfl⟩
    have HSZ1:Hid (wy1.heap.size=sz1/\sz1=jb1+1):=⟨hsz,by have:=HY1.out.2.2;have:=HJ1.out.1;omega⟩
    clear hsz
    have HGV:Hid (GivesN Tryz.prog 50 #[.pointer (some ⟨Ax,0,none⟩)] (entsL 0 fs).1.length (Xa fs) (fun i=>i=jb1) wy1):=by
     have g:=grown_trans I1.out.1 HY1.out.2.1
     have h:=HB.out
     have hj:=HJ1.out
     have hz:=HZ.out
     refine allS _ Ax Cx Bx (.slice ua un uc) L fs R wy1 (h.2.2.2.2.2.2.1.grown g (by simp)) (h.2.2.2.2.2.2.2.1.grown g (by simp)) (h.2.2.2.2.2.2.2.2.1.grown g (by simp)) (h.2.2.2.2.2.2.2.2.2.1.seg.grown g) HS.out.2.2.2 (by have:=HS.out;omega) ?_ ?_ ?_
     ·have:=h.2.2.2.2.2.2.2.2.1.lt
      omega
     ·intro hne b off n c e
      have:=Frame.seg_blk h.2.2.2.2.2.2.2.2.2.1.seg hne e
      omega
     ·intro i hi
      have:=HSZ1.out
      omega
    refine wp_rangeB (id:=4) (gf:=50) (lb:=#[.pointer (some ⟨Ax,0,none⟩)]) rfl (enters_of Tryz.func50 (by kernel_rfl) rfl) HGV.out ?_
     (fun k G A=>Hid (k<=m/\wa.grownBy A none/\Blk A pn0 3 #[.int .i64 1]/\Blk A jb1 3 #[.int .i64 (k:Int)]/\sz1<=A.heap.size/\(∀i,¬G i)/\A.heap[sz0]? = some (.deferred (some []))))
     (fun A=>Hid (1=0/\wa.grownBy A none/\Blk A pn0 3 #[.int .i64 1]/\Blk A jb1 3 #[.int .i64 n]/\sz1<=A.heap.size/\A.heap[sz0]? = some (.deferred (some [])))) ?_ ?_ ?_ ?_
     (fun A=>Hid (∃j:Int,wa.grownBy A none/\Blk A pn0 3 #[.int .i64 1]/\Blk A jb1 3 #[.int .i64 j]/\sz1<=A.heap.size/\(j=(m:Int)\/(1=0/\j=n))/\A.heap[sz0]? = some (.deferred (some [])))) ?_ ?_ ?_
    ·rintro k k' W0 W1 xs ⟨_,_,_,_,rfl,_⟩
     rfl
    ·rintro k G A B HA ht
     have hz:=HSZ1.out
     have hj:=HJ1.out
     have hz0:=HZ.out
     have h:=HA.out
     exact ⟨h.1,ht.grown h.2.1 (by omega),ht.blk h.2.2.1 (.inl (by decide)),ht.blk h.2.2.2.1 (.inl (by decide)),Nat.le_trans h.2.2.2.2.1 ht.size,h.2.2.2.2.2.1,(ht.block sz0 (Array.getElem?_eq_some_iff.1 h.2.2.2.2.2.2).1 (.inl (by have:=I1.out;omega))).trans h.2.2.2.2.2.2⟩
    ·rintro A B HA ht
     have hz:=HSZ1.out
     have hj:=HJ1.out
     have hz0:=HZ.out
     have h:=HA.out
     exact ⟨h.1,ht.grown h.2.1 (by omega),ht.blk h.2.2.1 (.inl (by decide)),ht.blk h.2.2.2.1 (.inl (by decide)),Nat.le_trans h.2.2.2.2.1 ht.size,(ht.block sz0 (Array.getElem?_eq_some_iff.1 h.2.2.2.2.2).1 (.inl (by have:=I1.out;omega))).trans h.2.2.2.2.2⟩
    ·exact ⟨Nat.zero_le _,grown_trans I1.out.1 HY1.out.2.1,I1.out.2.1.grown HY1.out.2.1 (by simp),HY1.out.1,Nat.le_of_eq HSZ1.out.1.symm,fun _ h=>h,(HY1.out.2.1.block _ (Array.getElem?_eq_some_iff.1 I1.out.2.2.2.1).1 (by simp)).trans I1.out.2.2.2.1⟩
    ·rintro l' k k' G W0 W1 xs HI hlt0 htn ⟨rfl,hk,hkm,ov,rfl,oo⟩ ⟨rc,hrc⟩
     have HO:Hid (Tx (wy1.heap.size+2) W0 W1/\wy1.heap.size+1<W0.heap.size/\W1.heap[wy1.heap.size+1]? = some (.loop rc)):=⟨htn,hlt0,hrc⟩
     clear htn hlt0 hrc
     obtain ⟨o1,o2,o3,eo,hol⟩:=OpsOwn.slice oo
     subst eo
     have hkE:=hkm
     have hk':k<m:=by rw [<-HM.out.1];exact hkm
     obtain ⟨ga,oa,r1,r2,r3,ef,hea,hpa⟩:=ents_at' HB.out.2.2.2.2.1 k hkm
     obtain ⟨gp,pc,ep,hpp⟩:=HB.out.2.2.2.2.2.1.cell k (by rw [places_len];exact hk')
     rw [places_at] at hpp
     rw [places_len] at ep
     obtain ⟨rfl,rfl⟩:f1=some ⟨ga,oa,none⟩/\p1=some ⟨gp,0,none⟩:=⟨ef,by simpa using (Value.slice.inj ep).1⟩
     obtain ⟨e1,he1⟩:∃x,(entsL 0 fs).1[k]=x:=⟨_,rfl⟩
     obtain ⟨pl,hpl⟩:∃x,placeE fs k=x:=⟨_,rfl⟩
     rw [he1] at oo hea hpa ⊢
     rw [hpl] at hpp ⊢
     have HE:Hid (OpsOwn W1 W0.heap.size (.slice o1 o2 o3) e1.2.ops/\Ops wa (.slice r1 r2 r3) e1.2.ops/\EntAt wa ga (oa+k*7) r1 r2 r3 e1/\wa.cell? ⟨gp,k,none⟩=some (.int .i64 pl)/\k<m):=⟨oo,hpa,hea,hpp,hk'⟩
     clear oo hpa hea hpp hol he1 hpl ef ep hk' hkE
     simp only [entV,entA,List.zip_toArray,List.zip_cons_cons,List.zip_nil_right,List.foldl_toArray',List.size_toArray,List.foldl_cons,List.foldl_nil,List.setIfInBounds_toArray,List.set_cons_zero,List.set_cons_succ]
     refine wpIn_seq ?_
     refine region_round (by rintro ⟨_,_,h⟩;exact h) rfl ?_
     go_wp2_with fail
     refine region_round (by rintro ⟨_,_,h⟩;exact h) rfl ?_
     obtain ⟨Wa,hWa,HA⟩:=al1 W1 #[.int .i64 e1.1,.int .i64 e1.2.kind,.int .i64 e1.2.token,.int .i64 e1.2.session,.int .i64 e1.2.number,.int .i64 e1.2.mark,.slice o1 o2 o3] 34
     go_wp2_with fail
     try rw [hWa]
     clear hWa
     refine ⟨HA.out.2.1,fun r=>?_⟩
     obtain ⟨fb,hfb⟩:∃x,W1.heap.size=x:=⟨_,rfl⟩
     obtain ⟨W3,hW3⟩:∃W3,Wa.putObj (wy1.heap.size+1) (.loop r)=W3:=⟨_,rfl⟩
     have HT3:Hid (Tx (wy1.heap.size+1) W1 W3/\W3.heap.size=fb+1/\W1.heap.size=fb/\(∀i,i<fb->i≠wy1.heap.size+1->W3.heap[i]? = W1.heap[i]?)/\Blk W3 fb 34 #[.int .i64 e1.1,.int .i64 e1.2.kind,.int .i64 e1.2.token,.int .i64 e1.2.session,.int .i64 e1.2.number,.int .i64 e1.2.mark,.slice o1 o2 o3]):=by
      have hl:Wa.heap[wy1.heap.size+1]? = some (.loop rc):=(HA.out.2.1.block _ (by have:=HO.out;have:=HO.out.1.size;omega) (by simp)).trans HO.out.2.2
      have ht:Tx (wy1.heap.size+1) Wa W3:=by rw [<-hW3];exact Tx.put _ hl (Nat.le_refl _)
      have hb:=HA.out.1
      rw [hfb] at hb
      refine ⟨(Tx.of_grown HA.out.2.1).trans ht,?_,hfb,fun i hi hn=>by rw [<-hW3,World.putObj_heap_other hn];exact HA.out.2.1.block i (by omega) (by simp),ht.blk hb (.inl (by decide))⟩
      rw [<-hW3]
      simp [World.putObj]
      have:=HA.out.2.2
      omega
     rw [hW3,hfb]
     clear hW3 hfb
     have HT0:Hid (Tx (wy1.heap.size+1) W0 W3):=(HO.out.1.mono (Nat.le_succ _)).trans HT3.out.1
     have HG3:Hid (wa.grownBy W3 none/\Blk W3 pn0 3 #[.int .i64 1]/\Blk W3 jb1 3 #[.int .i64 (k:Int)]):=by
      have h:=HI.out
      have hz:=HSZ1.out
      have hj:=HJ1.out
      have hz0:=HZ.out
      exact ⟨HT0.out.grown h.2.1 (by omega),HT0.out.blk h.2.2.1 (.inl (by decide)),HT0.out.blk h.2.2.2.1 (.inl (by decide))⟩
     have HCC:Hid (∀y:World,W3.grownBy y none->y.cell? ⟨jb1,0,none⟩=some (.int .i64 (k:Int))/\y.cell? ⟨tb,0,none⟩=some (.slice (some ⟨ga,oa,none⟩) m f3)/\y.cell? ⟨tb+1,0,none⟩=some (.slice (some ⟨gp,0,none⟩) m p3)/\y.cell? ⟨gp,k,none⟩=some (.int .i64 pl)/\EntAt y ga (oa+k*7) r1 r2 r3 e1/\EntAt y fb 0 o1 o2 o3 e1):=fun y hy=>by
      have g:=grown_trans HG3.out.1 hy
      have hh:=HE.out.2.2.1
      obtain ⟨d0,d1,d2,d3,d4,d5,d6⟩:=blk7 (HT3.out.2.2.2.2.grown hy (by simp))
      exact ⟨(HG3.out.2.2.grown hy (by simp)).cell 0,(HB.out.2.2.1.grown g (by simp)).cell 0,(HB.out.2.2.2.1.grown g (by simp)).cell 0,g.cell HE.out.2.2.2.1 (by simp),⟨g.cell hh.1 (by simp),g.cell hh.2.1 (by simp),g.cell hh.2.2.1 (by simp),g.cell hh.2.2.2.1 (by simp),g.cell hh.2.2.2.2.1 (by simp),g.cell hh.2.2.2.2.2.1 (by simp),g.cell hh.2.2.2.2.2.2 (by simp)⟩,⟨d0,d1,d2,d3,d4,d5,d6⟩⟩
     have s0:(0:Int)<=(k:Int):=by omega
     have s1:(k:Int)<(m:Int):=by have:=HE.out.2.2.2.2;omega
     have s2:decide ((m:Int)<=(k:Int))=false:=by simp;omega
     have s3:((m:Int)<=(k:Int))=False:=eq_false (by omega)
     have s3':(m<=k)=False:=eq_false (by omega)
     have s4:((pl:Int) != (pl:Int))=false:=by simp
     have s5:(e1.1 != e1.1)=false:=by simp
     refine wpIn_block (wpIn_seq (wpIn_seq ?_))
     refine region_round_hold 1000 (fun y=>W3.grownBy y none) (by rintro ⟨_,_,h⟩;exact h) rfl (by kernel_rfl) ?_
     have G0:Hid (W3.grownBy W3.drew none):=grown_drew _ _
     generalize W3.drew=wd at G0 ⊢
     have J:Idx [0,1,2,3,4,5,6,7,8,9,10,11,12,13,14,15,16,17,18,19,20,21,22,23,24,25,26,27,28,29]:=trivial
     iterate 30 (refine tK J (G0.out) rfl rfl (fun wk hk=>by obtain ⟨m0,m1,m2,m3,⟨n0,n1,n2,n3,n4,n5,n6⟩,⟨k0,k1,k2,k3,k4,k5,k6⟩⟩:=HCC.out wk hk;go_simp;try rfl) ?_;replace J:=J.tl;try simp only [pN])
     clear J
     refine wpHold_one (i:=30) rfl (by kernel_rfl) (by rfl) (fun K hK=>?_)
     go_wp2_with fail
     refine (same16 (.slice o1 o2 o3) (.slice r1 r2 r3) e1.2 e1.2 wd (OpsOwn.ops ((opsOwn_tx HE.out.1 HT3.out.1).grown G0.out)) (HE.out.2.1.grown (grown_trans HG3.out.1 G0.out))).mono ?_
     rintro e wz ⟨rfl,gz⟩
     have G2:Hid (W3.grownBy wz none):=grown_trans G0.out gz
     clear gz
     go_wp2_with fail
     refine hK.out _ _ (fun _=>G2.out) ?_
     clear hK K
     try simp only [pN]
     have J:Idx [31,32]:=trivial
     iterate 2 (refine tK J (G2.out) rfl rfl (fun wk hk=>by obtain ⟨m0,m1,m2,m3,⟨n0,n1,n2,n3,n4,n5,n6⟩,⟨k0,k1,k2,k3,k4,k5,k6⟩⟩:=HCC.out wk hk;go_simp;try rfl) ?_;replace J:=J.tl;try simp only [pN])
     clear J
     refine wpHold_done (by kernel_rfl) ?_
     refine wpIn_cond_false rfl (wpIn_skip ?_)
     clear HCC s0 s1 s2 s3 s3' s4 s5 G0
     have HV:Hid (Blk wz jb1 3 #[.int .i64 (k:Int)]/\Blk wz pn0 3 #[.int .i64 1]/\wa.grownBy wz none/\Blk wz nb 3 #[.int .i64 n]):=⟨HG3.out.2.2.grown G2.out (by simp),HG3.out.2.1.grown G2.out (by simp),grown_trans HG3.out.1 G2.out,HB.out.1.grown (grown_trans HG3.out.1 G2.out) (by simp)⟩
     have v0:=HV.out.1.cell 0
     have v1:=HV.out.1.free 0
     simp at v0
     have v2:IntKind.i64.wrap ((k:Int)+1)=((k+1:Nat):Int):=by
      have:=HM.out.2
      have:=HE.out.2.2.2.2
      rw [wrap_small' (by omega) (by omega)]
      omega
     refine wpIn_seq ?_
     refine region_round (by rintro ⟨_,_,h⟩;exact h) rfl ?_
     go_wp2_with fail
     have gs:=grown_setCell wz jb1 0 (.int .i64 ((k:Int)+1))
     have hb5:=HV.out.1.store 0 (.int .i64 ((k:Int)+1))
     have hzs:(wz.setCell ⟨jb1,0,none⟩ (.int .i64 ((k:Int)+1))).heap.size=wz.heap.size:=by simp
     generalize wz.setCell ⟨jb1,0,none⟩ (.int .i64 ((k:Int)+1))=W5 at gs hb5 hzs ⊢
     have H5':Hid (Blk W5 jb1 3 #[.int .i64 ((k+1:Nat):Int)]/\Blk W5 pn0 3 #[.int .i64 1]/\wa.grownBy W5 none/\Blk W5 nb 3 #[.int .i64 n]/\(W5.heap[wy1.heap.size]? = W3.heap[wy1.heap.size]?/\W5.heap[wy1.heap.size+1]? = W3.heap[wy1.heap.size+1]?)/\KeptG wy1.heap.size (wy1.heap.size+2) (fun i=>i=jb1) G #[.int .i64 pl,.agg #[.int .i64 e1.1,.int .i64 e1.2.kind,.int .i64 e1.2.token,.int .i64 e1.2.session,.int .i64 e1.2.number,.int .i64 e1.2.mark,.slice o1 o2 o3]] W1 W5/\sz1<=W5.heap.size/\W5.heap[sz0]? = some (.deferred (some []))):=by
      have hj:=HJ1.out
      have hz:=HSZ1.out
      have hz0:=HZ.out
      have z2:=HT3.out
      have z3:=HO.out
      have hz3:=z3.1.size
      have hg2:=G2.out.size
      have keep:∀i,i≠jb1->i<W3.heap.size->W5.heap[i]? = W3.heap[i]?:=fun i h1 h2=>(gs.block i (by omega) (by simp;omega)).trans (G2.out.block i h2 (by simp))
      refine ⟨by simpa using hb5,HV.out.2.1.grown gs (by simp;omega),grown_new HV.out.2.2.1 gs (fun x hx=>by simp at hx;omega),HV.out.2.2.2.grown gs (by simp;have:=HB.out.1.lt;omega),⟨keep _ (by omega) (by omega),keep _ (by omega) (by omega)⟩,⟨by omega,fun i h1 h2 h3 _ _=>?_⟩,by omega,?_⟩
      rw [keep i h3 (by omega)]
      exact z2.2.2.2.1 i (by omega) (by omega)
      ·have hI:=HI.out.2.2.2.2.2.2
       have hd0:=I1.out
       rw [keep sz0 (by omega) (by omega)]
       exact (HT0.out.block sz0 (Array.getElem?_eq_some_iff.1 hI).1 (.inl (by omega))).trans hI
     clear gs hb5 hzs v0 v1 v2
     have v0:=H5'.out.1.cell 0
     have v1:=H5'.out.2.1.cell 0
     have v2:=H5'.out.2.2.2.1.cell 0
     simp at v0 v1 v2
     refine wpIn_seq ?_
     refine region_round (by rintro ⟨_,_,h⟩;exact h) rfl ?_
     go_wp2_with fail
     refine wpIn_cond_false rfl (wpIn_skip ?_)
     refine ⟨H5'.out.2.2.2.2.1,fun _=>False,fun _ h=>h.elim,H5'.out.2.2.2.2.2.1,by have:=HE.out.2.2.2.2;omega,H5'.out.2.2.1,H5'.out.2.1,H5'.out.1,H5'.out.2.2.2.2.2.2.1,fun _ h=>h,H5'.out.2.2.2.2.2.2.2⟩
    ·rintro A s G rfl HA
     have h:=HA.out
     rw [HM.out.1] at h
     exact ⟨(m:Int),h.2.1,h.2.2.1,h.2.2.2.1,h.2.2.2.2.1,.inl rfl,h.2.2.2.2.2.2⟩
    ·intro A HA
     have h:=HA.out
     exact ⟨n,h.2.1,h.2.2.1,h.2.2.2.1,h.2.2.2.2.1,.inr ⟨h.1,rfl⟩,h.2.2.2.2.2⟩
    intro A1 HP hd
    have HD1:Hid (A1.heap[sz1]? = some (.deferred (some []))/\jb1<sz1):=⟨by rw [<-HSZ1.out.1];exact hd,by have:=HSZ1.out;omega⟩
    rw [HSZ1.out.1]
    clear hd
    refine (‹∀(a:Act) (w:World),Code.wp Tryz.prog _ _ a w->_› _ _ ?_)
    obtain ⟨j,HP'⟩:∃j:Int,Hid (wa.grownBy A1 none/\Blk A1 pn0 3 #[.int .i64 1]/\Blk A1 jb1 3 #[.int .i64 j]/\sz1<=A1.heap.size/\(j=(m:Int)\/(1=0/\j=n))/\A1.heap[sz0]? = some (.deferred (some []))):=by
     obtain ⟨j,h⟩:=HP.out
     exact ⟨j,h⟩
    clear HP
    have HTB:Hid (Blk A1 tb 22 #[.slice f1 m f3]/\Blk A1 nb 3 #[.int .i64 n]):=⟨HB.out.2.2.1.grown HP'.out.1 (by simp),HB.out.1.grown HP'.out.1 (by simp)⟩
    have v0:=HP'.out.2.2.1.cell 0
    have v1:=HP'.out.2.1.cell 0
    have v2:=HTB.out.1.cell 0
    have v3:=HTB.out.2.cell 0
    simp at v0 v1 v2 v3
    have HC:Hid (j=(m:Int)\/(¬j=(m:Int)/\(1=0/\j=n))):=by
     rcases HP'.out.2.2.2.2.1 with h | h
     ·exact .inl h
     ·by_cases hj:j=(m:Int)
      ·exact .inl hj
      ·exact .inr ⟨hj,h⟩
    obtain ⟨wn1,hwn,HN1⟩:=al1 A1 #[.int .i64 1] 3
    obtain ⟨pn1,hpn⟩:∃x,A1.heap.size=x:=⟨_,rfl⟩
    rw [hpn] at HN1
    have HWN:Hid (A1.alloc (.cells #[.int .i64 1] 3)=wn1/\A1.heap.size=pn1):=⟨hwn,hpn⟩
    clear hwn hpn
    rcases HC.out with h | ⟨_,h,_⟩
    rotate_left
    ·exact absurd h (by decide)
    all_goals
     clear HC
     rw [h] at v0
     clear h
     go_upto_region 14 with fail
     rw [HWN.out.1,HWN.out.2]
     have b0:=HN1.out.1.cell 0
     have b1:=HN1.out.1.free 0
     simp at b0
     clear v0 v1 v2 v3
     try clear q1 q2
     go_wp2_with fail
     have gs:=grown_setCell wn1 pn1 0 (.int .i64 2)
     have hb5:=HN1.out.1.store 0 (.int .i64 2)
     have hzs:(wn1.setCell ⟨pn1,0,none⟩ (.int .i64 2)).heap.size=wn1.heap.size:=by simp
     generalize wn1.setCell ⟨pn1,0,none⟩ (.int .i64 2)=wx2 at gs hb5 hzs ⊢
     have I2:Hid (wa.grownBy wx2 none/\Blk wx2 pn1 3 #[.int .i64 2]/\z0<=pn1/\wx2.heap[sz1]? = some (.deferred (some []))/\sz1<wx2.heap.size/\z0<=sz1/\wx2.heap[sz0]? = some (.deferred (some []))/\sz0<sz1/\z0<=sz0):=by
      have hz0:=HZ.out
      have hi:=I1.out
      have hg:=HP'.out.1.size
      have hpn:=HWN.out.2
      have hd:=HD1.out
      have hj:=HJ1.out
      have hsl:=(Array.getElem?_eq_some_iff.1 hd.1).1
      have hn2:=HN1.out.2.2
      refine ⟨grown_new (grown_trans HP'.out.1 HN1.out.2.1) gs (fun x hx=>by simp at hx;omega),by simpa using hb5,by omega,((gs.block _ (by omega) (by simp;omega)).trans (HN1.out.2.1.block _ hsl (by simp))).trans hd.1,by omega,by omega,((gs.block _ (by omega) (by simp;omega)).trans (HN1.out.2.1.block _ (by omega) (by simp))).trans HP'.out.2.2.2.2.2,by have:=I1.out;have:=HY1.out;have:=HSZ1.out;omega,by have:=I1.out;omega⟩
     clear gs hb5 hzs b0 b1 HTB HP' HWN HN1 HD1 HSZ1 HY1 HGV I1 HJ1
     try rw [rounds_succ]
     have c0:=I2.out.2.1.cell 0
     simp at c0
     go_wp2_with fail
     refine (known14 wx2).mono ?_
     rintro e wk ⟨rfl,gk⟩
     have HK:Hid (wx2.grownBy wk none):=gk
     clear gk c0
     have HRB:Hid (Blk wk (nb+1) 4 #[.bool false]/\wa.grownBy wk none):=⟨HB.out.2.1.grown (grown_trans I2.out.1 HK.out) (by simp),grown_trans I2.out.1 HK.out⟩
     have r0:=HRB.out.1.cell 0
     have r1:=HRB.out.1.free 0
     simp at r0
     go_wp2_with fail
     have gs:=grown_setCell wk (nb+1) 0 (.bool true)
     have hb5:=HRB.out.1.store 0 (.bool true)
     generalize wk.setCell ⟨nb+1,0,none⟩ (.bool true)=we at gs hb5 ⊢
     have HE:Hid (w.grownBy we none/\Blk we (nb+1) 4 #[.bool true]/\we.heap[sz1]? = some (.deferred (some []))/\we.heap[sz0]? = some (.deferred (some []))/\sz0<sz1/\z0<=sz0/\w.heap.size<=z0):=by
      have hi:=I2.out
      have hz:=HZ.out
      have hw:=HB.out.2.2.2.2.2.2.2.2.2.2
      have hlt:=HB.out.2.1.lt
      have hgk:=HK.out
      have hl:=HK.out.size
      have hn:=HN.out
      exact ⟨grown_new (grown_trans hw HRB.out.2) gs (fun x hx=>by simp at hx;omega),by simpa using hb5,((gs.block _ (by omega) (by simp;omega)).trans (hgk.block _ (by omega) (by simp))).trans hi.2.2.2.1,((gs.block _ (by omega) (by simp;omega)).trans (hgk.block _ (by omega) (by simp))).trans hi.2.2.2.2.2.2.1,hi.2.2.2.2.2.2.2.1,hi.2.2.2.2.2.2.2.2,by have:=hw.size;omega⟩
     clear gs hb5 r0 r1
     refine ⟨by simp,.inl ⟨_,_,rfl,run_takeDeferred HE.out.2.2.1,?_⟩⟩
     refine ⟨by simp,.inl ⟨_,_,rfl,run_takeDeferred ((World.putObj_heap_other (by have:=HE.out;omega)).trans HE.out.2.2.2.1),?_⟩⟩
     have t1:=Tx.putD (n0:=z0) (.deferred none) HE.out.2.2.1 (by have:=HE.out;omega)
     have t2:=t1.trans (Tx.putD (n0:=z0) (.deferred none) ((World.putObj_heap_other (by have:=HE.out;omega)).trans HE.out.2.2.2.1) (by have:=HE.out;omega))
     have z4:=(t2.blk HE.out.2.1 (.inl (by decide))).cell 0
     simp at z4
     exact ⟨.bool true,by simp [results,Tryz.results4,go_sem,z4],rfl,t2.grown HE.out.1 (by have:=HE.out;omega)⟩
end Go.Proofs.YtadhfejefpildaaGreat
