import Derived.Test.YtncbdhdfemidlaaGreatPcdAll
import Derived.Shelf.Abstract
set_option maxHeartbeats 8000000
set_option maxRecDepth 100000
namespace Go.Proofs.YtncbdhdfemidlaaGreat
open Go.RowKit Disk Table
open _root_.Go.Proofs.YtncbdhdfemidlaaGreat.Calls _root_.Go.Proofs.YtncbdhdfemidlaaGreat.Command
theorem each21 (HG:ReadGood)(v:Value)(l:List PMsg)(w:World)(hs:Msgs w v l)(hl:∀m ∈ l,GoodM m):Calls Tryz.prog 21 #[v] w (EachP l w):=by
 obtain ⟨ao,n,cap,rfl,hn,hn',_⟩:=msgs_open hs
 have HS:Hid (Msgs w (.slice ao n cap) l/\(∀m ∈ l,GoodM m)/\ReadGood/\l.length=n):=⟨hs,hl,HG,hn⟩
 clear hs hl HG hn
 show Calls Tryz.prog 21 #[.slice ao n cap] w _
 refine calls_marks Tryz.func21 rfl ?_
 simp only [Tryz.ntmps21,List.size_toArray,List.length_cons,List.length_nil,Nat.reduceAdd,Nat.reduceSub,Array.replicate_succ,Array.replicate_zero,List.push_toArray,List.append_toArray,List.nil_append,List.cons_append]
 obtain ⟨w1,mk1,H1⟩:=make54 n n rfl hn' w
 go_upto_region 2 with fail
 obtain ⟨w2,hw2,H2⟩:=al1 w1 #[.slice (some ⟨w.heap.size,0,none⟩) n n] 54
 rw [hw2]
 clear hw2 mk1
 obtain ⟨g,hg⟩:∃x,w.heap.size=x:=⟨_,rfl⟩
 obtain ⟨bx,hbx⟩:∃x,w1.heap.size=x:=⟨_,rfl⟩
 rw [hg,hbx] at H2 ⊢
 rw [hg] at H1
 go_wp2_with fail
 refine (written44 ao n cap w2).mono ?_
 rintro e w3 ⟨rfl,h31,h32,h33⟩
 obtain ⟨fb,hfb⟩:∃x,w2.heap.size=x:=⟨_,rfl⟩
 have HW:Hid (w.heap.size=g/\w1.heap.size=bx/\w2.heap.size=fb/\fb=bx+1/\w3.heap.size=fb+1/\g<bx/\w.grownBy w3 none/\MsgsOwn w3 g (.slice (some ⟨g,0,none⟩) n n) (List.replicate n zeroM)/\Blk w3 bx 54 #[.slice (some ⟨g,0,none⟩) n n]/\Blk w3 fb 54 #[.slice ao n cap]):=by
  have z1:=H1.out
  have z2:=H2.out
  refine ⟨hg,hbx,hfb,by omega,by omega,?_,grown_trans z1.2 (grown_trans z2.2.1 h32),(z1.1.grown z2.2.1).grown h32,z2.1.grown h32 (by simp),by rw [<-hfb];exact h31⟩
  have:=(z1.1.1.lt g rfl).2
  omega
 rw [hfb]
 clear h31 h32 h33 hfb hg hbx H1 H2
 go_wp2_with fail
 have HGV:Hid (GivesS Tryz.prog 69 #[.pointer (some ⟨fb,0,none⟩)] 0 (FinW l) (Xw l) (fun i=>i=g) w3):=by
  have z:=HW.out
  refine writtenS _ fb 0 g (.slice ao n cap) l w3 z.2.2.2.2.2.2.2.2.2 ?_ HS.out.2.1 (fun i _ h e=>by omega)
  have:=HS.out.1.stay
  rw [z.1] at this
  exact this.grown (by omega) fun i _ h=>z.2.2.2.2.2.2.1.block i (by omega) (by simp)
 refine wp_rangeS (gf:=69) (lb:=#[.pointer (some ⟨fb,0,none⟩)]) rfl (enters_of Tryz.func69 (by kernel_rfl) rfl) HGV.out ?hps
  (fun k G A=>Hid (w.grownBy A none/\Blk A bx 54 #[.slice (some ⟨g,0,none⟩) n n]/\MsgsOwn A g (.slice (some ⟨g,0,none⟩) n n) (updM l k)/\∀i,¬G i))
  (fun _=>False) ?hIg ?hXg ?h0 ?hround ?hdone ?hstop
 case hps =>
  rintro k k' W0 W1 xs ⟨_,_,_,_,_,_,_,rfl,_⟩
  rfl
 case hIg =>
  rintro k G A B HA ht
  have z:=HW.out
  have h:=HA.out
  exact ⟨⟨ht.os.trans h.1.os,ht.tape.trans h.1.tape,ht.output.trans h.1.output,Nat.le_trans h.1.size ht.size,fun i hi _=>(ht.block i (Nat.lt_of_lt_of_le hi h.1.size) (.inl (by omega))).trans (h.1.block i hi (by simp))⟩,ht.blk h.2.1 (.inl (by decide)),h.2.2.1.tx ht,h.2.2.2⟩
 case hXg=>exact fun _ _ h _=>h
 case h0 =>
  have z:=HW.out
  refine ⟨z.2.2.2.2.2.2.1,z.2.2.2.2.2.2.2.2.1,?_,fun _ h=>h⟩
  rw [updM_zero,HS.out.2.2.2]
  exact z.2.2.2.2.2.2.2.1
 case hstop=>exact fun _ h=>h.elim
 case hdone =>
  rintro A s G hfin HA hd
  have HD:Hid _:=hd
  have HF:Hid _:=hfin
  clear hd hfin
  have c0:=HA.out.2.1.cell 0
  simp at c0
  go_wp2_with fail
  refine (written44 (some ⟨g,0,none⟩) n n A).mono ?_
  rintro e w4 ⟨rfl,h41,h42,h43⟩
  obtain ⟨cb,hcb⟩:∃x,A.heap.size=x:=⟨_,rfl⟩
  rw [hcb]
  have H4:Hid (A.heap.size=cb/\Blk w4 A.heap.size 54 #[.slice (some ⟨g,0,none⟩) n n]/\A.grownBy w4 none/\w4.heap.size=A.heap.size+1):=⟨hcb,h41,h42,h43⟩
  clear h41 h42 h43 hcb c0
  go_wp2_with fail
  have hd4:w4.heap[w3.heap.size]? = some (.deferred (some [])):=(H4.out.2.2.1.block _ (Array.getElem?_eq_some_iff.1 HD.out).1 (by simp)).trans HD.out
  refine ⟨by simp,.inl ⟨_,_,rfl,run_takeDeferred hd4,?_⟩⟩
  have ht:=Tx.putD (n0:=w3.heap.size) (.deferred none) hd4 (Nat.le_refl _)
  have z:=HW.out
  have h4:=H4.out
  have ha:=HA.out
  have gg:=grown_trans ha.1 h4.2.2.1
  refine ⟨_,results_tmp rfl _ _ _,cb,g,rfl,by have:=ha.1.size;omega,?_,?_,⟨ht.os.trans gg.os,ht.tape.trans gg.tape,ht.output.trans gg.output,Nat.le_trans gg.size ht.size,fun i hi _=>(ht.block i (Nat.lt_of_lt_of_le hi gg.size) (.inl (by omega))).trans (gg.block i hi (by simp))⟩⟩
  ·rw [HS.out.2.2.2,<-h4.1]
   exact ht.blk h4.2.1 (.inl (by decide))
  ·have h5:=((ha.2.2.1.grown h4.2.2.1).tx ht)
   rw [updM_fin HF.out] at h5
   rw [HS.out.2.2.2,z.1]
   exact h5
 case hround =>
  rintro l' s s' G W0 W1 xs HI hlt0 htn ⟨p,hp,bv,hsp,rfl,hbt,hok,rfl,ob⟩ ⟨rc,hrc⟩
  obtain ⟨u1,u2,u3,rfl⟩:=isSl_on ob
  have HO:Hid (Tx (w3.heap.size+2) W0 W1/\w3.heap.size+1<W0.heap.size/\W1.heap[w3.heap.size+1]? = some (.loop rc)):=⟨htn,hlt0,hrc⟩
  have HX:Hid (s<=p/\(∀i (hi:i<l.length),s<=i->i<p->okM l[i]=false)/\okM l[p]=true/\Disk.Own W1 W0.heap.size (.slice u1 u2 u3) (formM l[p])):=⟨hsp,hbt,hok,ob⟩
  clear htn hlt0 hrc hsp hbt hok ob
  simp only [List.zip_toArray,List.zip_cons_cons,List.zip_nil_right,List.foldl_toArray',List.size_toArray,List.foldl_cons,List.foldl_nil,List.setIfInBounds_toArray,List.set_cons_zero,List.set_cons_succ]
  refine wpIn_seq ?_
  refine region_round (by rintro ⟨_,_,h⟩;exact h) rfl ?_
  go_wp2_with fail
  refine region_round (by rintro ⟨_,_,h⟩;exact h) rfl ?_
  go_wp2_with fail
  refine ⟨grown_refl _ _,fun r=>?_⟩
  obtain ⟨W3,hW3⟩:∃W3,W1.putObj (w3.heap.size+1) (.loop r)=W3:=⟨_,rfl⟩
  have HT3:Hid (Tx (w3.heap.size+1) W0 W3/\Tx (w3.heap.size+1) W1 W3/\W3.heap.size=W1.heap.size/\(∀i,i≠w3.heap.size+1->W3.heap[i]? = W1.heap[i]?)):=by
   have ht:Tx (w3.heap.size+1) W1 W3:=by rw [<-hW3];exact Tx.put _ HO.out.2.2 (Nat.le_refl _)
   exact ⟨(HO.out.1.mono (Nat.le_succ _)).trans ht,ht,by rw [<-hW3];simp [World.putObj],fun i hi=>by rw [<-hW3,World.putObj_heap_other hi]⟩
  rw [hW3]
  clear hW3
  have HB:Hid (Blk W3 bx 54 #[.slice (some ⟨g,0,none⟩) n n]/\MsgsOwn W3 g (.slice (some ⟨g,0,none⟩) n n) (updM l s)/\Disk.Own W3 W0.heap.size (.slice u1 u2 u3) (formM l[p])/\p<n):=⟨HT3.out.1.blk HI.out.2.1 (.inl (by decide)),HI.out.2.2.1.tx HT3.out.1,HT3.out.2.1.own HX.out.2.2.2,by rw [<-HS.out.2.2.2];exact hp⟩
  have hpn:(p:Int)<(n:Int):=by have:=HB.out.2.2.2;omega
  have hp0:(0:Int)<=(p:Int):=by omega
  refine wpIn_block ?_
  refine region_round_hold 1000 (fun y=>Blk y bx 54 #[.slice (some ⟨g,0,none⟩) n n]) (by rintro ⟨_,_,h⟩;exact h) rfl (by kernel_rfl) ?_
  have G0:Hid (W3.grownBy W3.drew none/\Blk W3.drew bx 54 #[.slice (some ⟨g,0,none⟩) n n]):=⟨grown_drew _ _,HB.out.1.grown (grown_drew W3 none) (by simp)⟩
  generalize W3.drew=wd at G0 ⊢
  have J:Idx [0,1,2]:=trivial
  iterate 3 (refine tK J (G0.out.2) rfl rfl (fun wk hk=>by have c0:=hk.cell 0;simp at c0;go_simp;try rfl) ?_;replace J:=J.tl;try simp only [pN])
  clear J
  refine wpHold_one (i:=3) rfl (by kernel_rfl) (by rfl) (fun K hK=>?_)
  go_wp2_with fail
  refine (read18 HS.out.2.2.1 (.slice u1 u2 u3) (formM l[p]) wd (HB.out.2.2.1.grown G0.out.1).seg ?hlen).mono ?_
  case hlen =>
   have h1:=HS.out.2.1 _ (List.getElem_mem hp)
   have h2:=form_len HX.out.2.2.1 h1.inm
   have h3:=h1.len
   omega
  rintro e wz ⟨ov,av,rfl,ho,ha,gz⟩
  rw [readM_form HX.out.2.2.1 (HS.out.2.1 _ (List.getElem_mem hp)).inm] at ho ha ⊢
  obtain ⟨o1,o2,o3,rfl⟩:=isSl_ow ho
  obtain ⟨a1,a2,a3,rfl⟩:=isSl_on ha
  have G2:Hid (W3.grownBy wz none/\Blk wz bx 54 #[.slice (some ⟨g,0,none⟩) n n]/\OpsOwn wz wd.heap.size (.slice o1 o2 o3) l[p].ask.ops/\Disk.Own wz wd.heap.size (.slice a1 a2 a3) l[p].tell.answer/\W3.heap.size<=wd.heap.size):=⟨grown_trans G0.out.1 gz,G0.out.2.grown gz (by simp),ho,ha,G0.out.1.size⟩
  clear ho ha gz
  simp only [msgV]
  go_wp2_with fail
  refine hK.out _ _ (fun _=>G2.out.2.1) ?_
  clear hK K
  try simp only [pN]
  have J:Idx [4,5,6,7]:=trivial
  iterate 4 (refine tK J (G2.out.2.1) rfl rfl (fun wk hk=>by have c0:=hk.cell 0;simp at c0;go_simp;try rfl) ?_;replace J:=J.tl;try simp only [pN])
  clear J
  have HR:Hid (MsgsOwn wz g (.slice (some ⟨g,0,none⟩) n n) (updM l s)/\p<(updM l s).length):=⟨HB.out.2.1.grown G2.out.1,by simp [updM];exact hp⟩
  obtain ⟨b',off',p1,p2,p3,p4,p5,p6,e',q,_,_⟩:=msgs_at HR.out.1.msgs p HR.out.2
  simp at e'
  obtain ⟨rfl,rfl⟩:=e'
  obtain ⟨q0,q1,q2,q3,q4,q5,q6,q7,q8,q9,q10,q11,q12⟩:=q
  rw [Nat.add_zero] at q0
  rw [Nat.zero_add] at q0 q1 q2 q3 q4 q5 q6 q7 q8 q9 q10 q11 q12
  have f0:=msgsOwn_free HR.out.1 (p*13)
  have f1:=msgsOwn_free HR.out.1 (p*13+1)
  have f2:=msgsOwn_free HR.out.1 (p*13+2)
  have f3:=msgsOwn_free HR.out.1 (p*13+3)
  have f4:=msgsOwn_free HR.out.1 (p*13+4)
  have f5:=msgsOwn_free HR.out.1 (p*13+5)
  have f6:=msgsOwn_free HR.out.1 (p*13+6)
  have f7:=msgsOwn_free HR.out.1 (p*13+7)
  have f8:=msgsOwn_free HR.out.1 (p*13+8)
  have f9:=msgsOwn_free HR.out.1 (p*13+9)
  have f10:=msgsOwn_free HR.out.1 (p*13+10)
  have f11:=msgsOwn_free HR.out.1 (p*13+11)
  have f12:=msgsOwn_free HR.out.1 (p*13+12)
  refine wpHold_one (i:=8) rfl (by kernel_rfl) (by rfl) (fun K hK=>?_)
  obtain ⟨m,hm⟩:∃m,l[p]=m:=⟨_,rfl⟩
  rw [hm]
  go_wp2_with fail
  clear q0 q1 q2 q3 q4 q5 q6 q7 q8 q9 q10 q11 q12 f0 f1 f2 f3 f4 f5 f6 f7 f8 f9 f10 f11 f12
  have hgw:g<=wd.heap.size:=by
   have:=HW.out
   have:=HT3.out.2.2.1
   have:=G2.out.2.2.2.2
   have:=HO.out.1.size
   have:=HO.out.2.1
   omega
  obtain ⟨W5,hW5,H5⟩:=msgsOwn_put HR.out.1 p HR.out.2 (.slice o1 o2 o3) (.slice a1 a2 a3) m (by rw [<-hm];exact G2.out.2.2.1.mono hgw) (by rw [<-hm];exact G2.out.2.2.2.1.mono hgw)
  show K _ (setCs g wz (p*13) [.int .i64 m.kind,.int .i64 m.client,.int .i64 m.ask.kind,.int .i64 m.ask.token,.int .i64 m.ask.session,.int .i64 m.ask.number,.int .i64 m.ask.mark,.slice o1 o2 o3,.int .i64 m.tell.kind,.int .i64 m.tell.token,.int .i64 m.tell.session,.int .i64 m.tell.number,.slice a1 a2 a3])
  rw [hW5]
  clear hW5
  have z:=HW.out
  have z3:=HT3.out
  have z2:=G2.out
  have z5:=H5.out
  have zo:=HO.out
  have zi:=HI.out
  have s1:=z2.1.size
  have s2:=zo.1.size
  have s3:=z5.2.size
  have hb5:Blk W5 bx 54 #[.slice (some ⟨g,0,none⟩) n n]:=z2.2.1.grown z5.2 (by simp;omega)
  have low:∀i,i<W3.heap.size->i≠g->W5.heap[i]? = W3.heap[i]?:=fun i h1 h2=>(z5.2.block i (by omega) (by simp;omega)).trans (z2.1.block i h1 (by simp))
  refine hK.out _ _ (fun _=>hb5) ?_
  refine wpHold_done (by kernel_rfl) ?_
  refine ⟨⟨low _ (by omega) (by omega),low _ (by omega) (by omega)⟩,fun _=>False,fun i h=>h.elim,⟨by omega,fun i h1 h2 h3 h4 h5=>?_⟩,?_⟩
  ·rw [low i (by omega) h3]
   exact z3.2.2.2 i (by omega)
  ·refine ⟨?_,hb5,?_,fun _ h=>h⟩
   ·have g3:w.grownBy W3 none:=⟨z3.1.os.trans zi.1.os,z3.1.tape.trans zi.1.tape,z3.1.output.trans zi.1.output,Nat.le_trans zi.1.size z3.1.size,fun i hi _=>(z3.1.block i (Nat.lt_of_lt_of_le hi zi.1.size) (.inl (by omega))).trans (zi.1.block i hi (by simp))⟩
    exact grown_new (grown_trans g3 z2.1) z5.2 (fun x hx=>by simp at hx;omega)
   ·have:=updM_set hp HX.out.1 HX.out.2.1 HX.out.2.2.1
    rw [hm] at this
    rw [<-this]
    exact z5.1
end Go.Proofs.YtncbdhdfemidlaaGreat
