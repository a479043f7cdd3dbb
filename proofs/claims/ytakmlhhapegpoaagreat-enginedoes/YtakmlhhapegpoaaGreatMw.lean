import Derived.Test.YtakmlhhapegpoaaGreatMe
import Derived.Laws.StructEq
set_option maxHeartbeats 8000000
set_option maxRecDepth 100000
namespace Go.Proofs.YtakmlhhapegpoaaGreat
open Go.RowKit Disk Table
open Names (Str cmpL keyB valueB tabB)
theorem sub_len {α:Type}[BEq α][LawfulBEq α]:∀(a b:List α),a.Nodup->(∀x ∈ a,x ∈ b)->a.length<=b.length
 | [],_,_,_=>Nat.zero_le _
 | x :: a,b,ha,h=>by
  have ha':=List.nodup_cons.1 ha
  have hx:x ∈ b:=h x (by simp)
  have:=sub_len a (b.erase x) ha'.2 (fun y hy=>(List.mem_erase_of_ne (fun e=>ha'.1 (by rw [<-e];exact hy))).2 (h y (by simp [hy])))
  rw [List.length_erase_of_mem hx] at this
  have:=List.length_pos_of_mem hx
  simp
  omega
theorem sub_back {α:Type}[BEq α][LawfulBEq α]{a b:List α}(ha:a.Nodup)(h:∀x ∈ a,x ∈ b)(hl:a.length=b.length):∀x ∈ b,x ∈ a:=by
 intro y hy
 refine Classical.byContradiction fun hn=>?_
 have:=sub_len a (b.erase y) ha (fun x hx=>(List.mem_erase_of_ne (fun e=>hn (by rw [<-e];exact hx))).2 (h x hx))
 rw [List.length_erase_of_mem hy] at this
 have:=List.length_pos_of_mem hy
 omega
theorem eq_db:∀(A B:DB),RiseD A->RiseD B->(∀n,n ∈ namesD A<->n ∈ namesD B)->(∀n ∈ namesD A,rowsOf A n=rowsOf B n)->A=B
 | [],[],_,_,_,_=>rfl
 | [],y :: B,_,_,h,_=>by have:=(h y.1).2 (by simp [namesD]);simp [namesD] at this
 | x :: A,[],_,_,h,_=>by have:=(h x.1).1 (by simp [namesD]);simp [namesD] at this
 | x :: A,y :: B,ha,hb,h,hr=>by
  have ha':=List.pairwise_cons.1 ha
  have hb':=List.pairwise_cons.1 hb
  have hA:∀n ∈ namesD A,cmpL x.1 n<0:=fun n hn=>by
   obtain ⟨z,hz,rfl⟩:=List.mem_map.1 hn
   exact ha'.1 z hz
  have hB:∀n ∈ namesD B,cmpL y.1 n<0:=fun n hn=>by
   obtain ⟨z,hz,rfl⟩:=List.mem_map.1 hn
   exact hb'.1 z hz
  have e1:x.1=y.1:=by
   have h1:=(h x.1).1 (by simp [namesD])
   have h2:=(h y.1).2 (by simp [namesD])
   simp only [namesD,List.map_cons,List.mem_cons] at h1 h2
   rcases h1 with h1 | h1
   ·exact h1
   ·rcases h2 with h2 | h2
    ·exact h2.symm
    ·have q1:=hB x.1 h1
     have q2:=hA y.1 h2
     have:=Names.cmp_flip x.1 y.1
     omega
  have e2:x.2=y.2:=by
   have:=hr x.1 (by simp [namesD])
   rw [rows_cons,rows_cons,if_pos rfl,if_pos e1.symm] at this
   exact this
  have hn1:∀n ∈ namesD A,n≠x.1:=fun n hn e=>by have:=hA n hn;rw [e,Names.cmp_self] at this;omega
  have hn2:∀n ∈ namesD B,n≠x.1:=fun n hn e=>by have:=hB n hn;rw [e,<-e1,Names.cmp_self] at this;omega
  have e3:A=B:=by
   refine eq_db A B ha'.2 hb'.2 (fun n=>?_) (fun n hn=>?_)
   ·constructor
    ·intro hn
     have:=(h n).1 (by simp only [namesD,List.map_cons,List.mem_cons];exact .inr hn)
     simp only [namesD,List.map_cons,List.mem_cons] at this
     rcases this with e | e
     ·exact absurd (e.trans e1.symm) (hn1 n hn)
     ·exact e
    ·intro hn
     have:=(h n).2 (by simp only [namesD,List.map_cons,List.mem_cons];exact .inr hn)
     simp only [namesD,List.map_cons,List.mem_cons] at this
     rcases this with e | e
     ·exact absurd e (hn2 n hn)
     ·exact e
   ·have:=hr n (by simp only [namesD,List.map_cons,List.mem_cons];exact .inr hn)
    rw [rows_cons,rows_cons,if_neg (fun e=>hn1 n hn e.symm),if_neg (fun e=>hn1 n hn (e.symm.trans e1.symm))] at this
    exact this
  rw [e3,Prod.ext e1 e2]
theorem map_len {E:List Ent}{D:DB}(hE:(E.map (·.1)).Nodup)(hD:RiseD D)(h:∀n,n ∈ E.map (·.1)<->n ∈ namesD D):E.length=D.length:=by
 have:=(perm_of_mem _ _ hE hD.nodup h).length_eq
 simpa [namesD] using this
theorem mem_map1 {E:List Ent}{x:Ent}(h:x ∈ E):x.1 ∈ E.map (·.1):=List.mem_map.2 ⟨x,h,rfl⟩
theorem equal41 {X Y:Nat->Prop}(m1 m2:Nat)(A B:DB)(hA:RiseD A)(hB:RiseD B)(w:World)(h1:EM X w m1 A)(h2:EM Y w m2 B):Calls Tryz.prog 41 #[.map (some m1),.map (some m2),.func (.func 43) #[] #[]] w fun e w'=>e=.returned (.bool (decide (A=B)))/\w.grownBy w' none:=by
 obtain ⟨E,e1,e2,e3⟩:=h1
 obtain ⟨F,f1,f2,f3⟩:=h2
 have hlE:=map_len e1.nodup hA e2
 have hlF:=map_len f1.nodup hB f2
 have HH:Hid (RiseD A/\RiseD B/\MapAt w m1 E/\(∀n,n ∈ E.map (·.1)<->n ∈ namesD A)/\(∀x ∈ E,Tbz X w x.2 (rowsOf A x.1))/\MapAt w m2 F/\(∀n,n ∈ F.map (·.1)<->n ∈ namesD B)/\(∀x ∈ F,Tbz Y w x.2 (rowsOf B x.1))/\E.length=A.length/\F.length=B.length):=⟨hA,hB,e1,e2,e3,f1,f2,f3,hlE,hlF⟩
 have l1:=fun ty=>run_len62 e1 ty
 have l2:=fun ty=>run_len62 f1 ty
 obtain ⟨nE,hnE⟩:∃n,E.length=n:=⟨_,rfl⟩
 obtain ⟨nF,hnF⟩:∃n,F.length=n:=⟨_,rfl⟩
 rw [hnE] at l1
 rw [hnF] at l2
 have HN:Hid (E.length=nE/\F.length=nF):=⟨hnE,hnF⟩
 clear hA hB e1 e2 e3 f1 f2 f3 hlE hlF hnE hnF
 by_cases hn:nE=nF
 ·subst hn
  obtain ⟨w0,hr0,hi0,hg0,_⟩:=run_range62 HH.out.2.2.1
  have HI:Hid (IterAt w0 w.heap.size m1 E E/\w.grownBy w0 none):=⟨hi0,hg0⟩
  have enn:(nE==nE)=true:=by simp
  clear hi0 hg0
  go_enter Tryz.func41,Tryz.ntmps41
  go_wp2_with fail
  go_loopw [18] (fun _ wr=>∃(left:List Ent),Hid (IterAt wr w.heap.size m1 E left/\w.grownBy wr none/\(∀x ∈ left,x ∈ E)/\∀x ∈ E,x ∈ left\/(x.1 ∈ namesD B/\rowsOf A x.1=rowsOf B x.1))) (fun _ wr=>leftN wr w.heap.size m1)
  case atStart=>exact ⟨E,HI.out.1,HI.out.2,fun x hx=>hx,fun x hx=>.inl hx⟩
  case round =>
   obtain ⟨left,HR⟩:=hrel
   by_cases hl:left=[]
   ·subst hl
    have hn:=fun ty=>run_next_no HR.out.1 ty
    go_wp2_with fail
    go_ret
    refine ⟨?_,HR.out.2.1⟩
    have hsub:∀n ∈ namesD A,n ∈ namesD B/\rowsOf A n=rowsOf B n:=fun n hn=>by
     obtain ⟨x,hx,rfl⟩:=List.mem_map.1 ((HH.out.2.2.2.1 n).2 hn)
     rcases HR.out.2.2.2 x hx with h | h
     ·simp at h
     ·exact h
    have hback:=sub_back HH.out.1.nodup (fun n hn=>(hsub n hn).1) (by
     have h1:=HH.out.2.2.2.2.2.2.2.2.1
     have h2:=HH.out.2.2.2.2.2.2.2.2.2
     have h3:=HN.out
     simp only [namesD,List.length_map]
     omega)
    have:A=B:=eq_db A B HH.out.1 HH.out.2.1 (fun n=>⟨fun h=>(hsub n h).1,hback n⟩) (fun n hn=>(hsub n hn).2)
    rw [decide_eq_true this]
    rfl
   ·obtain ⟨x,left',w1,hp,hn,he,hi,hg,hsz⟩:=run_next_some HR.out.1 hl 0
    have hxl:x ∈ left:=hp.mem_iff.2 (by simp)
    have hxE:x ∈ E:=HR.out.2.2.1 x hxl
    have hg1:w.grownBy w1 none:=grown_new HR.out.2.1 hg (fun y hy=>by simp at hy;omega)
    have hlk:=run_look (HH.out.2.2.2.2.2.1.grown hg1 (by simp)) x.1 true
    have HX:Hid (IterAt w1 w.heap.size m1 E left'/\w.grownBy w1 none/\(∀z ∈ left',z ∈ E)/\left.length=left'.length+1/\(∀z ∈ left,z=x\/z ∈ left')/\x ∈ E):=⟨hi,hg1,fun z hz=>HR.out.2.2.1 z (hp.mem_iff.2 (by simp [hz])),by have:=hp.length_eq;simpa using this,fun z hz=>by simpa using hp.mem_iff.1 hz,hxE⟩
    clear hp hi hg hsz hxl hl
    rcases em_look HH.out.2.2.2.2.2.2.1 x.1 with ⟨p,ep,hpF⟩ | ⟨ep,hnB,_⟩
    ·rw [ep] at hlk
     simp only [if_true,ptrO,Option.isSome_some] at hlk
     have hT1:Tl w1 (ptr x.2) true (rowsOf A x.1):=((HH.out.2.2.2.2.1 x hxE).grown hg1).old.tl
     have hT2:Tl w1 (ptr p) true (rowsOf B x.1):=((HH.out.2.2.2.2.2.2.2.1 _ hpF).grown hg1).old.tl
     have HC:Hid (Calls Tryz.prog 43 #[ptr x.2,ptr p] w1 fun e w'=>e=.returned (.bool (decide (true=true) && decide (rowsOf A x.1=rowsOf B x.1)))/\∃k,w'=w1.drewN k):=same11 _ _ true true _ _ w1 hT1 hT2
     have HP:Hid (x.1 ∈ namesD B):=(HH.out.2.2.2.2.2.2.1 x.1).1 (List.mem_map.2 ⟨_,hpF,rfl⟩)
     clear hT1 hT2 hpF ep hxE hg1
     by_cases hrr:rowsOf A x.1=rowsOf B x.1
     ·have HRR:Hid (rowsOf A x.1=rowsOf B x.1):=hrr
      have hd:(decide (true=true) && decide (rowsOf A x.1=rowsOf B x.1))=true:=by simp [hrr]
      rw [hd] at HC
      clear hrr hd
      go_wp2_with fail
      refine HC.out.mono ?_
      rintro e w2 ⟨rfl,k,hw⟩
      rw [hw]
      clear hw
      go_wp2_with fail
      go_roundw
      case rel =>
       refine ⟨left',HX.out.1.grown (grown_drewN w1 k none) (by simp) (by simp),grown_trans HX.out.2.1 (grown_drewN w1 k none),HX.out.2.2.1,fun z hz=>?_⟩
       rcases HR.out.2.2.2 z hz with h | h
       ·rcases HX.out.2.2.2.2.1 z h with rfl | h
        ·exact .inr ⟨HP.out,HRR.out⟩
        ·exact .inl h
       ·exact .inr h
      case measure =>
       have q1:=HR.out.1.left
       have q2:=(HX.out.1.grown (grown_drewN w1 k none) (by simp) (by simp)).left
       have:=HX.out.2.2.2.1
       rw [q1,q2]
       omega
     ·have HRR:Hid (rowsOf A x.1≠rowsOf B x.1):=hrr
      have hd:(decide (true=true) && decide (rowsOf A x.1=rowsOf B x.1))=false:=by simp [hrr]
      rw [hd] at HC
      clear hrr hd
      go_wp2_with fail
      refine HC.out.mono ?_
      rintro e w2 ⟨rfl,k,hw⟩
      rw [hw]
      clear hw
      go_wp2_with fail
      go_ret
      refine ⟨?_,grown_trans HX.out.2.1 (grown_drewN w1 k none)⟩
      have:A≠B:=fun e=>HRR.out (by rw [e])
      rw [decide_eq_false this]
      rfl
    ·rw [ep] at hlk
     simp only [if_true,ptrO,Option.isSome_none] at hlk
     have HP:Hid (x.1 ∉ namesD B):=hnB
     clear hnB ep hxE hg1
     go_wp2_with fail
     go_ret
     refine ⟨?_,HX.out.2.1⟩
     have:A≠B:=fun e=>HP.out (by rw [<-e];exact (HH.out.2.2.2.1 x.1).1 (mem_map1 HX.out.2.2.2.2.2))
     rw [decide_eq_false this]
     rfl
 ·have HNE:Hid (nE≠nF):=hn
  have n0:((nE:Int)==(nF:Int))=false:=by simp;omega
  have n1:(nE==nF)=false:=by simpa using hn
  have n2:(nE=nF)=False:=by simpa using hn
  clear hn
  go_enter Tryz.func41,Tryz.ntmps41
  go_wp2_with fail
  go_ret
  refine ⟨?_,grown_refl _ _⟩
  have:A≠B:=fun e=>by
   have h1:=HH.out.2.2.2.2.2.2.2.2.1
   have h2:=HH.out.2.2.2.2.2.2.2.2.2
   have h3:=HN.out
   have h4:=HNE.out
   rw [e] at h1
   omega
  rw [decide_eq_false this]
  rfl
theorem run_eqq (q r:Int × Int)(w:World):(binOp .eql 23 (.agg #[.int .i64 q.1,.int .i64 q.2]) (.agg #[.int .i64 r.1,.int .i64 r.2])).run Tryz.prog w=.ok (.bool (decide (q=r))) w:=by
 have u3:=Tryz.underlying3
 have z3:=Tryz.sizeOf3
 have a3:=Tryz.isAgg3
 rw [run_eql_struct,show (10000:Nat)=9998+1+1 from rfl,run_equalIn_struct w _ 23 _ _ (by kernel_rfl) (by kernel_rfl)]
 simp only [Program.fieldsOf,Tryz.underlying23]
 go_simp
 obtain ⟨a,b⟩:=q
 obtain ⟨c,d⟩:=r
 by_cases h1:a=c <;> by_cases h2:b=d <;> simp [h1,h2]
 done
theorem same13 {X Y:Nat->Prop}(b c:Nat)(q r:Int × Int)(A B:DB)(hA:RiseD A)(hB:RiseD B)(w:World)(h1:Eng X w b q A)(h2:Eng Y w c r B):Calls Tryz.prog 13 #[.pointer (some ⟨b,0,none⟩),.pointer (some ⟨c,0,none⟩)] w fun e w'=>e=.returned (.bool (decide (q=r) && decide (A=B)))/\w.grownBy w' none:=by
 obtain ⟨m1,b1,e1⟩:=h1
 obtain ⟨m2,b2,e2⟩:=h2
 have HH:Hid (EngB w b q m1/\EM X w m1 A/\EngB w c r m2/\EM Y w m2 B/\RiseD A/\RiseD B):=⟨b1,e1,b2,e2,hA,hB⟩
 have hq:=run_eqq q r
 obtain ⟨R,hR⟩:∃R,(decide (q=r) && decide (A=B))=R:=⟨_,rfl⟩
 rw [hR]
 have HR:Hid ((decide (q=r) && decide (A=B))=R):=hR
 clear b1 e1 b2 e2 hA hB hR
 go_enter Tryz.func13,Tryz.ntmps13
 go_wp2_with fail
 refine (quota38 b m1 q w HH.out.1).mono ?_
 rintro e w1 ⟨rfl,g1⟩
 have G1:Hid (w.grownBy w1 none):=g1
 clear g1
 go_wp2_with fail
 refine (quota38 c m2 r w1 (Blk.grown HH.out.2.2.1 G1.out (by simp))).mono ?_
 rintro e w2 ⟨rfl,g2⟩
 have G2:Hid (w.grownBy w2 none):=grown_trans G1.out g2
 clear g2
 unfold quoV
 by_cases hqr:q=r
 ·subst hqr
  have hd:decide (q=q)=true:=by simp
  rw [hd] at hq
  clear hd
  go_wp2_with fail
  refine (byName42 b m1 q w2 (Blk.grown HH.out.1 G2.out (by simp))).mono ?_
  rintro e w3 ⟨rfl,hw⟩
  rw [hw]
  clear hw
  go_wp2_with fail
  refine (byName42 c m2 q w2 (Blk.grown HH.out.2.2.1 G2.out (by simp))).mono ?_
  rintro e w3 ⟨rfl,hw⟩
  rw [hw]
  clear hw
  go_wp2_with fail
  refine (equal41 m1 m2 A B HH.out.2.2.2.2.1 HH.out.2.2.2.2.2 w2 (HH.out.2.1.grown G2.out) (HH.out.2.2.2.1.grown G2.out)).mono ?_
  rintro e w3 ⟨rfl,g3⟩
  have G3:Hid (w.grownBy w3 none):=grown_trans G2.out g3
  clear g3
  go_wp2_with fail
  go_ret
  exact ⟨by rw [<-HR.out];simp,G3.out⟩
 ·have hd:decide (q=r)=false:=by simpa using hqr
  rw [hd] at hq
  have HD:Hid (decide (q=r)=false):=hd
  clear hd hqr
  go_wp2_with fail
  go_ret
  exact ⟨by rw [<-HR.out,HD.out];rfl,G2.out⟩
end Go.Proofs.YtakmlhhapegpoaaGreat
