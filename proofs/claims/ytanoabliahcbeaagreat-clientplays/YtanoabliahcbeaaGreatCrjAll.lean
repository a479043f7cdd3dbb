import Derived.Test.YtanoabliahcbeaaGreatCrfAll
import Derived.Test.YtanoabliahcbeaaGreatCdxAll
set_option maxHeartbeats 16000000
set_option maxRecDepth 100000
namespace Go.Proofs.YtanoabliahcbeaaGreat.Calls
open Go.RowKit Disk
open Names (Str)
theorem all_takeB {α:Type}{p:α->Bool}{l:List α}(h:l.all p=true)(k:Nat):(l.take k).all p=true:=List.all_eq_true.2 fun o ho=>List.all_eq_true.1 h o (List.mem_of_mem_take ho)
structure Acc (W0 z:World)(x:Value)(A:Bs)(P t:Nat)(cs:Array Value):Prop where
 own:Own z W0.heap.size x A
 grown:W0.grownBy z none
 blk:Blk z P t cs
theorem Acc.call {W0 z z':World}{x:Value}{A:Bs}{P t:Nat}{cs:Array Value}(h:Acc W0 z x A P t cs)(hg:z.grownBy z' none):Acc W0 z' x A P t cs:=⟨h.own.grown hg,grown_trans h.grown hg,h.blk.grown hg (by simp)⟩
theorem Acc.app {W0 z z':World}{x x':Value}{A A':Bs}{P t:Nat}{cs:Array Value}(h:Acc W0 z x A P t cs)(ht:t≠5)(ho:Own z' W0.heap.size x' A')(hg:z.grownBy z' x.ownBlock):Acc W0 z' x' A' P t cs:=by
 refine ⟨ho,grown_new h.grown hg (fun y hy=>(h.own.lt y hy).1),h.blk.grown hg (fun e=>?_)⟩
 obtain ⟨cur,hb⟩:=own_blk h.own e
 exact ht (blk_type h.blk hb)
theorem app_acc {ops:Array Oper}{rest:List Oper}{o:Oper}{a:Act}{Q:Exit->Act->World->Prop}{W0:World}{v u:Value}{A M:Bs}{P t:Nat}{cs:Array Value}(z:World)(hw:Region.wanted o (yielded ops a.tmps)=true)(s x:Operand)
  (ho:o.op=.call { callee:=.builtin .append,args:=#[s,x],argTypes:=#[41,41] }) (hs:a.eval s=v) (hx:a.eval x=u) (hacc:Acc W0 z v A P t cs) (ht:t≠5) (hseg:Seg z u M) (hb:A.length+M.length<=140737488355328)
  (h:∀v' z',Acc W0 z' v' (A ++ M) P t cs->wpList Tryz.prog ops Q rest (a.put o.dst v') z'):wpList Tryz.prog ops Q (o :: rest) a z :=
 app22 z hw s x ho W0.heap.size v A u M hs hx hacc.own hseg hb hacc.grown.size fun v' z' h1 h2 _=>h v' z' (hacc.app ht h1 h2)
theorem flag_len1 (b:Bool):(flagForm b).length=1:=by cases b <;> rfl
theorem form32_why (ab pl:Int)(v:Value)(l:List POut)(w:World)(ha:1<=ab/\ab<=3)(hp:0<=pl/\pl<16)(hv:Outs w v l) :
  Calls Tryz.prog 138 #[.agg #[.int .i64 ab,.int .i64 pl,v]] w (FormIs (Wire.numForm ab.toNat ++ Wire.numForm pl.toNat) w):=by
 obtain ⟨ao,n,cap,rfl,hn,hn2,HV⟩:=outs_open hv
 obtain ⟨m,hm⟩:∃m:Nat,ab=(m:Int):=⟨ab.toNat,by omega⟩
 obtain ⟨q,hq⟩:∃q:Nat,pl=(q:Int):=⟨pl.toNat,by omega⟩
 subst hm hq
 have wm:IntKind.u64.wrap (m:Int)=(m:Int):=by rw [IntKind.wrap_u64];omega
 have wq:IntKind.u64.wrap (q:Int)=(q:Int):=by rw [IntKind.wrap_u64];omega
 have hm0:((m:Int)==0)=false:=by simp;omega
 have hm1:(m==0)=false:=by simp;omega
 have hm2:(m=0)=False:=eq_false (by omega)
 have HB:Hid (m<10/\q<16):=⟨by omega,by omega⟩
 have e1:((m:Int).toNat)=m:=by omega
 have e2:((q:Int).toNat)=q:=by omega
 rw [e1,e2]
 clear ha hp hv hn e1 e2
 go_enter Tryz.func138,Tryz.ntmps138
 go_upto_region 1 with fail
 have S0:Hid (Blk (w.alloc (.cells #[.int .i64 (m:Int),.int .i64 (q:Int),.slice ao n cap] 174)) w.heap.size 174 #[.int .i64 (m:Int),.int .i64 (q:Int),.slice ao n cap]/\w.grownBy (w.alloc (.cells #[.int .i64 (m:Int),.int .i64 (q:Int),.slice ao n cap] 174)) none):=⟨heap_alloc_new w _,World.grownBy_alloc _ _ none⟩
 generalize (w.alloc (.cells #[.int .i64 (m:Int),.int .i64 (q:Int),.slice ao n cap] 174))=W0 at S0 ⊢
 have c0:=S0.out.1.cell 0
 go_wp2_with (go_at_call 87;refine (dNum _ m rfl (by have:=HB.out;omega) _).mono ?_)
 rintro e w1 ⟨u1,rfl,o1,g1⟩
 have S1:Hid (Acc W0 w1 u1 (Wire.numForm m) w.heap.size 174 #[.int .i64 (m:Int),.int .i64 (q:Int),.slice ao n cap]):=⟨o1,g1,S0.out.1.grown g1 (by simp)⟩
 clear o1 g1 c0
 have c0:=S1.out.blk.cell 0
 have c1:=S1.out.blk.cell 1
 go_wp2_with (go_at_call 87;refine (dNum _ q rfl (by have:=HB.out;omega) _).mono ?_)
 rintro e w2a ⟨w2v,rfl,o2,g2⟩
 have Yw2:Hid (Acc W0 w2a u1 (Wire.numForm m) w.heap.size 174 #[.int .i64 (m:Int),.int .i64 (q:Int),.slice ao n cap]/\Seg w2a w2v (Wire.numForm q)):=⟨S1.out.call g2,o2.seg⟩
 clear o2 g2
 go_wp2_with (at_builtin;refine app_acc w2a rfl _ _ rfl rfl rfl Yw2.out.1 (by decide) Yw2.out.2 ?c0 ?_)
 case c0=>have h1:=num_short m (by have:=HB.out;omega);have h2:=num_short q (by have:=HB.out;omega);omega
 intro x2 w2 hz
 have S2:Hid (Acc W0 w2 x2 (Wire.numForm m ++ Wire.numForm q) w.heap.size 174 #[.int .i64 (m:Int),.int .i64 (q:Int),.slice ao n cap]):=by unfold Hid;simpa only [List.append_assoc] using hz
 clear hz Yw2
 go_wp2_with fail
 go_ret
 exact ⟨_,rfl,S2.out.own.mono S0.out.2.size,grown_trans S0.out.2 S2.out.grown⟩
theorem form32_none (pl:Int)(v:Value)(l:List POut)(w:World)(h16:l.length<=16)(hm:l.all mayOut=true)(hv:Outs w v l) :
  Calls Tryz.prog 138 #[.agg #[.int .i64 0,.int .i64 pl,v]] w (FormIs (Wire.numForm 0 ++ listForm outForm l) w):=by
 obtain ⟨ao,n,cap,rfl,hn,hn2,HV⟩:=outs_open hv
 have HN:Hid (l.length=n/\l.all mayOut=true):=⟨hn,hm⟩
 have n16:n<=16:=by rw [<-hn];exact h16
 have wu:IntKind.u64.wrap (n:Int)=(n:Int):=by rw [IntKind.wrap_u64];omega
 clear hv hn hm h16
 go_enter Tryz.func138,Tryz.ntmps138
 go_upto_region 1 with fail
 have S0:Hid (Blk (w.alloc (.cells #[.int .i64 0,.int .i64 pl,.slice ao n cap] 174)) w.heap.size 174 #[.int .i64 0,.int .i64 pl,.slice ao n cap]/\w.grownBy (w.alloc (.cells #[.int .i64 0,.int .i64 pl,.slice ao n cap] 174)) none):=⟨heap_alloc_new w _,World.grownBy_alloc _ _ none⟩
 generalize (w.alloc (.cells #[.int .i64 0,.int .i64 pl,.slice ao n cap] 174))=W0 at S0 ⊢
 have c0:=S0.out.1.cell 0
 go_wp2_with (go_at_call 87;refine (dNum _ 0 rfl (by omega) _).mono ?_)
 rintro e w1 ⟨u1,rfl,o1,g1⟩
 have S1:Hid (Acc W0 w1 u1 (Wire.numForm 0) w.heap.size 174 #[.int .i64 0,.int .i64 pl,.slice ao n cap]):=⟨o1,g1,S0.out.1.grown g1 (by simp)⟩
 clear o1 g1 c0
 have c0:=S1.out.blk.cell 0
 have c2:=S1.out.blk.cell 2
 go_wp2_with (go_at_call 87;refine (dNum _ n rfl (by omega) _).mono ?_)
 rintro e w2a ⟨w2v,rfl,o2,g2⟩
 have Yw2:Hid (Acc W0 w2a u1 (Wire.numForm 0) w.heap.size 174 #[.int .i64 0,.int .i64 pl,.slice ao n cap]/\Seg w2a w2v (Wire.numForm n)):=⟨S1.out.call g2,o2.seg⟩
 clear o2 g2
 go_wp2_with (at_builtin;refine app_acc w2a rfl _ _ rfl rfl rfl Yw2.out.1 (by decide) Yw2.out.2 ?c0 ?_)
 case c0=>have h1:=num_short 0 (by omega);have h2:=num_short n (by omega);omega
 intro x2 w2 hz
 have S2:Hid (Acc W0 w2 x2 (Wire.numForm 0 ++ Wire.numForm n) w.heap.size 174 #[.int .i64 0,.int .i64 pl,.slice ao n cap]):=by unfold Hid;simpa only [List.append_assoc] using hz
 clear hz Yw2
 obtain ⟨A0,hA0⟩:∃A,Wire.numForm 0 ++ Wire.numForm n=A:=⟨_,rfl⟩
 have HA0:Hid (A0.length<=20/\Wire.numForm 0 ++ listForm outForm l=A0 ++ l.flatMap outForm):=by
  refine ⟨?_,?_⟩
  ·rw [<-hA0,List.length_append]
   have h1:=num_short 0 (by omega)
   have h2:=num_short n (by omega)
   omega
  ·rw [<-hA0]
   unfold listForm
   rw [HN.out.1,List.append_assoc]
 rw [hA0] at S2
 clear hA0 c0 c2
 go_wp2_with fail
 go_loopw [3,4] (fun x i wr=>∃k:Nat,k<=n/\i=.int .i64 k/\Hid (Acc W0 wr x (A0 ++ (l.take k).flatMap outForm) w.heap.size 174 #[.int .i64 0,.int .i64 pl,.slice ao n cap])) (fun _ i _=>n-(intOf i).toNat)
 case atStart=>exact ⟨0,by omega,rfl,by rw [List.take_zero,List.flatMap_nil,List.append_nil];exact S2⟩
 case round =>
  obtain ⟨k,hk,rfl,HR⟩:=hrel
  have c2:=HR.out.blk.cell 2
  by_cases hlt:k<n
  ·have i3:(k:Int)<(n:Int):=by omega
   have i0:(0:Int)<=(k:Int):=by omega
   have hkl:k<l.length:=by rw [HN.out.1];omega
   obtain ⟨b1,o1,x1,y1,rfl,h1,s1⟩:=outs_at (HV.out.grown S0.out.2) k hkl
   have HQ:Hid ((l.take (k+1)).flatMap outForm=(l.take k).flatMap outForm ++ outForm l[k]):=flatMap_take outForm l k hkl
   have HO:Hid (mayOut l[k]=true):=List.all_eq_true.1 HN.out.2 _ (List.getElem_mem hkl)
   have HZ:Hid ((A0 ++ (l.take k).flatMap outForm).length<=600000):=by
    have h2:=formsOut_len (all_takeB HN.out.2 k)
    have h4:(l.take k).length<=16:=by rw [List.length_take];omega
    have h5:34400*(l.take k).length<=34400*16:=Nat.mul_le_mul_left _ h4
    have h6:=HA0.out.1
    unfold Hid
    rw [List.length_append];omega
   obtain ⟨o,ho⟩:∃o,l[k]=o:=⟨_,rfl⟩
   rw [ho] at h1 s1 HQ HO
   clear ho hkl
   obtain ⟨ax,nx,cx,rfl,_,_,_⟩:=Names.seg_open s1.value
   obtain ⟨ay,m,cy,rfl,hny,_,_⟩:=rws_open s1.rows
   have HS:Hid (OutSeg W0 (.slice ax nx cx) (.slice ay m cy) o/\o.rows.length=m):=⟨s1,hny⟩
   have HMO:Hid (o.value.length<=256/\o.rows.length<=64/\o.rows.all mayRow=true):=by
    have h:=HO.out
    simp only [mayOut,Bool.and_eq_true,decide_eq_true_eq] at h
    exact ⟨by simpa [Names.valueB] using h.1.1.1,h.1.1.2,h.2⟩
   have m64:m<=64:=by rw [<-hny];exact HMO.out.2.1
   have wm:IntKind.u64.wrap (m:Int)=(m:Int):=by rw [IntKind.wrap_u64];omega
   obtain ⟨a0,a1,a2⟩:=h1.grown HR.out.grown
   clear s1 hny h1
   obtain ⟨A,hA⟩:∃A,A0 ++ (l.take k).flatMap outForm=A:=⟨_,rfl⟩
   have HAA:Hid (A0 ++ (l.take (k+1)).flatMap outForm=A ++ outForm o):=by unfold Hid;rw [HQ.out,<-List.append_assoc,hA]
   rw [hA] at HR HZ
   clear hA HQ
   go_upto_region 9 with fail
   clear a0 a1 a2 c2
   have P0:Hid (Blk (wr.alloc (.cells #[.bool o.has,.slice ax nx cx,.slice ay m cy] 212)) wr.heap.size 212 #[.bool o.has,.slice ax nx cx,.slice ay m cy]/\wr.grownBy (wr.alloc (.cells #[.bool o.has,.slice ax nx cx,.slice ay m cy] 212)) none):=⟨heap_alloc_new wr _,World.grownBy_alloc _ _ none⟩
   generalize (wr.alloc (.cells #[.bool o.has,.slice ax nx cx,.slice ay m cy] 212))=W1 at P0 ⊢
   obtain ⟨P,hP⟩:∃P,wr.heap.size=P:=⟨_,rfl⟩
   rw [hP] at P0 ⊢
   clear hP
   have HRA:Hid (Acc W0 W1 u3 A P 212 #[.bool o.has,.slice ax nx cx,.slice ay m cy]):=⟨HR.out.own.grown P0.out.2,grown_trans HR.out.grown P0.out.2,P0.out.1⟩
   have HK51:Hid (∀z:World,W0.grownBy z none->Blk z w.heap.size 174 #[.int .i64 0,.int .i64 pl,.slice (some ⟨b1,o1,none⟩) n cap]):=fun z hz=>S0.out.1.grown hz (by simp)
   clear P0 HR
   have d0:=HRA.out.blk.cell 0
   go_wp2_with (go_at_call 124;refine (dFlag _ _).mono ?_)
   rintro e w3a ⟨w3v,rfl,o2,g2⟩
   have Yw3:Hid (Acc W0 w3a u3 (A) P 212 #[.bool o.has,.slice ax nx cx,.slice ay m cy]/\Seg w3a w3v (flagForm o.has)):=⟨HRA.out.call g2,o2.seg⟩
   clear o2 g2 d0
   go_wp2_with (at_builtin;refine app_acc w3a rfl _ _ rfl rfl rfl Yw3.out.1 (by decide) Yw3.out.2 ?c0 ?_)
   case c0=>have h1:=HZ.out;have h2:=flag_len1 o.has;omega
   intro x3 w3 hz
   have S3:Hid (Acc W0 w3 x3 (A ++ flagForm o.has) P 212 #[.bool o.has,.slice ax nx cx,.slice ay m cy]):=by unfold Hid;simpa only [List.append_assoc] using hz
   clear hz Yw3
   have d0:=S3.out.blk.cell 1
   go_wp2_with (go_at_call 123;refine (dBytes _ o.value _ (HS.out.1.value.grown S3.out.grown) (by have:=HMO.out.1;omega)).mono ?_)
   rintro e w4a ⟨w4v,rfl,o2,g2⟩
   have Yw4:Hid (Acc W0 w4a x3 (A ++ flagForm o.has) P 212 #[.bool o.has,.slice ax nx cx,.slice ay m cy]/\Seg w4a w4v (bytesForm o.value)):=⟨S3.out.call g2,o2.seg⟩
   clear o2 g2 d0
   go_wp2_with (at_builtin;refine app_acc w4a rfl _ _ rfl rfl rfl Yw4.out.1 (by decide) Yw4.out.2 ?c0 ?_)
   case c0=>have h1:=(show (A ++ flagForm o.has).length<=600001 by rw [List.length_append,flag_len1];have:=HZ.out;omega);have h2:=bytesForm_len o.value HMO.out.1;omega
   intro x4 w4 hz
   have S4:Hid (Acc W0 w4 x4 (A ++ flagForm o.has ++ bytesForm o.value) P 212 #[.bool o.has,.slice ax nx cx,.slice ay m cy]):=by unfold Hid;simpa only [List.append_assoc] using hz
   clear hz Yw4
   have d0:=S4.out.blk.cell 2
   go_wp2_with (go_at_call 87;refine (dNum _ m rfl (by omega) _).mono ?_)
   rintro e w5a ⟨w5v,rfl,o2,g2⟩
   have Yw5:Hid (Acc W0 w5a x4 (A ++ flagForm o.has ++ bytesForm o.value) P 212 #[.bool o.has,.slice ax nx cx,.slice ay m cy]/\Seg w5a w5v (Wire.numForm m)):=⟨S4.out.call g2,o2.seg⟩
   clear o2 g2 d0
   go_wp2_with (at_builtin;refine app_acc w5a rfl _ _ rfl rfl rfl Yw5.out.1 (by decide) Yw5.out.2 ?c0 ?_)
   case c0=>have h1:=(show (A ++ flagForm o.has ++ bytesForm o.value).length<=600301 by rw [List.length_append,List.length_append,flag_len1];have:=HZ.out;have:=bytesForm_len o.value HMO.out.1;omega);have h2:=num_short m (by omega);omega
   intro x5 w5 hz
   have S5:Hid (Acc W0 w5 x5 (A ++ flagForm o.has ++ bytesForm o.value ++ Wire.numForm m) P 212 #[.bool o.has,.slice ax nx cx,.slice ay m cy]):=by unfold Hid;simpa only [List.append_assoc] using hz
   clear hz Yw5
   obtain ⟨B,hB⟩:∃B,A ++ flagForm o.has ++ bytesForm o.value ++ Wire.numForm m=B:=⟨_,rfl⟩
   have HBB:Hid (B.length<=600400/\A ++ outForm o=B ++ o.rows.flatMap rowForm):=by
    refine ⟨?_,?_⟩
    ·rw [<-hB]
     have h1:=HZ.out
     have h2:=bytesForm_len o.value HMO.out.1
     have h3:=num_short m (by omega)
     simp only [List.length_append,flag_len1]
     omega
    ·rw [<-hB]
     unfold outForm listForm
     rw [HS.out.2]
     simp
   rw [hB] at S5
   clear hB
   go_wp2_with fail
   go_loopw [3,6] (fun x i wr=>∃j:Nat,j<=m/\i=.int .i64 j/\Hid (Acc W0 wr x (B ++ (o.rows.take j).flatMap rowForm) P 212 #[.bool o.has,.slice ax nx cx,.slice ay m cy])) (fun _ i _=>m-(intOf i).toNat)
   case atStart=>exact ⟨0,by omega,rfl,by rw [List.take_zero,List.flatMap_nil,List.append_nil];exact S5⟩
   case round =>
    obtain ⟨j,hj,rfl,HJ⟩:=hrel
    have d2:=HJ.out.blk.cell 2
    by_cases hjm:j<m
    ·have j3:(j:Int)<(m:Int):=by omega
     have j0:(0:Int)<=(j:Int):=by omega
     have hjl:j<o.rows.length:=by rw [HS.out.2];omega
     obtain ⟨b2,o2',x2',y2',rfl,h2⟩:=rws_at (HS.out.1.rows) j hjl
     have HQ:Hid ((o.rows.take (j+1)).flatMap rowForm=(o.rows.take j).flatMap rowForm ++ rowForm o.rows[j]):=flatMap_take rowForm o.rows j hjl
     have HO2:Hid (mayRow o.rows[j]=true):=List.all_eq_true.1 HMO.out.2.2 _ (List.getElem_mem hjl)
     have HZ2:Hid ((B ++ (o.rows.take j).flatMap rowForm).length<=640000):=by
      have h2:=formsRow_len (all_takeB HMO.out.2.2 j)
      have h4:(o.rows.take j).length<=64:=by rw [List.length_take];omega
      have h5:532*(o.rows.take j).length<=532*64:=Nat.mul_le_mul_left _ h4
      have h6:=HBB.out.1
      unfold Hid
      rw [List.length_append];omega
     obtain ⟨r,hr⟩:∃r,o.rows[j]=r:=⟨_,rfl⟩
     rw [hr] at h2 HQ HO2
     clear hr hjl
     obtain ⟨f1,m1,e1,rfl,_,_,_⟩:=Names.seg_open h2.s0
     obtain ⟨f2,m2,e2,rfl,_,_,_⟩:=Names.seg_open h2.s1
     have HRW:Hid (∀z:World,W0.grownBy z none->RowAt z b2 (o2'+j*2) r (.slice f1 m1 e1) (.slice f2 m2 e2)):=fun z hz=>h2.grown hz
     have HL2:Hid (r.1.length<=64/\r.2.length<=256):=by
      have h:=HO2.out
      simp only [mayRow,Bool.and_eq_true] at h
      exact ⟨key_len h.1,by simpa [Names.valueB] using h.2⟩
     obtain ⟨C,hC⟩:∃C,B ++ (o.rows.take j).flatMap rowForm=C:=⟨_,rfl⟩
     have HCC:Hid (B ++ (o.rows.take (j+1)).flatMap rowForm=C ++ bytesForm r.1 ++ bytesForm r.2):=by unfold Hid;rw [HQ.out,<-List.append_assoc,hC];simp [rowForm]
     rw [hC] at HJ HZ2
     clear hC HQ h2
     have a0:=(HRW.out _ HJ.out.grown).c0
     go_wp2_with (go_at_call 123;refine (dBytes _ r.1 _ (HRW.out _ HJ.out.grown).s0 (by have:=HL2.out.1;omega)).mono ?_)
     rintro e w6a ⟨w6v,rfl,o2,g2⟩
     have Yw6:Hid (Acc W0 w6a u3 (C) P 212 #[.bool o.has,.slice ax nx cx,.slice (some ⟨b2,o2',none⟩) m cy]/\Seg w6a w6v (bytesForm r.1)):=⟨HJ.out.call g2,o2.seg⟩
     clear o2 g2 a0 d2
     go_wp2_with (at_builtin;refine app_acc w6a rfl _ _ rfl rfl rfl Yw6.out.1 (by decide) Yw6.out.2 ?c0 ?_)
     case c0=>have h1:=HZ2.out;have h2:=bytesForm_len r.1 (by have:=HL2.out.1;omega);omega
     intro x6 w6 hz
     have S6:Hid (Acc W0 w6 x6 (C ++ bytesForm r.1) P 212 #[.bool o.has,.slice ax nx cx,.slice (some ⟨b2,o2',none⟩) m cy]):=by unfold Hid;simpa only [List.append_assoc] using hz
     clear hz Yw6
     have d2:=S6.out.blk.cell 2
     have a0:=(HRW.out _ S6.out.grown).c1
     go_wp2_with (go_at_call 123;refine (dBytes _ r.2 _ (HRW.out _ S6.out.grown).s1 (by have:=HL2.out.2;omega)).mono ?_)
     rintro e w7a ⟨w7v,rfl,o2,g2⟩
     have Yw7:Hid (Acc W0 w7a x6 (C ++ bytesForm r.1) P 212 #[.bool o.has,.slice ax nx cx,.slice (some ⟨b2,o2',none⟩) m cy]/\Seg w7a w7v (bytesForm r.2)):=⟨S6.out.call g2,o2.seg⟩
     clear o2 g2 a0 d2
     go_wp2_with (at_builtin;refine app_acc w7a rfl _ _ rfl rfl rfl Yw7.out.1 (by decide) Yw7.out.2 ?c0 ?_)
     case c0=>have h1:=(show (C ++ bytesForm r.1).length<=640300 by rw [List.length_append];have:=HZ2.out;have:=bytesForm_len r.1 (by have:=HL2.out.1;omega);omega);have h2:=bytesForm_len r.2 HL2.out.2;omega
     intro x7 w7 hz
     have S7:Hid (Acc W0 w7 x7 (C ++ bytesForm r.1 ++ bytesForm r.2) P 212 #[.bool o.has,.slice ax nx cx,.slice (some ⟨b2,o2',none⟩) m cy]):=by unfold Hid;simpa only [List.append_assoc] using hz
     clear hz Yw7
     go_wp2_with fail
     go_roundw
     case rel=>exact ⟨j+1,by omega,by go_num,by rw [HCC.out];exact S7⟩
     case measure=>simp [intOf];omega
    ·have j3:((j:Int)<(m:Int))=False:=eq_false (by omega)
     have R3:Hid (Acc W0 wr u3 (A0 ++ (l.take (k+1)).flatMap outForm) w.heap.size 174 #[.int .i64 0,.int .i64 pl,.slice (some ⟨b1,o1,none⟩) n cap]):=by
      have h:=HJ.out
      rw [List.take_of_length_le (by rw [HS.out.2];omega),<-HBB.out.2,<-HAA.out] at h
      exact ⟨h.own,h.grown,HK51.out _ h.grown⟩
     clear HJ
     go_wp2_with fail
     go_roundw
     case rel=>exact ⟨k+1,by omega,by go_num,R3⟩
     case measure=>simp [intOf];omega
  ·have i3:((k:Int)<(n:Int))=False:=eq_false (by omega)
   have R3:Hid (Acc W0 wr u3 (Wire.numForm 0 ++ listForm outForm l) w.heap.size 174 #[.int .i64 0,.int .i64 pl,.slice ao n cap]):=by
    have h:=HR.out
    rw [List.take_of_length_le (by rw [HN.out.1];omega),<-HA0.out.2] at h
    exact h
   go_wp2_with fail
   go_ret
   exact ⟨_,rfl,R3.out.own.mono S0.out.2.size,grown_trans S0.out.2 R3.out.grown⟩
theorem form32 (v:Value)(r:PRes)(w:World)(hm:mayRes r=true)(hv:Outs w v r.outs):Calls Tryz.prog 138 #[.agg #[.int .i64 r.abort,.int .i64 r.place,v]] w (FormIs (resForm r) w):=by
 obtain ⟨ab,pl,l⟩:=r
 unfold resForm
 unfold mayRes at hm
 simp only at hm hv ⊢
 by_cases h0:ab=0
 ·subst h0
  simp only [if_true,Bool.and_eq_true,decide_eq_true_eq] at hm ⊢
  exact form32_none pl v l w hm.1.2 hm.2 hv
 ·simp only [if_neg h0,Bool.and_eq_true,decide_eq_true_eq] at hm ⊢
  exact form32_why ab pl v l w ⟨hm.1.1.1.1,hm.1.1.1.2⟩ ⟨hm.1.1.2,hm.1.2⟩ hv
def MayPost (r:PRes)(w:World)(e:Ending)(w':World):Prop:=e=.returned (.bool (mayRes r))/\w.grownBy w' none
theorem may31_why (ab pl:Int)(v:Value)(l:List POut)(w:World)(ha:ab=1\/ab=2\/ab=3)(hv:Outs w v l) :
  Calls Tryz.prog 137 #[.agg #[.int .i64 ab,.int .i64 pl,v]] w (MayPost ⟨ab,pl,l⟩ w):=by
 obtain ⟨ao,n,cap,rfl,hn,hn2,HV⟩:=outs_open hv
 have HN:Hid (l.length=n/\ab≠0/\1<=ab/\ab<=3):=⟨hn,by omega,by omega,by omega⟩
 obtain ⟨M,hM⟩:∃M,mayRes ⟨ab,pl,l⟩=M:=⟨_,rfl⟩
 have HX:Hid (M=decide (0<=pl/\pl<16/\n=0)):=by
  rw [<-hM]
  simp only [mayRes,if_neg HN.out.2.1,HN.out.1,HN.out.2.2.1,HN.out.2.2.2,decide_true,Bool.true_and,Hid]
  by_cases a:0<=pl <;> by_cases b:pl<16 <;> by_cases c:n=0 <;> simp [a,b,c]
 unfold MayPost
 rw [hM]
 clear hv hn hM
 have hcase:(pl<0)\/(0<=pl/\16<=pl)\/(0<=pl/\pl<16/\n≠0)\/(0<=pl/\pl<16/\n=0):=by omega
 rcases hcase with h | ⟨h,h'⟩ | ⟨h,h',h''⟩ | ⟨h,h',h''⟩
 ·have HY:Hid (M=false):=by rw [HX.out];simp [Hid];omega
  have i0:((0:Int)<=pl)=False:=eq_false (by omega)
  rcases ha with rfl | rfl | rfl
  all_goals (
   go_enter Tryz.func137,Tryz.ntmps137
   go_wp2_with fail
   go_ret
   exact ⟨by rw [HY.out];rfl,World.grownBy_alloc _ _ none⟩)
 ·have HY:Hid (M=false):=by rw [HX.out];simp [Hid];omega
  have i0:(pl<(16:Int))=False:=eq_false (by omega)
  rcases ha with rfl | rfl | rfl
  all_goals (
   go_enter Tryz.func137,Tryz.ntmps137
   go_wp2_with fail
   go_ret
   exact ⟨by rw [HY.out];rfl,World.grownBy_alloc _ _ none⟩)
 ·have HY:Hid (M=false):=by rw [HX.out];simp [Hid];omega
  have i0:((n:Int)==0)=false:=by simp;omega
  have i2:(n==0)=false:=by simp;omega
  have i3:(n=0)=False:=eq_false h''
  clear h''
  rcases ha with rfl | rfl | rfl
  all_goals (
   go_enter Tryz.func137,Tryz.ntmps137
   go_wp2_with fail
   go_ret
   exact ⟨by rw [HY.out];rfl,World.grownBy_alloc _ _ none⟩)
 ·have HY:Hid (M=true):=by rw [HX.out];simp [Hid];omega
  subst h''
  rcases ha with rfl | rfl | rfl
  all_goals (
   go_enter Tryz.func137,Tryz.ntmps137
   go_wp2_with fail
   go_ret
   exact ⟨by rw [HY.out];rfl,World.grownBy_alloc _ _ none⟩)
theorem may31_no (ab pl:Int)(v:Value)(l:List POut)(w:World)(h0:¬ab=0)(h1:¬ab=1)(h2:¬ab=2)(h3:¬ab=3)(hv:Outs w v l) :
  Calls Tryz.prog 137 #[.agg #[.int .i64 ab,.int .i64 pl,v]] w (MayPost ⟨ab,pl,l⟩ w):=by
 obtain ⟨ao,n,cap,rfl,hn,hn2,HV⟩:=outs_open hv
 have HX:Hid (mayRes ⟨ab,pl,l⟩=false):=by
  cases hm:mayRes ⟨ab,pl,l⟩ with
  | false=>rfl
  | true =>
   simp only [mayRes,if_neg h0,Bool.and_eq_true,decide_eq_true_eq] at hm
   omega
 unfold MayPost
 rw [HX.out]
 clear hv hn
 go_enter Tryz.func137,Tryz.ntmps137
 go_wp2_with fail
 go_ret
 exact ⟨rfl,World.grownBy_alloc _ _ none⟩
theorem may31_none (pl:Int)(v:Value)(l:List POut)(w:World)(hv:Outs w v l) :
  Calls Tryz.prog 137 #[.agg #[.int .i64 0,.int .i64 pl,v]] w (MayPost ⟨0,pl,l⟩ w):=by
 obtain ⟨ao,n,cap,rfl,hn,hn2,HV⟩:=outs_open hv
 have HN:Hid (l.length=n):=hn
 unfold MayPost
 obtain ⟨M,hM⟩:∃M,mayRes ⟨0,pl,l⟩=M:=⟨_,rfl⟩
 have HMM:Hid (mayRes ⟨0,pl,l⟩=M):=hM
 rw [hM]
 clear hv hn hM
 by_cases hp:pl=0
 ·subst hp
  by_cases h1:1<=n
  ·have i1:((n:Int)<1)=False:=eq_false (by omega)
   by_cases h16:n<=16
   ·have i2:((16:Int)<(n:Int))=False:=eq_false (by omega)
    have HAL:Hid (M=l.all mayOut):=by
     rw [<-HMM.out]
     simp [mayRes,HN.out,h1,h16,Hid]
    clear HMM
    go_enter Tryz.func137,Tryz.ntmps137
    go_upto_region 1 with fail
    have S0:Hid (Blk (w.alloc (.cells #[.int .i64 0,.int .i64 0,.slice ao n cap] 174)) w.heap.size 174 #[.int .i64 0,.int .i64 0,.slice ao n cap]/\w.grownBy (w.alloc (.cells #[.int .i64 0,.int .i64 0,.slice ao n cap] 174)) none):=⟨heap_alloc_new w _,World.grownBy_alloc _ _ none⟩
    generalize (w.alloc (.cells #[.int .i64 0,.int .i64 0,.slice ao n cap] 174))=W0 at S0 ⊢
    have c0:=S0.out.1.cell 0
    have c1:=S0.out.1.cell 1
    have c2:=S0.out.1.cell 2
    go_wp2_with fail
    clear c0 c1 c2
    go_loopw [3] (fun i wr=>∃k:Nat,k<=n/\i=.int .i64 k/\Hid ((l.take k).all mayOut=true/\W0.grownBy wr none)) (fun i _=>n-(intOf i).toNat)
    case atStart=>exact ⟨0,by omega,rfl,by simp,grown_refl _ _⟩
    case round =>
     obtain ⟨k,hk,rfl,HR⟩:=hrel
     have c2:=(S0.out.1.grown HR.out.2 (by simp)).cell 2
     by_cases hlt:k<n
     ·have i3:(k:Int)<(n:Int):=by omega
      have i0:(0:Int)<=(k:Int):=by omega
      have hkl:k<l.length:=by rw [HN.out];omega
      obtain ⟨b1,o1,x1,y1,rfl,h1',s1⟩:=outs_at (HV.out.grown S0.out.2) k hkl
      have HA:Hid _:=all_take mayOut l k hkl
      have HF:Hid _:=all_false mayOut l k hkl
      obtain ⟨o,ho⟩:∃o,o=l[k]:=⟨_,rfl⟩
      rw [<-ho] at h1' s1 HA HF
      clear ho hkl
      obtain ⟨ax,nx,cx,rfl,_,_,_⟩:=Names.seg_open s1.value
      obtain ⟨ay,m,cy,rfl,hny,hny2,_⟩:=rws_open s1.rows
      have HS:Hid (OutSeg W0 (.slice ax nx cx) (.slice ay m cy) o/\o.rows.length=m):=⟨s1,hny⟩
      obtain ⟨a0,a1,a2⟩:=h1'.grown HR.out.2
      clear s1 hny h1'
      cases hvb:Names.valueB o.value with
      | false =>
       have HX:Hid (M=false):=by rw [HAL.out];exact HF.out (by simp [mayOut,hvb])
       go_wp2_with (go_at_call 122;refine (Names.value14 _ o.value _ (HS.out.1.value.grown HR.out.2)).mono ?_;rintro e w4 ⟨rfl,hw4⟩;rw [hw4,hvb];clear hw4)
       go_ret
       exact ⟨by rw [HX.out];rfl,grown_trans S0.out.2 HR.out.2⟩
      | true =>
       by_cases h64:m<=64
       ·have i64:((64:Int)<(m:Int))=False:=eq_false (by omega)
        go_wp2_with (go_at_call 122;refine (Names.value14 _ o.value _ (HS.out.1.value.grown HR.out.2)).mono ?_;rintro e w4 ⟨rfl,hw4⟩;rw [hw4,hvb];clear hw4)
        clear a0 a1 a2 c2
        go_loopw [5] (fun i wr=>∃j:Nat,j<=m/\i=.int .i64 j/\Hid ((o.rows.take j).all mayRow=true/\(∀i (h:i+1<o.rows.length),i+1<j->Names.cmpL o.rows[i].1 o.rows[i+1].1<0)/\W0.grownBy wr none)) (fun i _=>m-(intOf i).toNat)
        case atStart=>exact ⟨0,by omega,rfl,by simp,fun i _ h=>absurd h (by omega),HR.out.2⟩
        case round =>
         obtain ⟨j,hj,rfl,HJ⟩:=hrel
         by_cases hjm:j<m
         ·have j3:(j:Int)<(m:Int):=by omega
          have j0:(0:Int)<=(j:Int):=by omega
          have hjl:j<o.rows.length:=by rw [HS.out.2];omega
          obtain ⟨b2,o2,x2,y2,rfl,h2⟩:=rws_at HS.out.1.rows j hjl
          have HA2:Hid _:=all_take mayRow o.rows j hjl
          have HF2:Hid _:=all_false mayRow o.rows j hjl
          obtain ⟨f1,m1,e1,rfl,_,_,_⟩:=Names.seg_open h2.s0
          obtain ⟨f2,m2,e2,rfl,_,_,_⟩:=Names.seg_open h2.s1
          obtain ⟨r,hr⟩:∃r,r=o.rows[j]:=⟨_,rfl⟩
          rw [<-hr] at h2 HA2 HF2
          have HRJ:Hid (r=o.rows[j]):=hr
          clear hr
          have hmo:∀(b:Bool),b=false->(b=o.rows.all mayRow\/b=riseB o.rows)->mayOut o=false:=by
           rintro b rfl (h | h) <;> simp [mayOut,<-h]
          have HMO:Hid _:=hmo
          clear hmo
          by_cases hj0:j=0
          ·have HC:Hid (∀y:World,W0.grownBy y none->y.cell? ⟨b2,o2,none⟩=some (.slice f1 m1 e1)/\y.cell? ⟨b2,o2+1,none⟩=some (.slice f2 m2 e2)/\True):=fun y hy=>⟨by have:=(h2.grown hy).c0;simpa [hj0] using this,by have:=(h2.grown hy).c1;simpa [hj0] using this,trivial⟩
           have HSG:Hid (∀y:World,W0.grownBy y none->Seg y (.slice f1 m1 e1) r.1/\Seg y (.slice f2 m2 e2) r.2/\True):=fun y hy=>⟨(h2.grown hy).s0,(h2.grown hy).s1,trivial⟩
           clear h2
           subst hj0
           cases hkb:Names.keyB r.1 with
           | false =>
            have HX:Hid (M=false):=by rw [HAL.out];exact HF.out (HMO.out false rfl (.inl (HF2.out (by simp [mayRow,hkb])).symm))
            go_upto_region 19 with fail
            refine wp_region_noPanic ?_
            refine wp_region_hold 1000 (fun y=>W0.grownBy y none) (by kernel_rfl) ?_
            have G0:Hid (W0.grownBy wr.drew none):=grown_trans HJ.out.2.2 (grown_drew _ _)
            generalize wr.drew=wd at G0 ⊢
            have J:Idx [0,1,2,3,4]:=trivial
            iterate 5 (refine tK J (G0.out) rfl rfl (fun wk hk=>by obtain ⟨z0,z1,z2⟩:=HC.out wk hk;go_simp;try rfl) ?_;replace J:=J.tl;try simp only [pN])
            clear J
            refine wpHold_one (i:=5) rfl (by kernel_rfl) (by rfl) (fun K hK=>?_)
            go_wp2_with fail
            refine (Names.key12 _ r.1 wd (HSG.out wd G0.out).1).mono ?_
            rintro e w1 ⟨rfl,hw1⟩
            rw [hw1,hkb]
            clear hw1
            refine hK.out _ _ (fun _=>G0.out) ?_
            clear hK K
            try simp only [pN]
            have J:Idx [6,7]:=trivial
            iterate 2 (refine tK J (G0.out) rfl rfl (fun wk hk=>by obtain ⟨z0,z1,z2⟩:=HC.out wk hk;go_simp;try rfl) ?_;replace J:=J.tl;try simp only [pN])
            clear J
            have J:Idx [8,9,10,11,12,13,14]:=trivial
            iterate 7 (refine sk J (G0.out) rfl rfl ?_;replace J:=J.tl;try simp only [pN])
            clear J
            have J:Idx [15,16]:=trivial
            iterate 2 (refine tK J (G0.out) rfl rfl (fun wk hk=>by obtain ⟨z0,z1,z2⟩:=HC.out wk hk;go_simp;try rfl) ?_;replace J:=J.tl;try simp only [pN])
            clear J
            have J:Idx [17,18,19,20,21,22,23,24,25,26,27,28,29,30,31,32,33]:=trivial
            iterate 17 (refine sk J (G0.out) rfl rfl ?_;replace J:=J.tl;try simp only [pN])
            clear J
            refine tK (i:=34) (l':=[]) trivial (G0.out) rfl rfl (fun wk hk=>by obtain ⟨z0,z1,z2⟩:=HC.out wk hk;go_simp;try rfl) ?_
            try simp only [pN]
            refine wpHold_done (by kernel_rfl) ?_
            refine (‹∀(a:Act) (w:World),Code.wp Tryz.prog _ _ a w->_› _ _ ?_)
            go_wp2_with fail
            go_ret
            exact ⟨by rw [HX.out];rfl,grown_trans S0.out.2 G0.out⟩
           | true =>
            cases hvb2:Names.valueB r.2 with
            | false =>
             have HX:Hid (M=false):=by rw [HAL.out];exact HF.out (HMO.out false rfl (.inl (HF2.out (by simp [mayRow,hvb2])).symm))
             go_upto_region 19 with fail
             refine wp_region_noPanic ?_
             refine wp_region_hold 1000 (fun y=>W0.grownBy y none) (by kernel_rfl) ?_
             have G0:Hid (W0.grownBy wr.drew none):=grown_trans HJ.out.2.2 (grown_drew _ _)
             generalize wr.drew=wd at G0 ⊢
             have J:Idx [0,1,2,3,4]:=trivial
             iterate 5 (refine tK J (G0.out) rfl rfl (fun wk hk=>by obtain ⟨z0,z1,z2⟩:=HC.out wk hk;go_simp;try rfl) ?_;replace J:=J.tl;try simp only [pN])
             clear J
             refine wpHold_one (i:=5) rfl (by kernel_rfl) (by rfl) (fun K hK=>?_)
             go_wp2_with fail
             refine (Names.key12 _ r.1 wd (HSG.out wd G0.out).1).mono ?_
             rintro e w1 ⟨rfl,hw1⟩
             rw [hw1,hkb]
             clear hw1
             refine hK.out _ _ (fun _=>G0.out) ?_
             clear hK K
             try simp only [pN]
             have J:Idx [6,7,8,9,10,11,12]:=trivial
             iterate 7 (refine tK J (G0.out) rfl rfl (fun wk hk=>by obtain ⟨z0,z1,z2⟩:=HC.out wk hk;go_simp;try rfl) ?_;replace J:=J.tl;try simp only [pN])
             clear J
             refine wpHold_one (i:=13) rfl (by kernel_rfl) (by rfl) (fun K hK=>?_)
             go_wp2_with fail
             refine (Names.value14 _ r.2 wd (HSG.out wd G0.out).2.1).mono ?_
             rintro e w1 ⟨rfl,hw1⟩
             rw [hw1,hvb2]
             clear hw1
             refine hK.out _ _ (fun _=>G0.out) ?_
             clear hK K
             try simp only [pN]
             have J:Idx [14,15,16]:=trivial
             iterate 3 (refine tK J (G0.out) rfl rfl (fun wk hk=>by obtain ⟨z0,z1,z2⟩:=HC.out wk hk;go_simp;try rfl) ?_;replace J:=J.tl;try simp only [pN])
             clear J
             have J:Idx [17,18,19,20,21,22,23,24,25,26,27,28,29,30,31,32,33]:=trivial
             iterate 17 (refine sk J (G0.out) rfl rfl ?_;replace J:=J.tl;try simp only [pN])
             clear J
             refine tK (i:=34) (l':=[]) trivial (G0.out) rfl rfl (fun wk hk=>by obtain ⟨z0,z1,z2⟩:=HC.out wk hk;go_simp;try rfl) ?_
             try simp only [pN]
             refine wpHold_done (by kernel_rfl) ?_
             refine (‹∀(a:Act) (w:World),Code.wp Tryz.prog _ _ a w->_› _ _ ?_)
             go_wp2_with fail
             go_ret
             exact ⟨by rw [HX.out];rfl,grown_trans S0.out.2 G0.out⟩
            | true =>
             go_upto_region 19 with fail
             refine wp_region_noPanic ?_
             refine wp_region_hold 1000 (fun y=>W0.grownBy y none) (by kernel_rfl) ?_
             have G0:Hid (W0.grownBy wr.drew none):=grown_trans HJ.out.2.2 (grown_drew _ _)
             generalize wr.drew=wd at G0 ⊢
             have J:Idx [0,1,2,3,4]:=trivial
             iterate 5 (refine tK J (G0.out) rfl rfl (fun wk hk=>by obtain ⟨z0,z1,z2⟩:=HC.out wk hk;go_simp;try rfl) ?_;replace J:=J.tl;try simp only [pN])
             clear J
             refine wpHold_one (i:=5) rfl (by kernel_rfl) (by rfl) (fun K hK=>?_)
             go_wp2_with fail
             refine (Names.key12 _ r.1 wd (HSG.out wd G0.out).1).mono ?_
             rintro e w1 ⟨rfl,hw1⟩
             rw [hw1,hkb]
             clear hw1
             refine hK.out _ _ (fun _=>G0.out) ?_
             clear hK K
             try simp only [pN]
             have J:Idx [6,7,8,9,10,11,12]:=trivial
             iterate 7 (refine tK J (G0.out) rfl rfl (fun wk hk=>by obtain ⟨z0,z1,z2⟩:=HC.out wk hk;go_simp;try rfl) ?_;replace J:=J.tl;try simp only [pN])
             clear J
             refine wpHold_one (i:=13) rfl (by kernel_rfl) (by rfl) (fun K hK=>?_)
             go_wp2_with fail
             refine (Names.value14 _ r.2 wd (HSG.out wd G0.out).2.1).mono ?_
             rintro e w1 ⟨rfl,hw1⟩
             rw [hw1,hvb2]
             clear hw1
             refine hK.out _ _ (fun _=>G0.out) ?_
             clear hK K
             try simp only [pN]
             have J:Idx [14,15,16,17]:=trivial
             iterate 4 (refine tK J (G0.out) rfl rfl (fun wk hk=>by obtain ⟨z0,z1,z2⟩:=HC.out wk hk;go_simp;try rfl) ?_;replace J:=J.tl;try simp only [pN])
             clear J
             refine wpHold_one (i:=18) rfl (by kernel_rfl) (by rfl) (fun K hK=>?_)
             go_wp2_with fail
             refine hK.out _ _ (fun _=>G0.out) ?_
             clear hK K
             try simp only [pN]
             refine tK (i:=19) (l':=[]) trivial (G0.out) rfl rfl (fun wk hk=>by obtain ⟨z0,z1,z2⟩:=HC.out wk hk;go_simp;try rfl) ?_
             try simp only [pN]
             have J:Idx [20,21,22,23,24,25,26,27,28,29,30,31,32]:=trivial
             iterate 13 (refine sk J (G0.out) rfl rfl ?_;replace J:=J.tl;try simp only [pN])
             clear J
             have J:Idx [33,34]:=trivial
             iterate 2 (refine tK J (G0.out) rfl rfl (fun wk hk=>by obtain ⟨z0,z1,z2⟩:=HC.out wk hk;go_simp;try rfl) ?_;replace J:=J.tl;try simp only [pN])
             clear J
             refine wpHold_done (by kernel_rfl) ?_
             refine (‹∀(a:Act) (w:World),Code.wp Tryz.prog _ _ a w->_› _ _ ?_)
             go_wp2_with fail
             go_roundw
             case rel=>exact ⟨0+1,by omega,by go_num,(by rw [HA2.out,HJ.out.1];simp [mayRow,hkb,hvb2]),(fun i h hi=>absurd hi (by omega)),G0.out⟩
             case measure=>simp [intOf];omega
          ·obtain ⟨p,hp⟩:∃p,j=p+1:=⟨j-1,by omega⟩
           have hpl:p<o.rows.length:=by omega
           have hpl2:p+1<o.rows.length:=by omega
           obtain ⟨b3,o3,x3,y3,e3,h3⟩:=rws_at HS.out.1.rows p hpl
           simp at e3
           obtain ⟨rfl,rfl⟩:=e3
           obtain ⟨f3,m3,e3,rfl,_,_,_⟩:=Names.seg_open h3.s0
           obtain ⟨c,hc⟩:∃c,Names.cmpL o.rows[p].1 r.1=c:=⟨_,rfl⟩
           have HCM:Hid (Names.cmpL o.rows[p].1 r.1=c/\Names.cmpL o.rows[p].1 o.rows[p+1].1=c):=by
            refine ⟨hc,?_⟩
            have h:=HRJ.out
            subst hp
            rw [<-h]
            exact hc
           have HC:Hid (∀y:World,W0.grownBy y none->y.cell? ⟨b2,o2+j*2,none⟩=some (.slice f1 m1 e1)/\y.cell? ⟨b2,o2+j*2+1,none⟩=some (.slice f2 m2 e2)/\y.cell? ⟨b2,o2+p*2,none⟩=some (.slice f3 m3 e3)):=fun y hy=>⟨(h2.grown hy).c0,(h2.grown hy).c1,(h3.grown hy).c0⟩
           have HSG:Hid (∀y:World,W0.grownBy y none->Seg y (.slice f1 m1 e1) r.1/\Seg y (.slice f2 m2 e2) r.2/\Seg y (.slice f3 m3 e3) o.rows[p].1):=fun y hy=>⟨(h2.grown hy).s0,(h2.grown hy).s1,(h3.grown hy).s0⟩
           have HPJ:Hid (j=p+1):=hp
           have hjp:(j:Int)-1=(p:Int):=by omega
           have j4:(0:Int)<(j:Int):=by omega
           have j4':0<j:=by omega
           have j5:(0:Int)<=(p:Int):=by omega
           have j6:(p:Int)<(m:Int):=by omega
           clear h2 h3 hc hp hj0
           cases hkb:Names.keyB r.1 with
           | false =>
            have HX:Hid (M=false):=by rw [HAL.out];exact HF.out (HMO.out false rfl (.inl (HF2.out (by simp [mayRow,hkb])).symm))
            go_upto_region 19 with fail
            refine wp_region_noPanic ?_
            refine wp_region_hold 1000 (fun y=>W0.grownBy y none) (by kernel_rfl) ?_
            have G0:Hid (W0.grownBy wr.drew none):=grown_trans HJ.out.2.2 (grown_drew _ _)
            generalize wr.drew=wd at G0 ⊢
            have J:Idx [0,1,2,3,4]:=trivial
            iterate 5 (refine tK J (G0.out) rfl rfl (fun wk hk=>by obtain ⟨z0,z1,z2⟩:=HC.out wk hk;go_simp;try rfl) ?_;replace J:=J.tl;try simp only [pN])
            clear J
            refine wpHold_one (i:=5) rfl (by kernel_rfl) (by rfl) (fun K hK=>?_)
            go_wp2_with fail
            refine (Names.key12 _ r.1 wd (HSG.out wd G0.out).1).mono ?_
            rintro e w1 ⟨rfl,hw1⟩
            rw [hw1,hkb]
            clear hw1
            refine hK.out _ _ (fun _=>G0.out) ?_
            clear hK K
            try simp only [pN]
            have J:Idx [6,7]:=trivial
            iterate 2 (refine tK J (G0.out) rfl rfl (fun wk hk=>by obtain ⟨z0,z1,z2⟩:=HC.out wk hk;go_simp;try rfl) ?_;replace J:=J.tl;try simp only [pN])
            clear J
            have J:Idx [8,9,10,11,12,13,14]:=trivial
            iterate 7 (refine sk J (G0.out) rfl rfl ?_;replace J:=J.tl;try simp only [pN])
            clear J
            have J:Idx [15,16]:=trivial
            iterate 2 (refine tK J (G0.out) rfl rfl (fun wk hk=>by obtain ⟨z0,z1,z2⟩:=HC.out wk hk;go_simp;try rfl) ?_;replace J:=J.tl;try simp only [pN])
            clear J
            have J:Idx [17,18,19,20,21,22,23,24,25,26,27,28,29,30,31,32,33]:=trivial
            iterate 17 (refine sk J (G0.out) rfl rfl ?_;replace J:=J.tl;try simp only [pN])
            clear J
            refine tK (i:=34) (l':=[]) trivial (G0.out) rfl rfl (fun wk hk=>by obtain ⟨z0,z1,z2⟩:=HC.out wk hk;go_simp;try rfl) ?_
            try simp only [pN]
            refine wpHold_done (by kernel_rfl) ?_
            refine (‹∀(a:Act) (w:World),Code.wp Tryz.prog _ _ a w->_› _ _ ?_)
            go_wp2_with fail
            go_ret
            exact ⟨by rw [HX.out];rfl,grown_trans S0.out.2 G0.out⟩
           | true =>
            cases hvb2:Names.valueB r.2 with
            | false =>
             have HX:Hid (M=false):=by rw [HAL.out];exact HF.out (HMO.out false rfl (.inl (HF2.out (by simp [mayRow,hvb2])).symm))
             go_upto_region 19 with fail
             refine wp_region_noPanic ?_
             refine wp_region_hold 1000 (fun y=>W0.grownBy y none) (by kernel_rfl) ?_
             have G0:Hid (W0.grownBy wr.drew none):=grown_trans HJ.out.2.2 (grown_drew _ _)
             generalize wr.drew=wd at G0 ⊢
             have J:Idx [0,1,2,3,4]:=trivial
             iterate 5 (refine tK J (G0.out) rfl rfl (fun wk hk=>by obtain ⟨z0,z1,z2⟩:=HC.out wk hk;go_simp;try rfl) ?_;replace J:=J.tl;try simp only [pN])
             clear J
             refine wpHold_one (i:=5) rfl (by kernel_rfl) (by rfl) (fun K hK=>?_)
             go_wp2_with fail
             refine (Names.key12 _ r.1 wd (HSG.out wd G0.out).1).mono ?_
             rintro e w1 ⟨rfl,hw1⟩
             rw [hw1,hkb]
             clear hw1
             refine hK.out _ _ (fun _=>G0.out) ?_
             clear hK K
             try simp only [pN]
             have J:Idx [6,7,8,9,10,11,12]:=trivial
             iterate 7 (refine tK J (G0.out) rfl rfl (fun wk hk=>by obtain ⟨z0,z1,z2⟩:=HC.out wk hk;go_simp;try rfl) ?_;replace J:=J.tl;try simp only [pN])
             clear J
             refine wpHold_one (i:=13) rfl (by kernel_rfl) (by rfl) (fun K hK=>?_)
             go_wp2_with fail
             refine (Names.value14 _ r.2 wd (HSG.out wd G0.out).2.1).mono ?_
             rintro e w1 ⟨rfl,hw1⟩
             rw [hw1,hvb2]
             clear hw1
             refine hK.out _ _ (fun _=>G0.out) ?_
             clear hK K
             try simp only [pN]
             have J:Idx [14,15,16]:=trivial
             iterate 3 (refine tK J (G0.out) rfl rfl (fun wk hk=>by obtain ⟨z0,z1,z2⟩:=HC.out wk hk;go_simp;try rfl) ?_;replace J:=J.tl;try simp only [pN])
             clear J
             have J:Idx [17,18,19,20,21,22,23,24,25,26,27,28,29,30,31,32,33]:=trivial
             iterate 17 (refine sk J (G0.out) rfl rfl ?_;replace J:=J.tl;try simp only [pN])
             clear J
             refine tK (i:=34) (l':=[]) trivial (G0.out) rfl rfl (fun wk hk=>by obtain ⟨z0,z1,z2⟩:=HC.out wk hk;go_simp;try rfl) ?_
             try simp only [pN]
             refine wpHold_done (by kernel_rfl) ?_
             refine (‹∀(a:Act) (w:World),Code.wp Tryz.prog _ _ a w->_› _ _ ?_)
             go_wp2_with fail
             go_ret
             exact ⟨by rw [HX.out];rfl,grown_trans S0.out.2 G0.out⟩
            | true =>
             by_cases hneg:c<0
             ·have q:((0:Int)<=c)=False:=eq_false (by omega)
              go_upto_region 19 with fail
              refine wp_region_noPanic ?_
              refine wp_region_hold 1000 (fun y=>W0.grownBy y none) (by kernel_rfl) ?_
              have G0:Hid (W0.grownBy wr.drew none):=grown_trans HJ.out.2.2 (grown_drew _ _)
              generalize wr.drew=wd at G0 ⊢
              have J:Idx [0,1,2,3,4]:=trivial
              iterate 5 (refine tK J (G0.out) rfl rfl (fun wk hk=>by obtain ⟨z0,z1,z2⟩:=HC.out wk hk;go_simp;try rfl) ?_;replace J:=J.tl;try simp only [pN])
              clear J
              refine wpHold_one (i:=5) rfl (by kernel_rfl) (by rfl) (fun K hK=>?_)
              go_wp2_with fail
              refine (Names.key12 _ r.1 wd (HSG.out wd G0.out).1).mono ?_
              rintro e w1 ⟨rfl,hw1⟩
              rw [hw1,hkb]
              clear hw1
              refine hK.out _ _ (fun _=>G0.out) ?_
              clear hK K
              try simp only [pN]
              have J:Idx [6,7,8,9,10,11,12]:=trivial
              iterate 7 (refine tK J (G0.out) rfl rfl (fun wk hk=>by obtain ⟨z0,z1,z2⟩:=HC.out wk hk;go_simp;try rfl) ?_;replace J:=J.tl;try simp only [pN])
              clear J
              refine wpHold_one (i:=13) rfl (by kernel_rfl) (by rfl) (fun K hK=>?_)
              go_wp2_with fail
              refine (Names.value14 _ r.2 wd (HSG.out wd G0.out).2.1).mono ?_
              rintro e w1 ⟨rfl,hw1⟩
              rw [hw1,hvb2]
              clear hw1
              refine hK.out _ _ (fun _=>G0.out) ?_
              clear hK K
              try simp only [pN]
              have J:Idx [14,15,16,17]:=trivial
              iterate 4 (refine tK J (G0.out) rfl rfl (fun wk hk=>by obtain ⟨z0,z1,z2⟩:=HC.out wk hk;go_simp;try rfl) ?_;replace J:=J.tl;try simp only [pN])
              clear J
              refine wpHold_one (i:=18) rfl (by kernel_rfl) (by rfl) (fun K hK=>?_)
              go_wp2_with fail
              refine hK.out _ _ (fun _=>G0.out) ?_
              clear hK K
              try simp only [pN]
              have J:Idx [19,20,21,26,27,28,29,30]:=trivial
              iterate 8 (refine tK J (G0.out) rfl rfl (fun wk hk=>by obtain ⟨z0,z1,z2⟩:=HC.out wk hk;go_simp;try rfl) ?_;replace J:=J.tl;try simp only [pN])
              clear J
              refine wpHold_one (i:=22) rfl (by kernel_rfl) (by rfl) (fun K hK=>?_)
              go_wp2_with fail
              refine hK.out _ _ (fun _=>G0.out) ?_
              clear hK K
              try simp only [pN]
              have J:Idx [23,24,25]:=trivial
              iterate 3 (refine tK J (G0.out) rfl rfl (fun wk hk=>by obtain ⟨z0,z1,z2⟩:=HC.out wk hk;go_simp;try rfl) ?_;replace J:=J.tl;try simp only [pN])
              clear J
              refine wpHold_one (i:=31) rfl (by kernel_rfl) (by rfl) (fun K hK=>?_)
              go_wp2_with fail
              refine (Names.cmp27 _ _ _ _ wd (HSG.out wd G0.out).2.2 (HSG.out wd G0.out).1).mono ?_
              rintro e w1 ⟨rfl,q1,hw1⟩
              rw [HCM.out.1]
              have G1:Hid (W0.grownBy w1 none):=by rw [hw1];exact grown_trans G0.out (grown_drewN _ _ _)
              clear hw1
              refine hK.out _ _ (fun _=>G1.out) ?_
              clear hK K
              try simp only [pN]
              refine wpHold_one (i:=32) rfl (by kernel_rfl) (by rfl) (fun K hK=>?_)
              go_wp2_with fail
              refine hK.out _ _ (fun _=>G1.out) ?_
              clear hK K
              try simp only [pN]
              have J:Idx [33,34]:=trivial
              iterate 2 (refine tK J (G1.out) rfl rfl (fun wk hk=>by obtain ⟨z0,z1,z2⟩:=HC.out wk hk;go_simp;try rfl) ?_;replace J:=J.tl;try simp only [pN])
              clear J
              refine wpHold_done (by kernel_rfl) ?_
              refine (‹∀(a:Act) (w:World),Code.wp Tryz.prog _ _ a w->_› _ _ ?_)
              go_wp2_with fail
              go_roundw
              case rel=>exact ⟨j+1,by omega,by go_num,(by rw [HA2.out,HJ.out.1];simp [mayRow,hkb,hvb2]),(fun i h hi=>by
                by_cases hip:i+1<j
                ·exact HJ.out.2.1 i h hip
                ·have hpj:=HPJ.out
                 have:i=p:=by omega
                 subst this
                 rw [HCM.out.2]
                 exact hneg),G1.out⟩
              case measure=>simp [intOf];omega
             ·have q:(0:Int)<=c:=by omega
              have HX:Hid (M=false):=by
               rw [HAL.out]
               refine HF.out (HMO.out false rfl (.inr ?_))
               cases hrb:riseB o.rows with
               | false=>rfl
               | true =>
                have:=(rise_iff o.rows).1 hrb p hpl2
                rw [HCM.out.2] at this
                omega
              go_upto_region 19 with fail
              refine wp_region_noPanic ?_
              refine wp_region_hold 1000 (fun y=>W0.grownBy y none) (by kernel_rfl) ?_
              have G0:Hid (W0.grownBy wr.drew none):=grown_trans HJ.out.2.2 (grown_drew _ _)
              generalize wr.drew=wd at G0 ⊢
              have J:Idx [0,1,2,3,4]:=trivial
              iterate 5 (refine tK J (G0.out) rfl rfl (fun wk hk=>by obtain ⟨z0,z1,z2⟩:=HC.out wk hk;go_simp;try rfl) ?_;replace J:=J.tl;try simp only [pN])
              clear J
              refine wpHold_one (i:=5) rfl (by kernel_rfl) (by rfl) (fun K hK=>?_)
              go_wp2_with fail
              refine (Names.key12 _ r.1 wd (HSG.out wd G0.out).1).mono ?_
              rintro e w1 ⟨rfl,hw1⟩
              rw [hw1,hkb]
              clear hw1
              refine hK.out _ _ (fun _=>G0.out) ?_
              clear hK K
              try simp only [pN]
              have J:Idx [6,7,8,9,10,11,12]:=trivial
              iterate 7 (refine tK J (G0.out) rfl rfl (fun wk hk=>by obtain ⟨z0,z1,z2⟩:=HC.out wk hk;go_simp;try rfl) ?_;replace J:=J.tl;try simp only [pN])
              clear J
              refine wpHold_one (i:=13) rfl (by kernel_rfl) (by rfl) (fun K hK=>?_)
              go_wp2_with fail
              refine (Names.value14 _ r.2 wd (HSG.out wd G0.out).2.1).mono ?_
              rintro e w1 ⟨rfl,hw1⟩
              rw [hw1,hvb2]
              clear hw1
              refine hK.out _ _ (fun _=>G0.out) ?_
              clear hK K
              try simp only [pN]
              have J:Idx [14,15,16,17]:=trivial
              iterate 4 (refine tK J (G0.out) rfl rfl (fun wk hk=>by obtain ⟨z0,z1,z2⟩:=HC.out wk hk;go_simp;try rfl) ?_;replace J:=J.tl;try simp only [pN])
              clear J
              refine wpHold_one (i:=18) rfl (by kernel_rfl) (by rfl) (fun K hK=>?_)
              go_wp2_with fail
              refine hK.out _ _ (fun _=>G0.out) ?_
              clear hK K
              try simp only [pN]
              have J:Idx [19,20,21,26,27,28,29,30]:=trivial
              iterate 8 (refine tK J (G0.out) rfl rfl (fun wk hk=>by obtain ⟨z0,z1,z2⟩:=HC.out wk hk;go_simp;try rfl) ?_;replace J:=J.tl;try simp only [pN])
              clear J
              refine wpHold_one (i:=22) rfl (by kernel_rfl) (by rfl) (fun K hK=>?_)
              go_wp2_with fail
              refine hK.out _ _ (fun _=>G0.out) ?_
              clear hK K
              try simp only [pN]
              have J:Idx [23,24,25]:=trivial
              iterate 3 (refine tK J (G0.out) rfl rfl (fun wk hk=>by obtain ⟨z0,z1,z2⟩:=HC.out wk hk;go_simp;try rfl) ?_;replace J:=J.tl;try simp only [pN])
              clear J
              refine wpHold_one (i:=31) rfl (by kernel_rfl) (by rfl) (fun K hK=>?_)
              go_wp2_with fail
              refine (Names.cmp27 _ _ _ _ wd (HSG.out wd G0.out).2.2 (HSG.out wd G0.out).1).mono ?_
              rintro e w1 ⟨rfl,q1,hw1⟩
              rw [HCM.out.1]
              have G1:Hid (W0.grownBy w1 none):=by rw [hw1];exact grown_trans G0.out (grown_drewN _ _ _)
              clear hw1
              refine hK.out _ _ (fun _=>G1.out) ?_
              clear hK K
              try simp only [pN]
              refine wpHold_one (i:=32) rfl (by kernel_rfl) (by rfl) (fun K hK=>?_)
              go_wp2_with fail
              refine hK.out _ _ (fun _=>G1.out) ?_
              clear hK K
              try simp only [pN]
              have J:Idx [33,34]:=trivial
              iterate 2 (refine tK J (G1.out) rfl rfl (fun wk hk=>by obtain ⟨z0,z1,z2⟩:=HC.out wk hk;go_simp;try rfl) ?_;replace J:=J.tl;try simp only [pN])
              clear J
              refine wpHold_done (by kernel_rfl) ?_
              refine (‹∀(a:Act) (w:World),Code.wp Tryz.prog _ _ a w->_› _ _ ?_)
              go_wp2_with fail
              go_ret
              exact ⟨by rw [HX.out];rfl,grown_trans S0.out.2 G1.out⟩
         ·have j3:((j:Int)<(m:Int))=False:=eq_false (by omega)
          have R3:Hid ((l.take (k+1)).all mayOut=true/\W0.grownBy wr none):=by
           have h:=HJ.out
           rw [List.take_of_length_le (by rw [HS.out.2];omega)] at h
           refine ⟨?_,h.2.2⟩
           rw [HA.out,HR.out.1]
           have hr:riseB o.rows=true:=(rise_iff o.rows).2 fun i hi=>h.2.1 i hi (by have:=HS.out.2;omega)
           simp [mayOut,hvb,HS.out.2,h64,hr,h.1]
          go_wp2_with fail
          go_roundw
          case rel=>exact ⟨k+1,by omega,by go_num,R3⟩
          case measure=>simp [intOf];omega
       ·have i64:(64:Int)<(m:Int):=by omega
        have HX:Hid (M=false):=by rw [HAL.out];exact HF.out (by simp [mayOut,HS.out.2,h64])
        go_wp2_with (go_at_call 122;refine (Names.value14 _ o.value _ (HS.out.1.value.grown HR.out.2)).mono ?_;rintro e w4 ⟨rfl,hw4⟩;rw [hw4,hvb];clear hw4)
        go_ret
        exact ⟨by rw [HX.out];rfl,grown_trans S0.out.2 HR.out.2⟩
     ·have i3:((k:Int)<(n:Int))=False:=eq_false (by omega)
      have HX:Hid (M=true):=by
       have h:=HR.out.1
       rw [List.take_of_length_le (by rw [HN.out];omega)] at h
       rw [HAL.out]
       exact h
      go_wp2_with fail
      go_ret
      exact ⟨by rw [HX.out];rfl,grown_trans S0.out.2 HR.out.2⟩
   ·have i2:(16:Int)<(n:Int):=by omega
    have HX:Hid (M=false):=by rw [<-HMM.out];simp [mayRes,HN.out,h16,Hid]
    go_enter Tryz.func137,Tryz.ntmps137
    go_wp2_with fail
    go_ret
    exact ⟨by rw [HX.out];rfl,World.grownBy_alloc _ _ none⟩
  ·have hn0:n=0:=by omega
   have HX:Hid (M=false):=by
    have:l=[]:=List.eq_nil_of_length_eq_zero (by rw [HN.out];omega)
    rw [<-HMM.out]
    simp [mayRes,this,Hid]
   subst hn0
   go_enter Tryz.func137,Tryz.ntmps137
   go_wp2_with fail
   go_ret
   exact ⟨by rw [HX.out];rfl,World.grownBy_alloc _ _ none⟩
 ·have HX:Hid (M=false):=by rw [<-HMM.out];simp [mayRes,hp,Hid]
  go_enter Tryz.func137,Tryz.ntmps137
  go_wp2_with fail
  go_ret
  exact ⟨by rw [HX.out];rfl,World.grownBy_alloc _ _ none⟩
theorem may31 (v:Value)(r:PRes)(w:World)(hv:Outs w v r.outs):Calls Tryz.prog 137 #[.agg #[.int .i64 r.abort,.int .i64 r.place,v]] w (MayPost r w):=by
 obtain ⟨ab,pl,l⟩:=r
 by_cases h0:ab=0
 ·subst h0
  exact may31_none pl v l w hv
 ·by_cases h1:ab=1\/ab=2\/ab=3
  ·exact may31_why ab pl v l w h1 hv
  ·exact may31_no ab pl v l w h0 (by omega) (by omega) (by omega) hv
end Go.Proofs.YtanoabliahcbeaaGreat.Calls
