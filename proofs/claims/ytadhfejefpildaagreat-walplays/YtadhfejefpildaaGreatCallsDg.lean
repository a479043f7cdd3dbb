import Derived.Test.YtadhfejefpildaaGreatCallsDf
set_option maxHeartbeats 4000000
set_option maxRecDepth 100000
namespace Go.Proofs.YtadhfejefpildaaGreat.Calls
open Go.RowKit Disk
open Names (Str)
theorem pf (x k v ol t:Value)(a:POp)(w:World)(hx:x=opV k v ol t a)(ha:OpSeg w k v ol t a)(hm:aL a=true):Calls Tryz.prog 102 #[x] w (cy (aD a) w):=by subst hx;exact uH k v ol t a w ha hm
theorem fB (a:Value)(l:List POp)(w:World)(ha:Ops w a l)(hm:aI l=true):Calls Tryz.prog 78 #[.agg #[a]] w (cy (aA l) w):=by
 obtain ⟨ao,n,ca,rfl,hna,la,HA⟩:=aX ha
 unfold aI at hm
 simp only [Bool.and_eq_true,decide_eq_true_eq] at hm
 have HM:Hid (l.all aL=true):=hm.2
 have n16:n<=16:=by rw [<-hna];exact hm.1.2
 have HN:Hid (l.length=n):=hna
 have wu:IntKind.u64.wrap (n:Int)=(n:Int):=by rw [IntKind.wrap_u64];omega
 clear ha hna hm
 go_enter Tryz.func78,Tryz.ntmps78
 go_upto_region 1 with fail
 have S0:Hid (Blk (w.alloc (.cells #[.slice ao n ca] 30)) w.heap.size 30 #[.slice ao n ca]/\w.grownBy (w.alloc (.cells #[.slice ao n ca] 30)) none):=⟨heap_alloc_new w _,World.grownBy_alloc _ _ none⟩
 generalize (w.alloc (.cells #[.slice ao n ca] 30))=W0 at S0 ⊢
 have c0:=S0.out.1.cell 0
 go_wp2_with (go_at_call 42;refine (dNum _ n rfl (by omega) _).mono ?_)
 rintro e w1 ⟨u1,rfl,o1,g1⟩
 have S1:Hid (Own w1 W0.heap.size u1 (Wire.ai n)/\W0.grownBy w1 none):=⟨o1,g1⟩
 clear o1 g1 c0
 go_wp2_with fail
 go_loopw [3,4] (fun x i wr=>∃k:Nat,k<=n/\i=.int .i64 k/\Hid (Own wr W0.heap.size x (Wire.ai n ++ (l.take k).flatMap aD)/\W0.grownBy wr none)) (fun _ i _=>n-(intOf i).toNat)
 case atStart=>exact ⟨0,by omega,rfl,by rw [List.take_zero,List.flatMap_nil,List.append_nil];exact S1.out.1,S1.out.2⟩
 case round =>
  obtain ⟨k,hk,rfl,HR⟩:=hrel
  have c0:=(S0.out.1.grown HR.out.2 (by simp)).cell 0
  by_cases hlt:k<n
  ·have i3:(k:Int)<(n:Int):=by omega
   have i0:(0:Int)<=(k:Int):=by omega
   have hkl:k<l.length:=by rw [HN.out];omega
   obtain ⟨b1,o1,k1,x1,ol1,t1,rfl,h1,s1⟩:=gx (HA.out.grown (aa S0.out.2 HR.out.2)) k hkl
   have HQ:Hid ((l.take (k+1)).flatMap aD=(l.take k).flatMap aD ++ aD l[k]):=gS aD l k hkl
   have HO:Hid (aL l[k]=true):=List.all_eq_true.1 HM.out _ (List.getElem_mem hkl)
   have HZ:Hid ((Wire.ai n ++ (l.take k).flatMap aD).length<=20000):=by
    have h1:(l.take k).all aL=true:=List.all_eq_true.2 fun o ho=>List.all_eq_true.1 HM.out o (List.mem_of_mem_take ho)
    have h2:=fT h1
    have h3:=dd n (by omega)
    have h4:(l.take k).length<=16:=by rw [List.length_take];omega
    have h5:1200*(l.take k).length<=1200*16:=Nat.mul_le_mul_left _ h4
    unfold Hid
    rw [List.length_append];omega
   obtain ⟨o,ho⟩:∃o,l[k]=o:=⟨_,rfl⟩
   rw [ho] at h1 s1 HQ HO
   clear ho hkl
   obtain ⟨p1,p2,p3,p4,r1,r2,r3,r4,rfl,rfl,rfl,rfl⟩:=s1.shapes
   have HS:Hid (OpSeg wr (.slice p1 o.key.length r1) (.slice p2 o.value.length r2) (.slice p3 o.old.length r3) (.slice p4 o.to.length r4) o):=s1
   clear s1
   obtain ⟨a0,a1,a2,a3,a4,a5,a6,a7⟩:=h1
   unfold Str at a1
   obtain ⟨A,hA⟩:∃A,Wire.ai n ++ (l.take k).flatMap aD=A:=⟨_,rfl⟩
   have HAA:Hid (Wire.ai n ++ (l.take (k+1)).flatMap aD=A ++ aD o):=by unfold Hid;rw [HQ.out,<-List.append_assoc,hA]
   rw [hA] at HR HZ
   clear hA HQ
   go_wp2_with (go_at_call 102;refine (pf _ _ _ _ _ o _ rfl HS.out HO.out).mono ?_)
   rintro e w2 ⟨v2,rfl,o2,g2⟩
   have Y:Hid (Seg w2 v2 (aD o)/\wr.grownBy w2 none):=⟨o2.seg,g2⟩
   clear o2 g2 c0 a0 a1 a2 a3 a4 a5 a6 a7
   go_wp2_with (at_builtin;refine bH _ rfl _ _ rfl W0.heap.size _ A _ (aD o) rfl rfl (HR.out.1.grown Y.out.2) Y.out.1 ?c0 ?c1 ?_)
   case c0=>have h1:=HZ.out;have h2:=gA HO.out;omega
   case c1=>have h1:=(aa HR.out.2 Y.out.2).size;omega
   intro x3 w3 oo gg _
   have R3:Hid (Own w3 W0.heap.size x3 (Wire.ai n ++ (l.take (k+1)).flatMap aD)/\W0.grownBy w3 none):=by
    rw [HAA.out]
    exact ⟨oo,ah (aa HR.out.2 Y.out.2) gg (fun x hx=>(HR.out.1.lt x hx).1)⟩
   clear oo gg Y
   go_wp2_with fail
   go_roundw
   case rel=>exact ⟨k+1,by omega,by go_num,R3⟩
   case measure=>simp [intOf];omega
  ·have i3:((k:Int)<(n:Int))=False:=eq_false (by omega)
   have R3:Hid (Own wr W0.heap.size u3 (aA l)/\W0.grownBy wr none):=by
    have h:=HR.out
    rw [List.take_of_length_le (by rw [HN.out];omega),<-HN.out] at h
    exact h
   go_wp2_with fail
   go_ret
   exact ⟨_,rfl,R3.out.1.mono S0.out.2.size,aa S0.out.2 R3.out.2⟩
theorem og (a:Value)(l:List POp)(w:World)(ha:Ops w a l):Calls Tryz.prog 73 #[.agg #[a]] w fun e w'=>e=.returned (.int .i64 (chk l))/\w.grownBy w' none:=by
 obtain ⟨ao,n,ca,rfl,hna,la,HA⟩:=aX ha
 clear ha hna
 go_enter Tryz.func73,Tryz.ntmps73
 go_upto_region 1 with fail
 have S0:Hid (Blk (w.alloc (.cells #[.slice ao n ca] 30)) w.heap.size 30 #[.slice ao n ca]/\w.grownBy (w.alloc (.cells #[.slice ao n ca] 30)) none):=⟨heap_alloc_new w _,World.grownBy_alloc _ _ none⟩
 generalize (w.alloc (.cells #[.slice ao n ca] 30))=W0 at S0 ⊢
 have c0:=S0.out.1.cell 0
 go_wp2_with (go_at_call 99;refine (go _ l _ (HA.out.grown S0.out.2)).mono ?_)
 rintro e w1 ⟨rfl,hg⟩
 clear c0
 have S1:Hid (Blk w1 w.heap.size 30 #[.slice ao n ca]/\w.grownBy w1 none):=⟨S0.out.1.grown hg (by simp),aa S0.out.2 hg⟩
 clear hg S0
 have c0:=S1.out.1.cell 0
 cases hm:aI l
 ·have HZ:Hid (chk l=2):=by unfold Hid chk;rw [hm];rfl
  clear hm
  go_wp2_with fail
  go_ret
  exact ⟨by rw [HZ.out];rfl,S1.out.2⟩
 ·have HM:Hid (aI l=true):=hm
  clear hm
  go_wp2_with (go_at_call 78;refine (fB _ l _ (HA.out.grown S1.out.2) HM.out).mono ?_)
  rintro e w2 ⟨u,rfl,ho,hg⟩
  obtain ⟨f1,q1,e1⟩:=ho.seg.shape
  obtain ⟨m,hm⟩:∃m,(aA l).length=m:=⟨_,rfl⟩
  rw [hm] at e1
  subst e1
  have HG:Hid (w.grownBy w2 none):=aa S1.out.2 hg
  clear ho hg c0
  by_cases h6:m<=4096
  ·have HZ:Hid (chk l=0):=by unfold Hid chk;rw [HM.out,if_pos rfl,hm,if_pos h6]
   have i1:((4096:Int)<(m:Int))=False:=eq_false (by omega)
   clear hm
   go_wp2_with fail
   go_ret
   exact ⟨by rw [HZ.out];rfl,HG.out⟩
  ·have HZ:Hid (chk l=3):=by unfold Hid chk;rw [HM.out,if_pos rfl,hm,if_neg h6]
   have i1:(4096:Int)<(m:Int):=by omega
   clear hm
   go_wp2_with fail
   go_ret
   exact ⟨by rw [HZ.out];rfl,HG.out⟩
end Go.Proofs.YtadhfejefpildaaGreat.Calls
