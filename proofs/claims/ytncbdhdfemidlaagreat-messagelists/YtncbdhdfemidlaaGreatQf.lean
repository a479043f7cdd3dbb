import Derived.Test.YtncbdhdfemidlaaGreatQegAll
set_option maxHeartbeats 8000000
set_option maxRecDepth 100000
namespace Go.Proofs.YtncbdhdfemidlaaGreat
open Go.RowKit Disk Table L5
open _root_.Go.Proofs.YtncbdhdfemidlaaGreat.Calls _root_.Go.Proofs.YtncbdhdfemidlaaGreat.Command
theorem L5.rd_blk {w:World}{g t:Nat}{x:Value}(h:Blk w g t #[x]):Net.Rd w (.slice (some ⟨g,0,none⟩) 1 1) [x]:=⟨_,1,rfl,by simp,by unfold maxLen;omega,by simp,fun j hj=>by
 simp at hj
 subst hj
 exact ⟨g,0,rfl,h.cell 0⟩⟩
theorem partB (a:Act)(w W:World)(x0:Nat)(v:Value)(q:Int)(l:List PMsg)(v7 v8 v10:Value)(Q:Exit->Act->World->Prop)
  (hS:S5 a (.pointer (some ⟨x0,0,none⟩)) (.pointer (some ⟨x0+1,0,none⟩)) (.pointer (some ⟨x0+2,0,none⟩)) v7 v8 v10) (hB:Bx w W x0 v q l)
  (hk:∀a W',AfterB w x0 v q l v10 a W'->r17.wp Tryz.prog Q a W'):r9.wp Tryz.prog Q a W:=by
 have HB:Hid (Bx w W x0 v q l):=hB
 obtain ⟨ao,n,cap,rfl,hn,hn',_⟩:=msgs_open hB.ms
 have HN:Hid (l.length=n/\n<=1034834473200):=⟨hn,hn'⟩
 have hub:n<=1034834473200:=hn'
 obtain ⟨t,rfl⟩:=hS.eq
 have HK:Hid (∀a W',AfterB w x0 (.slice ao n cap) q l v10 a W'->r17.wp Tryz.prog Q a W'):=hk
 obtain ⟨x1,hx1⟩:∃x,x0+1=x:=⟨_,rfl⟩
 obtain ⟨x2,hx2⟩:∃x,x0+2=x:=⟨_,rfl⟩
 have HX:Hid (x0+1=x1/\x0+2=x2):=⟨hx1,hx2⟩
 rw [hx1,hx2]
 clear hS hB hn hx1 hx2 hk hn'
 rw [r9_eq]
 unfold r9 b5
 dsimp only [Tryz.f5,Option.getD,cL,cR]
 go_upto_region 11 with fail
 obtain ⟨W1,hW1,H1⟩:=al1 W #[.slice none 0 0] 55
 obtain ⟨x8,hx8⟩:∃x,W.heap.size=x:=⟨_,rfl⟩
 rw [hW1]
 have I0:Hid (BI w W1 x0 (.slice ao n cap) q l x8 (.slice none 0 0) (.slice none 0 0) [] 0):=by
  have h1:=H1.out
  rw [hx8] at h1
  refine ⟨HB.out.grown h1.2.1,msgsIn_nil _ _,by simp,List.Pairwise.nil,fun a ha=>(List.not_mem_nil ha).elim,h1.1,by have:=HB.out.big;omega,?_⟩
  simpa [wv,wants] using Net.Row.nil 3 W1 (x0+3)
 rw [hx8]
 clear hW1 H1 hx8
 go_wp2_with fail
 go_loopw [7,9] (fun x7 p wr=>∃i:Nat,p=.int .i64 (i:Nat)/\i<=n/\Hid (∃wq z,BI w wr x0 (.slice ao n cap) q l x8 x7 wq z i)) (fun _ p _=>n-(intOf p).toNat)
 case atStart=>exact ⟨0,rfl,Nat.zero_le _,_,_,I0.out⟩
 case round =>
  obtain ⟨i,rfl,hi,HI⟩:=hrel
  obtain ⟨wq,z,hI⟩:=HI.out
  obtain ⟨zo,zc,rfl⟩:=L5.MsgsIn.len hI.ins
  have hzn:=hI.zn (by have:=HN.out;omega)
  rw [hzn] at hI ⊢
  have HI2:Hid (BI w wr x0 (.slice ao n cap) q l x8 (.slice zo i zc) wq z i/\z.length=i):=⟨hI,hzn⟩
  clear HI hI hzn
  have c0:=HI2.out.1.bx.b0.cell 0
  simp at c0
  by_cases hlt:i<n
  ·have i1:(i:Int)<(n:Int):=by omega
   have i2:(0:Int)<=(i:Int):=by omega
   have hil:i<l.length:=by have:=HN.out;omega
   obtain ⟨m,hm⟩:∃m,l[i]=m:=⟨_,rfl⟩
   obtain ⟨b,off,o1,o2,o3,a1,a2,a3,rfl,hM,hO,hA⟩:=msgs_at HI2.out.1.bx.ms i hil
   rw [hm] at hM hO hA
   have HM:Hid (MsAt w b (off+i*13) (.slice o1 o2 o3) (.slice a1 a2 a3) m/\Ops w (.slice o1 o2 o3) m.ask.ops/\Seg w (.slice a1 a2 a3) m.tell.answer/\GoodM m/\l[i]? = some m):=⟨hM,hO,hA,by rw [<-hm];exact HI2.out.1.bx.good _ (List.getElem_mem hil),by rw [List.getElem?_eq_getElem hil,hm]⟩
   obtain ⟨m0,k1,k2,k3,k4,k5,k6,k7,k8,k9,k10,k11,k12⟩:=hM.grown HI2.out.1.bx.gr
   rw [Nat.add_zero] at m0
   clear hM hO hA hm hil
   go_wp2_with fail
   refine (copy6 (.slice o1 o2 o3) (.slice a1 a2 a3) m wr (HM.out.2.1.grown HI2.out.1.bx.gr) (HM.out.2.2.1.grown HI2.out.1.bx.gr) HM.out.2.2.2.1.fit (by have:=HM.out.2.2.2.1.len;omega)).mono ?_
   rintro e w1 ⟨u,y,rfl,hu,hy,hg1⟩
   obtain ⟨u1,u2,u3,rfl⟩:=isSl_ow hu
   obtain ⟨y1,y2,y3,rfl⟩:=isSl_on hy
   have H1:Hid (OpsOwn w1 wr.heap.size (.slice u1 u2 u3) m.ask.ops/\Disk.Own w1 wr.heap.size (.slice y1 y2 y3) m.tell.answer/\wr.grownBy w1 none):=⟨hu,hy,hg1⟩
   clear hu hy hg1 c0 m0 k1 k2 k3 k4 k5 k6 k7 k8 k9 k10 k11 k12
   obtain ⟨W2,hW2,H2⟩:=al1 w1 (msgA (.slice u1 u2 u3) (.slice y1 y2 y3) m) 34
   have HW2:Hid (w1.alloc (.cells #[.int .i64 m.kind,.int .i64 m.client,.int .i64 m.ask.kind,.int .i64 m.ask.token,.int .i64 m.ask.session,.int .i64 m.ask.number,.int .i64 m.ask.mark,.slice u1 u2 u3,.int .i64 m.tell.kind,.int .i64 m.tell.token,.int .i64 m.tell.session,.int .i64 m.tell.number,.slice y1 y2 y3] 34)=W2):=hW2
   obtain ⟨g,hg⟩:∃x,w1.heap.size=x:=⟨_,rfl⟩
   have HG:Hid (w1.heap.size=g):=hg
   rw [hg] at H2
   clear hW2 hg
   simp only [msgV]
   go_wp2_with (at_builtin;rw [HW2.out,HG.out];refine app34i W2 rfl _ _ rfl (x0+3) (.slice zo i zc) z m wr.heap.size w1.heap.size g (.slice u1 u2 u3) (.slice y1 y2 y3) rfl rfl (HI2.out.1.ins.grown (grown_trans H1.out.2.2 H2.out.2.1)) H2.out.1 ((H1.out.1.mono (by have:=HI2.out.1.bx.big;omega)).grown H2.out.2.1) (H1.out.2.1.grown H2.out.2.1) (by have:=HI2.out.1.bx.big;omega) (fun k hk=>(H1.out.2.1.lt k hk).2) (by have:=HI2.out.2;have:=HN.out;omega) (by have h1:=HI2.out.1.bx.big;have h2:=H1.out.2.2.size;have h3:=H2.out.2.1.size;omega) ?_)
   intro g' cap' w3 hi3 hg3 _
   rw [HI2.out.2] at hi3 ⊢
   have H3:Hid (Bx w w3 x0 (.slice (some ⟨b,off,none⟩) n cap) q l/\MsgsIn w3 (x0+3) (.slice (some ⟨g',0,none⟩) (i+1) cap') (z ++ [(m,wr.heap.size,w1.heap.size)])/\Blk w3 x8 55 #[wq]/\Net.Row 3 w3 (x0+3) wq (wv l i)/\w1.heap.size<=w3.heap.size):=by
    have h2:=HI2.out.1.grown (grown_trans H1.out.2.2 H2.out.2.1)
    have own:=msgsIn_blk h2.ins
    refine ⟨h2.bx.but hg3 fun k hk=>(own k hk).1,hi3,h2.box.grown hg3 fun e=>?_,h2.row.same fun k hk=>hg3.block k (h2.row.lt k hk).2 fun e=>?_,Nat.le_trans H2.out.2.1.size hg3.size⟩
    ·obtain ⟨_,C,hC⟩:=own _ e
     exact absurd (Net.blk_type h2.box hC) (by decide)
    ·obtain ⟨_,C,hC⟩:=own _ e.symm
     obtain ⟨D,hD⟩:=h2.row.blk k hk
     exact absurd (Net.blk_type hD hC) (by decide)
   clear hi3 hg3
   have c0:=H3.out.1.b0.cell 0
   simp at c0
   obtain ⟨m0,k1,k2,k3,k4,k5,k6,k7,k8,k9,k10,k11,k12⟩:=HM.out.1.grown H3.out.1.gr
   rw [Nat.add_zero] at m0
   go_wp2_with fail
   refine (may13 (.slice o1 o2 o3) (.slice a1 a2 a3) m w3 (HM.out.2.1.grown H3.out.1.gr) (HM.out.2.2.1.grown H3.out.1.gr) (by have:=HM.out.2.2.2.1.len;omega)).mono ?_
   rintro e w4 ⟨rfl,hg4⟩
   have H4:Hid (Bx w w4 x0 (.slice (some ⟨b,off,none⟩) n cap) q l/\MsgsIn w4 (x0+3) (.slice (some ⟨g',0,none⟩) (i+1) cap') (z ++ [(m,wr.heap.size,w1.heap.size)])/\Blk w4 x8 55 #[wq]/\Net.Row 3 w4 (x0+3) wq (wv l i)/\w1.heap.size<=w4.heap.size):=⟨H3.out.1.grown hg4,H3.out.2.1.grown hg4,H3.out.2.2.1.grown hg4 (by simp),H3.out.2.2.2.1.grown hg4,Nat.le_trans H3.out.2.2.2.2 hg4.size⟩
   clear hg4 c0 m0 k1 k2 k3 k4 k5 k6 k7 k8 k9 k10 k11 k12
   have HZ:Hid ((z ++ [(m,wr.heap.size,w1.heap.size)]).map (·.1)=l.take (i+1)/\(z ++ [(m,wr.heap.size,w1.heap.size)]).Pairwise (fun a b=>a.2.2<=b.2.1)/\∀a ∈ z ++ [(m,wr.heap.size,w1.heap.size)],a.2.2<=w1.heap.size):=by
    refine ⟨?_,?_,?_⟩
    ·rw [List.map_append,HI2.out.1.zl,List.take_add_one,HM.out.2.2.2.2]
     rfl
    ·rw [List.pairwise_append]
     refine ⟨HI2.out.1.zp,List.pairwise_singleton _ _,fun x hx y hy=>?_⟩
     simp at hy
     subst hy
     exact HI2.out.1.zt x hx
    ·intro x hx
     rcases List.mem_append.1 hx with hx | hx
     ·exact Nat.le_trans (HI2.out.1.zt x hx) H1.out.2.2.size
     ·simp at hx
      subst hx
      exact Nat.le_refl _
   cases hok:okM m with
   | false =>
    have HOK:Hid (okM m=false):=hok
    clear hok
    go_wp2_with fail
    go_roundw
    case rel=>exact ⟨i+1,by go_num,by omega,wq,_,H4.out.1,H4.out.2.1,HZ.out.1,HZ.out.2.1,fun a ha=>Nat.le_trans (HZ.out.2.2 a ha) H4.out.2.2.2.2,H4.out.2.2.1,HI2.out.1.b8,by have h:=H4.out.2.2.2.1;unfold wv at h ⊢;rw [wants_skip HM.out.2.2.2.2 HOK.out];exact h⟩
    case measure=>simp [intOf];omega
   | true =>
    have HOK:Hid (okM m=true):=hok
    clear hok
    obtain ⟨p1,p3,rfl⟩:=H4.out.2.2.2.1.sl
    obtain ⟨p2,hp2⟩:∃x,(wv l i).length=x:=⟨_,rfl⟩
    rw [hp2] at H4 HI2
    have HP2:Hid ((wv l i).length=p2/\p2<=i):=⟨hp2,by rw [<-hp2];exact wv_len l i⟩
    clear hp2
    have c8:=H4.out.2.2.1.cell 0
    simp at c8
    obtain ⟨w5,hw5,H5⟩:=al1 w4 #[.int .i64 (i:Int)] 3
    have HW5:Hid (w4.alloc (.cells #[.int .i64 (i:Int)] 3)=w5):=hw5
    obtain ⟨g5,hg5⟩:∃x,w4.heap.size=x:=⟨_,rfl⟩
    have HG5:Hid (w4.heap.size=g5):=hg5
    rw [hg5] at H5
    clear hw5 hg5
    go_wp2_with (at_builtin;rw [HW5.out,HG5.out];refine Net.appR 55 3 8 _ rfl info3' rfl w5 rfl _ _ rfl (x0+3) (.slice p1 p2 p3) (wv l i) (.slice (some ⟨g5,0,none⟩) 1 1) [.int .i64 (i:Int)] rfl rfl (H4.out.2.2.2.1.grown H5.out.2.1) (rd_blk H5.out.1) (by simp [Value.oneCell']) ?d0 ?d1 (by have h1:=H4.out.1.big;have h2:=H5.out.2.1.size;omega) ?_)
    case d0=>have:=HP2.out;simp;omega
    case d1=>have:=HP2.out;unfold maxLen;simp;omega
    intro v6 w6 hr6 hg6 hv6
    have H6:Hid (Bx w w6 x0 (.slice (some ⟨b,off,none⟩) n cap) q l/\MsgsIn w6 (x0+3) (.slice (some ⟨g',0,none⟩) (i+1) cap') (z ++ [(m,wr.heap.size,w1.heap.size)])/\Blk w6 x8 55 #[.slice p1 p2 p3]/\Net.Row 3 w6 (x0+3) v6 (wv l (i+1))/\w1.heap.size<=w6.heap.size):=by
     have hrow:=H4.out.2.2.2.1.grown H5.out.2.1
     refine ⟨(H4.out.1.grown H5.out.2.1).but hg6 fun k hk=>(hrow.lt k hk).1,?_,(H4.out.2.2.1.grown H5.out.2.1 (by simp)).grown hg6 fun e=>?_,?_,Nat.le_trans (Nat.le_trans H4.out.2.2.2.2 H5.out.2.1.size) hg6.size⟩
     ·cases hx:(Value.slice p1 p2 p3).ownBlock with
      | none =>
       rw [hx] at hg6
       exact (H4.out.2.1.grown H5.out.2.1).grown hg6
      | some k =>
       rw [hx] at hg6
       obtain ⟨D,hD⟩:=hrow.blk k hx
       exact (H4.out.2.1.grown H5.out.2.1).set hD (by decide) (by decide) (by decide) hg6
     ·obtain ⟨D,hD⟩:=hrow.blk _ e
      exact absurd (Net.blk_type (H4.out.2.2.1.grown H5.out.2.1 (by simp)) hD) (by decide)
     ·have e1:wv l (i+1)=wv l i ++ [.int .i64 (i:Int)]:=by
       unfold wv
       rw [wants_more HM.out.2.2.2.2 HOK.out]
       simp
      rw [e1]
      exact hr6
    clear hr6 hg6 hv6 c8
    obtain ⟨r1,r3,rfl⟩:=H6.out.2.2.2.1.sl
    obtain ⟨r2,hr2⟩:∃x,(wv l (i+1)).length=x:=⟨_,rfl⟩
    rw [hr2] at H6 ⊢
    clear hr2
    have c8:=H6.out.2.2.1.cell 0
    have f8:=H6.out.2.2.1.free 0
    simp at c8
    go_wp2_with fail
    go_roundw
    case rel =>
     have gs:w6.grownBy (w6.setCell ⟨x8,0,none⟩ (.slice r1 r2 r3)) (some x8):=grown_setCell _ _ _ _
     refine ⟨i+1,by go_num,by omega,.slice r1 r2 r3,_,H6.out.1.but gs fun k hk=>?_,H6.out.2.1.set H6.out.2.2.1 (by decide) (by decide) (by decide) gs,HZ.out.1,HZ.out.2.1,fun a ha=>Nat.le_trans (HZ.out.2.2 a ha) (Nat.le_trans H6.out.2.2.2.2 gs.size),H6.out.2.2.1.store 0 _,HI2.out.1.b8,H6.out.2.2.2.1.same fun k hk=>gs.block k (H6.out.2.2.2.1.lt k hk).2 fun e=>?_⟩
     ·simp at hk
      subst hk
      exact HI2.out.1.b8
     ·simp at e
      subst e
      obtain ⟨D,hD⟩:=H6.out.2.2.2.1.blk _ hk
      exact absurd (Net.blk_type H6.out.2.2.1 hD) (by decide)
    case measure=>simp [intOf];omega
  ·have i1:¬(i:Int)<(n:Int):=by omega
   go_wp2_with fail
   rw [<-HX.out.1,<-HX.out.2]
   refine HK.out _ _ ?_
   refine ⟨x8,_,wq,z,⟨rfl,rfl,rfl,rfl,rfl,rfl,rfl,rfl⟩,?_⟩
   have e:i=l.length:=by have:=HN.out;omega
   have h:=HI2.out.1
   rw [<-e]
   exact h
end Go.Proofs.YtncbdhdfemidlaaGreat
