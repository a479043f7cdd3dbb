import Derived.Test.YtncbdhdfemidlaaGreatQegAll
set_option maxHeartbeats 8000000
set_option maxRecDepth 100000
namespace Go.Proofs.YtncbdhdfemidlaaGreat
open Go.RowKit Disk Table L5
open _root_.Go.Proofs.YtncbdhdfemidlaaGreat.Calls _root_.Go.Proofs.YtncbdhdfemidlaaGreat.Command
theorem partD (HG:ReadGood)(a:Act)(w W:World)(x0:Nat)(v:Value)(q:Int)(l:List PMsg)(v10:Value)(Q:Exit->Act->World->Prop)
  (h:AfterB w x0 v q l v10 a W) (hk:∀a W',AfterD w x0 v q l a W'->r25.wp Tryz.prog Q a W'):r17.wp Tryz.prog Q a W:=by
 obtain ⟨x8,x7,wq,z,hS,hI⟩:=h
 have HI0:Hid (BI w W x0 v q l x8 x7 wq z l.length):=hI
 obtain ⟨t,rfl⟩:=hS.eq
 have HK:Hid (ReadGood/\∀a W',AfterD w x0 v q l a W'->r25.wp Tryz.prog Q a W'):=⟨HG,hk⟩
 obtain ⟨x1,hx1⟩:∃x,x0+1=x:=⟨_,rfl⟩
 obtain ⟨x2,hx2⟩:∃x,x0+2=x:=⟨_,rfl⟩
 have HX:Hid (x0+1=x1/\x0+2=x2):=⟨hx1,hx2⟩
 rw [hx1,hx2]
 have hzl:=hI.zl
 rw [List.take_length] at hzl
 obtain ⟨zo,zc,rfl⟩:=L5.MsgsIn.len hI.ins
 obtain ⟨n,hn⟩:∃n,z.length=n:=⟨_,rfl⟩
 have HN:Hid (z.length=n/\n<=1034834473200/\l.length=n/\z.map (·.1)=l):=⟨hn,by rw [<-hn];exact hI.ins.2,by have:=congrArg List.length hzl;simp at this;omega,hzl⟩
 have hub:n<=1034834473200:=HN.out.2.1
 rw [hn] at HI0 ⊢
 clear hS hI hk hx1 hx2 HG hzl hn
 rw [r17_eq,r20_eq]
 unfold r20 r17 r9 b5
 dsimp only [Tryz.f5,Option.getD,cL,cR]
 go_wp2_with fail
 refine (each21 HK.out.1 (.slice zo n zc) l W (by have h:=HI0.out.ins.own.msgs;rw [HN.out.2.2.2] at h;exact h) HI0.out.bx.good).mono ?_
 rintro e W1 ⟨eb,ge,rfl,he1,he2,he3,he4⟩
 have H1:Hid (DI w W1 x0 v q l x8 wq (.slice zo n zc) (z.map fun a=>(a.1.tell.answer.length,a.2)) eb W.heap.size W1.heap.size (.slice (some ⟨ge,0,none⟩) l.length l.length)):=by
  have h:=HI0.out
  have hz:=HN.out
  refine ⟨h.bx.grown he4,h.box.grown he4 (by simp),h.b8,h.box.lt,h.row.grown he4,fun k hk=>(h.row.lt k hk).2,(h.ins.grown he4).answers,fun k hk=>?_,he2,he1,he2.lt,he3.stay,?_,?_,?_,?_,?_⟩
  ·obtain ⟨_,C,hC⟩:=msgsIn_blk h.ins k hk
   exact hC.lt
  ·intro i j hi hj hij
   simp only [List.getElem_map]
   exact List.pairwise_iff_getElem.1 h.zp i j (by simpa using hi) (by simpa using hj) hij
  ·intro a ha
   obtain ⟨b,hb,rfl⟩:=List.mem_map.1 ha
   exact h.zt b hb
  ·intro a ha
   obtain ⟨b,hb,rfl⟩:=List.mem_map.1 ha
   have hm:b.1 ∈ l:=by rw [<-hz.2.2.2];exact List.mem_map.2 ⟨b,hb,rfl⟩
   have:=(h.bx.good _ hm).len
   simp only
   omega
  ·rw [List.length_map,hz.1,hz.2.2.1]
  ·intro a ha
   obtain ⟨b,hb,rfl⟩:=List.mem_map.1 ha
   exact msgsIn_lo h.ins b hb
 obtain ⟨zz,hzz⟩:∃zz,(z.map fun a=>(a.1.tell.answer.length,a.2))=zz:=⟨_,rfl⟩
 obtain ⟨Z,hZ⟩:∃x,W.heap.size=x:=⟨_,rfl⟩
 obtain ⟨E,hE⟩:∃x,W1.heap.size=x:=⟨_,rfl⟩
 obtain ⟨vn,hvn⟩:∃x,Value.slice (some ⟨ge,0,none⟩) l.length l.length=x:=⟨_,rfl⟩
 rw [hzz,hZ,hE,hvn] at H1
 clear hzz hZ hE hvn he1 he2 he3 he4
 have hfn:∀wk,(binOp .eql 57 (.func (.func 69) #[] #[.pointer (some ⟨eb,0,none⟩)]) .nilFunc).run Tryz.prog wk=.ok (.bool false) wk:=fun _=>rfl
 go_wp2_with fail
 clear hfn
 go_loopw [11] (fun p wr=>∃i:Nat,p=.int .i64 (i:Nat)/\i<=n/\Hid (DI w wr x0 v q l x8 wq (.slice zo n zc) zz eb Z E vn)) (fun p _=>n-(intOf p).toNat)
 case atStart=>exact ⟨0,rfl,Nat.zero_le _,H1.out⟩
 case round =>
  obtain ⟨i,rfl,hi,HR⟩:=hrel
  by_cases hlt:i<n
  ·have i1:(i:Int)<(n:Int):=by omega
   have i2:(0:Int)<=(i:Int):=by omega
   have hz:Hid (i<zz.length):=by have h1:=HR.out.zn;have h2:=HN.out.2.2.1;unfold Hid;omega
   obtain ⟨g,C,rfl,hgB,hgC,hnz⟩:=ans_some HR.out.ans (by have:=hz.out;omega)
   have HC:Hid (x0+3<=g/\Blk wr g 34 C):=⟨hgB,hgC⟩
   clear hgB hgC hnz
   obtain ⟨y,k1⟩:=ans_cell HR.out.ans i 1 hz.out (by omega)
   have f1:=HC.out.2.free (i*13+1)
   go_upto_region 24 with fail
   have H2:Hid (DI w (wr.setCell ⟨g,i*13+1,none⟩ (.int .i64 99)) x0 v q l x8 wq (.slice (some ⟨g,0,none⟩) n zc) zz eb Z E vn):=by
    obtain ⟨h1,h2⟩:=answers_put HR.out.ans i 1 hz.out (by omega) (.int .i64 99)
    refine HR.out.put h2 (fun k hk=>?_) h1
    simp at hk
    subst hk
    exact ⟨HC.out.1,HR.out.az g rfl,_,_,HC.out.2,.inl rfl⟩
   obtain ⟨w2,hw2⟩:∃x,wr.setCell ⟨g,i*13+1,none⟩ (.int .i64 99)=x:=⟨_,rfl⟩
   rw [hw2] at H2 ⊢
   clear hw2 k1 f1 HC
   obtain ⟨av,L,k12,ho,hL,hb,hput⟩:=answers_at H2.out.ans i hz.out
   have HA:Hid (Disk.Own w2 zz[i].2.1 av L/\L.length=zz[i].1/\(∀b,av.ownBlock=some b->b<zz[i].2.2)/\∀w',w2.grownBy w' av.ownBlock->(∃L',Disk.Own w' zz[i].2.1 av L'/\L'.length=L.length)->(∀k (hi:k<zz.length),k≠i->zz[k].2.2<=zz[i].2.1\/zz[i].2.2<=zz[k].2.1)->Answers w' (x0+3) (.slice (some ⟨g,0,none⟩) n zc) zz):=⟨ho,hL,hb,hput⟩
   clear ho hL hb hput
   go_wp2_with fail
   refine (over14 zz[i].2.1 av L w2 HA.out.1 (by rw [HA.out.2.1];exact Nat.le_trans (H2.out.zs _ (List.getElem_mem hz.out)) (by omega))).mono ?_
   rintro e w3 ⟨rfl,hg3,hL3⟩
   have H3:Hid (DI w w3 x0 v q l x8 wq (.slice (some ⟨g,0,none⟩) n zc) zz eb Z E vn):=by
    have hd:∀k (hi:k<zz.length),k≠i->zz[k].2.2<=zz[i].2.1\/zz[i].2.2<=zz[k].2.1:=fun k hk hne=>by
     rcases Nat.lt_or_gt_of_ne hne with h | h
     ·exact .inl (H2.out.zp k i hk hz.out h)
     ·exact .inr (H2.out.zp i k hz.out hk h)
    refine H2.out.put hg3 (fun k hk=>?_) (HA.out.2.2.2 w3 hg3 hL3 hd)
    obtain ⟨cur,hb⟩:=owns_blk HA.out.1 hk
    have h1:=(HA.out.1.lt k hk).1
    have h2:=H2.out.zb _ (List.getElem_mem hz.out)
    have h3:=HA.out.2.2.1 k hk
    have h4:=H2.out.zt _ (List.getElem_mem hz.out)
    exact ⟨by omega,by omega,_,_,hb,.inr rfl⟩
   clear hg3 hL3 k12
   go_wp2_with fail
   go_roundw
   case rel=>exact ⟨i+1,by go_num,by omega,H3.out⟩
   case measure=>simp [intOf];omega
  ·have i1:¬(i:Int)<(n:Int):=by omega
   go_wp2_with fail
   rw [<-HX.out.1,<-HX.out.2]
   exact HK.out.2 _ _ ⟨x8,wq,_,zz,eb,Z,E,vn,⟨rfl,rfl,rfl,rfl,rfl,rfl,rfl,rfl⟩,HR.out⟩
end Go.Proofs.YtncbdhdfemidlaaGreat
