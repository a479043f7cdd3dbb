import Derived.Test.YtncbdhdfemidlaaGreatQcdAll
namespace Go.Proofs.YtncbdhdfemidlaaGreat
open Go.RowKit Disk Table L5
open _root_.Go.Proofs.YtncbdhdfemidlaaGreat.Calls _root_.Go.Proofs.YtncbdhdfemidlaaGreat.Command
namespace L5
def wants (l:List PMsg)(i:Nat):List Nat:=(List.range i).filter fun j=>(l[j]?.map okM).getD false
theorem wants_more {l:List PMsg}{i:Nat}{m:PMsg}(h:l[i]? = some m)(ho:okM m=true):wants l (i+1)=wants l i ++ [i]:=by
 unfold wants
 rw [List.range_succ,List.filter_append]
 simp [h,ho]
theorem wants_skip {l:List PMsg}{i:Nat}{m:PMsg}(h:l[i]? = some m)(ho:okM m=false):wants l (i+1)=wants l i:=by
 unfold wants
 rw [List.range_succ,List.filter_append]
 simp [h,ho]
theorem wants_len (l:List PMsg)(i:Nat):(wants l i).length<=i:=by
 unfold wants
 refine Nat.le_trans (List.length_filter_le _ _) ?_
 simp
def wv (l:List PMsg)(i:Nat):List Value:=(wants l i).map fun (j:Nat)=>Value.int .i64 ((j:Nat):Int)
theorem wv_len (l:List PMsg)(i:Nat):(wv l i).length<=i:=by
 unfold wv
 rw [List.length_map]
 exact wants_len l i
theorem info3':(Tryz.prog.info? 3).map (fun i=>(i.zero,i.size,i.bytes))=some (some (.int .i64 0),1,8):=by kernel_rfl
theorem ownsRow_blk {w:World}{B t c n:Nat}{v:Value}{xs:List Value}(h:w.ownsRow B t c v n xs):∀k,v.ownBlock=some k->B<=k/\∃C,Blk w k t C:=by
 intro k hk
 rcases h.2 with ⟨rfl,_⟩ | ⟨g,cap,cur,rfl,hb,hg,_⟩
 ·simp [Value.ownBlock] at hk
 ·simp [Value.ownBlock] at hk
  subst hk
  exact ⟨hb,cur,hg⟩
theorem msgsIn_blk {w:World}{B:Nat}{v:Value}{l:List (PMsg × Nat × Nat)}(h:MsgsIn w B v l):∀k,v.ownBlock=some k->B<=k/\∃C,Blk w k 34 C:=by
 obtain ⟨⟨vs,h1,_⟩,_⟩:=h
 exact ownsRow_blk h1
theorem MsgsIn.len {w:World}{B:Nat}{v:Value}{l:List (PMsg × Nat × Nat)}(h:MsgsIn w B v l):∃x y,v=.slice x l.length y:=h.1.shape
structure BI (w W:World)(x0:Nat)(v:Value)(q:Int)(l:List PMsg)(x8:Nat)(x7 wq:Value)(z:List (PMsg × Nat × Nat))(i:Nat):Prop where
 bx:Bx w W x0 v q l
 ins:MsgsIn W (x0+3) x7 z
 zl:z.map (·.1)=l.take i
 zp:z.Pairwise fun a b=>a.2.2<=b.2.1
 zt:∀a ∈ z,a.2.2<=W.heap.size
 box:Blk W x8 55 #[wq]
 b8:x0+3<=x8
 row:Net.Row 3 W (x0+3) wq (wv l i)
theorem BI.zn {w W:World}{x0:Nat}{v:Value}{q:Int}{l:List PMsg}{x8:Nat}{x7 wq:Value}{z:List (PMsg × Nat × Nat)}{i:Nat}(h:BI w W x0 v q l x8 x7 wq z i)(hi:i<=l.length):z.length=i:=by
 have:=congrArg List.length h.zl
 simp at this
 omega
theorem BI.grown {w W W':World}{x0:Nat}{v:Value}{q:Int}{l:List PMsg}{x8:Nat}{x7 wq:Value}{z:List (PMsg × Nat × Nat)}{i:Nat}(h:BI w W x0 v q l x8 x7 wq z i)(hg:W.grownBy W' none):BI w W' x0 v q l x8 x7 wq z i:=⟨h.bx.grown hg,h.ins.grown hg,h.zl,h.zp,fun a ha=>Nat.le_trans (h.zt a ha) hg.size,h.box.grown hg (by simp),h.b8,h.row.grown hg⟩
theorem Bx.but {w W W':World}{x0:Nat}{v:Value}{q:Int}{l:List PMsg}(h:Bx w W x0 v q l){r:Option Nat}(hg:W.grownBy W' r)(hr:∀k,r=some k->x0+3<=k):Bx w W' x0 v q l:=by
 refine ⟨h.b0.grown hg fun e=>?_,h.b1.grown hg fun e=>?_,h.b2.grown hg fun e=>?_,h.lo,grown_new h.gr hg fun x hx=>?_,by have h1:=hg.size;have h2:=h.big;omega,h.ms,h.good⟩
 ·have:=hr _ e;omega
 ·have:=hr _ e;omega
 ·have:=hr _ e;omega
 ·have h1:=hr _ hx;have h2:=h.lo;omega
def AfterB (w:World)(x0:Nat)(v:Value)(q:Int)(l:List PMsg)(v10:Value)(a:Act)(W:World):Prop:=∃x8 x7 wq z,S5 a (.pointer (some ⟨x0,0,none⟩)) (.pointer (some ⟨x0+1,0,none⟩)) (.pointer (some ⟨x0+2,0,none⟩)) x7 (.pointer (some ⟨x8,0,none⟩)) v10/\BI w W x0 v q l x8 x7 wq z l.length
end L5
end Go.Proofs.YtncbdhdfemidlaaGreat
namespace Go.Proofs.YtncbdhdfemidlaaGreat
open Go.RowKit Disk Table L5
open _root_.Go.Proofs.YtncbdhdfemidlaaGreat.Calls _root_.Go.Proofs.YtncbdhdfemidlaaGreat.Command
namespace L5
structure DI (w W:World)(x0:Nat)(v:Value)(q:Int)(l:List PMsg)(x8:Nat)(wq x7:Value)(zz:List (Nat × Nat × Nat))(eb Z E:Nat)(vn:Value):Prop where
 bx:Bx w W x0 v q l
 box:Blk W x8 55 #[wq]
 b8:x0+3<=x8
 z8:x8<Z
 row:Net.Row 3 W (x0+3) wq (wv l l.length)
 rz:∀k,wq.ownBlock=some k->k<Z
 ans:Answers W (x0+3) x7 zz
 az:∀k,x7.ownBlock=some k->k<Z
 nb:Blk W eb 54 #[vn]
 nz:Z<=eb
 ne:eb<E
 st:Stay Z E W vn (l.map nowM)
 zp:∀i j (hi:i<zz.length) (hj:j<zz.length),i<j->zz[i].2.2<=zz[j].2.1
 zt:∀a ∈ zz,a.2.2<=Z
 zs:∀a ∈ zz,a.1<=140737488351232
 zn:zz.length=l.length
 zb:∀a ∈ zz,x0+3<=a.2.1
theorem DI.put {w W W':World}{x0:Nat}{v:Value}{q:Int}{l:List PMsg}{x8:Nat}{wq x7:Value}{zz:List (Nat × Nat × Nat)}{eb Z E:Nat}{vn:Value}(h:DI w W x0 v q l x8 wq x7 zz eb Z E vn){r:Option Nat}(hg:W.grownBy W' r)
  (hr:∀k,r=some k->x0+3<=k/\k<Z/\∃t C,Blk W k t C/\(t=34\/t=5)) (ha:Answers W' (x0+3) x7 zz):DI w W' x0 v q l x8 wq x7 zz eb Z E vn:=by
 refine ⟨h.bx.but hg fun k hk=>(hr k hk).1,h.box.grown hg fun e=>?_,h.b8,h.z8,h.row.same fun k hk=>hg.block k (h.row.lt k hk).2 fun e=>?_,h.rz,ha,h.az,h.nb.grown hg fun e=>?_,h.nz,h.ne,h.st.grown (Nat.le_trans h.st.1 hg.size) fun i h1 h2=>hg.block i (Nat.lt_of_lt_of_le h2 h.st.1) fun e=>?_,h.zp,h.zt,h.zs,h.zn,h.zb⟩
 ·obtain ⟨_,_,t,C,hC,ht⟩:=hr _ e
  have:=Net.blk_type h.box hC
  omega
 ·obtain ⟨_,_,t,C,hC,ht⟩:=hr _ e.symm
  obtain ⟨D,hD⟩:=h.row.blk k hk
  have:=Net.blk_type hD hC
  omega
 ·have:=(hr _ e).2.1
  have:=h.nz
  omega
 ·have:=(hr _ e.symm).2.1
  omega
theorem DI.grown {w W W':World}{x0:Nat}{v:Value}{q:Int}{l:List PMsg}{x8:Nat}{wq x7:Value}{zz:List (Nat × Nat × Nat)}{eb Z E:Nat}{vn:Value}(h:DI w W x0 v q l x8 wq x7 zz eb Z E vn)(hg:W.grownBy W' none):DI w W' x0 v q l x8 wq x7 zz eb Z E vn :=
 h.put hg (by simp) (LRow.grown h.ans anR_stab hg)
theorem msgsIn_lo {w:World}{B:Nat}{v:Value}{l:List (PMsg × Nat × Nat)}(h:MsgsIn w B v l):∀a ∈ l,B<=a.2.1:=by
 obtain ⟨⟨vs,h1,h2,h3,h4⟩,hl⟩:=h
 intro a ha
 obtain ⟨j,hj,rfl⟩:=List.getElem_of_mem ha
 obtain ⟨ov,av,e,h5,h6,h7,h8⟩:=h4 j (by omega) hj
 exact h7
theorem ans_some {w:World}{B n:Nat}{zo:Option Addr}{zc:Nat}{zz:List (Nat × Nat × Nat)}(h:Answers w B (.slice zo n zc) zz)(hn:0<zz.length):∃g C,zo=some ⟨g,0,none⟩/\B<=g/\Blk w g 34 C/\n=zz.length:=by
 obtain ⟨g,cap,x,e,_,_,hb,hB,_⟩:=LRow.cell h 0 hn
 simp at e
 exact ⟨g,_,e.1,hb,hB,e.2.1⟩
theorem ans_cell {w:World}{B g n cap:Nat}{zz:List (Nat × Nat × Nat)}(h:Answers w B (.slice (some ⟨g,0,none⟩) n cap) zz)(j i:Nat)(hj:j<zz.length)(hi:i<13):∃x,w.cell? ⟨g,j*13+i,none⟩=some x:=by
 obtain ⟨g',cap',x,e,hx,_,_,_,hc⟩:=LRow.cell h j hj
 simp at e
 obtain ⟨rfl,_⟩:=e
 exact ⟨x[i],by rw [hc i hi,List.getElem?_eq_getElem (by omega)]⟩
def AfterD (w:World)(x0:Nat)(v:Value)(q:Int)(l:List PMsg)(a:Act)(W:World):Prop:=∃x8 wq x7 zz eb Z E vn,S5 a (.pointer (some ⟨x0,0,none⟩)) (.pointer (some ⟨x0+1,0,none⟩)) (.pointer (some ⟨x0+2,0,none⟩)) x7 (.pointer (some ⟨x8,0,none⟩)) (.func (.func 69) #[] #[.pointer (some ⟨eb,0,none⟩)])/\DI w W x0 v q l x8 wq x7 zz eb Z E vn
end L5
end Go.Proofs.YtncbdhdfemidlaaGreat
