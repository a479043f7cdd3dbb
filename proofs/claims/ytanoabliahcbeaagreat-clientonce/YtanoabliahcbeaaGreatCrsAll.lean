import Derived.Test.YtanoabliahcbeaaGreatCrjAll
import Derived.Test.YtanoabliahcbeaaGreatCallsRr
import Derived.Test.YtanoabliahcbeaaGreatCrbAll
import Derived.Deep.DeepCutAuto
namespace Go.Proofs.YtanoabliahcbeaaGreat.Calls
open Go.RowKit Disk
open Names (Str)
section
variable {w W W' W2 Wi:World} {d ob X Y:Nat} {ao:Option Addr} {cap:Nat} {L:Bs} {k k':Nat} {b b':Bool} {ab pl:Int} {v v':Value} {xs xs':List POut}
theorem rfr_grown (h:w.grownBy W none)(hf:Fr W W' (RF d ob))(h1:w.heap.size<=d)(h2:w.heap.size<=ob):w.grownBy W' none :=
 ⟨hf.os.trans h.os,hf.tape.trans h.tape,hf.output.trans h.output,Nat.le_trans h.size hf.size,fun i hi _=>(hf.block i (Nat.lt_of_lt_of_le hi h.size) (fun e=>by rcases e with rfl | rfl <;> omega)).trans (h.block i hi (by simp))⟩
theorem rfr_two (h:Fr w W' (RF d ob))(hob:ob<w.heap.size):∃x:World,w.grownBy x (some d)/\x.grownBy W' (some ob):=by
 refine ⟨{ W' with heap:=W'.heap.setIfInBounds ob w.heap[ob] },⟨h.os,h.tape,h.output,by simpa using h.size,fun i hi hr=>?_⟩,⟨rfl,rfl,rfl,by simp,fun i hi hr=>?_⟩⟩
 ·by_cases e:ob=i
  ·subst e
   have h1:ob<W'.heap.size:=Nat.lt_of_lt_of_le hob h.size
   simp [h1,hob]
  ·simp only [Array.getElem?_setIfInBounds,if_neg e]
   exact h.block i hi (fun e2=>by
    rcases e2 with rfl | rfl
    ·exact hr rfl
    ·exact e rfl)
 ·have e:ob≠i:=fun e=>hr (by rw [e])
  simp only [Array.getElem?_setIfInBounds,if_neg e]
theorem outs_fr {B:Nat}(h:OutsOwn W B v xs)(hr:RK W d ob ao cap L k b)(hf:Fr W W' (RF d ob)):OutsOwn W' B v xs:=by
 obtain ⟨x,g1,g2⟩:=rfr_two hf hr.ok.lt
 exact (h.set hr.rf (by decide) (by decide) (by decide) g1).set (hr.ok.grown g1 (by simp;exact hr.ne)) (by decide) (by decide) (by decide) g2
theorem rows_fr {B:Nat}{rs:List PRow}(h:RowsOwn W B v rs)(hr:RK W d ob ao cap L k b)(hf:Fr W W' (RF d ob)):RowsOwn W' B v rs:=by
 obtain ⟨x,g1,g2⟩:=rfr_two hf hr.ok.lt
 exact (h.set hr.rf (by decide) (by decide) g1).set (hr.ok.grown g1 (by simp;exact hr.ne)) (by decide) (by decide) g2
theorem rk_set (h:RK W d ob ao cap L k b)(h0:Seg w (.slice ao L.length cap) L)(hgw:w.grownBy W' none){g t:Nat}{c:Array Value}(hb:Blk W g t c)(h1:t≠205)(h2:t≠4)(hg:W.grownBy W' (some g)):RK W' d ob ao cap L k b :=
 ⟨h0.grown hgw,h.rf.grown hg (fun e=>by simp at e;subst e;exact h1 (blk_type hb h.rf)),h.ok.grown hg (fun e=>by simp at e;subst e;exact h2 (blk_type hb h.ok)),h.le,h.zz⟩
structure Ds (w:World)(X d ob:Nat)(ao:Option Addr)(cap:Nat)(L:Bs)(ab pl:Int)(v:Value)(xs:List POut)(k:Nat)(b:Bool)(W:World):Prop where
 outs:OutsOwn W w.heap.size v xs
 res:Blk W w.heap.size 174 #[.int .i64 0,.int .i64 0,.slice none 0 0]
 x:Blk W X 174 #[.int .i64 ab,.int .i64 pl,v]
 rk:RK W d ob ao cap L k b
 grown:w.grownBy W none
 seg:Seg w (.slice ao L.length cap) L
 lo:w.heap.size<d/\w.heap.size<ob/\w.heap.size<X
theorem Ds.more (h:Ds w X d ob ao cap L ab pl v xs k b W)(hg:W.grownBy W' none):Ds w X d ob ao cap L ab pl v xs k b W' :=
 ⟨h.outs.grown hg,h.res.grown hg (by simp),h.x.grown hg (by simp),h.rk.grown hg,grown_trans h.grown hg,h.seg,h.lo⟩
theorem Ds.fr (h:Ds w X d ob ao cap L ab pl v xs k b W)(hr:RK W' d ob ao cap L k' b')(hf:Fr W W' (RF d ob)):Ds w X d ob ao cap L ab pl v xs k' b' W' :=
 ⟨outs_fr h.outs h.rk hf,blk_fr h.res h.rk hf (by decide) (by decide),blk_fr h.x h.rk hf (by decide) (by decide),hr,rfr_grown h.grown hf (by have:=h.lo;omega) (by have:=h.lo;omega),h.seg,h.lo⟩
theorem Ds.place (h:Ds w X d ob ao cap L ab pl v xs k b W)(q:Int):Ds w X d ob ao cap L ab q v xs k b (W.setCell ⟨X,1,none⟩ (.int .i64 q)):=by
 have hg:=grown_setCell W X 1 (.int .i64 q)
 have hgw:=grown_new h.grown hg (fun y hy=>by simp at hy;have:=h.lo;omega)
 exact ⟨h.outs.set h.x (by decide) (by decide) (by decide) hg,h.res.grown hg (by have:=h.lo;simp;omega),h.x.store 1 _,rk_set h.rk h.seg hgw h.x (by decide) (by decide) hg,hgw,h.seg,h.lo⟩
theorem Ds.next (h:Ds w X d ob ao cap L ab pl v xs k b W)(hg:W.grownBy W2 v.ownBlock)(ho:OutsOwn W2 w.heap.size v' xs'):Ds w X d ob ao cap L ab pl v' xs' k b (W2.setCell ⟨X,2,none⟩ v'):=by
 have hg2:=grown_setCell W2 X 2 v'
 have ne:∀{q t c},Blk W q t c->t≠212->v.ownBlock≠some q:=fun hb ht e=>by
  obtain ⟨⟨vs,hvs,_⟩,_⟩:=h.outs
  obtain ⟨cur,hc⟩:=owns_blk hvs e
  exact ht (blk_type hb hc)
 have hx:=h.x.grown hg (ne h.x (by decide))
 have hres:=h.res.grown hg (ne h.res (by decide))
 have hgw:=grown_new h.grown hg (fun y hy=>(h.outs.1.lt y hy).1)
 have hrk:RK W2 d ob ao cap L k b:=⟨h.seg.grown hgw,h.rk.rf.grown hg (ne h.rk.rf (by decide)),h.rk.ok.grown hg (ne h.rk.ok (by decide)),h.rk.le,h.rk.zz⟩
 have hgw2:=grown_new hgw hg2 (fun y hy=>by simp at hy;have:=h.lo;omega)
 exact ⟨ho.set hx (by decide) (by decide) (by decide) hg2,hres.grown hg2 (by have:=h.lo;simp;omega),hx.store 2 _,rk_set hrk h.seg hgw2 hx (by decide) (by decide) hg2,hgw2,h.seg,h.lo⟩
structure Di (w:World)(X d ob:Nat)(ao:Option Addr)(cap:Nat)(L:Bs)(v:Value)(xs:List POut)(Wi:World)(Y:Nat)(hs:Bool)(vx:Value)(vl:Bs)(vr:Value)(rs:List PRow)(k:Nat)(b:Bool)(W:World):Prop where
 ds:∃k0 b0,Ds w X d ob ao cap L 0 0 v xs k0 b0 Wi
 fr:Fr Wi W (RF d ob)
 rk:RK W d ob ao cap L k b
 val:Own W Wi.heap.size vx vl
 rows:RowsOwn W Wi.heap.size vr rs
 y:Blk W Y 212 #[.bool hs,vx,vr]
 loY:Wi.heap.size<=Y
variable {hs:Bool} {vx vr vr':Value} {vl:Bs} {rs rs':List PRow}
theorem Di.step (h:Di w X d ob ao cap L v xs Wi Y hs vx vl vr rs k b W)(hr:RK W' d ob ao cap L k' b')(hf:Fr W W' (RF d ob)):Di w X d ob ao cap L v xs Wi Y hs vx vl vr rs k' b' W' :=
 ⟨h.ds,fr_t h.fr hf,hr,own_fr h.val h.rk hf,rows_fr h.rows h.rk hf,blk_fr h.y h.rk hf (by decide) (by decide),h.loY⟩
theorem Di.more (h:Di w X d ob ao cap L v xs Wi Y hs vx vl vr rs k b W)(hg:W.grownBy W' none):Di w X d ob ao cap L v xs Wi Y hs vx vl vr rs k b W':=h.step (h.rk.grown hg) (fr_n hg)
theorem Di.next (h:Di w X d ob ao cap L v xs Wi Y hs vx vl vr rs k b W)(hg:W.grownBy W2 vr.ownBlock)(ho:RowsOwn W2 Wi.heap.size vr' rs'):Di w X d ob ao cap L v xs Wi Y hs vx vl vr' rs' k b (W2.setCell ⟨Y,2,none⟩ vr'):=by
 have hg2:=grown_setCell W2 Y 2 vr'
 have ne:∀{q t c},Blk W q t c->t≠214->vr.ownBlock≠some q:=fun hb ht e=>by
  obtain ⟨⟨vs,hvs,_⟩,_⟩:=h.rows
  obtain ⟨cur,hc⟩:=owns_blk hvs e
  exact ht (blk_type hb hc)
 have hF1:Fr W W2 (fun i=>Wi.heap.size<=i):=Fr.of hg (fun q hq=>(h.rows.1.lt q hq).1)
 have hF2:Fr W2 (W2.setCell ⟨Y,2,none⟩ vr') (fun i=>Wi.heap.size<=i):=Fr.of hg2 (fun q hq=>by simp at hq;subst hq;exact h.loY)
 have hfr:Fr Wi (W2.setCell ⟨Y,2,none⟩ vr') (RF d ob):=(h.fr.trans hF1 (fun _ hi=>.inr hi)).trans hF2 (fun _ hi=>.inr hi)
 obtain ⟨k0,b0,hd⟩:=h.ds
 have hgw:=rfr_grown hd.grown hfr (by have:=hd.lo;omega) (by have:=hd.lo;omega)
 have hy:=h.y.grown hg (ne h.y (by decide))
 have rf1:=h.rk.rf.grown hg (ne h.rk.rf (by decide))
 have ok1:=h.rk.ok.grown hg (ne h.rk.ok (by decide))
 have hv1:Own W2 Wi.heap.size vx vl:=by
  refine Own.same h.val fun q hq=>hg.block q (h.val.lt q hq).2 (fun e=>?_)
  obtain ⟨cur,hc⟩:=own_blk h.val hq
  exact ne hc (by decide) e.symm
 exact ⟨h.ds,hfr,⟨hd.seg.grown hgw,rf1.grown hg2 (fun e=>by simp at e;subst e;exact absurd (blk_type hy rf1) (by decide)),ok1.grown hg2 (fun e=>by simp at e;subst e;exact absurd (blk_type hy ok1) (by decide)),h.rk.le,h.rk.zz⟩,own_set hv1 hy (by decide) hg2,ho.set hy (by decide) (by decide) hg2,hy.store 2 _,h.loY⟩
end
end Go.Proofs.YtanoabliahcbeaaGreat.Calls
namespace Go.Proofs.YtanoabliahcbeaaGreat.Calls
end Go.Proofs.YtanoabliahcbeaaGreat.Calls
namespace Go.Proofs.YtanoabliahcbeaaGreat.Calls
open Go.RowKit Disk
open Names (Str)
end Go.Proofs.YtanoabliahcbeaaGreat.Calls
