import Derived.Test.YtanoabliahcbeaaGreatCrjAll
import Derived.Test.YtanoabliahcbeaaGreatCallsRr
import Derived.Test.YtanoabliahcbeaaGreatCrbAll
import Derived.Deep.DeepCutAuto
set_option maxHeartbeats 16000000
set_option maxRecDepth 100000
namespace Go.Proofs.YtanoabliahcbeaaGreat.Calls
open Go.RowKit Disk
open Names (Str)
section
variable {w W W' W2 Wi:World} {d ob X Y:Nat} {ao:Option Addr} {cap:Nat} {L:Bs} {k k':Nat} {b b':Bool} {ab pl:Int} {v v':Value} {xs xs':List POut}
theorem rfr_grown (h:w.grownBy W none)(hf:Fr W W' (RF d ob))(h1:w.heap.size<=d)(h2:w.heap.size<=ob):w.grownBy W' none :=
 ⟨hf.os.trans h.os,hf.tape.trans h.tape,hf.output.trans h.output,Nat.le_trans h.size hf.size,fun i hi _=>(hf.block i (Nat.lt_of_lt_of_le hi h.size) (fun e=>by rcases e with rfl | rfl <;> omega)).trans (h.block i hi (by simp))⟩
theorem rfr_two (h:Fr w W' (RF d ob))(hob:ob<w.heap.size):∃x:World,w.grownBy x (some d)/\x.grownBy W' (some ob):=by
 refine ⟨{ W' with heap:=W'.heap.setIfInBounds ob w.heap[ob] },⟨h.os,h.tape,h.output,by simpa using h.size,fun i hi hr=>?_⟩,⟨rfl,rfl,rfl,by simp,fun i hi hr=>?_⟩⟩
 ·by_cases e:ob=i
  ·subst e
   have h1:ob<W'.heap.size:=Nat.lt_of_lt_of_le hob h.size
   simp [h1,hob]
  ·simp only [Array.getElem?_setIfInBounds,if_neg e]
   exact h.block i hi (fun e2=>by
    rcases e2 with rfl | rfl
    ·exact hr rfl
    ·exact e rfl)
 ·have e:ob≠i:=fun e=>hr (by rw [e])
  simp only [Array.getElem?_setIfInBounds,if_neg e]
theorem outs_fr {B:Nat}(h:OutsOwn W B v xs)(hr:RK W d ob ao cap L k b)(hf:Fr W W' (RF d ob)):OutsOwn W' B v xs:=by
 obtain ⟨x,g1,g2⟩:=rfr_two hf hr.ok.lt
 exact (h.set hr.rf (by decide) (by decide) (by decide) g1).set (hr.ok.grown g1 (by simp;exact hr.ne)) (by decide) (by decide) (by decide) g2
theorem rows_fr {B:Nat}{rs:List PRow}(h:RowsOwn W B v rs)(hr:RK W d ob ao cap L k b)(hf:Fr W W' (RF d ob)):RowsOwn W' B v rs:=by
 obtain ⟨x,g1,g2⟩:=rfr_two hf hr.ok.lt
 exact (h.set hr.rf (by decide) (by decide) g1).set (hr.ok.grown g1 (by simp;exact hr.ne)) (by decide) (by decide) g2
theorem rk_set (h:RK W d ob ao cap L k b)(h0:Seg w (.slice ao L.length cap) L)(hgw:w.grownBy W' none){g t:Nat}{c:Array Value}(hb:Blk W g t c)(h1:t≠205)(h2:t≠4)(hg:W.grownBy W' (some g)):RK W' d ob ao cap L k b :=
 ⟨h0.grown hgw,h.rf.grown hg (fun e=>by simp at e;subst e;exact h1 (blk_type hb h.rf)),h.ok.grown hg (fun e=>by simp at e;subst e;exact h2 (blk_type hb h.ok)),h.le,h.zz⟩
structure Ds (w:World)(X d ob:Nat)(ao:Option Addr)(cap:Nat)(L:Bs)(ab pl:Int)(v:Value)(xs:List POut)(k:Nat)(b:Bool)(W:World):Prop where
 outs:OutsOwn W w.heap.size v xs
 res:Blk W w.heap.size 174 #[.int .i64 0,.int .i64 0,.slice none 0 0]
 x:Blk W X 174 #[.int .i64 ab,.int .i64 pl,v]
 rk:RK W d ob ao cap L k b
 grown:w.grownBy W none
 seg:Seg w (.slice ao L.length cap) L
 lo:w.heap.size<d/\w.heap.size<ob/\w.heap.size<X
theorem Ds.more (h:Ds w X d ob ao cap L ab pl v xs k b W)(hg:W.grownBy W' none):Ds w X d ob ao cap L ab pl v xs k b W' :=
 ⟨h.outs.grown hg,h.res.grown hg (by simp),h.x.grown hg (by simp),h.rk.grown hg,grown_trans h.grown hg,h.seg,h.lo⟩
theorem Ds.fr (h:Ds w X d ob ao cap L ab pl v xs k b W)(hr:RK W' d ob ao cap L k' b')(hf:Fr W W' (RF d ob)):Ds w X d ob ao cap L ab pl v xs k' b' W' :=
 ⟨outs_fr h.outs h.rk hf,blk_fr h.res h.rk hf (by decide) (by decide),blk_fr h.x h.rk hf (by decide) (by decide),hr,rfr_grown h.grown hf (by have:=h.lo;omega) (by have:=h.lo;omega),h.seg,h.lo⟩
theorem Ds.place (h:Ds w X d ob ao cap L ab pl v xs k b W)(q:Int):Ds w X d ob ao cap L ab q v xs k b (W.setCell ⟨X,1,none⟩ (.int .i64 q)):=by
 have hg:=grown_setCell W X 1 (.int .i64 q)
 have hgw:=grown_new h.grown hg (fun y hy=>by simp at hy;have:=h.lo;omega)
 exact ⟨h.outs.set h.x (by decide) (by decide) (by decide) hg,h.res.grown hg (by have:=h.lo;simp;omega),h.x.store 1 _,rk_set h.rk h.seg hgw h.x (by decide) (by decide) hg,hgw,h.seg,h.lo⟩
theorem Ds.next (h:Ds w X d ob ao cap L ab pl v xs k b W)(hg:W.grownBy W2 v.ownBlock)(ho:OutsOwn W2 w.heap.size v' xs'):Ds w X d ob ao cap L ab pl v' xs' k b (W2.setCell ⟨X,2,none⟩ v'):=by
 have hg2:=grown_setCell W2 X 2 v'
 have ne:∀{q t c},Blk W q t c->t≠212->v.ownBlock≠some q:=fun hb ht e=>by
  obtain ⟨⟨vs,hvs,_⟩,_⟩:=h.outs
  obtain ⟨cur,hc⟩:=owns_blk hvs e
  exact ht (blk_type hb hc)
 have hx:=h.x.grown hg (ne h.x (by decide))
 have hres:=h.res.grown hg (ne h.res (by decide))
 have hgw:=grown_new h.grown hg (fun y hy=>(h.outs.1.lt y hy).1)
 have hrk:RK W2 d ob ao cap L k b:=⟨h.seg.grown hgw,h.rk.rf.grown hg (ne h.rk.rf (by decide)),h.rk.ok.grown hg (ne h.rk.ok (by decide)),h.rk.le,h.rk.zz⟩
 have hgw2:=grown_new hgw hg2 (fun y hy=>by simp at hy;have:=h.lo;omega)
 exact ⟨ho.set hx (by decide) (by decide) (by decide) hg2,hres.grown hg2 (by have:=h.lo;simp;omega),hx.store 2 _,rk_set hrk h.seg hgw2 hx (by decide) (by decide) hg2,hgw2,h.seg,h.lo⟩
structure Di (w:World)(X d ob:Nat)(ao:Option Addr)(cap:Nat)(L:Bs)(v:Value)(xs:List POut)(Wi:World)(Y:Nat)(hs:Bool)(vx:Value)(vl:Bs)(vr:Value)(rs:List PRow)(k:Nat)(b:Bool)(W:World):Prop where
 ds:∃k0 b0,Ds w X d ob ao cap L 0 0 v xs k0 b0 Wi
 fr:Fr Wi W (RF d ob)
 rk:RK W d ob ao cap L k b
 val:Own W Wi.heap.size vx vl
 rows:RowsOwn W Wi.heap.size vr rs
 y:Blk W Y 212 #[.bool hs,vx,vr]
 loY:Wi.heap.size<=Y
variable {hs:Bool} {vx vr vr':Value} {vl:Bs} {rs rs':List PRow}
theorem Di.full (h:Di w X d ob ao cap L v xs Wi Y hs vx vl vr rs k b W):Ds w X d ob ao cap L 0 0 v xs k b W:=by
 obtain ⟨k0,b0,hd⟩:=h.ds
 exact hd.fr h.rk h.fr
theorem Di.step (h:Di w X d ob ao cap L v xs Wi Y hs vx vl vr rs k b W)(hr:RK W' d ob ao cap L k' b')(hf:Fr W W' (RF d ob)):Di w X d ob ao cap L v xs Wi Y hs vx vl vr rs k' b' W' :=
 ⟨h.ds,fr_t h.fr hf,hr,own_fr h.val h.rk hf,rows_fr h.rows h.rk hf,blk_fr h.y h.rk hf (by decide) (by decide),h.loY⟩
theorem Di.more (h:Di w X d ob ao cap L v xs Wi Y hs vx vl vr rs k b W)(hg:W.grownBy W' none):Di w X d ob ao cap L v xs Wi Y hs vx vl vr rs k b W':=h.step (h.rk.grown hg) (fr_n hg)
theorem Di.next (h:Di w X d ob ao cap L v xs Wi Y hs vx vl vr rs k b W)(hg:W.grownBy W2 vr.ownBlock)(ho:RowsOwn W2 Wi.heap.size vr' rs'):Di w X d ob ao cap L v xs Wi Y hs vx vl vr' rs' k b (W2.setCell ⟨Y,2,none⟩ vr'):=by
 have hg2:=grown_setCell W2 Y 2 vr'
 have ne:∀{q t c},Blk W q t c->t≠214->vr.ownBlock≠some q:=fun hb ht e=>by
  obtain ⟨⟨vs,hvs,_⟩,_⟩:=h.rows
  obtain ⟨cur,hc⟩:=owns_blk hvs e
  exact ht (blk_type hb hc)
 have hF1:Fr W W2 (fun i=>Wi.heap.size<=i):=Fr.of hg (fun q hq=>(h.rows.1.lt q hq).1)
 have hF2:Fr W2 (W2.setCell ⟨Y,2,none⟩ vr') (fun i=>Wi.heap.size<=i):=Fr.of hg2 (fun q hq=>by simp at hq;subst hq;exact h.loY)
 have hfr:Fr Wi (W2.setCell ⟨Y,2,none⟩ vr') (RF d ob):=(h.fr.trans hF1 (fun _ hi=>.inr hi)).trans hF2 (fun _ hi=>.inr hi)
 obtain ⟨k0,b0,hd⟩:=h.ds
 have hgw:=rfr_grown hd.grown hfr (by have:=hd.lo;omega) (by have:=hd.lo;omega)
 have hy:=h.y.grown hg (ne h.y (by decide))
 have rf1:=h.rk.rf.grown hg (ne h.rk.rf (by decide))
 have ok1:=h.rk.ok.grown hg (ne h.rk.ok (by decide))
 have hv1:Own W2 Wi.heap.size vx vl:=by
  refine Own.same h.val fun q hq=>hg.block q (h.val.lt q hq).2 (fun e=>?_)
  obtain ⟨cur,hc⟩:=own_blk h.val hq
  exact ne hc (by decide) e.symm
 exact ⟨h.ds,hfr,⟨hd.seg.grown hgw,rf1.grown hg2 (fun e=>by simp at e;subst e;exact absurd (blk_type hy rf1) (by decide)),ok1.grown hg2 (fun e=>by simp at e;subst e;exact absurd (blk_type hy ok1) (by decide)),h.rk.le,h.rk.zz⟩,own_set hv1 hy (by decide) hg2,ho.set hy (by decide) (by decide) hg2,hy.store 2 _,h.loY⟩
end
end Go.Proofs.YtanoabliahcbeaaGreat.Calls
namespace Go.Proofs.YtanoabliahcbeaaGreat.Calls
def NS (L:Bs)(k:Nat)(b:Bool)(n k':Nat)(b':Bool):Prop:=∀m M,b=true->m<1073741824->L.drop k=Wire.numForm m ++ M->n=m/\L.drop k'=M/\b'=true
def PS (L:Bs)(k:Nat)(b:Bool)(out:Bs)(k':Nat)(b':Bool):Prop:=∀p M,b=true->p.length<=4096->L.drop k=bytesForm p ++ M->out=p/\L.drop k'=M/\b'=true
def FS (L:Bs)(k:Nat)(b:Bool)(is:Bool)(k':Nat)(b':Bool):Prop:=∀p M,b=true->L.drop k=flagForm p ++ M->is=p/\L.drop k'=M/\b'=true
theorem res_none {r:PRes}(h:mayRes r=true)(h0:r.abort=0):r.place=0/\1<=r.outs.length/\r.outs.length<=16/\r.outs.all mayOut=true:=by
 simp only [mayRes,if_pos h0,Bool.and_eq_true,decide_eq_true_eq] at h
 exact ⟨h.1.1.1,h.1.1.2,h.1.2,h.2⟩
theorem res_why {r:PRes}(h:mayRes r=true)(h0:¬r.abort=0):1<=r.abort/\r.abort<=3/\0<=r.place/\r.place<16/\r.outs=[]:=by
 simp only [mayRes,if_neg h0,Bool.and_eq_true,decide_eq_true_eq] at h
 exact ⟨h.1.1.1.1,h.1.1.1.2,h.1.1.2,h.1.2,List.eq_nil_of_length_eq_zero h.2⟩
def T0 (L:Bs)(a k1:Nat)(b1:Bool):Prop:=∀r,mayRes r=true->L=resForm r->(a:Int)=r.abort/\b1=true/\L.drop k1=(if r.abort=0 then listForm outForm r.outs else Wire.numForm r.place.toNat)
theorem t0_of {L:Bs}{a k1:Nat}{b1:Bool}(h:NS L 0 true a k1 b1):T0 L a k1 b1:=by
 intro r hr e
 by_cases h0:r.abort=0
 ·obtain ⟨h1,h2,h3⟩:=h 0 (listForm outForm r.outs) rfl (by omega) (by rw [List.drop_zero];conv=>lhs;rw [e];unfold resForm;rw [if_pos h0])
  exact ⟨by rw [h0];omega,h3,by rw [if_pos h0];exact h2⟩
 ·have hw:=res_why hr h0
  obtain ⟨h1,h2,h3⟩:=h r.abort.toNat (Wire.numForm r.place.toNat) rfl (by omega) (by rw [List.drop_zero];conv=>lhs;rw [e];unfold resForm;rw [if_neg h0])
  exact ⟨by omega,h3,by rw [if_neg h0];exact h2⟩
def TF (L:Bs)(ab pl:Int)(xs:List POut)(b:Bool):Prop:=∀r,mayRes r=true->L=resForm r->b=true/\r=⟨ab,pl,xs⟩
theorem tf_why {L:Bs}{a k1 p k2:Nat}{b1 b2:Bool}(ha:¬a=0)(h:T0 L a k1 b1)(h2:NS L k1 b1 p k2 b2):TF L a p [] b2:=by
 intro r hr e
 obtain ⟨q1,q2,q3⟩:=h r hr e
 have h0:¬r.abort=0:=by omega
 have hw:=res_why hr h0
 rw [if_neg h0] at q3
 obtain ⟨s1,_,s3⟩:=h2 r.place.toNat [] q2 (by omega) (by rw [q3,List.append_nil])
 refine ⟨s3,?_⟩
 obtain ⟨ab,pl,l⟩:=r
 simp only at q1 s1 hw
 simp only [PRes.mk.injEq]
 exact ⟨q1.symm,by omega,hw.2.2.2.2⟩
def TN (L:Bs)(n:Nat):Prop:=∀r,mayRes r=true->L=resForm r->n=r.outs.length/\r.abort=0
def T1 (L:Bs)(_n k:Nat)(xs:List POut)(k':Nat)(b:Bool):Prop:=∀r,mayRes r=true->L=resForm r->k<=r.outs.length->b=true/\xs=r.outs.take k/\L.drop k'=(r.outs.drop k).flatMap outForm
theorem t1_start {L:Bs}{k1 n k2:Nat}{b1 b2:Bool}(h:T0 L 0 k1 b1)(h2:NS L k1 b1 n k2 b2):TN L n/\T1 L n 0 [] k2 b2:=by
 have key:∀r,mayRes r=true->L=resForm r->n=r.outs.length/\r.abort=0/\b2=true/\L.drop k2=r.outs.flatMap outForm:=by
  intro r hr e
  obtain ⟨q1,q2,q3⟩:=h r hr e
  have h0:r.abort=0:=by omega
  have hn:=res_none hr h0
  rw [if_pos h0] at q3
  obtain ⟨s1,s2,s3⟩:=h2 r.outs.length (r.outs.flatMap outForm) q2 (by omega) q3
  exact ⟨s1,h0,s3,s2⟩
 exact ⟨fun r hr e=>⟨(key r hr e).1,(key r hr e).2.1⟩,fun r hr e _=>⟨(key r hr e).2.2.1,by simp,by rw [List.drop_zero];exact (key r hr e).2.2.2⟩⟩
theorem tf_none {L:Bs}{n k k':Nat}{b:Bool}{xs:List POut}(hn:TN L n)(h:T1 L n k xs k' b)(hk:k<=n)(hx:¬(k<n/\k<=16/\b=true)):TF L 0 0 xs b:=by
 intro r hr e
 obtain ⟨q1,q2⟩:=hn r hr e
 have hw:=res_none hr q2
 obtain ⟨s1,s2,_⟩:=h r hr e (by omega)
 refine ⟨s1,?_⟩
 have hkn:k=r.outs.length:=by
  by_cases h1:k<n/\k<=16
  ·exact absurd ⟨h1.1,h1.2,s1⟩ hx
  ·omega
 rw [hkn,List.take_length] at s2
 obtain ⟨ab,pl,l⟩:=r
 simp only at q2 s2 hw
 simp only [PRes.mk.injEq]
 exact ⟨q2,hw.1,s2.symm⟩
def T2 (L:Bs)(k:Nat)(is:Bool)(vl:Bs)(m j:Nat)(rs:List PRow)(k':Nat)(b:Bool):Prop :=
 ∀r,mayRes r=true->L=resForm r->∀(hi:k<r.outs.length),is=r.outs[k].has/\vl=r.outs[k].value/\m=r.outs[k].rows.length/\(j<=r.outs[k].rows.length->b=true/\rs=r.outs[k].rows.take j/\L.drop k'=(r.outs[k].rows.drop j).flatMap rowForm ++ (r.outs.drop (k+1)).flatMap outForm)
theorem out_may {r:PRes}(h:mayRes r=true){k:Nat}(hk:k<r.outs.length):mayOut r.outs[k]=true/\r.outs[k].value.length<=256/\r.outs[k].rows.length<=64/\r.outs[k].rows.all mayRow=true:=by
 have h0:r.abort=0:=by
  by_cases h0:r.abort=0
  ·exact h0
  ·have:=(res_why h h0).2.2.2.2
   rw [this] at hk
   simp at hk
 have hm:=List.all_eq_true.1 (res_none h h0).2.2.2 _ (List.getElem_mem hk)
 have hm2:=hm
 simp only [mayOut,Bool.and_eq_true,decide_eq_true_eq] at hm2
 exact ⟨hm,by simpa [Names.valueB] using hm2.1.1.1,hm2.1.1.2,hm2.2⟩
theorem t2_start {L:Bs}{n k k' k2 k3 k4 m:Nat}{xs:List POut}{b2 b3 b4 is:Bool}{vl:Bs}(h:T1 L n k xs k' true)(h1:FS L k' true is k2 b2)(h2:PS L k2 b2 vl k3 b3)(h3:NS L k3 b3 m k4 b4):T2 L k is vl m 0 [] k4 b4:=by
 intro r hr e hi
 obtain ⟨_,_,q⟩:=h r hr e (by omega)
 have hm:=out_may hr hi
 rw [List.drop_eq_getElem_cons hi,List.flatMap_cons] at q
 unfold outForm listForm at q
 simp only [List.append_assoc] at q
 obtain ⟨s1,s2,s3⟩:=h1 _ _ rfl q
 obtain ⟨u1,u2,u3⟩:=h2 _ _ s3 (by omega) s2
 obtain ⟨v1,v2,v3⟩:=h3 _ _ u3 (by omega) u2
 exact ⟨s1,u1,v1,fun _=>⟨v3,by simp,by rw [List.drop_zero];exact v2⟩⟩
theorem t2_next {L:Bs}{k k' k2 k3 m j:Nat}{b2 b3 is:Bool}{vl ky va:Bs}{rs:List PRow}(h:T2 L k is vl m j rs k' true)(h1:PS L k' true ky k2 b2)(h2:PS L k2 b2 va k3 b3):T2 L k is vl m (j+1) (rs ++ [(ky,va)]) k3 b3:=by
 intro r hr e hi
 obtain ⟨q1,q2,q3,q4⟩:=h r hr e hi
 have hm:=out_may hr hi
 refine ⟨q1,q2,q3,fun hj=>?_⟩
 obtain ⟨_,s2,s3⟩:=q4 (by omega)
 have hjl:j<r.outs[k].rows.length:=by omega
 have hrow:=List.all_eq_true.1 hm.2.2.2 _ (List.getElem_mem hjl)
 simp only [mayRow,Bool.and_eq_true] at hrow
 have hk1:=key_len hrow.1
 have hv1:r.outs[k].rows[j].2.length<=256:=by simpa [Names.valueB] using hrow.2
 rw [List.drop_eq_getElem_cons hjl,List.flatMap_cons] at s3
 unfold rowForm at s3
 simp only [List.append_assoc] at s3
 obtain ⟨u1,u2,u3⟩:=h1 _ _ rfl (by omega) s3
 obtain ⟨v1,v2,v3⟩:=h2 _ _ u3 (by omega) u2
 refine ⟨v3,?_,v2⟩
 rw [s2,u1,v1,List.take_succ_eq_append_getElem hjl]
theorem t1_next {L:Bs}{n k k' k4 m j:Nat}{xs:List POut}{b4 is:Bool}{vl:Bs}{rs:List PRow}(h:T1 L n k xs k' true)(h2:T2 L k is vl m j rs k4 b4)(hj:j<=m)(hx:¬(j<m/\j<=64/\b4=true)):T1 L n (k+1) (xs ++ [⟨is,vl,rs⟩]) k4 b4:=by
 intro r hr e hk
 have hi:k<r.outs.length:=by omega
 obtain ⟨_,s2,_⟩:=h r hr e (by omega)
 have hm:=out_may hr hi
 obtain ⟨q1,q2,q3,q4⟩:=h2 r hr e hi
 obtain ⟨u1,u2,u3⟩:=q4 (by omega)
 have hjm:j=r.outs[k].rows.length:=by
  by_cases h1:j<m/\j<=64
  ·exact absurd ⟨h1.1,h1.2,u1⟩ hx
  ·omega
 rw [hjm,List.take_length] at u2
 rw [hjm,List.drop_length] at u3
 refine ⟨u1,?_,by simpa using u3⟩
 rw [s2,List.take_succ_eq_append_getElem hi,q1,q2,u2]
theorem readR_of {L:Bs}{ab pl:Int}{xs:List POut}{b:Bool}(h:TF L ab pl xs b):readR L=if b=true/\mayRes ⟨ab,pl,xs⟩=true/\resForm ⟨ab,pl,xs⟩=L then (⟨ab,pl,xs⟩,0) else (⟨0,0,[]⟩,4):=by
 split
 ·rename_i hc
  unfold readR
  rw [pRes_iff.2 ⟨hc.2.1,hc.2.2.symm⟩]
 ·rename_i hc
  unfold readR
  cases hp:pRes L with
  | none=>rfl
  | some r =>
   exfalso
   obtain ⟨q1,q2⟩:=pRes_iff.1 hp
   obtain ⟨s1,s2⟩:=h r q1 q2
   exact hc ⟨s1,by rw [<-s2];exact q1,by rw [<-s2];exact q2.symm⟩
end Go.Proofs.YtanoabliahcbeaaGreat.Calls
namespace Go.Proofs.YtanoabliahcbeaaGreat.Calls
open Go.RowKit Disk
open Names (Str)
def NumP (d ob:Nat)(ao:Option Addr)(cap:Nat)(L:Bs)(k:Nat)(b:Bool)(w:World)(e:Ending)(w':World):Prop:=∃n k' b',e=.returned (.int .i64 ((n:Nat):Int))/\n<1073741824/\DkPost d ob ao cap L k' b' w w'/\NS L k b n k' b'
def PieceP (d ob:Nat)(ao:Option Addr)(cap:Nat)(L:Bs)(k:Nat)(b:Bool)(w:World)(e:Ending)(w':World):Prop:=∃v out k' b',e=.returned v/\Own w' w.heap.size v out/\DkPost d ob ao cap L k' b' w w'/\PS L k b out k' b'
def FlagP (d ob:Nat)(ao:Option Addr)(cap:Nat)(L:Bs)(k:Nat)(b:Bool)(w:World)(e:Ending)(w':World):Prop:=∃is k' b',e=.returned (.bool is)/\DkPost d ob ao cap L k' b' w w'/\FS L k b is k' b'
theorem number49s (d ob:Nat)(ao:Option Addr)(cap:Nat)(L:Bs)(k:Nat)(b:Bool)(w:World)(h:RK w d ob ao cap L k b):Calls Tryz.prog 134 #[.pointer (some ⟨d,0,none⟩),.pointer (some ⟨ob,0,none⟩)] w (NumP d ob ao cap L k b w):=number49 d ob ao cap L k b w h
theorem piece63s (d ob:Nat)(ao:Option Addr)(cap:Nat)(L:Bs)(k:Nat)(b:Bool)(w:World)(h:RK w d ob ao cap L k b):Calls Tryz.prog 136 #[.pointer (some ⟨d,0,none⟩),.pointer (some ⟨ob,0,none⟩)] w (PieceP d ob ao cap L k b w):=piece63 d ob ao cap L k b w h
theorem flag62s (d ob:Nat)(ao:Option Addr)(cap:Nat)(L:Bs)(k:Nat)(b:Bool)(w:World)(h:RK w d ob ao cap L k b):Calls Tryz.prog 135 #[.pointer (some ⟨d,0,none⟩),.pointer (some ⟨ob,0,none⟩)] w (FlagP d ob ao cap L k b w):=flag62 d ob ao cap L k b w h
theorem read29 (v:Value)(L:Bs)(w:World)(hs:Seg w v L)(hz:L.length<=140737488355328):Calls Tryz.prog 104 #[v] w (ReadRPost w (readR L)):=by
 have hs0:=hs
 obtain ⟨ao,cap,e⟩:=hs.shape
 subst e
 obtain ⟨lm,hlm⟩:∃m,L.length=m:=⟨_,rfl⟩
 have HS:Hid (Seg w (.slice ao L.length cap) L/\L.length=lm/\L.length<=140737488355328):=⟨hs0,hlm,hz⟩
 rw [hlm]
 clear hs hs0 hlm hz
 go_enter Tryz.func104,Tryz.ntmps104
 go_upto_region 3 with fail
 have S0:Hid (Blk (((w.alloc (.cells #[.int .i64 0,.int .i64 0,.slice none 0 0] 174)).alloc (.cells #[.slice ao lm cap,.int .i64 0] 205)).alloc (.cells #[.bool true] 4)) w.heap.size 174 #[.int .i64 0,.int .i64 0,.slice none 0 0]/\RK (((w.alloc (.cells #[.int .i64 0,.int .i64 0,.slice none 0 0] 174)).alloc (.cells #[.slice ao lm cap,.int .i64 0] 205)).alloc (.cells #[.bool true] 4)) (w.heap.size+1) (w.heap.size+1+1) ao cap L 0 true/\w.grownBy (((w.alloc (.cells #[.int .i64 0,.int .i64 0,.slice none 0 0] 174)).alloc (.cells #[.slice ao lm cap,.int .i64 0] 205)).alloc (.cells #[.bool true] 4)) none):=by
  have b0:=heap_alloc_new w (.cells #[.int .i64 0,.int .i64 0,.slice none 0 0] 174)
  have b1:=heap_alloc_new (w.alloc (.cells #[.int .i64 0,.int .i64 0,.slice none 0 0] 174)) (.cells #[.slice ao lm cap,.int .i64 0] 205)
  have b2:=heap_alloc_new ((w.alloc (.cells #[.int .i64 0,.int .i64 0,.slice none 0 0] 174)).alloc (.cells #[.slice ao lm cap,.int .i64 0] 205)) (.cells #[.bool true] 4)
  have g0:=World.grownBy_alloc w (.cells #[.int .i64 0,.int .i64 0,.slice none 0 0] 174) none
  have g1:=World.grownBy_alloc (w.alloc (.cells #[.int .i64 0,.int .i64 0,.slice none 0 0] 174)) (.cells #[.slice ao lm cap,.int .i64 0] 205) none
  have g2:=World.grownBy_alloc ((w.alloc (.cells #[.int .i64 0,.int .i64 0,.slice none 0 0] 174)).alloc (.cells #[.slice ao lm cap,.int .i64 0] 205)) (.cells #[.bool true] 4) none
  have ga:=grown_trans g0 (grown_trans g1 g2)
  refine ⟨Blk.grown b0 (grown_trans g1 g2) (by simp),⟨HS.out.1.grown ga,?_,?_,by omega,HS.out.2.2⟩,ga⟩
  ·have:=Blk.grown b1 g2 (by simp)
   rw [HS.out.2.1]
   simpa [Blk] using this
  ·simpa [Blk] using b2
 generalize (((w.alloc (.cells #[.int .i64 0,.int .i64 0,.slice none 0 0] 174)).alloc (.cells #[.slice ao lm cap,.int .i64 0] 205)).alloc (.cells #[.bool true] 4))=W0 at S0 ⊢
 obtain ⟨d,hd⟩:∃d,w.heap.size+1=d:=⟨_,rfl⟩
 rw [hd] at S0 ⊢
 obtain ⟨ob,hob⟩:∃d',d+1=d':=⟨_,rfl⟩
 rw [hob] at S0 ⊢
 have HLO:Hid (w.heap.size<d/\w.heap.size<ob):=⟨by omega,by omega⟩
 clear hd hob
 go_wp2_with (go_at_call 134;refine (number49s d ob ao cap L 0 true _ S0.out.2.1).mono ?_)
 rintro e w1 ⟨a,k1,b1,rfl,ha,⟨hrk,hfr⟩,hS⟩
 obtain ⟨X,hX⟩:∃X,w1.heap.size=X:=⟨_,rfl⟩
 have D0:Hid (Ds w X d ob ao cap L (a:Int) 0 (.slice none 0 0) [] k1 b1 (w1.alloc (.cells #[.int .i64 (a:Int),.int .i64 0,.slice none 0 0] 174))/\T0 L a k1 b1):=by
  have hg:=World.grownBy_alloc w1 (.cells #[.int .i64 (a:Int),.int .i64 0,.slice none 0 0] 174) none
  have gw:=rfr_grown S0.out.2.2 hfr (by have:=HLO.out;omega) (by have:=HLO.out;omega)
  refine ⟨⟨⟨lrow_nil _ _,by simp⟩,(blk_fr S0.out.1 S0.out.2.1 hfr (by decide) (by decide)).grown hg (by simp),by rw [<-hX];exact heap_alloc_new _ _,hrk.grown hg,grown_trans gw hg,HS.out.1,HLO.out.1,HLO.out.2,?_⟩,t0_of hS⟩
  have h1:=hrk.rf.lt
  have h2:=HLO.out.1
  omega
 clear hrk hfr hS S0
 go_upto_if 21 with fail
 try rw [hX]
 generalize (w1.alloc (.cells #[.int .i64 (a:Int),.int .i64 0,.slice none 0 0] 174))=W1 at D0 ⊢
 clear hX
 go_cut [] (fun wc=>∃(ab pl:Int) (v:Value) (xs:List POut) (k:Nat) (b:Bool),Ds w X d ob ao cap L ab pl v xs k b wc/\TF L ab pl xs b)
 case first =>
  by_cases h0:a=0
  ·subst h0
   go_wp2_with (go_at_call 134;refine (number49s d ob ao cap L k1 b1 _ D0.out.1.rk).mono ?_)
   rintro e w2 ⟨n,k2,b2,rfl,hn,⟨hrk,hfr⟩,hS⟩
   have D1:Hid (Ds w X d ob ao cap L 0 0 (.slice none 0 0) [] k2 b2 w2/\TN L n/\T1 L n 0 [] k2 b2):=⟨D0.out.1.fr hrk hfr,t1_start D0.out.2 hS⟩
   clear hrk hfr hS D0
   go_wp2_with fail
   go_loopw [8] (fun i wr=>∃(k k':Nat) (b:Bool) (xs:List POut) (v:Value),k<=17/\k<=n/\i=.int .i64 k/\Hid (xs.length=k)/\Hid (T1 L n k xs k' b)/\Hid (Ds w X d ob ao cap L 0 0 v xs k' b wr)) (fun i _=>17-(intOf i).toNat)
   case atStart=>exact ⟨0,k2,b2,[],_,by omega,by omega,rfl,rfl,D1.out.2.2,D1.out.1⟩
   case round =>
    obtain ⟨Wi,hWi⟩:∃W:World,W=wr:=⟨_,rfl⟩
    subst hWi
    obtain ⟨k,k',b,xs,v,hk17,hkn,rfl,HX,HT,HO⟩:=hrel
    obtain ⟨xa,na,ya,rfl,hna⟩:=HO.out.outs.slice
    clear hna
    obtain ⟨gb,hgb⟩:∃x,decide (k<n/\k<=16/\b=true)=x:=⟨_,rfl⟩
    have HGB:Hid (decide (k<n/\k<=16/\b=true)=gb):=hgb
    clear hgb
    have co:Wi.cell? ⟨ob,0,none⟩=some (.bool b):=HO.out.rk.ok.cell 0
    go_upto_region 8 with fail
    go_cut [36] (fun x wc=>x=.bool gb/\wc=Wi)
    case first =>
     by_cases h1:(k:Int)<(n:Int)
     ·by_cases h2:(k:Int)<=16
      ·go_wp2_with fail
       go_meet
       case rel=>exact ⟨by rw [<-HGB.out];cases b <;> simp <;> omega,rfl⟩
      ·go_wp2_with fail
       go_meet
       case rel=>exact ⟨by rw [<-HGB.out];simp;omega,rfl⟩
     ·go_wp2_with fail
      go_meet
      case rel=>exact ⟨by rw [<-HGB.out];simp;omega,rfl⟩
    case rest =>
     obtain ⟨rfl,hwc⟩:=hcut
     rw [hwc]
     clear hwc co
     refine (‹∀(a:Act) (w:World),Code.wp Tryz.prog _ _ a w->_› _ _ ?_)
     cases gb with
     | true =>
      have hgo:k<n/\k<=16/\b=true:=by simpa using HGB.out
      obtain ⟨hgo1,hgo2,rfl⟩:=hgo
      clear HGB
      go_wp2_with (go_at_call 135;refine (flag62s d ob ao cap L k' true _ HO.out.rk).mono ?_)
      rintro e w3 ⟨is,k3,b3,rfl,⟨hrk3,hfr3⟩,hS3⟩
      have D3:Hid (Ds w X d ob ao cap L 0 0 (.slice xa na ya) xs k3 b3 w3/\Fr Wi w3 (RF d ob)/\FS L k' true is k3 b3):=⟨HO.out.fr hrk3 hfr3,hfr3,hS3⟩
      clear hrk3 hfr3 hS3
      go_wp2_with (go_at_call 136;refine (piece63s d ob ao cap L k3 b3 _ D3.out.1.rk).mono ?_)
      rintro e w4 ⟨vx,vl,k4,b4,rfl,ho4,⟨hrk4,hfr4⟩,hS4⟩
      obtain ⟨x4,n4,y4,rfl⟩:=slice_of ho4
      obtain ⟨Y,hY⟩:∃Y,w4.heap.size=Y:=⟨_,rfl⟩
      have D4:Hid (Di w X d ob ao cap L (.slice xa na ya) xs Wi Y is (.slice x4 n4 y4) vl (.slice none 0 0) [] k4 b4 (w4.alloc (.cells #[.bool is,.slice x4 n4 y4,.slice none 0 0] 212))/\PS L k3 b3 vl k4 b4):=by
       have hg:=World.grownBy_alloc w4 (.cells #[.bool is,.slice x4 n4 y4,.slice none 0 0] 212) none
       refine ⟨⟨⟨k',true,HO.out⟩,fr_t (fr_t D3.out.2.1 hfr4) (fr_n hg),hrk4.grown hg,(ho4.mono D3.out.2.1.size).grown hg,⟨lrow_nil _ _,by simp⟩,by rw [<-hY];exact heap_alloc_new _ _,?_⟩,hS4⟩
       have h1:=D3.out.2.1.size
       have h2:=hfr4.size
       omega
      clear ho4 hrk4 hfr4 hS4
      go_wp2_with (go_at_call 134;refine (number49s d ob ao cap L k4 b4 _ D4.out.1.rk).mono ?_)
      rintro e w5 ⟨m,k5,b5,rfl,hm,⟨hrk5,hfr5⟩,hS5⟩
      try rw [hY]
      have D5:Hid (Di w X d ob ao cap L (.slice xa na ya) xs Wi Y is (.slice x4 n4 y4) vl (.slice none 0 0) [] k5 b5 w5/\T2 L k is vl m 0 [] k5 b5):=⟨D4.out.1.step hrk5 hfr5,t2_start HT.out D3.out.2.2 D4.out.2 hS5⟩
      clear hrk5 hfr5 hS5 D3 D4 hY
      go_wp2_with fail
      go_loopw [11] (fun i wr=>∃(j kk:Nat) (bb:Bool) (rs:List PRow) (vr:Value),j<=65/\j<=m/\i=.int .i64 j/\Hid (rs.length=j)/\Hid (T2 L k is vl m j rs kk bb)/\Hid (Di w X d ob ao cap L (.slice xa na ya) xs Wi Y is (.slice x4 n4 y4) vl vr rs kk bb wr)) (fun i _=>65-(intOf i).toNat)
      case atStart=>exact ⟨0,k5,b5,[],_,by omega,by omega,rfl,rfl,D5.out.2,D5.out.1⟩
      case round =>
       obtain ⟨j,kk,bb,rs,vr,hj65,hjm,rfl,HJL,HT2,HI⟩:=hrel
       clear D5
       obtain ⟨xr,nr,yr,rfl,hnr⟩:=HI.out.rows.slice
       clear hnr
       obtain ⟨gc,hgc⟩:∃x,decide (j<m/\j<=64/\bb=true)=x:=⟨_,rfl⟩
       have HGC:Hid (decide (j<m/\j<=64/\bb=true)=gc):=hgc
       clear hgc
       have co:wr.cell? ⟨ob,0,none⟩=some (.bool bb):=HI.out.rk.ok.cell 0
       go_upto_region 13 with fail
       go_cut [55] (fun x wc=>x=.bool gc/\wc=wr)
       case first =>
        by_cases h1:(j:Int)<(m:Int)
        ·by_cases h2:(j:Int)<=64
         ·go_wp2_with fail
          go_meet
          case rel=>exact ⟨by rw [<-HGC.out];cases bb <;> simp <;> omega,rfl⟩
         ·go_wp2_with fail
          go_meet
          case rel=>exact ⟨by rw [<-HGC.out];simp;omega,rfl⟩
        ·go_wp2_with fail
         go_meet
         case rel=>exact ⟨by rw [<-HGC.out];simp;omega,rfl⟩
       case rest =>
        obtain ⟨rfl,hwc⟩:=hcut
        rw [hwc]
        clear hwc co
        refine (‹∀(a:Act) (w:World),Code.wp Tryz.prog _ _ a w->_› _ _ ?_)
        cases gc with
        | true =>
         have hgo:j<m/\j<=64/\bb=true:=by simpa using HGC.out
         obtain ⟨hj1,hj2,rfl⟩:=hgo
         clear HGC
         go_wp2_with (go_at_call 136;refine (piece63s d ob ao cap L kk true _ HI.out.rk).mono ?_)
         rintro e w6 ⟨vk,ky,k6,b6,rfl,ho6,⟨hrk6,hfr6⟩,hS6⟩
         obtain ⟨x6,n6,y6,rfl⟩:=slice_of ho6
         have I6:Hid (Di w X d ob ao cap L (.slice xa na ya) xs Wi Y is (.slice x4 n4 y4) vl (.slice xr nr yr) rs k6 b6 w6/\Own w6 Wi.heap.size (.slice x6 n6 y6) ky/\PS L kk true ky k6 b6):=⟨HI.out.step hrk6 hfr6,ho6.mono HI.out.fr.size,hS6⟩
         clear ho6 hrk6 hfr6 hS6
         go_upto_region 16 with fail
         refine wp_region_hold 9 (fun x=>x.cell? ⟨Y,2,none⟩=some (.slice xr nr yr)) (by kernel_rfl) ?_
         have G0:Hid (Di w X d ob ao cap L (.slice xa na ya) xs Wi Y is (.slice x4 n4 y4) vl (.slice xr nr yr) rs k6 b6 w6.drew/\Own w6.drew Wi.heap.size (.slice x6 n6 y6) ky):=⟨I6.out.1.more (grown_drew _ _),I6.out.2.1.grown (grown_drew _ _)⟩
         generalize w6.drew=wd at G0 ⊢
         have J:Idx [0,1,2,3]:=trivial
         iterate 4 (refine tK J (G0.out.1.y.cell 2) rfl rfl (fun wk hk=>by skip;go_simp;try rfl) ?_;replace J:=J.tl;try simp only [pN])
         clear J
         refine wpHold_one (i:=4) rfl (by kernel_rfl) (by rfl) (fun K hK=>?_)
         go_wp2_with (go_at_call 136;refine (piece63s d ob ao cap L k6 b6 _ G0.out.1.rk).mono ?_)
         rintro e w7 ⟨vv,va,k7,b7,rfl,ho7,⟨hrk7,hfr7⟩,hS7⟩
         obtain ⟨x7,n7,y7,rfl⟩:=slice_of ho7
         have I7:Hid ((Di w X d ob ao cap L (.slice xa na ya) xs Wi Y is (.slice x4 n4 y4) vl (.slice xr nr yr) rs k7 b7 w7/\RowOwn w7 Wi.heap.size (.slice x6 n6 y6) (.slice x7 n7 y7) (ky,va))/\T2 L k is vl m (j+1) (rs ++ [(ky,va)]) k7 b7):=⟨⟨G0.out.1.step hrk7 hfr7,own_fr G0.out.2 G0.out.1.rk hfr7,ho7.mono G0.out.1.fr.size⟩,t2_next HT2.out I6.out.2.2 hS7⟩
         clear ho7 hrk7 hfr7 hS7 G0 I6
         go_wp2_with fail
         refine hK.out _ _ (fun _=>I7.out.1.1.y.cell 2) ?_
         clear hK K
         try simp only [pN]
         refine tK (i:=5) (l':=[]) trivial (I7.out.1.1.y.cell 2) rfl rfl (fun wk hk=>by skip;go_simp;try rfl) ?_
         try simp only [pN]
         refine wpHold_one (i:=6) rfl (by kernel_rfl) (by rfl) (fun K hK=>?_)
         go_wp2_with fail
         have I8:Hid (Di w X d ob ao cap L (.slice xa na ya) xs Wi Y is (.slice x4 n4 y4) vl (.slice xr nr yr) rs k7 b7 (w7.alloc (.cells #[.slice x6 n6 y6,.slice x7 n7 y7] 214))/\RowOwn (w7.alloc (.cells #[.slice x6 n6 y6,.slice x7 n7 y7] 214)) Wi.heap.size (.slice x6 n6 y6) (.slice x7 n7 y7) (ky,va)/\Blk (w7.alloc (.cells #[.slice x6 n6 y6,.slice x7 n7 y7] 214)) w7.heap.size 214 #[.slice x6 n6 y6,.slice x7 n7 y7]):=by
          have hg:=World.grownBy_alloc w7 (.cells #[.slice x6 n6 y6,.slice x7 n7 y7] 214) none
          exact ⟨I7.out.1.1.more hg,I7.out.1.2.grown hg,heap_alloc_new _ _⟩
         refine hK.out _ _ (fun _=>I8.out.1.y.cell 2) ?_
         clear hK K
         try simp only [pN]
         refine wpHold_one (i:=7) rfl (by kernel_rfl) (by rfl) (fun K hK=>?_)
         refine app56_wp _ (.tmp 61) (.tmp 66) rfl Wi.heap.size (.slice xr nr yr) rs (ky,va) _ _ _ rfl rfl I8.out.1.rows I8.out.2.2 I8.out.2.1 (by have:=HJL.out;omega) I8.out.1.fr.size ?_
         intro g' cap' w9 o9 g9 l9
         have I9:Hid (Di w X d ob ao cap L (.slice xa na ya) xs Wi Y is (.slice x4 n4 y4) vl (.slice (some ⟨g',0,none⟩) (rs.length+1) cap') (rs ++ [(ky,va)]) k7 b7 (w9.setCell ⟨Y,2,none⟩ (.slice (some ⟨g',0,none⟩) (rs.length+1) cap'))/\Blk w9 Y 212 #[.bool is,.slice x4 n4 y4,.slice xr nr yr]):=by
          refine ⟨I8.out.1.next g9 o9,I8.out.1.y.grown g9 (fun e=>?_)⟩
          obtain ⟨⟨vs,hvs,_⟩,_⟩:=I8.out.1.rows
          obtain ⟨cur,hc⟩:=owns_blk hvs e
          exact absurd (blk_type I8.out.1.y hc) (by decide)
         clear o9 g9 l9 I8
         rw [HJL.out] at I9 ⊢
         refine hK.out _ _ (fun _=>I9.out.2.cell 2) ?_
         clear hK K
         try simp only [pN]
         refine tK (i:=8) (l':=[]) trivial (I9.out.2.cell 2) rfl rfl (fun wk hk=>by skip;go_simp;try rfl) ?_
         try simp only [pN]
         refine wpHold_one (i:=9) rfl (by kernel_rfl) (by rfl) (fun K hK=>?_)
         have cc:=I9.out.2.cell 2
         have zz:=I9.out.2.free 2
         go_wp2_with fail
         refine hK.out _ _ (fun h=>absurd rfl h) ?_
         clear hK K cc zz
         try simp only [pN]
         refine wpHold_done (by kernel_rfl) ?_
         refine (‹∀(a:Act) (w:World),Code.wp Tryz.prog _ _ a w->_› _ _ ?_)
         go_wp2_with fail
         go_roundw
         case rel=>exact ⟨j+1,k7,b7,rs ++ [(ky,va)],_,by omega,by omega,by go_num,by have h:=HJL.out;unfold Hid;rw [List.length_append,h];rfl,I7.out.2,I9.out.1⟩
         case measure=>simp [intOf];omega
        | false =>
         have hgo:¬(j<m/\j<=64/\bb=true):=by simpa using HGC.out
         have HTN:Hid (T1 L n (k+1) (xs ++ [⟨is,vl,rs⟩]) kk bb):=t1_next HT.out HT2.out hjm hgo
         clear HGC hgo
         have HF:Hid (Ds w X d ob ao cap L 0 0 (.slice xa na ya) xs kk bb wr/\OutOwn wr w.heap.size (.slice x4 n4 y4) (.slice xr nr yr) ⟨is,vl,rs⟩/\Blk wr Y 212 #[.bool is,.slice x4 n4 y4,.slice xr nr yr]):=⟨HI.out.full,⟨HI.out.val.mono HO.out.grown.size,HI.out.rows.mono HO.out.grown.size⟩,HI.out.y⟩
         have q0:=HF.out.1.x.cell 2
         have q1:=HF.out.2.2.cell 0
         have q2:=HF.out.2.2.cell 1
         have q3:=HF.out.2.2.cell 2
         have HX1:Hid (OutsOwn (wr.alloc (.cells #[.bool is,.slice x4 n4 y4,.slice xr nr yr] 212)) w.heap.size (.slice xa na ya) xs/\Blk (wr.alloc (.cells #[.bool is,.slice x4 n4 y4,.slice xr nr yr] 212)) wr.heap.size 212 #[.bool is,.slice x4 n4 y4,.slice xr nr yr]/\OutOwn (wr.alloc (.cells #[.bool is,.slice x4 n4 y4,.slice xr nr yr] 212)) w.heap.size (.slice x4 n4 y4) (.slice xr nr yr) ⟨is,vl,rs⟩/\w.heap.size<=(wr.alloc (.cells #[.bool is,.slice x4 n4 y4,.slice xr nr yr] 212)).heap.size):=by
          have hg:=World.grownBy_alloc wr (.cells #[.bool is,.slice x4 n4 y4,.slice xr nr yr] 212) none
          exact ⟨HF.out.1.outs.grown hg,heap_alloc_new _ _,HF.out.2.1.grown hg,Nat.le_trans HF.out.1.grown.size hg.size⟩
         go_wp2_with (at_builtin;refine app54 _ rfl (.tmp 70) (.tmp 72) rfl w.heap.size (.slice xa na ya) xs ⟨is,vl,rs⟩ _ _ _ rfl rfl HX1.out.1 HX1.out.2.1 HX1.out.2.2.1 (by have:=HX.out;omega) HX1.out.2.2.2 ?_)
         intro g' cap' w9 o9 g9 l9
         clear q0 q1 q2 q3
         have hF2:Ds w X d ob ao cap L 0 0 (.slice xa na ya) xs kk bb (wr.alloc (.cells #[.bool is,.slice x4 n4 y4,.slice xr nr yr] 212)):=HF.out.1.more (World.grownBy_alloc _ _ none)
         have I9:Hid (Ds w X d ob ao cap L 0 0 (.slice (some ⟨g',0,none⟩) (xs.length+1) cap') (xs ++ [⟨is,vl,rs⟩]) kk bb (w9.setCell ⟨X,2,none⟩ (.slice (some ⟨g',0,none⟩) (xs.length+1) cap'))/\Blk w9 X 174 #[.int .i64 0,.int .i64 0,.slice xa na ya]):=by
          refine ⟨hF2.next g9 o9,hF2.x.grown g9 (fun e=>?_)⟩
          obtain ⟨⟨vs,hvs,_⟩,_⟩:=hF2.outs
          obtain ⟨cur,hc⟩:=owns_blk hvs e
          exact absurd (blk_type hF2.x hc) (by decide)
         clear o9 g9 l9 hF2 HX1
         rw [HX.out] at I9
         have cc:=I9.out.2.cell 2
         have zz:=I9.out.2.free 2
         try rw [HX.out]
         go_wp2_with fail
         go_roundw
         case rel=>exact ⟨k+1,kk,bb,xs ++ [(⟨is,vl,rs⟩:POut)],.slice (some ⟨g',0,none⟩) (k+1) cap',by omega,by omega,by go_num,by have h:=HX.out;unfold Hid;rw [List.length_append,h];rfl,HTN,I9.out.1⟩
         case measure=>simp [intOf];omega
     | false =>
      have hgo:¬(k<n/\k<=16/\b=true):=by simpa using HGB.out
      have HTF:Hid (TF L 0 0 xs b):=tf_none D1.out.2.1 HT.out hkn hgo
      clear HGB hgo
      go_wp2_with fail
      go_meet
      case rel=>exact ⟨0,0,_,xs,k',b,HO.out,HTF.out⟩
  ·have i0:((a:Int)==0)=false:=by simp;omega
   have i1:(a==0)=false:=by simp;omega
   have i2:(a=0)=False:=eq_false h0
   have HA0:Hid (¬a=0):=h0
   clear h0
   go_wp2_with (go_at_call 134;refine (number49s d ob ao cap L k1 b1 _ D0.out.1.rk).mono ?_)
   rintro e w2 ⟨p,k2,b2,rfl,hp,⟨hrk,hfr⟩,hS⟩
   have D1:Hid (Ds w X d ob ao cap L (a:Int) 0 (.slice none 0 0) [] k2 b2 w2/\TF L (a:Int) (p:Int) [] b2):=⟨D0.out.1.fr hrk hfr,tf_why HA0.out D0.out.2 hS⟩
   clear hrk hfr hS D0
   have c1:=D1.out.1.x.cell 1
   have f1:=D1.out.1.x.free 1
   go_wp2_with fail
   go_meet
   case rel=>exact ⟨a,p,_,[],k2,b2,D1.out.1.place _,D1.out.2⟩
 case rest =>
  obtain ⟨ab,pl,v,xs,k,b,hds,htf⟩:=hcut
  have HRD:Hid _:=readR_of htf
  obtain ⟨xa,na,ya,rfl,hna⟩:=hds.outs.slice
  have HO:Hid (Ds w X d ob ao cap L ab pl (.slice xa na ya) xs k b wc):=hds
  clear hna hds htf D0
  refine (‹∀(a:Act) (w:World),Code.wp Tryz.prog _ _ a w->_› _ _ ?_)
  have HC:Hid (∀x:World,wc.grownBy x none->x.cell? ⟨ob,0,none⟩=some (.bool b)/\x.cell? ⟨X,0,none⟩=some (.int .i64 ab)/\x.cell? ⟨X,1,none⟩=some (.int .i64 pl)/\x.cell? ⟨X,2,none⟩=some (.slice xa na ya)/\(convert 41 9 (.slice ao lm cap)).run Tryz.prog x=.ok (.string ⟨L.toArray⟩) x):=fun x hx=>by
   have h:=HO.out.more hx
   have hs:=seg_str (HS.out.1.grown h.grown)
   rw [HS.out.2.1] at hs
   exact ⟨h.rk.ok.cell 0,h.x.cell 0,h.x.cell 1,h.x.cell 2,hs⟩
  go_upto_region 18 with fail
  refine wp_region_noPanic ?_
  cases b with
  | false =>
   have HNO:Hid (readR L=(⟨0,0,[]⟩,4)):=by rw [HRD.out];simp [Hid]
   refine wp_region_hold 1000 (fun x=>wc.grownBy x none) (by kernel_rfl) ?_
   have G0:Hid (wc.grownBy wc.drew none):=grown_drew _ _
   generalize wc.drew=w4 at G0 ⊢
   have J:Idx [0,1,2]:=trivial
   iterate 3 (refine tK J (G0.out) rfl rfl (fun wk hk=>by obtain ⟨m0,m1,m2,m3,m4⟩:=HC.out wk hk;go_simp;try rfl) ?_;replace J:=J.tl;try simp only [pN])
   clear J
   have J:Idx [3,4,5]:=trivial
   iterate 3 (refine sk J (G0.out) rfl rfl ?_;replace J:=J.tl;try simp only [pN])
   clear J
   have J:Idx [6,7]:=trivial
   iterate 2 (refine tK J (G0.out) rfl rfl (fun wk hk=>by obtain ⟨m0,m1,m2,m3,m4⟩:=HC.out wk hk;go_simp;try rfl) ?_;replace J:=J.tl;try simp only [pN])
   clear J
   have J:Idx [8,9,10,11,12,13]:=trivial
   iterate 6 (refine sk J (G0.out) rfl rfl ?_;replace J:=J.tl;try simp only [pN])
   clear J
   refine tK (i:=14) (l':=[]) trivial (G0.out) rfl rfl (fun wk hk=>by obtain ⟨m0,m1,m2,m3,m4⟩:=HC.out wk hk;go_simp;try rfl) ?_
   try simp only [pN]
   refine wpHold_done (by kernel_rfl) ?_
   refine (‹∀(a:Act) (w:World),Code.wp Tryz.prog _ _ a w->_› _ _ ?_)
   have gg:wc.grownBy w4 none:=G0.out
   have E1:Hid (Blk w4 w.heap.size 174 #[.int .i64 0,.int .i64 0,.slice none 0 0]/\w.grownBy w4 none):=⟨HO.out.res.grown gg (by simp),grown_trans HO.out.grown gg⟩
   clear gg
   have cc:=E1.out.1.cell 0
   have cc1:=E1.out.1.cell 1
   have cc2:=E1.out.1.cell 2
   have zz:=E1.out.1.free 0
   have zz1:=E1.out.1.free 1
   have zz2:=E1.out.1.free 2
   go_wp2_with fail
   refine bodyPost_ret (v:=_) (results_row_tmp rfl _ _ w.heap.size _ rfl (run_loadVar_row _ w.heap.size 174 174 _ (0,0) _ (blk3 E1.out.1) Tryz.underlying174 rfl (by kernel_rfl))) rfl ?_
   rw [HNO.out]
   exact ⟨_,rfl,⟨lrow_nil _ _,by simp⟩,grown_new E1.out.2 (grow3 _ _ _ _ _) (fun y hy=>by simp at hy;omega)⟩
  | true =>
   cases hmy:mayRes ⟨ab,pl,xs⟩ with
   | false =>
    have HNO:Hid (readR L=(⟨0,0,[]⟩,4)):=by rw [HRD.out];simp [Hid,hmy]
    refine wp_region_hold 1000 (fun x=>wc.grownBy x none) (by kernel_rfl) ?_
    have G0:Hid (wc.grownBy wc.drew none):=grown_drew _ _
    generalize wc.drew=w4 at G0 ⊢
    have J:Idx [0,1,2,3]:=trivial
    iterate 4 (refine tK J (G0.out) rfl rfl (fun wk hk=>by obtain ⟨m0,m1,m2,m3,m4⟩:=HC.out wk hk;go_simp;try rfl) ?_;replace J:=J.tl;try simp only [pN])
    clear J
    refine wpHold_one (i:=4) rfl (by kernel_rfl) (by rfl) (fun K hK=>?_)
    go_wp2_with (go_at_call 137;refine (may31 _ ⟨ab,pl,xs⟩ _ (HO.out.outs.outs.grown G0.out)).mono ?_)
    rintro e w5 ⟨rfl,hg⟩
    rw [hmy]
    have G1:Hid (wc.grownBy w5 none):=grown_trans G0.out hg
    clear hg
    go_wp2_with fail
    refine hK.out _ _ (fun _=>G1.out) ?_
    clear hK K
    try simp only [pN]
    have J:Idx [5,6,7]:=trivial
    iterate 3 (refine tK J (G1.out) rfl rfl (fun wk hk=>by obtain ⟨m0,m1,m2,m3,m4⟩:=HC.out wk hk;go_simp;try rfl) ?_;replace J:=J.tl;try simp only [pN])
    clear J
    have J:Idx [8,9,10,11,12,13]:=trivial
    iterate 6 (refine sk J (G1.out) rfl rfl ?_;replace J:=J.tl;try simp only [pN])
    clear J
    refine tK (i:=14) (l':=[]) trivial (G1.out) rfl rfl (fun wk hk=>by obtain ⟨m0,m1,m2,m3,m4⟩:=HC.out wk hk;go_simp;try rfl) ?_
    try simp only [pN]
    refine wpHold_done (by kernel_rfl) ?_
    refine (‹∀(a:Act) (w:World),Code.wp Tryz.prog _ _ a w->_› _ _ ?_)
    have gg:wc.grownBy w5 none:=G1.out
    have E1:Hid (Blk w5 w.heap.size 174 #[.int .i64 0,.int .i64 0,.slice none 0 0]/\w.grownBy w5 none):=⟨HO.out.res.grown gg (by simp),grown_trans HO.out.grown gg⟩
    clear gg
    have cc:=E1.out.1.cell 0
    have cc1:=E1.out.1.cell 1
    have cc2:=E1.out.1.cell 2
    have zz:=E1.out.1.free 0
    have zz1:=E1.out.1.free 1
    have zz2:=E1.out.1.free 2
    go_wp2_with fail
    refine bodyPost_ret (v:=_) (results_row_tmp rfl _ _ w.heap.size _ rfl (run_loadVar_row _ w.heap.size 174 174 _ (0,0) _ (blk3 E1.out.1) Tryz.underlying174 rfl (by kernel_rfl))) rfl ?_
    rw [HNO.out]
    exact ⟨_,rfl,⟨lrow_nil _ _,by simp⟩,grown_new E1.out.2 (grow3 _ _ _ _ _) (fun y hy=>by simp at hy;omega)⟩
   | true =>
    by_cases heq:resForm ⟨ab,pl,xs⟩=L
    ·have HYES:Hid (readR L=(⟨ab,pl,xs⟩,0)):=by rw [HRD.out,if_pos ⟨rfl,hmy,heq⟩];rfl
     have e6:(resForm ⟨ab,pl,xs⟩==L)=true:=by rw [heq];simp
     have e7:(resForm ⟨ab,pl,xs⟩ != L)=false:=by rw [heq];simp
     have HMY:Hid (mayRes ⟨ab,pl,xs⟩=true):=hmy
     clear heq
     refine wp_region_hold 1000 (fun x=>wc.grownBy x none) (by kernel_rfl) ?_
     have G0:Hid (wc.grownBy wc.drew none):=grown_drew _ _
     generalize wc.drew=w4 at G0 ⊢
     have J:Idx [0,1,2,3]:=trivial
     iterate 4 (refine tK J (G0.out) rfl rfl (fun wk hk=>by obtain ⟨m0,m1,m2,m3,m4⟩:=HC.out wk hk;go_simp;try rfl) ?_;replace J:=J.tl;try simp only [pN])
     clear J
     refine wpHold_one (i:=4) rfl (by kernel_rfl) (by rfl) (fun K hK=>?_)
     go_wp2_with (go_at_call 137;refine (may31 _ ⟨ab,pl,xs⟩ _ (HO.out.outs.outs.grown G0.out)).mono ?_)
     rintro e w5 ⟨rfl,hg⟩
     rw [HMY.out]
     have G1:Hid (wc.grownBy w5 none):=grown_trans G0.out hg
     clear hg
     go_wp2_with fail
     refine hK.out _ _ (fun _=>G1.out) ?_
     clear hK K
     try simp only [pN]
     have J:Idx [5,6,7,8,11,12]:=trivial
     iterate 6 (refine tK J (G1.out) rfl rfl (fun wk hk=>by obtain ⟨m0,m1,m2,m3,m4⟩:=HC.out wk hk;go_simp;try rfl) ?_;replace J:=J.tl;try simp only [pN])
     clear J
     refine wpHold_one (i:=9) rfl (by kernel_rfl) (by rfl) (fun K hK=>?_)
     go_wp2_with (go_at_call 138;refine (form32 _ ⟨ab,pl,xs⟩ _ HMY.out (HO.out.outs.outs.grown G1.out)).mono ?_)
     rintro e w6 ⟨u3,rfl,ho,hg⟩
     obtain ⟨f3,q3,e3⟩:=ho.seg.shape
     obtain ⟨l3,hl3⟩:∃l,(resForm ⟨ab,pl,xs⟩).length=l:=⟨_,rfl⟩
     rw [hl3] at e3
     subst e3
     have G2:Hid (wc.grownBy w6 none/\Seg w6 (.slice f3 l3 q3) (resForm ⟨ab,pl,xs⟩)):=⟨grown_trans G1.out hg,ho.seg⟩
     clear hg ho hl3
     go_wp2_with fail
     refine hK.out _ _ (fun _=>G2.out.1) ?_
     clear hK K
     have m5:(convert 41 9 (.slice f3 l3 q3)).run Tryz.prog w6=.ok (.string ⟨(resForm ⟨ab,pl,xs⟩).toArray⟩) w6:=seg_str G2.out.2
     try simp only [pN]
     refine wpHold_one (i:=10) rfl (by kernel_rfl) (by rfl) (fun K hK=>?_)
     go_wp2_with fail
     refine hK.out _ _ (fun _=>G2.out.1) ?_
     clear hK K
     clear m5
     try simp only [pN]
     refine wpHold_one (i:=13) rfl (by kernel_rfl) (by rfl) (fun K hK=>?_)
     go_wp2_with fail
     refine hK.out _ _ (fun _=>G2.out.1) ?_
     clear hK K
     try simp only [pN]
     refine tK (i:=14) (l':=[]) trivial (G2.out.1) rfl rfl (fun wk hk=>by obtain ⟨m0,m1,m2,m3,m4⟩:=HC.out wk hk;go_simp;try rfl) ?_
     try simp only [pN]
     refine wpHold_done (by kernel_rfl) ?_
     refine (‹∀(a:Act) (w:World),Code.wp Tryz.prog _ _ a w->_› _ _ ?_)
     have gg:wc.grownBy w6 none:=G2.out.1
     have E1:Hid (Blk w6 w.heap.size 174 #[.int .i64 0,.int .i64 0,.slice none 0 0]/\w.grownBy w6 none/\OutsOwn w6 w.heap.size (.slice xa na ya) xs/\Blk w6 X 174 #[.int .i64 ab,.int .i64 pl,.slice xa na ya]):=⟨HO.out.res.grown gg (by simp),grown_trans HO.out.grown gg,HO.out.outs.grown gg,HO.out.x.grown gg (by simp)⟩
     clear gg
     have cc:=E1.out.1.cell 0
     have cc1:=E1.out.1.cell 1
     have cc2:=E1.out.1.cell 2
     have zz:=E1.out.1.free 0
     have zz1:=E1.out.1.free 1
     have zz2:=E1.out.1.free 2
     have c3:=E1.out.2.2.2.cell 0
     have c4:=E1.out.2.2.2.cell 1
     have c5:=E1.out.2.2.2.cell 2
     go_wp2_with fail
     refine bodyPost_ret (v:=_) (results_row_tmp rfl _ _ w.heap.size _ rfl (run_loadVar_row _ w.heap.size 174 174 _ (0,0) _ (blk3 E1.out.1) Tryz.underlying174 rfl (by kernel_rfl))) rfl ?_
     rw [HYES.out]
     exact ⟨_,rfl,E1.out.2.2.1.set E1.out.1 (by decide) (by decide) (by decide) (grow3 _ _ _ _ _),grown_new E1.out.2.1 (grow3 _ _ _ _ _) (fun y hy=>by simp at hy;omega)⟩
    ·have HNO:Hid (readR L=(⟨0,0,[]⟩,4)):=by rw [HRD.out,if_neg (fun h=>heq h.2.2)];rfl
     have e6:(resForm ⟨ab,pl,xs⟩==L)=false:=by simpa using heq
     have e7:(resForm ⟨ab,pl,xs⟩ != L)=true:=by simpa using heq
     have HMY:Hid (mayRes ⟨ab,pl,xs⟩=true):=hmy
     clear heq
     refine wp_region_hold 1000 (fun x=>wc.grownBy x none) (by kernel_rfl) ?_
     have G0:Hid (wc.grownBy wc.drew none):=grown_drew _ _
     generalize wc.drew=w4 at G0 ⊢
     have J:Idx [0,1,2,3]:=trivial
     iterate 4 (refine tK J (G0.out) rfl rfl (fun wk hk=>by obtain ⟨m0,m1,m2,m3,m4⟩:=HC.out wk hk;go_simp;try rfl) ?_;replace J:=J.tl;try simp only [pN])
     clear J
     refine wpHold_one (i:=4) rfl (by kernel_rfl) (by rfl) (fun K hK=>?_)
     go_wp2_with (go_at_call 137;refine (may31 _ ⟨ab,pl,xs⟩ _ (HO.out.outs.outs.grown G0.out)).mono ?_)
     rintro e w5 ⟨rfl,hg⟩
     rw [HMY.out]
     have G1:Hid (wc.grownBy w5 none):=grown_trans G0.out hg
     clear hg
     go_wp2_with fail
     refine hK.out _ _ (fun _=>G1.out) ?_
     clear hK K
     try simp only [pN]
     have J:Idx [5,6,7,8,11,12]:=trivial
     iterate 6 (refine tK J (G1.out) rfl rfl (fun wk hk=>by obtain ⟨m0,m1,m2,m3,m4⟩:=HC.out wk hk;go_simp;try rfl) ?_;replace J:=J.tl;try simp only [pN])
     clear J
     refine wpHold_one (i:=9) rfl (by kernel_rfl) (by rfl) (fun K hK=>?_)
     go_wp2_with (go_at_call 138;refine (form32 _ ⟨ab,pl,xs⟩ _ HMY.out (HO.out.outs.outs.grown G1.out)).mono ?_)
     rintro e w6 ⟨u3,rfl,ho,hg⟩
     obtain ⟨f3,q3,e3⟩:=ho.seg.shape
     obtain ⟨l3,hl3⟩:∃l,(resForm ⟨ab,pl,xs⟩).length=l:=⟨_,rfl⟩
     rw [hl3] at e3
     subst e3
     have G2:Hid (wc.grownBy w6 none/\Seg w6 (.slice f3 l3 q3) (resForm ⟨ab,pl,xs⟩)):=⟨grown_trans G1.out hg,ho.seg⟩
     clear hg ho hl3
     go_wp2_with fail
     refine hK.out _ _ (fun _=>G2.out.1) ?_
     clear hK K
     have m5:(convert 41 9 (.slice f3 l3 q3)).run Tryz.prog w6=.ok (.string ⟨(resForm ⟨ab,pl,xs⟩).toArray⟩) w6:=seg_str G2.out.2
     try simp only [pN]
     refine wpHold_one (i:=10) rfl (by kernel_rfl) (by rfl) (fun K hK=>?_)
     go_wp2_with fail
     refine hK.out _ _ (fun _=>G2.out.1) ?_
     clear hK K
     clear m5
     try simp only [pN]
     refine wpHold_one (i:=13) rfl (by kernel_rfl) (by rfl) (fun K hK=>?_)
     go_wp2_with fail
     refine hK.out _ _ (fun _=>G2.out.1) ?_
     clear hK K
     try simp only [pN]
     refine tK (i:=14) (l':=[]) trivial (G2.out.1) rfl rfl (fun wk hk=>by obtain ⟨m0,m1,m2,m3,m4⟩:=HC.out wk hk;go_simp;try rfl) ?_
     try simp only [pN]
     refine wpHold_done (by kernel_rfl) ?_
     refine (‹∀(a:Act) (w:World),Code.wp Tryz.prog _ _ a w->_› _ _ ?_)
     have gg:wc.grownBy w6 none:=G2.out.1
     have E1:Hid (Blk w6 w.heap.size 174 #[.int .i64 0,.int .i64 0,.slice none 0 0]/\w.grownBy w6 none):=⟨HO.out.res.grown gg (by simp),grown_trans HO.out.grown gg⟩
     clear gg
     have cc:=E1.out.1.cell 0
     have cc1:=E1.out.1.cell 1
     have cc2:=E1.out.1.cell 2
     have zz:=E1.out.1.free 0
     have zz1:=E1.out.1.free 1
     have zz2:=E1.out.1.free 2
     go_wp2_with fail
     refine bodyPost_ret (v:=_) (results_row_tmp rfl _ _ w.heap.size _ rfl (run_loadVar_row _ w.heap.size 174 174 _ (0,0) _ (blk3 E1.out.1) Tryz.underlying174 rfl (by kernel_rfl))) rfl ?_
     rw [HNO.out]
     exact ⟨_,rfl,⟨lrow_nil _ _,by simp⟩,grown_new E1.out.2 (grow3 _ _ _ _ _) (fun y hy=>by simp at hy;omega)⟩
end Go.Proofs.YtanoabliahcbeaaGreat.Calls
