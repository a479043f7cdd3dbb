import Derived.Test.YtanoabliahcbeaaGreatCdxAll
import Derived.Test.YtanoabliahcbeaaGreatCnAll
import Derived.Deep.DeepCutAuto
namespace Go.Proofs.YtanoabliahcbeaaGreat.Calls
open Go.RowKit Disk
open Names (Str)
structure RK (w:World)(d ob:Nat)(ao:Option Addr)(cap:Nat)(L:Bs)(k:Nat)(b:Bool):Prop where
 seg:Seg w (.slice ao L.length cap) L
 rf:Blk w d 205 #[.slice ao L.length cap,.int .i64 k]
 ok:Blk w ob 4 #[.bool b]
 le:k<=L.length
 zz:L.length<=140737488355328
def RF (d ob:Nat):Nat->Prop:=fun i=>i=d\/i=ob
theorem RK.ne {w:World}{d ob:Nat}{ao:Option Addr}{cap:Nat}{L:Bs}{k:Nat}{b:Bool}(h:RK w d ob ao cap L k b):d≠ob:=by
 intro e
 have h1:=h.rf
 have h2:=h.ok
 rw [e] at h1
 unfold Blk at h1 h2
 rw [h1] at h2
 simp at h2
theorem RK.grown {w w':World}{d ob:Nat}{ao:Option Addr}{cap:Nat}{L:Bs}{k:Nat}{b:Bool}(h:RK w d ob ao cap L k b)(hg:w.grownBy w' none):RK w' d ob ao cap L k b :=
 ⟨h.seg.grown hg,h.rf.grown hg (by simp),h.ok.grown hg (by simp),h.le,h.zz⟩
theorem seg_blk {w w':World}{v:Value}{L:Bs}{g t:Nat}{c:Array Value}(h:Seg w v L)(hb:Blk w g t c)(hc:∀(j:Nat) (x:Int),c[j]?≠some (Value.int .u8 x))(hg:w.grownBy w' (some g)):Seg w' v L:=by
 refine h.of_cells fun b j x hx=>?_
 refine hg.cell hx ?_
 intro e
 have:b=g:=by simpa using e
 subst this
 rw [hb.cell j] at hx
 exact hc j x hx
theorem RK.at {w w':World}{d ob:Nat}{ao:Option Addr}{cap:Nat}{L:Bs}{k k':Nat}{b:Bool}(h:RK w d ob ao cap L k b)(hk:k'<=L.length)(hb:Blk w' d 205 #[.slice ao L.length cap,.int .i64 k'])(hg:w.grownBy w' (some d)):RK w' d ob ao cap L k' b:=by
 refine ⟨seg_blk h.seg h.rf (fun j x=>?_) hg,hb,h.ok.grown hg (by simp;exact h.ne),hk,h.zz⟩
 match j with
 | 0=>simp
 | 1=>simp
 | j+2=>simp
theorem RK.say {w:World}{d ob:Nat}{ao:Option Addr}{cap:Nat}{L:Bs}{k:Nat}{b:Bool}(h:RK w d ob ao cap L k b)(b':Bool):RK (w.setCell ⟨ob,0,none⟩ (.bool b')) d ob ao cap L k b':=by
 refine ⟨seg_blk h.seg h.ok (fun j x=>?_) (grown_setCell w ob 0 _),h.rf.grown (grown_setCell w ob 0 _) (by simp;exact h.ne.symm),h.ok.store 0 _,h.le,h.zz⟩
 match j with
 | 0=>simp
 | j+1=>simp
theorem fr_ob {w:World}{d ob:Nat}(v:Value):Fr w (w.setCell ⟨ob,0,none⟩ v) (RF d ob):=Fr.of (grown_setCell w ob 0 v) (fun k hk=>by simp at hk;exact Or.inr hk.symm)
theorem fr_n {w w':World}{d ob:Nat}(h:w.grownBy w' none):Fr w w' (RF d ob):=Fr.of h (fun k hk=>by cases hk)
theorem fr_t {a b c:World}{d ob:Nat}(h:Fr a b (RF d ob))(k:Fr b c (RF d ob)):Fr a c (RF d ob):=h.trans k (fun _ h=>Or.inl h)
theorem own_fr {w w':World}{d ob:Nat}{ao:Option Addr}{cap:Nat}{L M:Bs}{k B:Nat}{b:Bool}{v:Value}(h:Own w B v M)(hr:RK w d ob ao cap L k b)(hf:Fr w w' (RF d ob)):Own w' B v M:=by
 refine Own.same h fun q hq=>hf.block q (h.lt q hq).2 fun e=>?_
 rcases e with rfl | rfl
 ·exact h.other hr.rf (by decide) hq
 ·exact h.other hr.ok (by decide) hq
theorem blk_fr {w w':World}{d ob g t:Nat}{ao:Option Addr}{cap:Nat}{L:Bs}{k:Nat}{b:Bool}{c:Array Value}(h:Blk w g t c)(hr:RK w d ob ao cap L k b)(hf:Fr w w' (RF d ob))(h1:t≠205)(h2:t≠4):Blk w' g t c:=by
 refine h.same (hf.block g h.lt fun e=>?_)
 rcases e with rfl | rfl
 ·have h3:=hr.rf
  unfold Blk at h h3
  rw [h] at h3
  simp at h3
  exact h1 h3.2
 ·have h3:=hr.ok
  unfold Blk at h h3
  rw [h] at h3
  simp at h3
  exact h2 h3.2
def DkPost (d ob:Nat)(ao:Option Addr)(cap:Nat)(L:Bs)(k':Nat)(b':Bool)(w w':World):Prop:=RK w' d ob ao cap L k' b'/\Fr w w' (RF d ob)
theorem RK.other {w w':World}{d ob g t:Nat}{ao:Option Addr}{cap:Nat}{L:Bs}{k:Nat}{b:Bool}{c:Array Value}(h:RK w d ob ao cap L k b)(hb:Blk w g t c)(h1:t≠205)(h2:t≠4)(hc:∀(j:Nat) (x:Int),c[j]?≠some (Value.int .u8 x))(hg:w.grownBy w' (some g)):RK w' d ob ao cap L k b:=by
 have n1:g≠d:=fun e=>by
  have h3:=h.rf
  subst e
  unfold Blk at hb h3
  rw [hb] at h3
  simp at h3
  exact h1 h3.2
 have n2:g≠ob:=fun e=>by
  have h3:=h.ok
  subst e
  unfold Blk at hb h3
  rw [hb] at h3
  simp at h3
  exact h2 h3.2
 exact ⟨seg_blk h.seg hb hc hg,h.rf.grown hg (by simp;exact n1),h.ok.grown hg (by simp;exact n2),h.le,h.zz⟩
theorem fr_grown {a b c:World}{d ob:Nat}(h:a.grownBy b none)(hf:Fr b c (RF d ob))(h1:a.heap.size<=d)(h2:a.heap.size<=ob):a.grownBy c none :=
 ⟨hf.os.trans h.os,hf.tape.trans h.tape,hf.output.trans h.output,Nat.le_trans h.size hf.size,fun i hi _=>(hf.block i (Nat.lt_of_lt_of_le hi h.size) (fun e=>by rcases e with rfl | rfl <;> omega)).trans (h.block i hi (by simp))⟩
theorem fr_two {w w':World}{d ob:Nat}(h:Fr w w' (RF d ob))(hob:ob<w.heap.size):∃x:World,w.grownBy x (some d)/\x.grownBy w' (some ob):=by
 refine ⟨{ w' with heap:=w'.heap.setIfInBounds ob w.heap[ob] },⟨h.os,h.tape,h.output,by simpa using h.size,fun i hi hr=>?_⟩,⟨rfl,rfl,rfl,by simp,fun i hi hr=>?_⟩⟩
 ·by_cases e:ob=i
  ·subst e
   have h1:ob<w'.heap.size:=Nat.lt_of_lt_of_le hob h.size
   simp [h1,hob]
  ·simp only [Array.getElem?_setIfInBounds,if_neg e]
   exact h.block i hi (fun e2=>by
    rcases e2 with rfl | rfl
    ·exact hr rfl
    ·exact e rfl)
 ·have e:ob≠i:=fun e=>hr (by rw [e])
  simp only [Array.getElem?_setIfInBounds,if_neg e]
theorem opsOwn_fr {w w':World}{d ob:Nat}{ao:Option Addr}{cap:Nat}{L:Bs}{k B:Nat}{b:Bool}{v:Value}{l:List POp}(h:OpsOwn w B v l)(hr:RK w d ob ao cap L k b)(hf:Fr w w' (RF d ob)):OpsOwn w' B v l:=by
 obtain ⟨x,g1,g2⟩:=fr_two hf hr.ok.lt
 exact (h.set hr.rf (by decide) (by decide) g1).set (hr.ok.grown g1 (by simp;exact hr.ne)) (by decide) (by decide) g2
end Go.Proofs.YtanoabliahcbeaaGreat.Calls
