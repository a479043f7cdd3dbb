import Derived.Test.YtakmlhhapegpoaaGreatMqsAll
namespace Go.Proofs.YtakmlhhapegpoaaGreat
open Go.RowKit Disk Table
def Kp (w w':World):Prop:=∀k j p,w.cell? ⟨k,j,none⟩=some (ptr p)->w'.cell? ⟨k,j,none⟩=some (ptr p)
def Sp5 (X:Nat->Prop)(w w':World):Prop:=w.heap.size<=w'.heap.size/\(∀i,i<w.heap.size->(X i/\∃c,Blk w i 5 c)\/(∃c,Blk w i 67 c)\/(∃c,Blk w i 61 c)\/w'.heap[i]? = w.heap[i]?)/\Kp w w'
theorem Sp5.refl (X:Nat->Prop)(w:World):Sp5 X w w:=⟨Nat.le_refl _,fun _ _=>.inr (.inr (.inr rfl)),fun _ _ _ h=>h⟩
theorem Sp5.trans {X:Nat->Prop}{a b c:World}(h:Sp5 X a b)(k:Sp5 X b c):Sp5 X a c:=by
 refine ⟨Nat.le_trans h.1 k.1,fun i hi=>?_,fun i j p hp=>k.2.2 i j p (h.2.2 i j p hp)⟩
 rcases h.2.1 i hi with h1 | h1 | h1 | h1
 ·exact .inl h1
 ·exact .inr (.inl h1)
 ·exact .inr (.inr (.inl h1))
 ·rcases k.2.1 i (Nat.lt_of_lt_of_le hi h.1) with ⟨hx,c',h2⟩ | ⟨c',h2⟩ | ⟨c',h2⟩ | h2
  ·exact .inl ⟨hx,c',h2.same h1.symm⟩
  ·exact .inr (.inl ⟨c',h2.same h1.symm⟩)
  ·exact .inr (.inr (.inl ⟨c',h2.same h1.symm⟩))
  ·exact .inr (.inr (.inr (h2.trans h1)))
theorem sp5_grown {X:Nat->Prop}{w w':World}(h:w.grownBy w' none):Sp5 X w w':=⟨h.size,fun i hi=>.inr (.inr (.inr (h.block i hi (by simp)))),fun _ _ _ hp=>h.cell hp (by simp)⟩
theorem Sp5.mono {X Y:Nat->Prop}{w w':World}(h:Sp5 X w w')(hi:∀g,X g->Y g):Sp5 Y w w':=⟨h.1,fun i hl=>(h.2.1 i hl).imp (fun h=>⟨hi i h.1,h.2⟩) id,h.2.2⟩
theorem sp5_store {X:Nat->Prop}{w:World}{g j t:Nat}{c:Array Value}{u v:Value}(hb:Blk w g t c)(ht:(t=5/\X g)\/t=67\/t=61)(hc:w.cell? ⟨g,j,none⟩=some u)(hu:noP u):Sp5 X w (w.setCell ⟨g,j,none⟩ v):=by
 refine ⟨by simp,fun i hi=>?_,fun k j' p hp=>?_⟩
 ·by_cases e:i=g
  ·subst e
   rcases ht with ⟨rfl,hx⟩ | rfl | rfl
   ·exact .inl ⟨hx,c,hb⟩
   ·exact .inr (.inl ⟨c,hb⟩)
   ·exact .inr (.inr (.inl ⟨c,hb⟩))
  ·exact .inr (.inr (.inr (heap_setCell_other w _ i _ e)))
 ·by_cases e:k=g
  ·subst e
   by_cases e2:j'=j
   ·subst e2
    rw [hp] at hc
    simp at hc
    exact absurd hc.symm (hu p)
   ·rw [(hb.store j v).cell j',Array.getElem?_setIfInBounds,if_neg (fun e=>e2 e.symm),<-hb.cell j']
    exact hp
  ·exact (grown_setCell w g j v).cell hp (by simp;exact fun e'=>e e')
theorem blk_ne {w:World}{i t t':Nat}{c c':Array Value}(h:Blk w i t c)(h':Blk w i t' c'):t=t':=by
 unfold Blk at h h'
 rw [h] at h'
 simp at h'
 exact h'.2
theorem Sp5.blk {X:Nat->Prop}{w w':World}{b t:Nat}{c:Array Value}(hs:Sp5 X w w')(h:Blk w b t c)(h5:t=5->¬X b)(h67:t≠67)(h61:t≠61):Blk w' b t c:=by
 rcases hs.2.1 b h.lt with ⟨hx,c',h2⟩ | ⟨c',h2⟩ | ⟨c',h2⟩ | h2
 ·exact absurd hx (h5 (blk_ne h h2))
 ·exact absurd (blk_ne h h2) h67
 ·exact absurd (blk_ne h h2) h61
 ·exact h.same h2
theorem Sp5.ownz {X:Nat->Prop}{w w':World}{v:Value}{L:Bs}(hs:Sp5 X w w')(h:OwnZ X w v L):OwnZ X w' v L:=by
 refine ⟨h.1.same fun k hk=>?_,h.2⟩
 obtain ⟨c,hc⟩:∃c,Blk w k 5 c:=by
  rcases h.1.2 with ⟨e,_⟩ | ⟨g,cap,cur,e,hb,hg,_⟩
  ·rw [e] at hk;simp [Value.ownBlock] at hk
  ·rw [e] at hk
   simp [Value.ownBlock] at hk
   subst hk
   exact ⟨cur,hg⟩
 have:=hs.blk hc (fun _=>h.2 k hk) (by decide) (by decide)
 unfold Blk at this hc
 rw [this,hc]
theorem EM.sp {X:Nat->Prop}{w w':World}{m:Nat}{D:DB}(h:EM X w m D)(hs:Sp5 X w w'):EM X w' m D:=by
 obtain ⟨E,h1,h2,h3⟩:=h
 refine ⟨E,h1.same ?_,h2,fun x hx=>?_⟩
 ·rcases hs.2.1 m h1.lt with ⟨_,c',h4⟩ | ⟨c',h4⟩ | ⟨c',h4⟩ | h4
  ·exact (Blk.notMap h4 h1).elim
  ·exact (Blk.notMap h4 h1).elim
  ·exact (Blk.notMap h4 h1).elim
  ·exact h4
 ·obtain ⟨v,k1,ps,k2,k3⟩:=h3 x hx
  refine ⟨v,hs.blk k1 (fun h=>by omega) (by decide) (by decide),ps,⟨k2.1,fun j a b=>?_⟩,k3.cells fun g j u hu hc=>?_⟩
  ·obtain ⟨k,y,g1,g2,g3,g4⟩:=k2.2 j a b
   exact ⟨k,y,hs.blk g1 (fun h=>by omega) (by decide) (by decide),hs.ownz g2,hs.ownz g3,g4⟩
  ·simp [PTR] at hu
   obtain ⟨p,_,rfl⟩:=hu
   exact hs.2.2 g j p hc
end Go.Proofs.YtakmlhhapegpoaaGreat
