import Derived.Test.YtanoabliahcbeaaGreatNcdAll
namespace Go.Proofs.YtanoabliahcbeaaGreat
open Go.RowKit Disk
open _root_.Go.Proofs.YtanoabliahcbeaaGreat.Calls _root_.Go.Proofs.YtanoabliahcbeaaGreat.Command
theorem Lent.own {w:World}{B:Nat}{v:Value}{L:Bs}(h:Lent w B v L):Own w B v L:=by
 obtain ⟨g,cap,rfl,ho⟩:=h
 have h1:=Own.take (ao:=some ⟨g,0,none⟩) (cap:=cap) (L:=L ++ [165]) (by simpa using ho) L.length (by simp)
 rw [List.take_left] at h1
 exact h1
theorem own_far {w w':World}{B g:Nat}{v:Value}{L:Bs}(h:Own w B v L)(hg:w.grownBy w' (some g))(hB:g<B):Own w' B v L :=
 h.same fun k hk=>hg.block k (h.lt k hk).2 (fun e=>by have:=(h.lt k hk).1;simp at e;omega)
theorem cut_far {w w':World}{B g:Nat}{v:Value}{L:Bs}(h:Names.Cut w B v L)(hg:w.grownBy w' (some g))(hB:g<B):Names.Cut w' B v L:=by
 rcases h with h | ⟨q,cap,rfl,h⟩
 ·exact .inl (own_far h hg hB)
 ·exact .inr ⟨q,cap,rfl,own_far h hg hB⟩
theorem opsOwn_far {w w':World}{B g:Nat}{v:Value}{l:List POp}(h:OpsOwn w B v l)(hg:w.grownBy w' (some g))(hB:g<B):OpsOwn w' B v l:=by
 obtain ⟨⟨vs,h1,h2,h3,h4⟩,hl⟩:=h
 refine ⟨⟨vs,h1.kept hg ?_,h2,h3,fun j hj hj'=>?_⟩,hl⟩
 ·cases hv:v.ownBlock with
  | none=>simp
  | some k =>
   refine .inr fun e=>?_
   have:=(World.ownsRow.lt h1 k hv).1
   simp at e
   omega
 ·obtain ⟨a,b,c,d,e,h⟩:=h4 j hj hj'
  exact ⟨a,b,c,d,e,cut_far h.key hg hB,cut_far h.value hg hB,cut_far h.old hg hB,cut_far h.tos hg hB,h.fits⟩
end Go.Proofs.YtanoabliahcbeaaGreat
