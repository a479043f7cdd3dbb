import Derived.Test.YtanoabliahcbeaaGreatKbcAll
import Derived.Test.YtanoabliahcbeaaGreatCdxAll
import Derived.Test.YtanoabliahcbeaaGreatCallsCq
namespace Go.Proofs.YtanoabliahcbeaaGreat.Command
open Go.RowKit Disk
open _root_.Go.Proofs.YtanoabliahcbeaaGreat.Calls
theorem okC_iff (c:PCmd):okC c=true<->(c.kind=1/\1<=c.token/\c.session=0/\c.number=0/\c.mark=0/\c.ops=[])\/(c.kind=2/\c.token=0/\1<=c.session/\1<=c.number/\0<=c.mark/\c.mark<c.number/\chk c.ops=0)\/((c.kind=3\/c.kind=4)/\c.token=0/\1<=c.session/\c.number=0/\c.mark=0/\c.ops=[]):=by
 obtain ⟨k,tk,ss,nb,mk,l⟩:=c
 unfold okC fitC idOk idC markOk namedC
 by_cases h1:k=1
 ·subst h1;simp <;> grind
 ·by_cases h2:k=2
  ·subst h2;simp <;> grind
  ·by_cases h3:k=3
   ·subst h3;simp <;> grind
   ·by_cases h4:k=4
    ·subst h4;simp <;> grind
    ·simp [h1,h2,h3,h4]
end Go.Proofs.YtanoabliahcbeaaGreat.Command
namespace Go.Proofs.YtanoabliahcbeaaGreat.Command
open Go.RowKit Disk
open _root_.Go.Proofs.YtanoabliahcbeaaGreat.Calls
open Names (Str)
theorem al2' (w:World)(A B:Array Value)(s t:Nat):∃W,(w.alloc (.cells A s)).alloc (.cells B t)=W/\Hid (Blk W w.heap.size s A/\Blk W (w.heap.size+1) t B/\w.grownBy W none/\W.heap.size=w.heap.size+2):=by
 refine ⟨_,rfl,?_,?_,g2 _ _ _,by simp⟩
 ·exact Blk.grown (heap_alloc_new _ _) (World.grownBy_alloc _ _ none) (by simp)
 ·have:=heap_alloc_new (w.alloc (.cells A s)) (.cells B t)
  rw [show (w.alloc (.cells A s)).heap.size=w.heap.size+1 by simp] at this
  exact this
end Go.Proofs.YtanoabliahcbeaaGreat.Command
