import Derived.Test.YtanoabliahcbeaaGreatKbcAll
import Derived.Test.YtanoabliahcbeaaGreatCdxAll
import Derived.Test.YtanoabliahcbeaaGreatCallsCq
set_option maxHeartbeats 4000000
set_option maxRecDepth 100000
namespace Go.Proofs.YtanoabliahcbeaaGreat.Command
open Go.RowKit Disk
open _root_.Go.Proofs.YtanoabliahcbeaaGreat.Calls
theorem okC_iff (c:PCmd):okC c=true<->(c.kind=1/\1<=c.token/\c.session=0/\c.number=0/\c.mark=0/\c.ops=[])\/(c.kind=2/\c.token=0/\1<=c.session/\1<=c.number/\0<=c.mark/\c.mark<c.number/\chk c.ops=0)\/((c.kind=3\/c.kind=4)/\c.token=0/\1<=c.session/\c.number=0/\c.mark=0/\c.ops=[]):=by
 obtain ⟨k,tk,ss,nb,mk,l⟩:=c
 unfold okC fitC idOk idC markOk namedC
 by_cases h1:k=1
 ·subst h1;simp <;> grind
 ·by_cases h2:k=2
  ·subst h2;simp <;> grind
  ·by_cases h3:k=3
   ·subst h3;simp <;> grind
   ·by_cases h4:k=4
    ·subst h4;simp <;> grind
    ·simp [h1,h2,h3,h4]
end Go.Proofs.YtanoabliahcbeaaGreat.Command
namespace Go.Proofs.YtanoabliahcbeaaGreat.Command
open Go.RowKit Disk
open _root_.Go.Proofs.YtanoabliahcbeaaGreat.Calls
open Names (Str)
theorem al2' (w:World)(A B:Array Value)(s t:Nat):∃W,(w.alloc (.cells A s)).alloc (.cells B t)=W/\Hid (Blk W w.heap.size s A/\Blk W (w.heap.size+1) t B/\w.grownBy W none/\W.heap.size=w.heap.size+2):=by
 refine ⟨_,rfl,?_,?_,g2 _ _ _,by simp⟩
 ·exact Blk.grown (heap_alloc_new _ _) (World.grownBy_alloc _ _ none) (by simp)
 ·have:=heap_alloc_new (w.alloc (.cells A s)) (.cells B t)
  rw [show (w.alloc (.cells A s)).heap.size=w.heap.size+1 by simp] at this
  exact this
theorem copy8 (u:Value)(c:PCmd)(w:World)(hu:Ops w u c.ops)(hf:Fit c.ops):Calls Tryz.prog 29 #[cmdV u c] w fun e w'=>∃v,e=.returned (cmdV v c)/\OpsOwn w' w.heap.size v c.ops/\w.grownBy w' none:=by
 obtain ⟨ao,n,ca,rfl,_,_,HU⟩:=ops_open hu
 have HF:Hid (Fit c.ops):=hf
 clear hu hf
 unfold cmdV
 go_enter Tryz.func29,Tryz.ntmps29
 go_wp2_with fail
 obtain ⟨W,hW,HW⟩:=al2' w #[.int .i64 c.kind,.int .i64 c.token,.int .i64 c.session,.int .i64 c.number,.int .i64 c.mark,.slice ao n ca] #[.int .i64 0,.int .i64 0,.int .i64 0,.int .i64 0,.int .i64 0,.slice none 0 0] 39 39
 rw [hW]
 clear hW
 refine (copy11 (.slice ao n ca) c.ops W (HU.out.grown HW.out.2.2.1) HF.out).mono ?_
 rintro e w1 ⟨v,rfl,hv,g1⟩
 obtain ⟨ux,un,uy,rfl⟩:∃a n b,v=.slice a n b:=by obtain ⟨a,n,b,e,_⟩:=ops_open hv.ops;exact ⟨a,n,b,e⟩
 have H1:Hid (Blk w1 w.heap.size 39 #[.int .i64 c.kind,.int .i64 c.token,.int .i64 c.session,.int .i64 c.number,.int .i64 c.mark,.slice ao n ca]/\Blk w1 (w.heap.size+1) 39 #[.int .i64 0,.int .i64 0,.int .i64 0,.int .i64 0,.int .i64 0,.slice none 0 0]/\w.grownBy w1 none/\OpsOwn w1 w.heap.size (.slice ux un uy) c.ops):=⟨HW.out.1.grown g1 (by simp),HW.out.2.1.grown g1 (by simp),grown_trans HW.out.2.2.1 g1,hv.mono (by have:=HW.out.2.2.2;omega)⟩
 clear g1 HW hv
 have c5:=H1.out.1.cell 5
 have z5:=H1.out.1.free 5
 simp at c5
 go_upto_region 2 with fail
 clear c5 z5
 have H2:Hid (Blk (w1.setCell ⟨w.heap.size,5,none⟩ (.slice ux un uy)) w.heap.size 39 #[.int .i64 c.kind,.int .i64 c.token,.int .i64 c.session,.int .i64 c.number,.int .i64 c.mark,.slice ux un uy]/\Blk (w1.setCell ⟨w.heap.size,5,none⟩ (.slice ux un uy)) (w.heap.size+1) 39 #[.int .i64 0,.int .i64 0,.int .i64 0,.int .i64 0,.int .i64 0,.slice none 0 0]/\w.grownBy (w1.setCell ⟨w.heap.size,5,none⟩ (.slice ux un uy)) none/\OpsOwn (w1.setCell ⟨w.heap.size,5,none⟩ (.slice ux un uy)) w.heap.size (.slice ux un uy) c.ops):=by
  have hg:=grown_setCell w1 w.heap.size 5 (.slice ux un uy)
  exact ⟨H1.out.1.store 5 _,H1.out.2.1.grown hg (by simp),grown_new H1.out.2.2.1 hg (fun x hx=>by simp at hx;omega),H1.out.2.2.2.set H1.out.1 (by decide) (by decide) hg⟩
 generalize w1.setCell ⟨w.heap.size,5,none⟩ (.slice ux un uy)=w2 at H2 ⊢
 clear H1
 have H3:=H2
 clear H2
 have c0:=H3.out.1.cell 0
 have c1:=H3.out.1.cell 1
 have c2:=H3.out.1.cell 2
 have c3:=H3.out.1.cell 3
 have c4:=H3.out.1.cell 4
 have c5:=H3.out.1.cell 5
 simp at c0 c1 c2 c3 c4 c5
 have r0:=H3.out.2.1.cell 0
 have r1:=H3.out.2.1.cell 1
 have r2:=H3.out.2.1.cell 2
 have r3:=H3.out.2.1.cell 3
 have r4:=H3.out.2.1.cell 4
 have r5:=H3.out.2.1.cell 5
 have z0:=H3.out.2.1.free 0
 have z1:=H3.out.2.1.free 1
 have z2:=H3.out.2.1.free 2
 have z3:=H3.out.2.1.free 3
 have z4:=H3.out.2.1.free 4
 have z5:=H3.out.2.1.free 5
 simp at r0 r1 r2 r3 r4 r5
 go_wp2_with fail
 obtain ⟨W6,hW6,H6⟩:=set6 H3.out.2.1 (.int .i64 c.kind) (.int .i64 c.token) (.int .i64 c.session) (.int .i64 c.number) (.int .i64 c.mark) (.slice ux un uy)
 rw [hW6]
 clear hW6
 have y0:=H6.out.1.cell 0
 have y1:=H6.out.1.cell 1
 have y2:=H6.out.1.cell 2
 have y3:=H6.out.1.cell 3
 have y4:=H6.out.1.cell 4
 have y5:=H6.out.1.cell 5
 simp at y0 y1 y2 y3 y4 y5
 have hgr:w.grownBy W6 none:=grown_new H3.out.2.2.1 H6.out.2 (fun x hx=>by simp at hx;omega)
 exact bodyPost_ret (v:=.agg #[.int .i64 c.kind,.int .i64 c.token,.int .i64 c.session,.int .i64 c.number,.int .i64 c.mark,.slice ux un uy]) (by simp [results,Tryz.results29,go_sem,y0,y1,y2,y3,y4,y5]) rfl ⟨.slice ux un uy,rfl,H3.out.2.2.2.set H3.out.2.1 (by decide) (by decide) H6.out.2,hgr⟩
end Go.Proofs.YtanoabliahcbeaaGreat.Command
