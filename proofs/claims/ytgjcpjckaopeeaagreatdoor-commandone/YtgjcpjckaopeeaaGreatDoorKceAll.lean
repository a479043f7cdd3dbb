import Derived.Test.YtgjcpjckaopeeaaGreatDoorKbbAll
import Derived.Test.YtgjcpjckaopeeaaGreatDoorCgAll
set_option maxHeartbeats 8000000
set_option maxRecDepth 100000
namespace Go.Proofs.YtgjcpjckaopeeaaGreatDoor
open Go.RowKit Disk
open _root_.Go.Proofs.YtgjcpjckaopeeaaGreatDoor.Calls
theorem ix0 (w:World)(x y z:Value):(Instr.index 60 (.agg #[x,y,z]) (.int .i64 0)).run Tryz.prog w=.ok x w:=by kernel_rfl
theorem ix1 (w:World)(x y z:Value):(Instr.index 60 (.agg #[x,y,z]) (.int .i64 1)).run Tryz.prog w=.ok y w:=by kernel_rfl
theorem ix2 (w:World)(x y z:Value):(Instr.index 60 (.agg #[x,y,z]) (.int .i64 2)).run Tryz.prog w=.ok z w:=by kernel_rfl
theorem al3 (w:World)(A B D:Array Value)(s t u:Nat):∃W,((w.alloc (.cells A s)).alloc (.cells B t)).alloc (.cells D u)=W/\Hid (Blk W w.heap.size s A/\Blk W (w.heap.size+1) t B/\Blk W (w.heap.size+1+1) u D/\w.grownBy W none/\W.heap.size=w.heap.size+3):=by
 refine ⟨_,rfl,?_,?_,?_,?_,by simp⟩
 ·exact Blk.grown (Blk.grown (heap_alloc_new _ _) (World.grownBy_alloc _ _ none) (by simp)) (World.grownBy_alloc _ _ none) (by simp)
 ·have:=Blk.grown (t:=t) (c:=B) (heap_alloc_new (w.alloc (.cells A s)) (.cells B t)) (World.grownBy_alloc _ (.cells D u) none) (by simp)
  simpa using this
 ·have:=heap_alloc_new ((w.alloc (.cells A s)).alloc (.cells B t)) (.cells D u)
  rw [show ((w.alloc (.cells A s)).alloc (.cells B t)).heap.size=w.heap.size+1+1 by simp] at this
  exact this
 ·exact grown_trans (g2 _ _ _) (World.grownBy_alloc _ _ none)
theorem set6 {x:World}{b:Nat}{c0 c1 c2 c3 c4 c5:Value}(h:Blk x b 27 #[c0,c1,c2,c3,c4,c5])(v0 v1 v2 v3 v4 v5:Value):∃W,(((((x.setCell ⟨b,0,none⟩ v0).setCell ⟨b,1,none⟩ v1).setCell ⟨b,2,none⟩ v2).setCell ⟨b,3,none⟩ v3).setCell ⟨b,4,none⟩ v4).setCell ⟨b,5,none⟩ v5=W/\Hid (Blk W b 27 #[v0,v1,v2,v3,v4,v5]/\x.grownBy W (some b)) :=
 ⟨_,rfl,(((((h.store 0 v0).store 1 v1).store 2 v2).store 3 v3).store 4 v4).store 5 v5,grown_trans (grown_trans (grown_trans (grown_trans (grown_trans (grown_setCell _ _ _ _) (grown_setCell _ _ _ _)) (grown_setCell _ _ _ _)) (grown_setCell _ _ _ _)) (grown_setCell _ _ _ _)) (grown_setCell _ _ _ _)⟩
theorem al1 (w:World)(c:Array Value)(t:Nat):∃w1,w.alloc (.cells c t)=w1/\Hid (Blk w1 w.heap.size t c/\w.grownBy w1 none/\w1.heap.size=w.heap.size+1) :=
 ⟨_,rfl,heap_alloc_new _ _,World.grownBy_alloc _ _ _,by simp⟩
theorem named61_1 (ao:Option Addr)(n cp:Nat)(tk ss nb mk:Int)(l:List POp)(w:World):Calls Tryz.prog 61 #[cmdV (.slice ao n cp) ⟨1,tk,ss,nb,mk,l⟩] w fun e w'=>e=.returned (cmdV (.slice none 0 0) ⟨1,tk,0,0,0,[]⟩)/\w.grownBy w' none:=by
 simp only [cmdV]
 have i0:=ix0
 have i1:=ix1
 have i2:=ix2
 go_enter Tryz.func61,Tryz.ntmps61
 go_wp2_with fail
 obtain ⟨W,hW,HW⟩:=al3 w #[.int .i64 1,.int .i64 tk,.int .i64 ss,.int .i64 nb,.int .i64 mk,.slice ao n cp] #[.int .i64 0,.int .i64 0,.int .i64 0,.int .i64 0,.int .i64 0,.slice none 0 0] #[.int .i64 1,.int .i64 0,.int .i64 0,.int .i64 0,.int .i64 0,.slice none 0 0] 27 27 27
 rw [hW]
 clear hW
 refine (numbers30_1 w.heap.size (.slice ao n cp) ⟨1,tk,ss,nb,mk,l⟩ W HW.out.1 rfl).mono ?_
 rintro e w1 ⟨rfl,gg1⟩
 have H1:Hid (Blk w1 w.heap.size 27 #[.int .i64 1,.int .i64 tk,.int .i64 ss,.int .i64 nb,.int .i64 mk,.slice ao n cp]/\Blk w1 (w.heap.size+1) 27 #[.int .i64 0,.int .i64 0,.int .i64 0,.int .i64 0,.int .i64 0,.slice none 0 0]/\Blk w1 (w.heap.size+1+1) 27 #[.int .i64 1,.int .i64 0,.int .i64 0,.int .i64 0,.int .i64 0,.slice none 0 0]/\w.grownBy w1 none/\w.heap.size+3<=w1.heap.size) :=
  ⟨HW.out.1.grown gg1 (by simp),HW.out.2.1.grown gg1 (by simp),HW.out.2.2.1.grown gg1 (by simp),grown_trans HW.out.2.2.2.1 gg1,by have:=gg1.size;have:=HW.out.2.2.2.2;omega⟩
 clear gg1 HW
 try unfold pt
 go_wp2_with fail
 obtain ⟨w2,hw2,H2⟩:=al1 w1 #[.pointer (some ⟨w.heap.size,1,none⟩),.pointer none,.pointer none] 60
 rw [hw2]
 clear hw2
 refine (numbers30_1 (w.heap.size+1+1) (.slice none 0 0) ⟨1,0,0,0,0,[]⟩ w2 (H1.out.2.2.1.grown H2.out.2.1 (by simp)) rfl).mono ?_
 rintro e w3 ⟨rfl,gg3⟩
 have G3:Hid (w1.grownBy w3 none):=grown_trans H2.out.2.1 gg3
 have H3:Hid (Blk w3 w.heap.size 27 #[.int .i64 1,.int .i64 tk,.int .i64 ss,.int .i64 nb,.int .i64 mk,.slice ao n cp]/\Blk w3 (w.heap.size+1) 27 #[.int .i64 0,.int .i64 0,.int .i64 0,.int .i64 0,.int .i64 0,.slice none 0 0]/\Blk w3 (w.heap.size+1+1) 27 #[.int .i64 1,.int .i64 0,.int .i64 0,.int .i64 0,.int .i64 0,.slice none 0 0]/\w.grownBy w3 none/\Blk w3 w1.heap.size 60 #[.pointer (some ⟨w.heap.size,1,none⟩),.pointer none,.pointer none]/\w.heap.size+3<=w1.heap.size) :=
  ⟨H1.out.1.grown G3.out (by simp),H1.out.2.1.grown G3.out (by simp),H1.out.2.2.1.grown G3.out (by simp),grown_trans H1.out.2.2.2.1 G3.out,H2.out.1.grown gg3 (by simp),H1.out.2.2.2.2⟩
 clear gg3 G3 H1 H2
 try unfold pt
 go_wp2_with fail
 refine wp_loop_rounds 4 ?_
 rw [rounds_succ]
 have a0:=H3.out.1.cell 1
 have p0:=H3.out.2.2.2.2.1.cell 0
 have s0:=H3.out.2.2.1.cell 1
 have z0:=H3.out.2.2.1.free 1
 simp at a0 p0 s0
 go_wp2_with fail
 have H4:Hid (Blk (w3.setCell ⟨w.heap.size+1+1,1,none⟩ (.int .i64 tk)) w.heap.size 27 #[.int .i64 1,.int .i64 tk,.int .i64 ss,.int .i64 nb,.int .i64 mk,.slice ao n cp]/\Blk (w3.setCell ⟨w.heap.size+1+1,1,none⟩ (.int .i64 tk)) (w.heap.size+1) 27 #[.int .i64 0,.int .i64 0,.int .i64 0,.int .i64 0,.int .i64 0,.slice none 0 0]/\Blk (w3.setCell ⟨w.heap.size+1+1,1,none⟩ (.int .i64 tk)) (w.heap.size+1+1) 27 #[.int .i64 1,.int .i64 tk,.int .i64 0,.int .i64 0,.int .i64 0,.slice none 0 0]/\w.grownBy (w3.setCell ⟨w.heap.size+1+1,1,none⟩ (.int .i64 tk)) none/\Blk (w3.setCell ⟨w.heap.size+1+1,1,none⟩ (.int .i64 tk)) w1.heap.size 60 #[.pointer (some ⟨w.heap.size,1,none⟩),.pointer none,.pointer none]/\w.heap.size+3<=w1.heap.size):=by
  have hg:=grown_setCell w3 (w.heap.size+1+1) 1 (.int .i64 tk)
  have h6:=H3.out.2.2.2.2.2
  exact ⟨H3.out.1.grown hg (by simp;omega),H3.out.2.1.grown hg (by simp),H3.out.2.2.1.store 1 _,grown_new H3.out.2.2.2.1 hg (by intro x hx;simp at hx;omega),H3.out.2.2.2.2.1.grown hg (by simp;omega),h6⟩
 generalize w3.setCell ⟨w.heap.size+1+1,1,none⟩ (.int .i64 tk)=x0 at H4 ⊢
 clear H3 a0 p0 s0 z0
 have H3:=H4
 clear H4
 rw [rounds_succ]
 go_wp2_with fail
 rw [rounds_succ]
 go_wp2_with fail
 rw [rounds_succ]
 have a9:=H3.out.1.cell 0
 simp at a9
 have s0:=H3.out.2.2.1.cell 0
 have s1:=H3.out.2.2.1.cell 1
 have s2:=H3.out.2.2.1.cell 2
 have s3:=H3.out.2.2.1.cell 3
 have s4:=H3.out.2.2.1.cell 4
 have s5:=H3.out.2.2.1.cell 5
 have r0:=H3.out.2.1.cell 0
 have r1:=H3.out.2.1.cell 1
 have r2:=H3.out.2.1.cell 2
 have r3:=H3.out.2.1.cell 3
 have r4:=H3.out.2.1.cell 4
 have r5:=H3.out.2.1.cell 5
 have z0:=H3.out.2.1.free 0
 have z1:=H3.out.2.1.free 1
 have z2:=H3.out.2.1.free 2
 have z3:=H3.out.2.1.free 3
 have z4:=H3.out.2.1.free 4
 have z5:=H3.out.2.1.free 5
 simp at s0 s1 s2 s3 s4 s5 r0 r1 r2 r3 r4 r5
 go_wp2_with fail
 obtain ⟨W6,hW6,H6⟩:=set6 H3.out.2.1 (.int .i64 1) (.int .i64 tk) (.int .i64 0) (.int .i64 0) (.int .i64 0) (.slice none 0 0)
 rw [hW6]
 clear hW6
 have hg:w.grownBy W6 none:=grown_new H3.out.2.2.2.1 H6.out.2 (by intro x hx;simp at hx;omega)
 have y0:=H6.out.1.cell 0
 have y1:=H6.out.1.cell 1
 have y2:=H6.out.1.cell 2
 have y3:=H6.out.1.cell 3
 have y4:=H6.out.1.cell 4
 have y5:=H6.out.1.cell 5
 simp at y0 y1 y2 y3 y4 y5
 exact bodyPost_ret (v:=.agg #[.int .i64 1,.int .i64 tk,.int .i64 0,.int .i64 0,.int .i64 0,(.slice none 0 0)]) (by simp [results,Tryz.results61,go_sem,y0,y1,y2,y3,y4,y5]) rfl ⟨rfl,hg⟩
theorem named61_2 (ao:Option Addr)(n cp:Nat)(tk ss nb mk:Int)(l:List POp)(w:World):Calls Tryz.prog 61 #[cmdV (.slice ao n cp) ⟨2,tk,ss,nb,mk,l⟩] w fun e w'=>e=.returned (cmdV (.slice ao n cp) ⟨2,0,ss,nb,mk,l⟩)/\w.grownBy w' none:=by
 simp only [cmdV]
 have i0:=ix0
 have i1:=ix1
 have i2:=ix2
 go_enter Tryz.func61,Tryz.ntmps61
 go_wp2_with fail
 obtain ⟨W,hW,HW⟩:=al3 w #[.int .i64 2,.int .i64 tk,.int .i64 ss,.int .i64 nb,.int .i64 mk,.slice ao n cp] #[.int .i64 0,.int .i64 0,.int .i64 0,.int .i64 0,.int .i64 0,.slice none 0 0] #[.int .i64 2,.int .i64 0,.int .i64 0,.int .i64 0,.int .i64 0,.slice none 0 0] 27 27 27
 rw [hW]
 clear hW
 refine (numbers30_2 w.heap.size (.slice ao n cp) ⟨2,tk,ss,nb,mk,l⟩ W HW.out.1 rfl).mono ?_
 rintro e w1 ⟨rfl,gg1⟩
 have H1:Hid (Blk w1 w.heap.size 27 #[.int .i64 2,.int .i64 tk,.int .i64 ss,.int .i64 nb,.int .i64 mk,.slice ao n cp]/\Blk w1 (w.heap.size+1) 27 #[.int .i64 0,.int .i64 0,.int .i64 0,.int .i64 0,.int .i64 0,.slice none 0 0]/\Blk w1 (w.heap.size+1+1) 27 #[.int .i64 2,.int .i64 0,.int .i64 0,.int .i64 0,.int .i64 0,.slice none 0 0]/\w.grownBy w1 none/\w.heap.size+3<=w1.heap.size) :=
  ⟨HW.out.1.grown gg1 (by simp),HW.out.2.1.grown gg1 (by simp),HW.out.2.2.1.grown gg1 (by simp),grown_trans HW.out.2.2.2.1 gg1,by have:=gg1.size;have:=HW.out.2.2.2.2;omega⟩
 clear gg1 HW
 try unfold pt
 go_wp2_with fail
 obtain ⟨w2,hw2,H2⟩:=al1 w1 #[.pointer (some ⟨w.heap.size,2,none⟩),.pointer (some ⟨w.heap.size,3,none⟩),.pointer (some ⟨w.heap.size,4,none⟩)] 60
 rw [hw2]
 clear hw2
 refine (numbers30_2 (w.heap.size+1+1) (.slice none 0 0) ⟨2,0,0,0,0,[]⟩ w2 (H1.out.2.2.1.grown H2.out.2.1 (by simp)) rfl).mono ?_
 rintro e w3 ⟨rfl,gg3⟩
 have G3:Hid (w1.grownBy w3 none):=grown_trans H2.out.2.1 gg3
 have H3:Hid (Blk w3 w.heap.size 27 #[.int .i64 2,.int .i64 tk,.int .i64 ss,.int .i64 nb,.int .i64 mk,.slice ao n cp]/\Blk w3 (w.heap.size+1) 27 #[.int .i64 0,.int .i64 0,.int .i64 0,.int .i64 0,.int .i64 0,.slice none 0 0]/\Blk w3 (w.heap.size+1+1) 27 #[.int .i64 2,.int .i64 0,.int .i64 0,.int .i64 0,.int .i64 0,.slice none 0 0]/\w.grownBy w3 none/\Blk w3 w1.heap.size 60 #[.pointer (some ⟨w.heap.size,2,none⟩),.pointer (some ⟨w.heap.size,3,none⟩),.pointer (some ⟨w.heap.size,4,none⟩)]/\w.heap.size+3<=w1.heap.size) :=
  ⟨H1.out.1.grown G3.out (by simp),H1.out.2.1.grown G3.out (by simp),H1.out.2.2.1.grown G3.out (by simp),grown_trans H1.out.2.2.2.1 G3.out,H2.out.1.grown gg3 (by simp),H1.out.2.2.2.2⟩
 clear gg3 G3 H1 H2
 try unfold pt
 go_wp2_with fail
 refine wp_loop_rounds 4 ?_
 rw [rounds_succ]
 have a0:=H3.out.1.cell 2
 have p0:=H3.out.2.2.2.2.1.cell 0
 have s0:=H3.out.2.2.1.cell 2
 have z0:=H3.out.2.2.1.free 2
 simp at a0 p0 s0
 go_wp2_with fail
 have H4:Hid (Blk (w3.setCell ⟨w.heap.size+1+1,2,none⟩ (.int .i64 ss)) w.heap.size 27 #[.int .i64 2,.int .i64 tk,.int .i64 ss,.int .i64 nb,.int .i64 mk,.slice ao n cp]/\Blk (w3.setCell ⟨w.heap.size+1+1,2,none⟩ (.int .i64 ss)) (w.heap.size+1) 27 #[.int .i64 0,.int .i64 0,.int .i64 0,.int .i64 0,.int .i64 0,.slice none 0 0]/\Blk (w3.setCell ⟨w.heap.size+1+1,2,none⟩ (.int .i64 ss)) (w.heap.size+1+1) 27 #[.int .i64 2,.int .i64 0,.int .i64 ss,.int .i64 0,.int .i64 0,.slice none 0 0]/\w.grownBy (w3.setCell ⟨w.heap.size+1+1,2,none⟩ (.int .i64 ss)) none/\Blk (w3.setCell ⟨w.heap.size+1+1,2,none⟩ (.int .i64 ss)) w1.heap.size 60 #[.pointer (some ⟨w.heap.size,2,none⟩),.pointer (some ⟨w.heap.size,3,none⟩),.pointer (some ⟨w.heap.size,4,none⟩)]/\w.heap.size+3<=w1.heap.size):=by
  have hg:=grown_setCell w3 (w.heap.size+1+1) 2 (.int .i64 ss)
  have h6:=H3.out.2.2.2.2.2
  exact ⟨H3.out.1.grown hg (by simp;omega),H3.out.2.1.grown hg (by simp),H3.out.2.2.1.store 2 _,grown_new H3.out.2.2.2.1 hg (by intro x hx;simp at hx;omega),H3.out.2.2.2.2.1.grown hg (by simp;omega),h6⟩
 generalize w3.setCell ⟨w.heap.size+1+1,2,none⟩ (.int .i64 ss)=x0 at H4 ⊢
 clear H3 a0 p0 s0 z0
 have H3:=H4
 clear H4
 rw [rounds_succ]
 have a1:=H3.out.1.cell 3
 have p1:=H3.out.2.2.2.2.1.cell 1
 have s1:=H3.out.2.2.1.cell 3
 have z1:=H3.out.2.2.1.free 3
 simp at a1 p1 s1
 go_wp2_with fail
 have H4:Hid (Blk (x0.setCell ⟨w.heap.size+1+1,3,none⟩ (.int .i64 nb)) w.heap.size 27 #[.int .i64 2,.int .i64 tk,.int .i64 ss,.int .i64 nb,.int .i64 mk,.slice ao n cp]/\Blk (x0.setCell ⟨w.heap.size+1+1,3,none⟩ (.int .i64 nb)) (w.heap.size+1) 27 #[.int .i64 0,.int .i64 0,.int .i64 0,.int .i64 0,.int .i64 0,.slice none 0 0]/\Blk (x0.setCell ⟨w.heap.size+1+1,3,none⟩ (.int .i64 nb)) (w.heap.size+1+1) 27 #[.int .i64 2,.int .i64 0,.int .i64 ss,.int .i64 nb,.int .i64 0,.slice none 0 0]/\w.grownBy (x0.setCell ⟨w.heap.size+1+1,3,none⟩ (.int .i64 nb)) none/\Blk (x0.setCell ⟨w.heap.size+1+1,3,none⟩ (.int .i64 nb)) w1.heap.size 60 #[.pointer (some ⟨w.heap.size,2,none⟩),.pointer (some ⟨w.heap.size,3,none⟩),.pointer (some ⟨w.heap.size,4,none⟩)]/\w.heap.size+3<=w1.heap.size):=by
  have hg:=grown_setCell x0 (w.heap.size+1+1) 3 (.int .i64 nb)
  have h6:=H3.out.2.2.2.2.2
  exact ⟨H3.out.1.grown hg (by simp;omega),H3.out.2.1.grown hg (by simp),H3.out.2.2.1.store 3 _,grown_new H3.out.2.2.2.1 hg (by intro x hx;simp at hx;omega),H3.out.2.2.2.2.1.grown hg (by simp;omega),h6⟩
 generalize x0.setCell ⟨w.heap.size+1+1,3,none⟩ (.int .i64 nb)=x1 at H4 ⊢
 clear H3 a1 p1 s1 z1
 have H3:=H4
 clear H4
 rw [rounds_succ]
 have a2:=H3.out.1.cell 4
 have p2:=H3.out.2.2.2.2.1.cell 2
 have s2:=H3.out.2.2.1.cell 4
 have z2:=H3.out.2.2.1.free 4
 simp at a2 p2 s2
 go_wp2_with fail
 have H4:Hid (Blk (x1.setCell ⟨w.heap.size+1+1,4,none⟩ (.int .i64 mk)) w.heap.size 27 #[.int .i64 2,.int .i64 tk,.int .i64 ss,.int .i64 nb,.int .i64 mk,.slice ao n cp]/\Blk (x1.setCell ⟨w.heap.size+1+1,4,none⟩ (.int .i64 mk)) (w.heap.size+1) 27 #[.int .i64 0,.int .i64 0,.int .i64 0,.int .i64 0,.int .i64 0,.slice none 0 0]/\Blk (x1.setCell ⟨w.heap.size+1+1,4,none⟩ (.int .i64 mk)) (w.heap.size+1+1) 27 #[.int .i64 2,.int .i64 0,.int .i64 ss,.int .i64 nb,.int .i64 mk,.slice none 0 0]/\w.grownBy (x1.setCell ⟨w.heap.size+1+1,4,none⟩ (.int .i64 mk)) none/\Blk (x1.setCell ⟨w.heap.size+1+1,4,none⟩ (.int .i64 mk)) w1.heap.size 60 #[.pointer (some ⟨w.heap.size,2,none⟩),.pointer (some ⟨w.heap.size,3,none⟩),.pointer (some ⟨w.heap.size,4,none⟩)]/\w.heap.size+3<=w1.heap.size):=by
  have hg:=grown_setCell x1 (w.heap.size+1+1) 4 (.int .i64 mk)
  have h6:=H3.out.2.2.2.2.2
  exact ⟨H3.out.1.grown hg (by simp;omega),H3.out.2.1.grown hg (by simp),H3.out.2.2.1.store 4 _,grown_new H3.out.2.2.2.1 hg (by intro x hx;simp at hx;omega),H3.out.2.2.2.2.1.grown hg (by simp;omega),h6⟩
 generalize x1.setCell ⟨w.heap.size+1+1,4,none⟩ (.int .i64 mk)=x2 at H4 ⊢
 clear H3 a2 p2 s2 z2
 have H3:=H4
 clear H4
 rw [rounds_succ]
 have a9:=H3.out.1.cell 0
 have a8:=H3.out.1.cell 5
 have s9:=H3.out.2.2.1.cell 5
 have z9:=H3.out.2.2.1.free 5
 simp at a9 a8 s9
 go_upto_region 11 with fail
 have H4:Hid (Blk (x2.setCell ⟨w.heap.size+1+1,5,none⟩ (.slice ao n cp)) (w.heap.size+1) 27 #[.int .i64 0,.int .i64 0,.int .i64 0,.int .i64 0,.int .i64 0,.slice none 0 0]/\Blk (x2.setCell ⟨w.heap.size+1+1,5,none⟩ (.slice ao n cp)) (w.heap.size+1+1) 27 #[.int .i64 2,.int .i64 0,.int .i64 ss,.int .i64 nb,.int .i64 mk,.slice ao n cp]/\w.grownBy (x2.setCell ⟨w.heap.size+1+1,5,none⟩ (.slice ao n cp)) none):=by
  have hg:=grown_setCell x2 (w.heap.size+1+1) 5 (.slice ao n cp)
  exact ⟨H3.out.2.1.grown hg (by simp),H3.out.2.2.1.store 5 _,grown_new H3.out.2.2.2.1 hg (by intro x hx;simp at hx;omega)⟩
 generalize x2.setCell ⟨w.heap.size+1+1,5,none⟩ (.slice ao n cp)=x9 at H4 ⊢
 clear H3 a9 a8 s9 z9
 have H3:Hid (True/\Blk x9 (w.heap.size+1) 27 #[.int .i64 0,.int .i64 0,.int .i64 0,.int .i64 0,.int .i64 0,.slice none 0 0]/\Blk x9 (w.heap.size+1+1) 27 #[.int .i64 2,.int .i64 0,.int .i64 ss,.int .i64 nb,.int .i64 mk,.slice ao n cp]/\w.grownBy x9 none/\True):=⟨trivial,H4.out.1,H4.out.2.1,H4.out.2.2,trivial⟩
 clear H4
 have s0:=H3.out.2.2.1.cell 0
 have s1:=H3.out.2.2.1.cell 1
 have s2:=H3.out.2.2.1.cell 2
 have s3:=H3.out.2.2.1.cell 3
 have s4:=H3.out.2.2.1.cell 4
 have s5:=H3.out.2.2.1.cell 5
 have r0:=H3.out.2.1.cell 0
 have r1:=H3.out.2.1.cell 1
 have r2:=H3.out.2.1.cell 2
 have r3:=H3.out.2.1.cell 3
 have r4:=H3.out.2.1.cell 4
 have r5:=H3.out.2.1.cell 5
 have z0:=H3.out.2.1.free 0
 have z1:=H3.out.2.1.free 1
 have z2:=H3.out.2.1.free 2
 have z3:=H3.out.2.1.free 3
 have z4:=H3.out.2.1.free 4
 have z5:=H3.out.2.1.free 5
 simp at s0 s1 s2 s3 s4 s5 r0 r1 r2 r3 r4 r5
 go_wp2_with fail
 obtain ⟨W6,hW6,H6⟩:=set6 H3.out.2.1 (.int .i64 2) (.int .i64 0) (.int .i64 ss) (.int .i64 nb) (.int .i64 mk) (.slice ao n cp)
 rw [hW6]
 clear hW6
 have hg:w.grownBy W6 none:=grown_new H3.out.2.2.2.1 H6.out.2 (by intro x hx;simp at hx;omega)
 have y0:=H6.out.1.cell 0
 have y1:=H6.out.1.cell 1
 have y2:=H6.out.1.cell 2
 have y3:=H6.out.1.cell 3
 have y4:=H6.out.1.cell 4
 have y5:=H6.out.1.cell 5
 simp at y0 y1 y2 y3 y4 y5
 exact bodyPost_ret (v:=.agg #[.int .i64 2,.int .i64 0,.int .i64 ss,.int .i64 nb,.int .i64 mk,(.slice ao n cp)]) (by simp [results,Tryz.results61,go_sem,y0,y1,y2,y3,y4,y5]) rfl ⟨rfl,hg⟩
theorem named61_34 (k:Int)(hk34:k=3\/k=4)(ao:Option Addr)(n cp:Nat)(tk ss nb mk:Int)(l:List POp)(w:World):Calls Tryz.prog 61 #[cmdV (.slice ao n cp) ⟨k,tk,ss,nb,mk,l⟩] w fun e w'=>e=.returned (cmdV (.slice none 0 0) ⟨k,0,ss,0,0,[]⟩)/\w.grownBy w' none:=by
 have HK:Hid (k=3\/k=4):=hk34
 have k1:(k==1)=false:=by simp;omega
 have k2:(k==2)=false:=by simp;omega
 have k3:(k=1)=False:=eq_false (by omega)
 have k4:(k=2)=False:=eq_false (by omega)
 clear hk34
 simp only [cmdV]
 have i0:=ix0
 have i1:=ix1
 have i2:=ix2
 go_enter Tryz.func61,Tryz.ntmps61
 go_wp2_with fail
 obtain ⟨W,hW,HW⟩:=al3 w #[.int .i64 k,.int .i64 tk,.int .i64 ss,.int .i64 nb,.int .i64 mk,.slice ao n cp] #[.int .i64 0,.int .i64 0,.int .i64 0,.int .i64 0,.int .i64 0,.slice none 0 0] #[.int .i64 k,.int .i64 0,.int .i64 0,.int .i64 0,.int .i64 0,.slice none 0 0] 27 27 27
 rw [hW]
 clear hW
 refine (numbers30_34 w.heap.size (.slice ao n cp) ⟨k,tk,ss,nb,mk,l⟩ W HW.out.1 HK.out).mono ?_
 rintro e w1 ⟨rfl,gg1⟩
 have H1:Hid (Blk w1 w.heap.size 27 #[.int .i64 k,.int .i64 tk,.int .i64 ss,.int .i64 nb,.int .i64 mk,.slice ao n cp]/\Blk w1 (w.heap.size+1) 27 #[.int .i64 0,.int .i64 0,.int .i64 0,.int .i64 0,.int .i64 0,.slice none 0 0]/\Blk w1 (w.heap.size+1+1) 27 #[.int .i64 k,.int .i64 0,.int .i64 0,.int .i64 0,.int .i64 0,.slice none 0 0]/\w.grownBy w1 none/\w.heap.size+3<=w1.heap.size) :=
  ⟨HW.out.1.grown gg1 (by simp),HW.out.2.1.grown gg1 (by simp),HW.out.2.2.1.grown gg1 (by simp),grown_trans HW.out.2.2.2.1 gg1,by have:=gg1.size;have:=HW.out.2.2.2.2;omega⟩
 clear gg1 HW
 try unfold pt
 go_wp2_with fail
 obtain ⟨w2,hw2,H2⟩:=al1 w1 #[.pointer (some ⟨w.heap.size,2,none⟩),.pointer none,.pointer none] 60
 rw [hw2]
 clear hw2
 refine (numbers30_34 (w.heap.size+1+1) (.slice none 0 0) ⟨k,0,0,0,0,[]⟩ w2 (H1.out.2.2.1.grown H2.out.2.1 (by simp)) HK.out).mono ?_
 rintro e w3 ⟨rfl,gg3⟩
 have G3:Hid (w1.grownBy w3 none):=grown_trans H2.out.2.1 gg3
 have H3:Hid (Blk w3 w.heap.size 27 #[.int .i64 k,.int .i64 tk,.int .i64 ss,.int .i64 nb,.int .i64 mk,.slice ao n cp]/\Blk w3 (w.heap.size+1) 27 #[.int .i64 0,.int .i64 0,.int .i64 0,.int .i64 0,.int .i64 0,.slice none 0 0]/\Blk w3 (w.heap.size+1+1) 27 #[.int .i64 k,.int .i64 0,.int .i64 0,.int .i64 0,.int .i64 0,.slice none 0 0]/\w.grownBy w3 none/\Blk w3 w1.heap.size 60 #[.pointer (some ⟨w.heap.size,2,none⟩),.pointer none,.pointer none]/\w.heap.size+3<=w1.heap.size) :=
  ⟨H1.out.1.grown G3.out (by simp),H1.out.2.1.grown G3.out (by simp),H1.out.2.2.1.grown G3.out (by simp),grown_trans H1.out.2.2.2.1 G3.out,H2.out.1.grown gg3 (by simp),H1.out.2.2.2.2⟩
 clear gg3 G3 H1 H2
 try unfold pt
 go_wp2_with fail
 refine wp_loop_rounds 4 ?_
 rw [rounds_succ]
 have a0:=H3.out.1.cell 2
 have p0:=H3.out.2.2.2.2.1.cell 0
 have s0:=H3.out.2.2.1.cell 2
 have z0:=H3.out.2.2.1.free 2
 simp at a0 p0 s0
 go_wp2_with fail
 have H4:Hid (Blk (w3.setCell ⟨w.heap.size+1+1,2,none⟩ (.int .i64 ss)) w.heap.size 27 #[.int .i64 k,.int .i64 tk,.int .i64 ss,.int .i64 nb,.int .i64 mk,.slice ao n cp]/\Blk (w3.setCell ⟨w.heap.size+1+1,2,none⟩ (.int .i64 ss)) (w.heap.size+1) 27 #[.int .i64 0,.int .i64 0,.int .i64 0,.int .i64 0,.int .i64 0,.slice none 0 0]/\Blk (w3.setCell ⟨w.heap.size+1+1,2,none⟩ (.int .i64 ss)) (w.heap.size+1+1) 27 #[.int .i64 k,.int .i64 0,.int .i64 ss,.int .i64 0,.int .i64 0,.slice none 0 0]/\w.grownBy (w3.setCell ⟨w.heap.size+1+1,2,none⟩ (.int .i64 ss)) none/\Blk (w3.setCell ⟨w.heap.size+1+1,2,none⟩ (.int .i64 ss)) w1.heap.size 60 #[.pointer (some ⟨w.heap.size,2,none⟩),.pointer none,.pointer none]/\w.heap.size+3<=w1.heap.size):=by
  have hg:=grown_setCell w3 (w.heap.size+1+1) 2 (.int .i64 ss)
  have h6:=H3.out.2.2.2.2.2
  exact ⟨H3.out.1.grown hg (by simp;omega),H3.out.2.1.grown hg (by simp),H3.out.2.2.1.store 2 _,grown_new H3.out.2.2.2.1 hg (by intro x hx;simp at hx;omega),H3.out.2.2.2.2.1.grown hg (by simp;omega),h6⟩
 generalize w3.setCell ⟨w.heap.size+1+1,2,none⟩ (.int .i64 ss)=x0 at H4 ⊢
 clear H3 a0 p0 s0 z0
 have H3:=H4
 clear H4
 rw [rounds_succ]
 go_wp2_with fail
 rw [rounds_succ]
 go_wp2_with fail
 rw [rounds_succ]
 have a9:=H3.out.1.cell 0
 simp at a9
 have s0:=H3.out.2.2.1.cell 0
 have s1:=H3.out.2.2.1.cell 1
 have s2:=H3.out.2.2.1.cell 2
 have s3:=H3.out.2.2.1.cell 3
 have s4:=H3.out.2.2.1.cell 4
 have s5:=H3.out.2.2.1.cell 5
 have r0:=H3.out.2.1.cell 0
 have r1:=H3.out.2.1.cell 1
 have r2:=H3.out.2.1.cell 2
 have r3:=H3.out.2.1.cell 3
 have r4:=H3.out.2.1.cell 4
 have r5:=H3.out.2.1.cell 5
 have z0:=H3.out.2.1.free 0
 have z1:=H3.out.2.1.free 1
 have z2:=H3.out.2.1.free 2
 have z3:=H3.out.2.1.free 3
 have z4:=H3.out.2.1.free 4
 have z5:=H3.out.2.1.free 5
 simp at s0 s1 s2 s3 s4 s5 r0 r1 r2 r3 r4 r5
 go_wp2_with fail
 obtain ⟨W6,hW6,H6⟩:=set6 H3.out.2.1 (.int .i64 k) (.int .i64 0) (.int .i64 ss) (.int .i64 0) (.int .i64 0) (.slice none 0 0)
 rw [hW6]
 clear hW6
 have hg:w.grownBy W6 none:=grown_new H3.out.2.2.2.1 H6.out.2 (by intro x hx;simp at hx;omega)
 have y0:=H6.out.1.cell 0
 have y1:=H6.out.1.cell 1
 have y2:=H6.out.1.cell 2
 have y3:=H6.out.1.cell 3
 have y4:=H6.out.1.cell 4
 have y5:=H6.out.1.cell 5
 simp at y0 y1 y2 y3 y4 y5
 exact bodyPost_ret (v:=.agg #[.int .i64 k,.int .i64 0,.int .i64 ss,.int .i64 0,.int .i64 0,(.slice none 0 0)]) (by simp [results,Tryz.results61,go_sem,y0,y1,y2,y3,y4,y5]) rfl ⟨rfl,hg⟩
theorem named61_0 (ao:Option Addr)(n cp:Nat)(k:Int)(tk ss nb mk:Int)(l:List POp)(w:World)(h1:(k==1)=false)(h2:(k==2)=false)(h3:(k==3)=false)(h4:(k==4)=false):Calls Tryz.prog 61 #[cmdV (.slice ao n cp) ⟨k,tk,ss,nb,mk,l⟩] w fun e w'=>e=.returned (cmdV (.slice none 0 0) ⟨k,0,0,0,0,[]⟩)/\w.grownBy w' none:=by
 simp only [cmdV]
 have i0:=ix0
 have i1:=ix1
 have i2:=ix2
 go_enter Tryz.func61,Tryz.ntmps61
 go_wp2_with fail
 obtain ⟨W,hW,HW⟩:=al3 w #[.int .i64 k,.int .i64 tk,.int .i64 ss,.int .i64 nb,.int .i64 mk,.slice ao n cp] #[.int .i64 0,.int .i64 0,.int .i64 0,.int .i64 0,.int .i64 0,.slice none 0 0] #[.int .i64 k,.int .i64 0,.int .i64 0,.int .i64 0,.int .i64 0,.slice none 0 0] 27 27 27
 rw [hW]
 clear hW
 refine (numbers30_0 w.heap.size (.slice ao n cp) ⟨k,tk,ss,nb,mk,l⟩ W HW.out.1 h1 h2 h3 h4).mono ?_
 rintro e w1 ⟨rfl,gg1⟩
 have H1:Hid (Blk w1 w.heap.size 27 #[.int .i64 k,.int .i64 tk,.int .i64 ss,.int .i64 nb,.int .i64 mk,.slice ao n cp]/\Blk w1 (w.heap.size+1) 27 #[.int .i64 0,.int .i64 0,.int .i64 0,.int .i64 0,.int .i64 0,.slice none 0 0]/\Blk w1 (w.heap.size+1+1) 27 #[.int .i64 k,.int .i64 0,.int .i64 0,.int .i64 0,.int .i64 0,.slice none 0 0]/\w.grownBy w1 none/\w.heap.size+3<=w1.heap.size) :=
  ⟨HW.out.1.grown gg1 (by simp),HW.out.2.1.grown gg1 (by simp),HW.out.2.2.1.grown gg1 (by simp),grown_trans HW.out.2.2.2.1 gg1,by have:=gg1.size;have:=HW.out.2.2.2.2;omega⟩
 clear gg1 HW
 try unfold pt
 go_wp2_with fail
 obtain ⟨w2,hw2,H2⟩:=al1 w1 #[.pointer none,.pointer none,.pointer none] 60
 rw [hw2]
 clear hw2
 refine (numbers30_0 (w.heap.size+1+1) (.slice none 0 0) ⟨k,0,0,0,0,[]⟩ w2 (H1.out.2.2.1.grown H2.out.2.1 (by simp)) h1 h2 h3 h4).mono ?_
 rintro e w3 ⟨rfl,gg3⟩
 have G3:Hid (w1.grownBy w3 none):=grown_trans H2.out.2.1 gg3
 have H3:Hid (Blk w3 w.heap.size 27 #[.int .i64 k,.int .i64 tk,.int .i64 ss,.int .i64 nb,.int .i64 mk,.slice ao n cp]/\Blk w3 (w.heap.size+1) 27 #[.int .i64 0,.int .i64 0,.int .i64 0,.int .i64 0,.int .i64 0,.slice none 0 0]/\Blk w3 (w.heap.size+1+1) 27 #[.int .i64 k,.int .i64 0,.int .i64 0,.int .i64 0,.int .i64 0,.slice none 0 0]/\w.grownBy w3 none/\Blk w3 w1.heap.size 60 #[.pointer none,.pointer none,.pointer none]/\w.heap.size+3<=w1.heap.size) :=
  ⟨H1.out.1.grown G3.out (by simp),H1.out.2.1.grown G3.out (by simp),H1.out.2.2.1.grown G3.out (by simp),grown_trans H1.out.2.2.2.1 G3.out,H2.out.1.grown gg3 (by simp),H1.out.2.2.2.2⟩
 clear gg3 G3 H1 H2
 try unfold pt
 go_wp2_with fail
 refine wp_loop_rounds 4 ?_
 rw [rounds_succ]
 go_wp2_with fail
 rw [rounds_succ]
 go_wp2_with fail
 rw [rounds_succ]
 go_wp2_with fail
 rw [rounds_succ]
 have a9:=H3.out.1.cell 0
 simp at a9
 have s0:=H3.out.2.2.1.cell 0
 have s1:=H3.out.2.2.1.cell 1
 have s2:=H3.out.2.2.1.cell 2
 have s3:=H3.out.2.2.1.cell 3
 have s4:=H3.out.2.2.1.cell 4
 have s5:=H3.out.2.2.1.cell 5
 have r0:=H3.out.2.1.cell 0
 have r1:=H3.out.2.1.cell 1
 have r2:=H3.out.2.1.cell 2
 have r3:=H3.out.2.1.cell 3
 have r4:=H3.out.2.1.cell 4
 have r5:=H3.out.2.1.cell 5
 have z0:=H3.out.2.1.free 0
 have z1:=H3.out.2.1.free 1
 have z2:=H3.out.2.1.free 2
 have z3:=H3.out.2.1.free 3
 have z4:=H3.out.2.1.free 4
 have z5:=H3.out.2.1.free 5
 simp at s0 s1 s2 s3 s4 s5 r0 r1 r2 r3 r4 r5
 go_wp2_with fail
 obtain ⟨W6,hW6,H6⟩:=set6 H3.out.2.1 (.int .i64 k) (.int .i64 0) (.int .i64 0) (.int .i64 0) (.int .i64 0) (.slice none 0 0)
 rw [hW6]
 clear hW6
 have hg:w.grownBy W6 none:=grown_new H3.out.2.2.2.1 H6.out.2 (by intro x hx;simp at hx;omega)
 have y0:=H6.out.1.cell 0
 have y1:=H6.out.1.cell 1
 have y2:=H6.out.1.cell 2
 have y3:=H6.out.1.cell 3
 have y4:=H6.out.1.cell 4
 have y5:=H6.out.1.cell 5
 simp at y0 y1 y2 y3 y4 y5
 exact bodyPost_ret (v:=.agg #[.int .i64 k,.int .i64 0,.int .i64 0,.int .i64 0,.int .i64 0,(.slice none 0 0)]) (by simp [results,Tryz.results61,go_sem,y0,y1,y2,y3,y4,y5]) rfl ⟨rfl,hg⟩
def novV (ov:Value)(c:PCmd):Value:=if c.kind=2 then ov else .slice none 0 0
theorem ops_nil (w:World):Ops w (.slice none 0 0) []:=⟨none,0,rfl,by simp,fun j hj=>absurd hj (by simp)⟩
theorem nov_ops {w:World}{ov:Value}{c:PCmd}(h:Ops w ov c.ops):Ops w (novV ov c) (namedC c).ops:=by
 unfold novV namedC
 by_cases h2:c.kind=2
 ·rw [if_pos h2,if_neg (by omega),if_pos h2];exact h
 ·rw [if_neg h2]
  by_cases h1:c.kind=1
  ·rw [if_pos h1];exact ops_nil w
  ·rw [if_neg h1,if_neg h2]
   split <;> exact ops_nil w
theorem named61 (ov:Value)(c:PCmd)(w:World)(h:Ops w ov c.ops):Calls Tryz.prog 61 #[cmdV ov c] w fun e w'=>e=.returned (cmdV (novV ov c) (namedC c))/\w.grownBy w' none:=by
 obtain ⟨ao,n,cp,rfl,_⟩:=ops_open h
 obtain ⟨k,tk,ss,nb,mk,l⟩:=c
 unfold novV namedC
 by_cases h1:k=1
 ·subst h1;exact named61_1 ao n cp tk ss nb mk l w
 ·by_cases h2:k=2
  ·subst h2;exact named61_2 ao n cp tk ss nb mk l w
  ·by_cases h3:k=3
   ·subst h3;exact named61_34 3 (.inl rfl) ao n cp tk ss nb mk l w
   ·by_cases h4:k=4
    ·subst h4;exact named61_34 4 (.inr rfl) ao n cp tk ss nb mk l w
    ·rw [if_neg h2,if_neg h1,if_neg h2,if_neg (by simp;omega)]
     exact named61_0 ao n cp k tk ss nb mk l w (by simp [h1]) (by simp [h2]) (by simp [h3]) (by simp [h4])
theorem fits28_1 (ao:Option Addr)(n cp:Nat)(tk ss nb mk:Int)(l:List POp)(w:World)(hl:Ops w (.slice ao n cp) l):Calls Tryz.prog 28 #[cmdV (.slice ao n cp) (⟨1,tk,ss,nb,mk,l⟩:PCmd)] w fun e w'=>e=.returned (.bool (decide (1<=tk) && decide ((⟨1,tk,ss,nb,mk,l⟩:PCmd)=namedC (⟨1,tk,ss,nb,mk,l⟩:PCmd))))/\w.grownBy w' none:=by
 have HL:Hid (Ops w (.slice ao n cp) l):=hl
 clear hl
 simp only [cmdV]
 have i0:=ix0
 go_enter Tryz.func28,Tryz.ntmps28
 go_wp2_with fail
 obtain ⟨W,hW,HW⟩:=al1 w #[.int .i64 1,.int .i64 tk,.int .i64 ss,.int .i64 nb,.int .i64 mk,.slice ao n cp] 27
 rw [hW]
 clear hW
 refine (numbers30_1 w.heap.size (.slice ao n cp) (⟨1,tk,ss,nb,mk,l⟩:PCmd) W HW.out.1 rfl).mono ?_
 rintro e w1 ⟨rfl,gg1⟩
 have H1:Hid (Blk w1 w.heap.size 27 #[.int .i64 1,.int .i64 tk,.int .i64 ss,.int .i64 nb,.int .i64 mk,.slice ao n cp]/\w.grownBy w1 none):=⟨HW.out.1.grown gg1 (by simp),grown_trans HW.out.2.1 gg1⟩
 clear gg1 HW
 try unfold pt
 have c0:=H1.out.1.cell 0
 have c1:=H1.out.1.cell 1
 have c3:=H1.out.1.cell 3
 have c4:=H1.out.1.cell 4
 simp at c0 c1 c3 c4
 by_cases hi:tk<1
 ·have q:(tk<1)=True:=by simp [hi]
  have N:Hid (tk<1):=hi
  clear hi
  go_wp2_with fail
  go_ret
  refine ⟨?_,H1.out.2⟩
  have:¬(1<=tk):=by have:=N.out;omega
  simp [this]
 have q:(tk<1)=False:=by simp;omega
 have N:Hid (1<=tk):=by unfold Hid;omega
 clear hi
 go_wp2_with fail
 have HC:Hid (∀y:World,w1.grownBy y none->y.cell? ⟨w.heap.size,0,none⟩=some (.int .i64 1)/\y.cell? ⟨w.heap.size,1,none⟩=some (.int .i64 tk)/\y.cell? ⟨w.heap.size,2,none⟩=some (.int .i64 ss)/\y.cell? ⟨w.heap.size,3,none⟩=some (.int .i64 nb)/\y.cell? ⟨w.heap.size,4,none⟩=some (.int .i64 mk)/\y.cell? ⟨w.heap.size,5,none⟩=some (.slice ao n cp)):=fun y hy=>by
  have hb:=H1.out.1.grown hy (by simp)
  exact ⟨hb.cell 0,hb.cell 1,hb.cell 2,hb.cell 3,hb.cell 4,hb.cell 5⟩
 clear c0 c1 c3 c4 i0
 refine wp_region_noPanic ?_
 refine wp_region_hold 1000 (fun y=>w1.grownBy y none) (by kernel_rfl) ?_
 have G0:Hid (w1.grownBy w1.drew none):=grown_drew _ _
 generalize w1.drew=wd at G0 ⊢
 have J:Idx [0,1]:=trivial
 iterate 2 (refine tK J (G0.out) rfl rfl (fun wk hk=>by obtain ⟨m0,m1,m2,m3,m4,m5⟩:=HC.out wk hk;go_simp;try rfl) ?_;replace J:=J.tl;try simp only [pN])
 clear J
 refine wpHold_one (i:=2) rfl (by kernel_rfl) (by rfl) (fun K hK=>?_)
 go_wp2_with fail
 refine (named61 (.slice ao n cp) (⟨1,tk,ss,nb,mk,l⟩:PCmd) wd ((HL.out.grown H1.out.2).grown G0.out)).mono ?_
 rintro e w2 ⟨rfl,g2'⟩
 have G2:Hid (w1.grownBy w2 none):=grown_trans G0.out g2'
 clear g2'
 unfold cmdV
 go_wp2_with fail
 refine hK.out _ _ (fun _=>G2.out) ?_
 clear hK K
 try simp only [pN]
 refine wpHold_one (i:=3) rfl (by kernel_rfl) (by rfl) (fun K hK=>?_)
 go_wp2_with fail
 refine (same24 (.slice ao n cp) (novV (.slice ao n cp) (⟨1,tk,ss,nb,mk,l⟩:PCmd)) (⟨1,tk,ss,nb,mk,l⟩:PCmd) (namedC (⟨1,tk,ss,nb,mk,l⟩:PCmd)) w2 ((HL.out.grown H1.out.2).grown G2.out) (nov_ops (c:=(⟨1,tk,ss,nb,mk,l⟩:PCmd)) ((HL.out.grown H1.out.2).grown G2.out))).mono ?_
 rintro e w3 ⟨rfl,g3'⟩
 have G3:Hid (w1.grownBy w3 none):=grown_trans G2.out g3'
 clear g3'
 go_wp2_with fail
 refine hK.out _ _ (fun _=>G3.out) ?_
 clear hK K
 try simp only [pN]
 refine tK (i:=4) (l':=[]) trivial (G3.out) rfl rfl (fun wk hk=>by obtain ⟨m0,m1,m2,m3,m4,m5⟩:=HC.out wk hk;go_simp;try rfl) ?_
 try simp only [pN]
 refine wpHold_done (by kernel_rfl) ?_
 refine (‹∀(a:Act) (w:World),Code.wp Tryz.prog _ _ a w->_› _ _ ?_)
 go_wp2_with fail
 go_ret
 refine ⟨?_,grown_trans H1.out.2 G3.out⟩
 have:=N.out;simp [this]
theorem fits28_2 (ao:Option Addr)(n cp:Nat)(tk ss nb mk:Int)(l:List POp)(w:World)(hl:Ops w (.slice ao n cp) l):Calls Tryz.prog 28 #[cmdV (.slice ao n cp) (⟨2,tk,ss,nb,mk,l⟩:PCmd)] w fun e w'=>e=.returned (.bool (decide (1<=ss) && decide (0<=mk/\mk<nb) && decide ((⟨2,tk,ss,nb,mk,l⟩:PCmd)=namedC (⟨2,tk,ss,nb,mk,l⟩:PCmd))))/\w.grownBy w' none:=by
 have HL:Hid (Ops w (.slice ao n cp) l):=hl
 clear hl
 simp only [cmdV]
 have i0:=ix0
 go_enter Tryz.func28,Tryz.ntmps28
 go_wp2_with fail
 obtain ⟨W,hW,HW⟩:=al1 w #[.int .i64 2,.int .i64 tk,.int .i64 ss,.int .i64 nb,.int .i64 mk,.slice ao n cp] 27
 rw [hW]
 clear hW
 refine (numbers30_2 w.heap.size (.slice ao n cp) (⟨2,tk,ss,nb,mk,l⟩:PCmd) W HW.out.1 rfl).mono ?_
 rintro e w1 ⟨rfl,gg1⟩
 have H1:Hid (Blk w1 w.heap.size 27 #[.int .i64 2,.int .i64 tk,.int .i64 ss,.int .i64 nb,.int .i64 mk,.slice ao n cp]/\w.grownBy w1 none):=⟨HW.out.1.grown gg1 (by simp),grown_trans HW.out.2.1 gg1⟩
 clear gg1 HW
 try unfold pt
 have c0:=H1.out.1.cell 0
 have c1:=H1.out.1.cell 2
 have c3:=H1.out.1.cell 3
 have c4:=H1.out.1.cell 4
 simp at c0 c1 c3 c4
 by_cases hi:ss<1
 ·have q:(ss<1)=True:=by simp [hi]
  have N:Hid (ss<1):=hi
  clear hi
  go_wp2_with fail
  go_ret
  refine ⟨?_,H1.out.2⟩
  have:¬(1<=ss):=by have:=N.out;omega
  simp [this]
 have q:(ss<1)=False:=by simp;omega
 have N:Hid (1<=ss):=by unfold Hid;omega
 clear hi
 by_cases hm:mk<0
 ·have q2:(mk<0)=True:=by simp [hm]
  have N2:Hid (mk<0):=hm
  clear hm
  go_wp2_with fail
  go_ret
  refine ⟨?_,H1.out.2⟩
  have:¬(0<=mk/\mk<nb):=by have:=N2.out;omega
  simp [this]
 have q2:(mk<0)=False:=by simp;omega
 have N2:Hid (0<=mk):=by unfold Hid;omega
 clear hm
 by_cases hm:nb<=mk
 ·have q3:(nb<=mk)=True:=by simp [hm]
  have N3:Hid (nb<=mk):=hm
  clear hm
  go_wp2_with fail
  go_ret
  refine ⟨?_,H1.out.2⟩
  have:¬(0<=mk/\mk<nb):=by have:=N3.out;omega
  simp [this]
 have q3:(nb<=mk)=False:=by simp;omega
 have N3:Hid (mk<nb):=by unfold Hid;omega
 clear hm
 go_wp2_with fail
 have HC:Hid (∀y:World,w1.grownBy y none->y.cell? ⟨w.heap.size,0,none⟩=some (.int .i64 2)/\y.cell? ⟨w.heap.size,1,none⟩=some (.int .i64 tk)/\y.cell? ⟨w.heap.size,2,none⟩=some (.int .i64 ss)/\y.cell? ⟨w.heap.size,3,none⟩=some (.int .i64 nb)/\y.cell? ⟨w.heap.size,4,none⟩=some (.int .i64 mk)/\y.cell? ⟨w.heap.size,5,none⟩=some (.slice ao n cp)):=fun y hy=>by
  have hb:=H1.out.1.grown hy (by simp)
  exact ⟨hb.cell 0,hb.cell 1,hb.cell 2,hb.cell 3,hb.cell 4,hb.cell 5⟩
 clear c0 c1 c3 c4 i0
 refine wp_region_noPanic ?_
 refine wp_region_hold 1000 (fun y=>w1.grownBy y none) (by kernel_rfl) ?_
 have G0:Hid (w1.grownBy w1.drew none):=grown_drew _ _
 generalize w1.drew=wd at G0 ⊢
 have J:Idx [0,1]:=trivial
 iterate 2 (refine tK J (G0.out) rfl rfl (fun wk hk=>by obtain ⟨m0,m1,m2,m3,m4,m5⟩:=HC.out wk hk;go_simp;try rfl) ?_;replace J:=J.tl;try simp only [pN])
 clear J
 refine wpHold_one (i:=2) rfl (by kernel_rfl) (by rfl) (fun K hK=>?_)
 go_wp2_with fail
 refine (named61 (.slice ao n cp) (⟨2,tk,ss,nb,mk,l⟩:PCmd) wd ((HL.out.grown H1.out.2).grown G0.out)).mono ?_
 rintro e w2 ⟨rfl,g2'⟩
 have G2:Hid (w1.grownBy w2 none):=grown_trans G0.out g2'
 clear g2'
 unfold cmdV
 go_wp2_with fail
 refine hK.out _ _ (fun _=>G2.out) ?_
 clear hK K
 try simp only [pN]
 refine wpHold_one (i:=3) rfl (by kernel_rfl) (by rfl) (fun K hK=>?_)
 go_wp2_with fail
 refine (same24 (.slice ao n cp) (novV (.slice ao n cp) (⟨2,tk,ss,nb,mk,l⟩:PCmd)) (⟨2,tk,ss,nb,mk,l⟩:PCmd) (namedC (⟨2,tk,ss,nb,mk,l⟩:PCmd)) w2 ((HL.out.grown H1.out.2).grown G2.out) (nov_ops (c:=(⟨2,tk,ss,nb,mk,l⟩:PCmd)) ((HL.out.grown H1.out.2).grown G2.out))).mono ?_
 rintro e w3 ⟨rfl,g3'⟩
 have G3:Hid (w1.grownBy w3 none):=grown_trans G2.out g3'
 clear g3'
 go_wp2_with fail
 refine hK.out _ _ (fun _=>G3.out) ?_
 clear hK K
 try simp only [pN]
 refine tK (i:=4) (l':=[]) trivial (G3.out) rfl rfl (fun wk hk=>by obtain ⟨m0,m1,m2,m3,m4,m5⟩:=HC.out wk hk;go_simp;try rfl) ?_
 try simp only [pN]
 refine wpHold_done (by kernel_rfl) ?_
 refine (‹∀(a:Act) (w:World),Code.wp Tryz.prog _ _ a w->_› _ _ ?_)
 go_wp2_with fail
 go_ret
 refine ⟨?_,grown_trans H1.out.2 G3.out⟩
 have:=N.out;have:=N2.out;have:=N3.out;simp [*]
theorem fits28_34 (k:Int)(hk34:k=3\/k=4)(ao:Option Addr)(n cp:Nat)(tk ss nb mk:Int)(l:List POp)(w:World)(hl:Ops w (.slice ao n cp) l):Calls Tryz.prog 28 #[cmdV (.slice ao n cp) (⟨k,tk,ss,nb,mk,l⟩:PCmd)] w fun e w'=>e=.returned (.bool (decide (1<=ss) && decide ((⟨k,tk,ss,nb,mk,l⟩:PCmd)=namedC (⟨k,tk,ss,nb,mk,l⟩:PCmd))))/\w.grownBy w' none:=by
 have HK:Hid (k=3\/k=4):=hk34
 have k1:(k==1)=false:=by simp;omega
 have k2:(k==2)=false:=by simp;omega
 have k3:(k=1)=False:=eq_false (by omega)
 have k4:(k=2)=False:=eq_false (by omega)
 clear hk34
 have HL:Hid (Ops w (.slice ao n cp) l):=hl
 clear hl
 simp only [cmdV]
 have i0:=ix0
 go_enter Tryz.func28,Tryz.ntmps28
 go_wp2_with fail
 obtain ⟨W,hW,HW⟩:=al1 w #[.int .i64 k,.int .i64 tk,.int .i64 ss,.int .i64 nb,.int .i64 mk,.slice ao n cp] 27
 rw [hW]
 clear hW
 refine (numbers30_34 w.heap.size (.slice ao n cp) (⟨k,tk,ss,nb,mk,l⟩:PCmd) W HW.out.1 HK.out).mono ?_
 rintro e w1 ⟨rfl,gg1⟩
 have H1:Hid (Blk w1 w.heap.size 27 #[.int .i64 k,.int .i64 tk,.int .i64 ss,.int .i64 nb,.int .i64 mk,.slice ao n cp]/\w.grownBy w1 none):=⟨HW.out.1.grown gg1 (by simp),grown_trans HW.out.2.1 gg1⟩
 clear gg1 HW
 try unfold pt
 have c0:=H1.out.1.cell 0
 have c1:=H1.out.1.cell 2
 have c3:=H1.out.1.cell 3
 have c4:=H1.out.1.cell 4
 simp at c0 c1 c3 c4
 by_cases hi:ss<1
 ·have q:(ss<1)=True:=by simp [hi]
  have N:Hid (ss<1):=hi
  clear hi
  go_wp2_with fail
  go_ret
  refine ⟨?_,H1.out.2⟩
  have:¬(1<=ss):=by have:=N.out;omega
  simp [this]
 have q:(ss<1)=False:=by simp;omega
 have N:Hid (1<=ss):=by unfold Hid;omega
 clear hi
 go_wp2_with fail
 have HC:Hid (∀y:World,w1.grownBy y none->y.cell? ⟨w.heap.size,0,none⟩=some (.int .i64 k)/\y.cell? ⟨w.heap.size,1,none⟩=some (.int .i64 tk)/\y.cell? ⟨w.heap.size,2,none⟩=some (.int .i64 ss)/\y.cell? ⟨w.heap.size,3,none⟩=some (.int .i64 nb)/\y.cell? ⟨w.heap.size,4,none⟩=some (.int .i64 mk)/\y.cell? ⟨w.heap.size,5,none⟩=some (.slice ao n cp)):=fun y hy=>by
  have hb:=H1.out.1.grown hy (by simp)
  exact ⟨hb.cell 0,hb.cell 1,hb.cell 2,hb.cell 3,hb.cell 4,hb.cell 5⟩
 clear c0 c1 c3 c4 i0
 refine wp_region_noPanic ?_
 refine wp_region_hold 1000 (fun y=>w1.grownBy y none) (by kernel_rfl) ?_
 have G0:Hid (w1.grownBy w1.drew none):=grown_drew _ _
 generalize w1.drew=wd at G0 ⊢
 have J:Idx [0,1]:=trivial
 iterate 2 (refine tK J (G0.out) rfl rfl (fun wk hk=>by obtain ⟨m0,m1,m2,m3,m4,m5⟩:=HC.out wk hk;go_simp;try rfl) ?_;replace J:=J.tl;try simp only [pN])
 clear J
 refine wpHold_one (i:=2) rfl (by kernel_rfl) (by rfl) (fun K hK=>?_)
 go_wp2_with fail
 refine (named61 (.slice ao n cp) (⟨k,tk,ss,nb,mk,l⟩:PCmd) wd ((HL.out.grown H1.out.2).grown G0.out)).mono ?_
 rintro e w2 ⟨rfl,g2'⟩
 have G2:Hid (w1.grownBy w2 none):=grown_trans G0.out g2'
 clear g2'
 unfold cmdV
 go_wp2_with fail
 refine hK.out _ _ (fun _=>G2.out) ?_
 clear hK K
 try simp only [pN]
 refine wpHold_one (i:=3) rfl (by kernel_rfl) (by rfl) (fun K hK=>?_)
 go_wp2_with fail
 refine (same24 (.slice ao n cp) (novV (.slice ao n cp) (⟨k,tk,ss,nb,mk,l⟩:PCmd)) (⟨k,tk,ss,nb,mk,l⟩:PCmd) (namedC (⟨k,tk,ss,nb,mk,l⟩:PCmd)) w2 ((HL.out.grown H1.out.2).grown G2.out) (nov_ops (c:=(⟨k,tk,ss,nb,mk,l⟩:PCmd)) ((HL.out.grown H1.out.2).grown G2.out))).mono ?_
 rintro e w3 ⟨rfl,g3'⟩
 have G3:Hid (w1.grownBy w3 none):=grown_trans G2.out g3'
 clear g3'
 go_wp2_with fail
 refine hK.out _ _ (fun _=>G3.out) ?_
 clear hK K
 try simp only [pN]
 refine tK (i:=4) (l':=[]) trivial (G3.out) rfl rfl (fun wk hk=>by obtain ⟨m0,m1,m2,m3,m4,m5⟩:=HC.out wk hk;go_simp;try rfl) ?_
 try simp only [pN]
 refine wpHold_done (by kernel_rfl) ?_
 refine (‹∀(a:Act) (w:World),Code.wp Tryz.prog _ _ a w->_› _ _ ?_)
 go_wp2_with fail
 go_ret
 refine ⟨?_,grown_trans H1.out.2 G3.out⟩
 have:=N.out;simp [this]
theorem fits28_0 (ao:Option Addr)(n cp:Nat)(k:Int)(tk ss nb mk:Int)(l:List POp)(w:World)(hl:Ops w (.slice ao n cp) l)(h1:(k==1)=false)(h2:(k==2)=false)(h3:(k==3)=false)(h4:(k==4)=false):Calls Tryz.prog 28 #[cmdV (.slice ao n cp) (⟨k,tk,ss,nb,mk,l⟩:PCmd)] w fun e w'=>e=.returned (.bool (false))/\w.grownBy w' none:=by
 have HL:Hid (Ops w (.slice ao n cp) l):=hl
 clear hl
 simp only [cmdV]
 have i0:=ix0
 go_enter Tryz.func28,Tryz.ntmps28
 go_wp2_with fail
 obtain ⟨W,hW,HW⟩:=al1 w #[.int .i64 k,.int .i64 tk,.int .i64 ss,.int .i64 nb,.int .i64 mk,.slice ao n cp] 27
 rw [hW]
 clear hW
 refine (numbers30_0 w.heap.size (.slice ao n cp) (⟨k,tk,ss,nb,mk,l⟩:PCmd) W HW.out.1 h1 h2 h3 h4).mono ?_
 rintro e w1 ⟨rfl,gg1⟩
 have H1:Hid (Blk w1 w.heap.size 27 #[.int .i64 k,.int .i64 tk,.int .i64 ss,.int .i64 nb,.int .i64 mk,.slice ao n cp]/\w.grownBy w1 none):=⟨HW.out.1.grown gg1 (by simp),grown_trans HW.out.2.1 gg1⟩
 clear gg1 HW
 try unfold pt
 go_wp2_with fail
 go_ret
 exact ⟨rfl,H1.out.2⟩
theorem fits28 (ov:Value)(c:PCmd)(w:World)(h:Ops w ov c.ops):Calls Tryz.prog 28 #[cmdV ov c] w fun e w'=>e=.returned (.bool (fitC c))/\w.grownBy w' none:=by
 obtain ⟨ao,n,cp,rfl,_⟩:=ops_open h
 obtain ⟨k,tk,ss,nb,mk,l⟩:=c
 unfold fitC idOk idC markOk
 by_cases h1:k=1
 ·subst h1;simpa using fits28_1 ao n cp tk ss nb mk l w h
 ·by_cases h2:k=2
  ·subst h2;simpa using fits28_2 ao n cp tk ss nb mk l w h
  ·by_cases h3:k=3
   ·subst h3;simpa using fits28_34 3 (.inl rfl) ao n cp tk ss nb mk l w h
   ·by_cases h4:k=4
    ·subst h4;simpa using fits28_34 4 (.inr rfl) ao n cp tk ss nb mk l w h
    ·have:=fits28_0 ao n cp k tk ss nb mk l w h (by simp [h1]) (by simp [h2]) (by simp [h3]) (by simp [h4])
     simpa [h1,h2,h3,h4] using this
theorem sgn_len {n:Int}(h0:-9223372036854775808<=n)(h1:n<=9223372036854775807):(sgn n).length<=10:=Wire.numForm_len10 _ (Wire.foldZ_lt n h0 h1)
def BytesC (c:PCmd)(w:World)(e:Ending)(w':World):Prop:=∃u,e=.returned (.tuple #[u,.int .i64 (chkC c)])/\Own w' w.heap.size u (if okC c=true then formC c else [])/\w.grownBy w' none
def ResC (k:Int)(L:Bs)(w:World)(e:Ending)(w':World):Prop:=∃u,e=.returned (.tuple #[u,.int .i64 k])/\Own w' w.heap.size u L/\w.grownBy w' none
theorem bytes10_no (ov:Value)(c:PCmd)(w:World)(hl:Ops w ov c.ops)(hf:fitC c=false):Calls Tryz.prog 10 #[cmdV ov c] w (ResC 2 [] w):=by
 obtain ⟨ao,n,cp,rfl,_,_,HL⟩:=ops_open hl
 clear hl
 unfold cmdV
 go_enter Tryz.func10,Tryz.ntmps10
 go_wp2_with fail
 obtain ⟨W,hW,HW⟩:=al1 w (cmdA (.slice ao n cp) c) 27
 unfold cmdA at hW
 rw [hW]
 clear hW
 refine (fits28 (.slice ao n cp) c W (HL.out.grown HW.out.2.1)).mono ?_
 rintro e w1 ⟨rfl,g1⟩
 rw [hf]
 have G:Hid (w.grownBy w1 none):=grown_trans HW.out.2.1 g1
 clear g1 HW
 go_wp2_with fail
 go_ret2
 exact ⟨_,rfl,Own.nil _ _,G.out⟩
theorem bytes10_1 (ao:Option Addr)(n cp:Nat)(tk ss nb mk:Int)(l:List POp)(w:World)(hl:Ops w (.slice ao n cp) l)(hI:InC (⟨1,tk,ss,nb,mk,l⟩:PCmd))(hf:fitC (⟨1,tk,ss,nb,mk,l⟩:PCmd)=true):Calls Tryz.prog 10 #[cmdV (.slice ao n cp) (⟨1,tk,ss,nb,mk,l⟩:PCmd)] w (BytesC (⟨1,tk,ss,nb,mk,l⟩:PCmd) w):=by
 have HL:Hid (Ops w (.slice ao n cp) l/\InC (⟨1,tk,ss,nb,mk,l⟩:PCmd)):=⟨hl,hI⟩
 clear hl hI
 simp only [cmdV]
 have i0:=ix0
 have i1:=ix1
 have i2:=ix2
 go_enter Tryz.func10,Tryz.ntmps10
 go_wp2_with fail
 obtain ⟨W,hW,HW⟩:=al1 w #[.int .i64 1,.int .i64 tk,.int .i64 ss,.int .i64 nb,.int .i64 mk,.slice ao n cp] 27
 rw [hW]
 clear hW
 refine (fits28 (.slice ao n cp) (⟨1,tk,ss,nb,mk,l⟩:PCmd) W (HL.out.1.grown HW.out.2.1)).mono ?_
 rintro e w1 ⟨rfl,gg1⟩
 rw [hf]
 have H1:Hid (Blk w1 w.heap.size 27 #[.int .i64 1,.int .i64 tk,.int .i64 ss,.int .i64 nb,.int .i64 mk,.slice ao n cp]/\w.grownBy w1 none/\w.heap.size<w1.heap.size):=⟨HW.out.1.grown gg1 (by simp),grown_trans HW.out.2.1 gg1,by have:=gg1.size;have:=HW.out.2.2;omega⟩
 clear gg1 HW
 have HF:Hid (fitC (⟨1,tk,ss,nb,mk,l⟩:PCmd)=true):=hf
 clear hf
 have c0:=H1.out.1.cell 0
 simp at c0
 go_wp2_with fail
 refine (Wire.number9_int _ 1 rfl (by decide) _).mono ?_
 rintro e w2 ⟨u0,rfl,o0,gg2⟩
 obtain ⟨x0,y0,e0⟩:=o0.seg.shape
 subst e0
 have H2:Hid (Blk w2 w.heap.size 27 #[.int .i64 1,.int .i64 tk,.int .i64 ss,.int .i64 nb,.int .i64 mk,.slice ao n cp]/\w.grownBy w2 none/\Own w2 (w.heap.size+1) (.slice x0 (Wire.numForm 1).length y0) (Wire.numForm 1)):=⟨H1.out.1.grown gg2 (by simp),grown_trans H1.out.2.1 gg2,Own.mono o0 H1.out.2.2⟩
 clear gg2 o0 H1 c0
 obtain ⟨F0,hF0⟩:∃F,Wire.numForm 1=F:=⟨_,rfl⟩
 have B0:Hid (F0.length<=10/\Wire.numForm 1=F0):=⟨by rw [<-hF0];exact Wire.numForm_len10 _ (by decide),hF0⟩
 rw [hF0] at H2 ⊢
 clear hF0
 obtain ⟨n0,hn0⟩:∃n,F0.length=n:=⟨_,rfl⟩
 rw [hn0] at H2 ⊢
 have N0:Hid (F0.length=n0):=hn0
 clear hn0
 go_wp2_with fail
 refine (numbers30_1 w.heap.size (.slice ao n cp) (⟨1,tk,ss,nb,mk,l⟩:PCmd) w2 H2.out.1 rfl).mono ?_
 rintro e w3 ⟨rfl,gg3⟩
 have H3:Hid (Blk w3 w.heap.size 27 #[.int .i64 1,.int .i64 tk,.int .i64 ss,.int .i64 nb,.int .i64 mk,.slice ao n cp]/\w.grownBy w3 none/\Own w3 (w.heap.size+1) (.slice x0 n0 y0) F0):=⟨H2.out.1.grown gg3 (by simp),grown_trans H2.out.2.1 gg3,H2.out.2.2.grown gg3⟩
 clear gg3 H2
 try unfold pt
 go_wp2_with fail
 refine wp_loop_rounds 4 ?_
 rw [rounds_succ]
 have a0:=H3.out.1.cell 1
 simp at a0
 go_wp2_with fail
 refine (Wire.signed13 tk HL.out.2.t0 HL.out.2.t1 _).mono ?_
 rintro e p0 ⟨r0,rfl,or0,gr0⟩
 obtain ⟨s0,t0,er0⟩:=or0.seg.shape
 subst er0
 have H4:Hid (Blk p0 w.heap.size 27 #[.int .i64 1,.int .i64 tk,.int .i64 ss,.int .i64 nb,.int .i64 mk,.slice ao n cp]/\w.grownBy p0 none/\Seg p0 (.slice x0 n0 y0) F0/\Seg p0 (.slice s0 (Wire.numForm (Wire.foldZ tk)).length t0) (sgn tk)/\w.heap.size+1<=p0.heap.size):=⟨H3.out.1.grown gr0 (by simp),grown_trans H3.out.2.1 gr0,H3.out.2.2.seg.grown gr0,or0.seg,by have:=gr0.size;have:=H3.out.1.lt;omega⟩
 clear or0 gr0 H3 a0
 go_wp2_with fail
 refine (Wire.join10 _ [F0,sgn tk] _ (Wire.segs_two H4.out.2.2.1 H4.out.2.2.2.1) ?_).mono ?_
 ·have h1:=B0.out.1
  have h2:(sgn tk).length<=10:=sgn_len HL.out.2.t0 HL.out.2.t1
  simp;omega
 rintro e q0 ⟨u1,rfl,o1,g1⟩
 obtain ⟨x1,y1,e1⟩:=o1.seg.shape
 subst e1
 have hfl:[F0,sgn tk].flatten=F0 ++ sgn tk:=by simp
 rw [hfl] at o1 ⊢
 clear hfl
 obtain ⟨F1,hF1⟩:∃F,F0 ++ sgn tk=F:=⟨_,rfl⟩
 rw [hF1] at o1 ⊢
 have B1:Hid (F1.length<=20/\F0 ++ sgn tk=F1):=⟨by
  have h1:=B0.out.1
  have h2:(sgn tk).length<=10:=sgn_len HL.out.2.t0 HL.out.2.t1
  rw [<-hF1,List.length_append];omega,hF1⟩
 clear hF1
 obtain ⟨n1,hn1⟩:∃n,F1.length=n:=⟨_,rfl⟩
 rw [hn1] at o1 ⊢
 clear hn1
 have H5:Hid (Blk q0 w.heap.size 27 #[.int .i64 1,.int .i64 tk,.int .i64 ss,.int .i64 nb,.int .i64 mk,.slice ao n cp]/\w.grownBy q0 none/\Own q0 (w.heap.size+1) (.slice x1 n1 y1) F1):=by
  have ga:=World.grownBy_alloc p0 (.cells #[(.slice x0 n0 y0),.slice s0 (Wire.numForm (Wire.foldZ tk)).length t0] 32) none
  exact ⟨(H4.out.1.grown ga (by simp)).grown g1 (by simp),grown_trans (grown_trans H4.out.2.1 ga) g1,Own.mono o1 (by have:=H4.out.2.2.2.2;have:=ga.size;omega)⟩
 clear o1 g1 H4
 have H3:=H5
 clear H5
 go_wp2_with fail
 rw [rounds_succ]
 go_wp2_with fail
 rw [rounds_succ]
 go_wp2_with fail
 rw [rounds_succ]
 have a9:=H3.out.1.cell 0
 have a8:=H3.out.1.cell 5
 simp at a9 a8
 go_wp2_with fail
 go_ret2
 have hok:okC (⟨1,tk,ss,nb,mk,l⟩:PCmd)=true:=by unfold okC;rw [HF.out];simp
 refine ⟨_,by rw [chkC,if_pos hok];rfl,?_,H3.out.2.1⟩
 rw [if_pos hok]
 have hE:formC (⟨1,tk,ss,nb,mk,l⟩:PCmd)=F1:=by
  rw [<-B1.out.2,<-B0.out.2]
  simp [formC,frontC,headC,numsC]
 rw [hE]
 exact Own.mono H3.out.2.2 (by omega)
theorem bytes10_2 (ao:Option Addr)(n cp:Nat)(tk ss nb mk:Int)(l:List POp)(w:World)(hl:Ops w (.slice ao n cp) l)(hI:InC (⟨2,tk,ss,nb,mk,l⟩:PCmd))(hf:fitC (⟨2,tk,ss,nb,mk,l⟩:PCmd)=true):Calls Tryz.prog 10 #[cmdV (.slice ao n cp) (⟨2,tk,ss,nb,mk,l⟩:PCmd)] w (BytesC (⟨2,tk,ss,nb,mk,l⟩:PCmd) w):=by
 have HL:Hid (Ops w (.slice ao n cp) l/\InC (⟨2,tk,ss,nb,mk,l⟩:PCmd)):=⟨hl,hI⟩
 clear hl hI
 simp only [cmdV]
 have i0:=ix0
 have i1:=ix1
 have i2:=ix2
 go_enter Tryz.func10,Tryz.ntmps10
 go_wp2_with fail
 obtain ⟨W,hW,HW⟩:=al1 w #[.int .i64 2,.int .i64 tk,.int .i64 ss,.int .i64 nb,.int .i64 mk,.slice ao n cp] 27
 rw [hW]
 clear hW
 refine (fits28 (.slice ao n cp) (⟨2,tk,ss,nb,mk,l⟩:PCmd) W (HL.out.1.grown HW.out.2.1)).mono ?_
 rintro e w1 ⟨rfl,gg1⟩
 rw [hf]
 have H1:Hid (Blk w1 w.heap.size 27 #[.int .i64 2,.int .i64 tk,.int .i64 ss,.int .i64 nb,.int .i64 mk,.slice ao n cp]/\w.grownBy w1 none/\w.heap.size<w1.heap.size):=⟨HW.out.1.grown gg1 (by simp),grown_trans HW.out.2.1 gg1,by have:=gg1.size;have:=HW.out.2.2;omega⟩
 clear gg1 HW
 have HF:Hid (fitC (⟨2,tk,ss,nb,mk,l⟩:PCmd)=true):=hf
 clear hf
 have c0:=H1.out.1.cell 0
 simp at c0
 go_wp2_with fail
 refine (Wire.number9_int _ 2 rfl (by decide) _).mono ?_
 rintro e w2 ⟨u0,rfl,o0,gg2⟩
 obtain ⟨x0,y0,e0⟩:=o0.seg.shape
 subst e0
 have H2:Hid (Blk w2 w.heap.size 27 #[.int .i64 2,.int .i64 tk,.int .i64 ss,.int .i64 nb,.int .i64 mk,.slice ao n cp]/\w.grownBy w2 none/\Own w2 (w.heap.size+1) (.slice x0 (Wire.numForm 2).length y0) (Wire.numForm 2)):=⟨H1.out.1.grown gg2 (by simp),grown_trans H1.out.2.1 gg2,Own.mono o0 H1.out.2.2⟩
 clear gg2 o0 H1 c0
 obtain ⟨F0,hF0⟩:∃F,Wire.numForm 2=F:=⟨_,rfl⟩
 have B0:Hid (F0.length<=10/\Wire.numForm 2=F0):=⟨by rw [<-hF0];exact Wire.numForm_len10 _ (by decide),hF0⟩
 rw [hF0] at H2 ⊢
 clear hF0
 obtain ⟨n0,hn0⟩:∃n,F0.length=n:=⟨_,rfl⟩
 rw [hn0] at H2 ⊢
 have N0:Hid (F0.length=n0):=hn0
 clear hn0
 go_wp2_with fail
 refine (numbers30_2 w.heap.size (.slice ao n cp) (⟨2,tk,ss,nb,mk,l⟩:PCmd) w2 H2.out.1 rfl).mono ?_
 rintro e w3 ⟨rfl,gg3⟩
 have H3:Hid (Blk w3 w.heap.size 27 #[.int .i64 2,.int .i64 tk,.int .i64 ss,.int .i64 nb,.int .i64 mk,.slice ao n cp]/\w.grownBy w3 none/\Own w3 (w.heap.size+1) (.slice x0 n0 y0) F0):=⟨H2.out.1.grown gg3 (by simp),grown_trans H2.out.2.1 gg3,H2.out.2.2.grown gg3⟩
 clear gg3 H2
 try unfold pt
 go_wp2_with fail
 refine wp_loop_rounds 4 ?_
 rw [rounds_succ]
 have a0:=H3.out.1.cell 2
 simp at a0
 go_wp2_with fail
 refine (Wire.signed13 ss HL.out.2.s0 HL.out.2.s1 _).mono ?_
 rintro e p0 ⟨r0,rfl,or0,gr0⟩
 obtain ⟨s0,t0,er0⟩:=or0.seg.shape
 subst er0
 have H4:Hid (Blk p0 w.heap.size 27 #[.int .i64 2,.int .i64 tk,.int .i64 ss,.int .i64 nb,.int .i64 mk,.slice ao n cp]/\w.grownBy p0 none/\Seg p0 (.slice x0 n0 y0) F0/\Seg p0 (.slice s0 (Wire.numForm (Wire.foldZ ss)).length t0) (sgn ss)/\w.heap.size+1<=p0.heap.size):=⟨H3.out.1.grown gr0 (by simp),grown_trans H3.out.2.1 gr0,H3.out.2.2.seg.grown gr0,or0.seg,by have:=gr0.size;have:=H3.out.1.lt;omega⟩
 clear or0 gr0 H3 a0
 go_wp2_with fail
 refine (Wire.join10 _ [F0,sgn ss] _ (Wire.segs_two H4.out.2.2.1 H4.out.2.2.2.1) ?_).mono ?_
 ·have h1:=B0.out.1
  have h2:(sgn ss).length<=10:=sgn_len HL.out.2.s0 HL.out.2.s1
  simp;omega
 rintro e q0 ⟨u1,rfl,o1,g1⟩
 obtain ⟨x1,y1,e1⟩:=o1.seg.shape
 subst e1
 have hfl:[F0,sgn ss].flatten=F0 ++ sgn ss:=by simp
 rw [hfl] at o1 ⊢
 clear hfl
 obtain ⟨F1,hF1⟩:∃F,F0 ++ sgn ss=F:=⟨_,rfl⟩
 rw [hF1] at o1 ⊢
 have B1:Hid (F1.length<=20/\F0 ++ sgn ss=F1):=⟨by
  have h1:=B0.out.1
  have h2:(sgn ss).length<=10:=sgn_len HL.out.2.s0 HL.out.2.s1
  rw [<-hF1,List.length_append];omega,hF1⟩
 clear hF1
 obtain ⟨n1,hn1⟩:∃n,F1.length=n:=⟨_,rfl⟩
 rw [hn1] at o1 ⊢
 clear hn1
 have H5:Hid (Blk q0 w.heap.size 27 #[.int .i64 2,.int .i64 tk,.int .i64 ss,.int .i64 nb,.int .i64 mk,.slice ao n cp]/\w.grownBy q0 none/\Own q0 (w.heap.size+1) (.slice x1 n1 y1) F1):=by
  have ga:=World.grownBy_alloc p0 (.cells #[(.slice x0 n0 y0),.slice s0 (Wire.numForm (Wire.foldZ ss)).length t0] 32) none
  exact ⟨(H4.out.1.grown ga (by simp)).grown g1 (by simp),grown_trans (grown_trans H4.out.2.1 ga) g1,Own.mono o1 (by have:=H4.out.2.2.2.2;have:=ga.size;omega)⟩
 clear o1 g1 H4
 have H3:=H5
 clear H5
 go_wp2_with fail
 rw [rounds_succ]
 have a1:=H3.out.1.cell 3
 simp at a1
 go_wp2_with fail
 refine (Wire.signed13 nb HL.out.2.n0 HL.out.2.n1 _).mono ?_
 rintro e p1 ⟨r1,rfl,or1,gr1⟩
 obtain ⟨s1,t1,er1⟩:=or1.seg.shape
 subst er1
 have H4:Hid (Blk p1 w.heap.size 27 #[.int .i64 2,.int .i64 tk,.int .i64 ss,.int .i64 nb,.int .i64 mk,.slice ao n cp]/\w.grownBy p1 none/\Seg p1 (.slice x1 n1 y1) F1/\Seg p1 (.slice s1 (Wire.numForm (Wire.foldZ nb)).length t1) (sgn nb)/\w.heap.size+1<=p1.heap.size):=⟨H3.out.1.grown gr1 (by simp),grown_trans H3.out.2.1 gr1,H3.out.2.2.seg.grown gr1,or1.seg,by have:=gr1.size;have:=H3.out.1.lt;omega⟩
 clear or1 gr1 H3 a1
 go_wp2_with fail
 refine (Wire.join10 _ [F1,sgn nb] _ (Wire.segs_two H4.out.2.2.1 H4.out.2.2.2.1) ?_).mono ?_
 ·have h1:=B1.out.1
  have h2:(sgn nb).length<=10:=sgn_len HL.out.2.n0 HL.out.2.n1
  simp;omega
 rintro e q1 ⟨u2,rfl,o2,g2⟩
 obtain ⟨x2,y2,e2⟩:=o2.seg.shape
 subst e2
 have hfl:[F1,sgn nb].flatten=F1 ++ sgn nb:=by simp
 rw [hfl] at o2 ⊢
 clear hfl
 obtain ⟨F2,hF2⟩:∃F,F1 ++ sgn nb=F:=⟨_,rfl⟩
 rw [hF2] at o2 ⊢
 have B2:Hid (F2.length<=30/\F1 ++ sgn nb=F2):=⟨by
  have h1:=B1.out.1
  have h2:(sgn nb).length<=10:=sgn_len HL.out.2.n0 HL.out.2.n1
  rw [<-hF2,List.length_append];omega,hF2⟩
 clear hF2
 obtain ⟨n2,hn2⟩:∃n,F2.length=n:=⟨_,rfl⟩
 rw [hn2] at o2 ⊢
 clear hn2
 have H5:Hid (Blk q1 w.heap.size 27 #[.int .i64 2,.int .i64 tk,.int .i64 ss,.int .i64 nb,.int .i64 mk,.slice ao n cp]/\w.grownBy q1 none/\Own q1 (w.heap.size+1) (.slice x2 n2 y2) F2):=by
  have ga:=World.grownBy_alloc p1 (.cells #[(.slice x1 n1 y1),.slice s1 (Wire.numForm (Wire.foldZ nb)).length t1] 32) none
  exact ⟨(H4.out.1.grown ga (by simp)).grown g2 (by simp),grown_trans (grown_trans H4.out.2.1 ga) g2,Own.mono o2 (by have:=H4.out.2.2.2.2;have:=ga.size;omega)⟩
 clear o2 g2 H4
 have H3:=H5
 clear H5
 go_wp2_with fail
 rw [rounds_succ]
 have a2:=H3.out.1.cell 4
 simp at a2
 go_wp2_with fail
 refine (Wire.signed13 mk HL.out.2.m0 HL.out.2.m1 _).mono ?_
 rintro e p2 ⟨r2,rfl,or2,gr2⟩
 obtain ⟨s2,t2,er2⟩:=or2.seg.shape
 subst er2
 have H4:Hid (Blk p2 w.heap.size 27 #[.int .i64 2,.int .i64 tk,.int .i64 ss,.int .i64 nb,.int .i64 mk,.slice ao n cp]/\w.grownBy p2 none/\Seg p2 (.slice x2 n2 y2) F2/\Seg p2 (.slice s2 (Wire.numForm (Wire.foldZ mk)).length t2) (sgn mk)/\w.heap.size+1<=p2.heap.size):=⟨H3.out.1.grown gr2 (by simp),grown_trans H3.out.2.1 gr2,H3.out.2.2.seg.grown gr2,or2.seg,by have:=gr2.size;have:=H3.out.1.lt;omega⟩
 clear or2 gr2 H3 a2
 go_wp2_with fail
 refine (Wire.join10 _ [F2,sgn mk] _ (Wire.segs_two H4.out.2.2.1 H4.out.2.2.2.1) ?_).mono ?_
 ·have h1:=B2.out.1
  have h2:(sgn mk).length<=10:=sgn_len HL.out.2.m0 HL.out.2.m1
  simp;omega
 rintro e q2 ⟨u3,rfl,o3,g3⟩
 obtain ⟨x3,y3,e3⟩:=o3.seg.shape
 subst e3
 have hfl:[F2,sgn mk].flatten=F2 ++ sgn mk:=by simp
 rw [hfl] at o3 ⊢
 clear hfl
 obtain ⟨F3,hF3⟩:∃F,F2 ++ sgn mk=F:=⟨_,rfl⟩
 rw [hF3] at o3 ⊢
 have B3:Hid (F3.length<=40/\F2 ++ sgn mk=F3):=⟨by
  have h1:=B2.out.1
  have h2:(sgn mk).length<=10:=sgn_len HL.out.2.m0 HL.out.2.m1
  rw [<-hF3,List.length_append];omega,hF3⟩
 clear hF3
 obtain ⟨n3,hn3⟩:∃n,F3.length=n:=⟨_,rfl⟩
 rw [hn3] at o3 ⊢
 clear hn3
 have H5:Hid (Blk q2 w.heap.size 27 #[.int .i64 2,.int .i64 tk,.int .i64 ss,.int .i64 nb,.int .i64 mk,.slice ao n cp]/\w.grownBy q2 none/\Own q2 (w.heap.size+1) (.slice x3 n3 y3) F3):=by
  have ga:=World.grownBy_alloc p2 (.cells #[(.slice x2 n2 y2),.slice s2 (Wire.numForm (Wire.foldZ mk)).length t2] 32) none
  exact ⟨(H4.out.1.grown ga (by simp)).grown g3 (by simp),grown_trans (grown_trans H4.out.2.1 ga) g3,Own.mono o3 (by have:=H4.out.2.2.2.2;have:=ga.size;omega)⟩
 clear o3 g3 H4
 have H3:=H5
 clear H5
 go_wp2_with fail
 rw [rounds_succ]
 have a9:=H3.out.1.cell 0
 have a8:=H3.out.1.cell 5
 simp at a9 a8
 go_wp2_with fail
 refine (bytes13 (.slice ao n cp) l q2 (HL.out.1.grown H3.out.2.1)).mono ?_
 rintro e v1 ⟨r9,rfl,o9,g9⟩
 by_cases hc:chk l=0
 ·rw [if_pos hc] at o9
  rw [hc]
  obtain ⟨s9,t9,e9⟩:=o9.seg.shape
  subst e9
  have hlen:(callForm l).length<=4096:=(chk0 hc).2
  have H6:Hid (w.grownBy v1 none/\Seg v1 (.slice x3 n3 y3) F3/\Seg v1 (.slice s9 (callForm l).length t9) (callForm l)/\chk l=0/\w.heap.size+1<=v1.heap.size):=⟨grown_trans H3.out.2.1 g9,H3.out.2.2.seg.grown g9,o9.seg,hc,by have:=g9.size;have:=H3.out.1.lt;omega⟩
  clear o9 g9 H3 hc a9 a8
  obtain ⟨CF,hCF⟩:∃F,callForm l=F:=⟨_,rfl⟩
  rw [hCF] at H6 hlen ⊢
  have BC:Hid (callForm l=CF/\CF.length<=4096):=⟨hCF,hlen⟩
  clear hCF hlen
  obtain ⟨nc,hnc⟩:∃n,CF.length=n:=⟨_,rfl⟩
  rw [hnc] at H6 ⊢
  clear hnc
  go_wp2_with fail
  refine (Wire.bytes8 (.slice s9 nc t9) CF v1 H6.out.2.2.1 (by have:=BC.out.2;omega)).mono ?_
  rintro e v2 ⟨r7,rfl,o7,g7⟩
  obtain ⟨s7,t7,e7⟩:=o7.seg.shape
  subst e7
  have H7:Hid (w.grownBy v2 none/\Seg v2 (.slice x3 n3 y3) F3/\Seg v2 (.slice s7 (Wire.bytesForm CF).length t7) (bytesForm CF)/\chk l=0/\w.heap.size+1<=v2.heap.size):=⟨grown_trans H6.out.1 g7,H6.out.2.1.grown g7,o7.seg,H6.out.2.2.2.1,by have:=g7.size;have:=H6.out.2.2.2.2;omega⟩
  have bl:Hid ((bytesForm CF).length<=4106):=by
   have h1:=BC.out.2
   have h2:=Wire.numForm_len10 CF.length (by omega)
   unfold Hid bytesForm
   rw [List.length_append];omega
  clear o7 g7 H6
  go_wp2_with fail
  refine (Wire.join10 _ [F3,bytesForm CF] _ (Wire.segs_two H7.out.2.1 H7.out.2.2.1) ?_).mono ?_
  ·have h1:=B3.out.1
   have h2:=bl.out
   simp;omega
  rintro e v3 ⟨r6,rfl,o6,g6⟩
  have hfl:[F3,bytesForm CF].flatten=F3 ++ bytesForm CF:=by simp
  rw [hfl] at o6
  have ga:=World.grownBy_alloc v2 (.cells #[(.slice x3 n3 y3),.slice s7 (Wire.bytesForm CF).length t7] 32) none
  have H8:Hid (Own v3 w.heap.size r6 (F3 ++ bytesForm CF)/\w.grownBy v3 none):=⟨Own.mono o6 (by have:=H7.out.2.2.2.2;have:=ga.size;omega),grown_trans (grown_trans H7.out.1 ga) g6⟩
  clear o6 g6 ga hfl
  go_wp2_with fail
  go_ret2
  have hok:okC (⟨2,tk,ss,nb,mk,l⟩:PCmd)=true:=by unfold okC;rw [HF.out];simp [H7.out.2.2.2.1]
  refine ⟨_,by rw [chkC,if_pos hok];rfl,?_,H8.out.2⟩
  rw [if_pos hok]
  have hE:formC (⟨2,tk,ss,nb,mk,l⟩:PCmd)=F3 ++ bytesForm CF:=by
   rw [<-BC.out.1]
   rw [<-B3.out.2,<-B2.out.2,<-B1.out.2,<-B0.out.2]
   simp [formC,frontC,headC,numsC]
  rw [hE]
  exact H8.out.1
 ·have hno:okC (⟨2,tk,ss,nb,mk,l⟩:PCmd)=false:=by unfold okC;rw [HF.out];simp [hc]
  have qc:(chk l==0)=false:=by simp [hc]
  have qd:(chk l=0)=False:=by simp [hc]
  have H6:Hid (w.grownBy v1 none/\okC (⟨2,tk,ss,nb,mk,l⟩:PCmd)=false):=⟨grown_trans H3.out.2.1 g9,hno⟩
  obtain ⟨s9,t9,e9⟩:=o9.seg.shape
  subst e9
  clear o9 g9 H3 hno hc
  go_wp2_with fail
  go_ret2
  refine ⟨_,by rw [chkC,if_neg (by rw [H6.out.2];decide)];rfl,?_,H6.out.1⟩
  rw [if_neg (by rw [H6.out.2];decide)]
  exact Own.nil _ _
theorem bytes10_3 (ao:Option Addr)(n cp:Nat)(tk ss nb mk:Int)(l:List POp)(w:World)(hl:Ops w (.slice ao n cp) l)(hI:InC (⟨3,tk,ss,nb,mk,l⟩:PCmd))(hf:fitC (⟨3,tk,ss,nb,mk,l⟩:PCmd)=true):Calls Tryz.prog 10 #[cmdV (.slice ao n cp) (⟨3,tk,ss,nb,mk,l⟩:PCmd)] w (BytesC (⟨3,tk,ss,nb,mk,l⟩:PCmd) w):=by
 have HL:Hid (Ops w (.slice ao n cp) l/\InC (⟨3,tk,ss,nb,mk,l⟩:PCmd)):=⟨hl,hI⟩
 clear hl hI
 simp only [cmdV]
 have i0:=ix0
 have i1:=ix1
 have i2:=ix2
 go_enter Tryz.func10,Tryz.ntmps10
 go_wp2_with fail
 obtain ⟨W,hW,HW⟩:=al1 w #[.int .i64 3,.int .i64 tk,.int .i64 ss,.int .i64 nb,.int .i64 mk,.slice ao n cp] 27
 rw [hW]
 clear hW
 refine (fits28 (.slice ao n cp) (⟨3,tk,ss,nb,mk,l⟩:PCmd) W (HL.out.1.grown HW.out.2.1)).mono ?_
 rintro e w1 ⟨rfl,gg1⟩
 rw [hf]
 have H1:Hid (Blk w1 w.heap.size 27 #[.int .i64 3,.int .i64 tk,.int .i64 ss,.int .i64 nb,.int .i64 mk,.slice ao n cp]/\w.grownBy w1 none/\w.heap.size<w1.heap.size):=⟨HW.out.1.grown gg1 (by simp),grown_trans HW.out.2.1 gg1,by have:=gg1.size;have:=HW.out.2.2;omega⟩
 clear gg1 HW
 have HF:Hid (fitC (⟨3,tk,ss,nb,mk,l⟩:PCmd)=true):=hf
 clear hf
 have c0:=H1.out.1.cell 0
 simp at c0
 go_wp2_with fail
 refine (Wire.number9_int _ 3 rfl (by decide) _).mono ?_
 rintro e w2 ⟨u0,rfl,o0,gg2⟩
 obtain ⟨x0,y0,e0⟩:=o0.seg.shape
 subst e0
 have H2:Hid (Blk w2 w.heap.size 27 #[.int .i64 3,.int .i64 tk,.int .i64 ss,.int .i64 nb,.int .i64 mk,.slice ao n cp]/\w.grownBy w2 none/\Own w2 (w.heap.size+1) (.slice x0 (Wire.numForm 3).length y0) (Wire.numForm 3)):=⟨H1.out.1.grown gg2 (by simp),grown_trans H1.out.2.1 gg2,Own.mono o0 H1.out.2.2⟩
 clear gg2 o0 H1 c0
 obtain ⟨F0,hF0⟩:∃F,Wire.numForm 3=F:=⟨_,rfl⟩
 have B0:Hid (F0.length<=10/\Wire.numForm 3=F0):=⟨by rw [<-hF0];exact Wire.numForm_len10 _ (by decide),hF0⟩
 rw [hF0] at H2 ⊢
 clear hF0
 obtain ⟨n0,hn0⟩:∃n,F0.length=n:=⟨_,rfl⟩
 rw [hn0] at H2 ⊢
 have N0:Hid (F0.length=n0):=hn0
 clear hn0
 go_wp2_with fail
 refine (numbers30_3 w.heap.size (.slice ao n cp) (⟨3,tk,ss,nb,mk,l⟩:PCmd) w2 H2.out.1 rfl).mono ?_
 rintro e w3 ⟨rfl,gg3⟩
 have H3:Hid (Blk w3 w.heap.size 27 #[.int .i64 3,.int .i64 tk,.int .i64 ss,.int .i64 nb,.int .i64 mk,.slice ao n cp]/\w.grownBy w3 none/\Own w3 (w.heap.size+1) (.slice x0 n0 y0) F0):=⟨H2.out.1.grown gg3 (by simp),grown_trans H2.out.2.1 gg3,H2.out.2.2.grown gg3⟩
 clear gg3 H2
 try unfold pt
 go_wp2_with fail
 refine wp_loop_rounds 4 ?_
 rw [rounds_succ]
 have a0:=H3.out.1.cell 2
 simp at a0
 go_wp2_with fail
 refine (Wire.signed13 ss HL.out.2.s0 HL.out.2.s1 _).mono ?_
 rintro e p0 ⟨r0,rfl,or0,gr0⟩
 obtain ⟨s0,t0,er0⟩:=or0.seg.shape
 subst er0
 have H4:Hid (Blk p0 w.heap.size 27 #[.int .i64 3,.int .i64 tk,.int .i64 ss,.int .i64 nb,.int .i64 mk,.slice ao n cp]/\w.grownBy p0 none/\Seg p0 (.slice x0 n0 y0) F0/\Seg p0 (.slice s0 (Wire.numForm (Wire.foldZ ss)).length t0) (sgn ss)/\w.heap.size+1<=p0.heap.size):=⟨H3.out.1.grown gr0 (by simp),grown_trans H3.out.2.1 gr0,H3.out.2.2.seg.grown gr0,or0.seg,by have:=gr0.size;have:=H3.out.1.lt;omega⟩
 clear or0 gr0 H3 a0
 go_wp2_with fail
 refine (Wire.join10 _ [F0,sgn ss] _ (Wire.segs_two H4.out.2.2.1 H4.out.2.2.2.1) ?_).mono ?_
 ·have h1:=B0.out.1
  have h2:(sgn ss).length<=10:=sgn_len HL.out.2.s0 HL.out.2.s1
  simp;omega
 rintro e q0 ⟨u1,rfl,o1,g1⟩
 obtain ⟨x1,y1,e1⟩:=o1.seg.shape
 subst e1
 have hfl:[F0,sgn ss].flatten=F0 ++ sgn ss:=by simp
 rw [hfl] at o1 ⊢
 clear hfl
 obtain ⟨F1,hF1⟩:∃F,F0 ++ sgn ss=F:=⟨_,rfl⟩
 rw [hF1] at o1 ⊢
 have B1:Hid (F1.length<=20/\F0 ++ sgn ss=F1):=⟨by
  have h1:=B0.out.1
  have h2:(sgn ss).length<=10:=sgn_len HL.out.2.s0 HL.out.2.s1
  rw [<-hF1,List.length_append];omega,hF1⟩
 clear hF1
 obtain ⟨n1,hn1⟩:∃n,F1.length=n:=⟨_,rfl⟩
 rw [hn1] at o1 ⊢
 clear hn1
 have H5:Hid (Blk q0 w.heap.size 27 #[.int .i64 3,.int .i64 tk,.int .i64 ss,.int .i64 nb,.int .i64 mk,.slice ao n cp]/\w.grownBy q0 none/\Own q0 (w.heap.size+1) (.slice x1 n1 y1) F1):=by
  have ga:=World.grownBy_alloc p0 (.cells #[(.slice x0 n0 y0),.slice s0 (Wire.numForm (Wire.foldZ ss)).length t0] 32) none
  exact ⟨(H4.out.1.grown ga (by simp)).grown g1 (by simp),grown_trans (grown_trans H4.out.2.1 ga) g1,Own.mono o1 (by have:=H4.out.2.2.2.2;have:=ga.size;omega)⟩
 clear o1 g1 H4
 have H3:=H5
 clear H5
 go_wp2_with fail
 rw [rounds_succ]
 go_wp2_with fail
 rw [rounds_succ]
 go_wp2_with fail
 rw [rounds_succ]
 have a9:=H3.out.1.cell 0
 have a8:=H3.out.1.cell 5
 simp at a9 a8
 go_wp2_with fail
 go_ret2
 have hok:okC (⟨3,tk,ss,nb,mk,l⟩:PCmd)=true:=by unfold okC;rw [HF.out];simp
 refine ⟨_,by rw [chkC,if_pos hok];rfl,?_,H3.out.2.1⟩
 rw [if_pos hok]
 have hE:formC (⟨3,tk,ss,nb,mk,l⟩:PCmd)=F1:=by
  rw [<-B1.out.2,<-B0.out.2]
  simp [formC,frontC,headC,numsC]
 rw [hE]
 exact Own.mono H3.out.2.2 (by omega)
theorem bytes10_4 (ao:Option Addr)(n cp:Nat)(tk ss nb mk:Int)(l:List POp)(w:World)(hl:Ops w (.slice ao n cp) l)(hI:InC (⟨4,tk,ss,nb,mk,l⟩:PCmd))(hf:fitC (⟨4,tk,ss,nb,mk,l⟩:PCmd)=true):Calls Tryz.prog 10 #[cmdV (.slice ao n cp) (⟨4,tk,ss,nb,mk,l⟩:PCmd)] w (BytesC (⟨4,tk,ss,nb,mk,l⟩:PCmd) w):=by
 have HL:Hid (Ops w (.slice ao n cp) l/\InC (⟨4,tk,ss,nb,mk,l⟩:PCmd)):=⟨hl,hI⟩
 clear hl hI
 simp only [cmdV]
 have i0:=ix0
 have i1:=ix1
 have i2:=ix2
 go_enter Tryz.func10,Tryz.ntmps10
 go_wp2_with fail
 obtain ⟨W,hW,HW⟩:=al1 w #[.int .i64 4,.int .i64 tk,.int .i64 ss,.int .i64 nb,.int .i64 mk,.slice ao n cp] 27
 rw [hW]
 clear hW
 refine (fits28 (.slice ao n cp) (⟨4,tk,ss,nb,mk,l⟩:PCmd) W (HL.out.1.grown HW.out.2.1)).mono ?_
 rintro e w1 ⟨rfl,gg1⟩
 rw [hf]
 have H1:Hid (Blk w1 w.heap.size 27 #[.int .i64 4,.int .i64 tk,.int .i64 ss,.int .i64 nb,.int .i64 mk,.slice ao n cp]/\w.grownBy w1 none/\w.heap.size<w1.heap.size):=⟨HW.out.1.grown gg1 (by simp),grown_trans HW.out.2.1 gg1,by have:=gg1.size;have:=HW.out.2.2;omega⟩
 clear gg1 HW
 have HF:Hid (fitC (⟨4,tk,ss,nb,mk,l⟩:PCmd)=true):=hf
 clear hf
 have c0:=H1.out.1.cell 0
 simp at c0
 go_wp2_with fail
 refine (Wire.number9_int _ 4 rfl (by decide) _).mono ?_
 rintro e w2 ⟨u0,rfl,o0,gg2⟩
 obtain ⟨x0,y0,e0⟩:=o0.seg.shape
 subst e0
 have H2:Hid (Blk w2 w.heap.size 27 #[.int .i64 4,.int .i64 tk,.int .i64 ss,.int .i64 nb,.int .i64 mk,.slice ao n cp]/\w.grownBy w2 none/\Own w2 (w.heap.size+1) (.slice x0 (Wire.numForm 4).length y0) (Wire.numForm 4)):=⟨H1.out.1.grown gg2 (by simp),grown_trans H1.out.2.1 gg2,Own.mono o0 H1.out.2.2⟩
 clear gg2 o0 H1 c0
 obtain ⟨F0,hF0⟩:∃F,Wire.numForm 4=F:=⟨_,rfl⟩
 have B0:Hid (F0.length<=10/\Wire.numForm 4=F0):=⟨by rw [<-hF0];exact Wire.numForm_len10 _ (by decide),hF0⟩
 rw [hF0] at H2 ⊢
 clear hF0
 obtain ⟨n0,hn0⟩:∃n,F0.length=n:=⟨_,rfl⟩
 rw [hn0] at H2 ⊢
 have N0:Hid (F0.length=n0):=hn0
 clear hn0
 go_wp2_with fail
 refine (numbers30_4 w.heap.size (.slice ao n cp) (⟨4,tk,ss,nb,mk,l⟩:PCmd) w2 H2.out.1 rfl).mono ?_
 rintro e w3 ⟨rfl,gg3⟩
 have H3:Hid (Blk w3 w.heap.size 27 #[.int .i64 4,.int .i64 tk,.int .i64 ss,.int .i64 nb,.int .i64 mk,.slice ao n cp]/\w.grownBy w3 none/\Own w3 (w.heap.size+1) (.slice x0 n0 y0) F0):=⟨H2.out.1.grown gg3 (by simp),grown_trans H2.out.2.1 gg3,H2.out.2.2.grown gg3⟩
 clear gg3 H2
 try unfold pt
 go_wp2_with fail
 refine wp_loop_rounds 4 ?_
 rw [rounds_succ]
 have a0:=H3.out.1.cell 2
 simp at a0
 go_wp2_with fail
 refine (Wire.signed13 ss HL.out.2.s0 HL.out.2.s1 _).mono ?_
 rintro e p0 ⟨r0,rfl,or0,gr0⟩
 obtain ⟨s0,t0,er0⟩:=or0.seg.shape
 subst er0
 have H4:Hid (Blk p0 w.heap.size 27 #[.int .i64 4,.int .i64 tk,.int .i64 ss,.int .i64 nb,.int .i64 mk,.slice ao n cp]/\w.grownBy p0 none/\Seg p0 (.slice x0 n0 y0) F0/\Seg p0 (.slice s0 (Wire.numForm (Wire.foldZ ss)).length t0) (sgn ss)/\w.heap.size+1<=p0.heap.size):=⟨H3.out.1.grown gr0 (by simp),grown_trans H3.out.2.1 gr0,H3.out.2.2.seg.grown gr0,or0.seg,by have:=gr0.size;have:=H3.out.1.lt;omega⟩
 clear or0 gr0 H3 a0
 go_wp2_with fail
 refine (Wire.join10 _ [F0,sgn ss] _ (Wire.segs_two H4.out.2.2.1 H4.out.2.2.2.1) ?_).mono ?_
 ·have h1:=B0.out.1
  have h2:(sgn ss).length<=10:=sgn_len HL.out.2.s0 HL.out.2.s1
  simp;omega
 rintro e q0 ⟨u1,rfl,o1,g1⟩
 obtain ⟨x1,y1,e1⟩:=o1.seg.shape
 subst e1
 have hfl:[F0,sgn ss].flatten=F0 ++ sgn ss:=by simp
 rw [hfl] at o1 ⊢
 clear hfl
 obtain ⟨F1,hF1⟩:∃F,F0 ++ sgn ss=F:=⟨_,rfl⟩
 rw [hF1] at o1 ⊢
 have B1:Hid (F1.length<=20/\F0 ++ sgn ss=F1):=⟨by
  have h1:=B0.out.1
  have h2:(sgn ss).length<=10:=sgn_len HL.out.2.s0 HL.out.2.s1
  rw [<-hF1,List.length_append];omega,hF1⟩
 clear hF1
 obtain ⟨n1,hn1⟩:∃n,F1.length=n:=⟨_,rfl⟩
 rw [hn1] at o1 ⊢
 clear hn1
 have H5:Hid (Blk q0 w.heap.size 27 #[.int .i64 4,.int .i64 tk,.int .i64 ss,.int .i64 nb,.int .i64 mk,.slice ao n cp]/\w.grownBy q0 none/\Own q0 (w.heap.size+1) (.slice x1 n1 y1) F1):=by
  have ga:=World.grownBy_alloc p0 (.cells #[(.slice x0 n0 y0),.slice s0 (Wire.numForm (Wire.foldZ ss)).length t0] 32) none
  exact ⟨(H4.out.1.grown ga (by simp)).grown g1 (by simp),grown_trans (grown_trans H4.out.2.1 ga) g1,Own.mono o1 (by have:=H4.out.2.2.2.2;have:=ga.size;omega)⟩
 clear o1 g1 H4
 have H3:=H5
 clear H5
 go_wp2_with fail
 rw [rounds_succ]
 go_wp2_with fail
 rw [rounds_succ]
 go_wp2_with fail
 rw [rounds_succ]
 have a9:=H3.out.1.cell 0
 have a8:=H3.out.1.cell 5
 simp at a9 a8
 go_wp2_with fail
 go_ret2
 have hok:okC (⟨4,tk,ss,nb,mk,l⟩:PCmd)=true:=by unfold okC;rw [HF.out];simp
 refine ⟨_,by rw [chkC,if_pos hok];rfl,?_,H3.out.2.1⟩
 rw [if_pos hok]
 have hE:formC (⟨4,tk,ss,nb,mk,l⟩:PCmd)=F1:=by
  rw [<-B1.out.2,<-B0.out.2]
  simp [formC,frontC,headC,numsC]
 rw [hE]
 exact Own.mono H3.out.2.2 (by omega)
theorem bytes10 (ov:Value)(c:PCmd)(w:World)(h:Ops w ov c.ops)(hI:InC c):Calls Tryz.prog 10 #[cmdV ov c] w (BytesC c w):=by
 by_cases hf:fitC c=true
 ·have hk:=fitC_kind hf
  obtain ⟨ao,n,cp,rfl,_⟩:=ops_open h
  obtain ⟨k,tk,ss,nb,mk,l⟩:=c
  simp only at hk
  rcases (show k=1\/k=2\/k=3\/k=4 by omega) with rfl | rfl | rfl | rfl
  ·exact bytes10_1 ao n cp tk ss nb mk l w h hI hf
  ·exact bytes10_2 ao n cp tk ss nb mk l w h hI hf
  ·exact bytes10_3 ao n cp tk ss nb mk l w h hI hf
  ·exact bytes10_4 ao n cp tk ss nb mk l w h hI hf
 ·have hf':fitC c=false:=by simpa using hf
  have hno:okC c=false:=by unfold okC;rw [hf'];rfl
  refine (bytes10_no ov c w h hf').mono ?_
  rintro e w' ⟨u,rfl,o,g⟩
  refine ⟨u,by rw [chkC,if_neg (by rw [hno];decide)],?_,g⟩
  rw [if_neg (by rw [hno];decide)]
  exact o
theorem check13 (ov:Value)(c:PCmd)(w:World)(h:Ops w ov c.ops)(hI:InC c):Calls Tryz.prog 13 #[cmdV ov c] w fun e w'=>e=.returned (.int .i64 (chkC c))/\w.grownBy w' none:=by
 obtain ⟨ao,n,cp,rfl,_,_,HL⟩:=ops_open h
 have HI:Hid (InC c):=hI
 clear h hI
 unfold cmdV
 go_enter Tryz.func13,Tryz.ntmps13
 go_wp2_with fail
 obtain ⟨W,hW,HW⟩:=al1 w (cmdA (.slice ao n cp) c) 27
 unfold cmdA at hW
 rw [hW]
 clear hW
 refine (bytes10 (.slice ao n cp) c W (HL.out.grown HW.out.2.1) HI.out).mono ?_
 rintro e w1 ⟨u,rfl,o,g1⟩
 obtain ⟨x,y,e⟩:=o.seg.shape
 clear o
 generalize (if okC c=true then formC c else []).length=nl at e
 subst e
 have G:Hid (w.grownBy w1 none):=grown_trans HW.out.2.1 g1
 clear g1 HW
 go_wp2_with fail
 go_ret
 exact ⟨rfl,G.out⟩
theorem check13_at (ov:Value)(c:PCmd)(w:World)(k:Int)(hk:c.kind=k)(h:Ops w ov c.ops)(hI:InC c):Calls Tryz.prog 13 #[.agg #[.int .i64 k,.int .i64 c.token,.int .i64 c.session,.int .i64 c.number,.int .i64 c.mark,ov]] w fun e w'=>e=.returned (.int .i64 (chkC c))/\w.grownBy w' none:=by
 subst hk
 exact check13 ov c w h hI
def chgC (c:PCmd):Bool:=decide (c.kind=2) && okC c && !rds c.ops
theorem changes14 (ov:Value)(c:PCmd)(w:World)(h:Ops w ov c.ops)(hI:InC c):Calls Tryz.prog 14 #[cmdV ov c] w fun e w'=>e=.returned (.bool (chgC c))/\w.grownBy w' none:=by
 obtain ⟨ao,n,cp,rfl,_,_,HL⟩:=ops_open h
 have HI:Hid (InC c):=hI
 clear h hI
 unfold cmdV
 by_cases hk:c.kind=2
 ·have HK:Hid (c.kind=2):=hk
  rw [hk]
  clear hk
  by_cases ho:okC c=true
  ·have HO:Hid (okC c=true):=ho
   clear ho
   go_enter Tryz.func14,Tryz.ntmps14
   go_wp2_with fail
   obtain ⟨W,hW,HW⟩:=al1 w #[.int .i64 2,.int .i64 c.token,.int .i64 c.session,.int .i64 c.number,.int .i64 c.mark,.slice ao n cp] 27
   rw [hW]
   clear hW
   refine (check13_at (.slice ao n cp) c W 2 HK.out (HL.out.grown HW.out.2.1) HI.out).mono ?_
   rintro e w1 ⟨rfl,g1⟩
   rw [show chkC c=0 by rw [chkC,if_pos HO.out]]
   have H1:Hid (w1.cell? ⟨w.heap.size,5,none⟩=some (.slice ao n cp)/\w.grownBy w1 none):=⟨(HW.out.1.grown g1 (by simp)).cell 5,grown_trans HW.out.2.1 g1⟩
   have c5:=H1.out.1
   clear g1 HW
   go_wp2_with fail
   refine (reads17 (.slice ao n cp) c.ops w1 (HL.out.grown H1.out.2)).mono ?_
   rintro e w2 ⟨rfl,g2'⟩
   have G:Hid (w.grownBy w2 none):=grown_trans H1.out.2 g2'
   clear g2' H1 c5
   go_wp2_with fail
   go_ret
   refine ⟨?_,G.out⟩
   simp [chgC,HK.out,HO.out]
  ·have HO:Hid (okC c=false):=by simpa [Hid] using ho
   clear ho
   go_enter Tryz.func14,Tryz.ntmps14
   go_wp2_with fail
   obtain ⟨W,hW,HW⟩:=al1 w #[.int .i64 2,.int .i64 c.token,.int .i64 c.session,.int .i64 c.number,.int .i64 c.mark,.slice ao n cp] 27
   rw [hW]
   clear hW
   refine (check13_at (.slice ao n cp) c W 2 HK.out (HL.out.grown HW.out.2.1) HI.out).mono ?_
   rintro e w1 ⟨rfl,g1⟩
   rw [show chkC c=2 by rw [chkC,if_neg (by rw [HO.out];decide)]]
   have G:Hid (w.grownBy w1 none):=grown_trans HW.out.2.1 g1
   clear g1 HW
   go_wp2_with fail
   go_ret
   refine ⟨?_,G.out⟩
   simp [chgC,HO.out]
 ·have q:(c.kind==2)=false:=by simp [hk]
  have HK:Hid (¬c.kind=2):=hk
  clear hk
  go_enter Tryz.func14,Tryz.ntmps14
  go_wp2_with fail
  go_ret
  refine ⟨?_,World.grownBy_alloc _ _ _⟩
  simp [chgC,HK.out]
end Go.Proofs.YtgjcpjckaopeeaaGreatDoor
