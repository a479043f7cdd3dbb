import Derived.Test.YtanoabliahcbeaaGreatKbcAll
import Derived.Test.YtanoabliahcbeaaGreatCdxAll
import Derived.Test.YtanoabliahcbeaaGreatCallsCq
set_option maxHeartbeats 4000000
set_option maxRecDepth 100000
namespace Go.Proofs.YtanoabliahcbeaaGreat.Command
open Go.RowKit Disk
open _root_.Go.Proofs.YtanoabliahcbeaaGreat.Calls
theorem check9_1 (ao:Option Addr)(n cp:Nat)(tk ss nb mk:Int)(w:World):Calls Tryz.prog 74 #[.agg #[.int .i64 1,.int .i64 tk,.int .i64 ss,.int .i64 nb,.int .i64 mk,.slice ao n cp]] w fun e w'=>e=.returned (.int .i64 (if 1<=tk/\ss=0/\nb=0/\mk=0/\n=0 then 0 else 2))/\w.grownBy w' none:=by
 by_cases e0:1<=tk
 rotate_left
 ·rw [if_neg (fun h=>e0 h.1)]
  have q0:(tk ≥ 1)=False:=by simp;omega
  have q0':(1<=tk)=False:=by simp;omega
  clear e0
  go_enter Tryz.func74,Tryz.ntmps74
  go_wp2_with fail
  go_ret
  exact ⟨rfl,World.grownBy_alloc _ _ _⟩
 have q0:(tk ≥ 1)=True:=by simp;omega
 have q0':(1<=tk)=True:=by simp;omega
 have N0:Hid (1<=tk):=e0
 clear e0
 by_cases e1:ss=0
 rotate_left
 ·rw [if_neg (fun h=>e1 h.2.1)]
  have q1:(ss==0)=false:=by simp;omega
  skip
  clear e1
  go_enter Tryz.func74,Tryz.ntmps74
  go_wp2_with fail
  go_ret
  exact ⟨rfl,World.grownBy_alloc _ _ _⟩
 subst e1
 by_cases e2:nb=0
 rotate_left
 ·rw [if_neg (fun h=>e2 h.2.2.1)]
  have q2:(nb==0)=false:=by simp;omega
  skip
  clear e2
  go_enter Tryz.func74,Tryz.ntmps74
  go_wp2_with fail
  go_ret
  exact ⟨rfl,World.grownBy_alloc _ _ _⟩
 subst e2
 by_cases e3:mk=0
 rotate_left
 ·rw [if_neg (fun h=>e3 h.2.2.2.1)]
  have q3:(mk==0)=false:=by simp;omega
  skip
  clear e3
  go_enter Tryz.func74,Tryz.ntmps74
  go_wp2_with fail
  go_ret
  exact ⟨rfl,World.grownBy_alloc _ _ _⟩
 subst e3
 by_cases e4:n=0
 rotate_left
 ·rw [if_neg (fun h=>e4 h.2.2.2.2)]
  have q4:((n:Int)==0)=false:=by simp;omega
  skip
  clear e4
  go_enter Tryz.func74,Tryz.ntmps74
  go_wp2_with fail
  go_ret
  exact ⟨rfl,World.grownBy_alloc _ _ _⟩
 subst e4
 rw [if_pos ⟨N0.out,rfl,rfl,rfl,rfl⟩]
 go_enter Tryz.func74,Tryz.ntmps74
 go_wp2_with fail
 go_ret
 exact ⟨rfl,World.grownBy_alloc _ _ _⟩
theorem check9_3 (ao:Option Addr)(n cp:Nat)(tk ss nb mk:Int)(w:World):Calls Tryz.prog 74 #[.agg #[.int .i64 3,.int .i64 tk,.int .i64 ss,.int .i64 nb,.int .i64 mk,.slice ao n cp]] w fun e w'=>e=.returned (.int .i64 (if tk=0/\1<=ss/\nb=0/\mk=0/\n=0 then 0 else 2))/\w.grownBy w' none:=by
 by_cases e0:tk=0
 rotate_left
 ·rw [if_neg (fun h=>e0 h.1)]
  have q0:(tk==0)=false:=by simp;omega
  skip
  clear e0
  go_enter Tryz.func74,Tryz.ntmps74
  go_wp2_with fail
  go_ret
  exact ⟨rfl,World.grownBy_alloc _ _ _⟩
 subst e0
 by_cases e1:1<=ss
 rotate_left
 ·rw [if_neg (fun h=>e1 h.2.1)]
  have q1:(ss ≥ 1)=False:=by simp;omega
  have q1':(1<=ss)=False:=by simp;omega
  clear e1
  go_enter Tryz.func74,Tryz.ntmps74
  go_wp2_with fail
  go_ret
  exact ⟨rfl,World.grownBy_alloc _ _ _⟩
 have q1:(ss ≥ 1)=True:=by simp;omega
 have q1':(1<=ss)=True:=by simp;omega
 have N1:Hid (1<=ss):=e1
 clear e1
 by_cases e2:nb=0
 rotate_left
 ·rw [if_neg (fun h=>e2 h.2.2.1)]
  have q2:(nb==0)=false:=by simp;omega
  skip
  clear e2
  go_enter Tryz.func74,Tryz.ntmps74
  go_wp2_with fail
  go_ret
  exact ⟨rfl,World.grownBy_alloc _ _ _⟩
 subst e2
 by_cases e3:mk=0
 rotate_left
 ·rw [if_neg (fun h=>e3 h.2.2.2.1)]
  have q3:(mk==0)=false:=by simp;omega
  skip
  clear e3
  go_enter Tryz.func74,Tryz.ntmps74
  go_wp2_with fail
  go_ret
  exact ⟨rfl,World.grownBy_alloc _ _ _⟩
 subst e3
 by_cases e4:n=0
 rotate_left
 ·rw [if_neg (fun h=>e4 h.2.2.2.2)]
  have q4:((n:Int)==0)=false:=by simp;omega
  skip
  clear e4
  go_enter Tryz.func74,Tryz.ntmps74
  go_wp2_with fail
  go_ret
  exact ⟨rfl,World.grownBy_alloc _ _ _⟩
 subst e4
 rw [if_pos ⟨rfl,N1.out,rfl,rfl,rfl⟩]
 go_enter Tryz.func74,Tryz.ntmps74
 go_wp2_with fail
 go_ret
 exact ⟨rfl,World.grownBy_alloc _ _ _⟩
theorem check9_4 (ao:Option Addr)(n cp:Nat)(tk ss nb mk:Int)(w:World):Calls Tryz.prog 74 #[.agg #[.int .i64 4,.int .i64 tk,.int .i64 ss,.int .i64 nb,.int .i64 mk,.slice ao n cp]] w fun e w'=>e=.returned (.int .i64 (if tk=0/\1<=ss/\nb=0/\mk=0/\n=0 then 0 else 2))/\w.grownBy w' none:=by
 by_cases e0:tk=0
 rotate_left
 ·rw [if_neg (fun h=>e0 h.1)]
  have q0:(tk==0)=false:=by simp;omega
  skip
  clear e0
  go_enter Tryz.func74,Tryz.ntmps74
  go_wp2_with fail
  go_ret
  exact ⟨rfl,World.grownBy_alloc _ _ _⟩
 subst e0
 by_cases e1:1<=ss
 rotate_left
 ·rw [if_neg (fun h=>e1 h.2.1)]
  have q1:(ss ≥ 1)=False:=by simp;omega
  have q1':(1<=ss)=False:=by simp;omega
  clear e1
  go_enter Tryz.func74,Tryz.ntmps74
  go_wp2_with fail
  go_ret
  exact ⟨rfl,World.grownBy_alloc _ _ _⟩
 have q1:(ss ≥ 1)=True:=by simp;omega
 have q1':(1<=ss)=True:=by simp;omega
 have N1:Hid (1<=ss):=e1
 clear e1
 by_cases e2:nb=0
 rotate_left
 ·rw [if_neg (fun h=>e2 h.2.2.1)]
  have q2:(nb==0)=false:=by simp;omega
  skip
  clear e2
  go_enter Tryz.func74,Tryz.ntmps74
  go_wp2_with fail
  go_ret
  exact ⟨rfl,World.grownBy_alloc _ _ _⟩
 subst e2
 by_cases e3:mk=0
 rotate_left
 ·rw [if_neg (fun h=>e3 h.2.2.2.1)]
  have q3:(mk==0)=false:=by simp;omega
  skip
  clear e3
  go_enter Tryz.func74,Tryz.ntmps74
  go_wp2_with fail
  go_ret
  exact ⟨rfl,World.grownBy_alloc _ _ _⟩
 subst e3
 by_cases e4:n=0
 rotate_left
 ·rw [if_neg (fun h=>e4 h.2.2.2.2)]
  have q4:((n:Int)==0)=false:=by simp;omega
  skip
  clear e4
  go_enter Tryz.func74,Tryz.ntmps74
  go_wp2_with fail
  go_ret
  exact ⟨rfl,World.grownBy_alloc _ _ _⟩
 subst e4
 rw [if_pos ⟨rfl,N1.out,rfl,rfl,rfl⟩]
 go_enter Tryz.func74,Tryz.ntmps74
 go_wp2_with fail
 go_ret
 exact ⟨rfl,World.grownBy_alloc _ _ _⟩
theorem check9_2 (ao:Option Addr)(n cp:Nat)(tk ss nb mk:Int)(l:List POp)(w:World)(hl:Ops w (.slice ao n cp) l):Calls Tryz.prog 74 #[.agg #[.int .i64 2,.int .i64 tk,.int .i64 ss,.int .i64 nb,.int .i64 mk,.slice ao n cp]] w fun e w'=>e=.returned (.int .i64 (if tk=0/\1<=ss/\1<=nb/\0<=mk/\mk<nb/\chk l=0 then 0 else 2))/\w.grownBy w' none:=by
 have HL:Hid (Ops w (.slice ao n cp) l):=hl
 clear hl
 by_cases e0:tk=0
 rotate_left
 ·rw [if_neg (fun h=>e0 h.1)]
  have q0:(tk==0)=false:=by simp;omega
  clear e0
  go_enter Tryz.func74,Tryz.ntmps74
  go_wp2_with fail
  go_ret
  exact ⟨rfl,World.grownBy_alloc _ _ _⟩
 subst e0
 by_cases e1:1<=ss
 rotate_left
 ·rw [if_neg (fun h=>e1 h.2.1)]
  have q1:(1<=ss)=False:=by simp;omega
  clear e1
  go_enter Tryz.func74,Tryz.ntmps74
  go_wp2_with fail
  go_ret
  exact ⟨rfl,World.grownBy_alloc _ _ _⟩
 have q1:(1<=ss)=True:=by simp;omega
 have N1:Hid (1<=ss):=e1
 clear e1
 by_cases e2:1<=nb
 rotate_left
 ·rw [if_neg (fun h=>e2 h.2.2.1)]
  have q2:(1<=nb)=False:=by simp;omega
  clear e2
  go_enter Tryz.func74,Tryz.ntmps74
  go_wp2_with fail
  go_ret
  exact ⟨rfl,World.grownBy_alloc _ _ _⟩
 have q2:(1<=nb)=True:=by simp;omega
 have N2:Hid (1<=nb):=e2
 clear e2
 by_cases e3:0<=mk
 rotate_left
 ·rw [if_neg (fun h=>e3 h.2.2.2.1)]
  have q3:(0<=mk)=False:=by simp;omega
  clear e3
  go_enter Tryz.func74,Tryz.ntmps74
  go_wp2_with fail
  go_ret
  exact ⟨rfl,World.grownBy_alloc _ _ _⟩
 have q3:(0<=mk)=True:=by simp;omega
 have N3:Hid (0<=mk):=e3
 clear e3
 by_cases e4:mk<nb
 rotate_left
 ·rw [if_neg (fun h=>e4 h.2.2.2.2.1)]
  have q4:(mk<nb)=False:=by simp;omega
  clear e4
  go_enter Tryz.func74,Tryz.ntmps74
  go_wp2_with fail
  go_ret
  exact ⟨rfl,World.grownBy_alloc _ _ _⟩
 have q4:(mk<nb)=True:=by simp;omega
 have N4:Hid (mk<nb):=e4
 clear e4
 by_cases hc:chk l=0
 ·rw [if_pos ⟨rfl,N1.out,N2.out,N3.out,N4.out,hc⟩]
  have HC:Hid (chk l=0):=hc
  clear hc
  go_enter Tryz.func74,Tryz.ntmps74
  go_wp2_with fail
  obtain ⟨W,hW,HW⟩:=al1 w #[.int .i64 2,.int .i64 0,.int .i64 ss,.int .i64 nb,.int .i64 mk,.slice ao n cp] 39
  rw [hW]
  clear hW
  refine (check12 (.slice ao n cp) l W (HL.out.grown HW.out.2.1)).mono ?_
  rintro e w1 ⟨rfl,g1⟩
  rw [HC.out]
  have G:Hid (w.grownBy w1 none):=grown_trans HW.out.2.1 g1
  clear g1 HW
  go_wp2_with fail
  go_ret
  exact ⟨rfl,G.out⟩
 ·rw [if_neg (fun h=>hc h.2.2.2.2.2)]
  have qc:(chk l==0)=false:=by simp [hc]
  clear hc
  go_enter Tryz.func74,Tryz.ntmps74
  go_wp2_with fail
  obtain ⟨W,hW,HW⟩:=al1 w #[.int .i64 2,.int .i64 0,.int .i64 ss,.int .i64 nb,.int .i64 mk,.slice ao n cp] 39
  rw [hW]
  clear hW
  refine (check12 (.slice ao n cp) l W (HL.out.grown HW.out.2.1)).mono ?_
  rintro e w1 ⟨rfl,g1⟩
  have G:Hid (w.grownBy w1 none):=grown_trans HW.out.2.1 g1
  clear g1 HW
  go_wp2_with fail
  go_ret
  exact ⟨rfl,G.out⟩
theorem check9_0 (ao:Option Addr)(n cp:Nat)(k tk ss nb mk:Int)(w:World)(h1:(k==1)=false)(h2:(k==2)=false)(h3:(k==3)=false)(h4:(k==4)=false):Calls Tryz.prog 74 #[.agg #[.int .i64 k,.int .i64 tk,.int .i64 ss,.int .i64 nb,.int .i64 mk,.slice ao n cp]] w fun e w'=>e=.returned (.int .i64 2)/\w.grownBy w' none:=by
 go_enter Tryz.func74,Tryz.ntmps74
 go_wp2_with fail
 go_ret
 exact ⟨rfl,World.grownBy_alloc _ _ _⟩
theorem okC_iff (c:PCmd):okC c=true<->(c.kind=1/\1<=c.token/\c.session=0/\c.number=0/\c.mark=0/\c.ops=[])\/(c.kind=2/\c.token=0/\1<=c.session/\1<=c.number/\0<=c.mark/\c.mark<c.number/\chk c.ops=0)\/((c.kind=3\/c.kind=4)/\c.token=0/\1<=c.session/\c.number=0/\c.mark=0/\c.ops=[]):=by
 obtain ⟨k,tk,ss,nb,mk,l⟩:=c
 unfold okC fitC idOk idC markOk namedC
 by_cases h1:k=1
 ·subst h1;simp <;> grind
 ·by_cases h2:k=2
  ·subst h2;simp <;> grind
  ·by_cases h3:k=3
   ·subst h3;simp <;> grind
   ·by_cases h4:k=4
    ·subst h4;simp <;> grind
    ·simp [h1,h2,h3,h4]
theorem check9 (ov:Value)(c:PCmd)(w:World)(h:Ops w ov c.ops):Calls Tryz.prog 74 #[cmdV ov c] w fun e w'=>e=.returned (.int .i64 (chkC c))/\w.grownBy w' none:=by
 obtain ⟨ao,n,cp,rfl,hn,_⟩:=ops_open h
 have he:∀{P:Prop} [Decidable P],(okC c=true<->P)->chkC c=if P then 0 else 2:=fun {P} _ hP=>by
  unfold chkC
  by_cases hp:P
  ·rw [if_pos hp,if_pos (hP.2 hp)]
  ·rw [if_neg hp,if_neg (fun e=>hp (hP.1 e))]
 have hnil:n=0<->c.ops=[]:=by rw [<-hn,List.length_eq_zero_iff]
 obtain ⟨k,tk,ss,nb,mk,l⟩:=c
 simp only at h he hnil
 unfold cmdV
 simp only
 have ok:=okC_iff ⟨k,tk,ss,nb,mk,l⟩
 simp only at ok
 by_cases h1:k=1
 ·subst h1
  rw [he (P:=1<=tk/\ss=0/\nb=0/\mk=0/\n=0) (by rw [ok,hnil];simp)]
  exact check9_1 ao n cp tk ss nb mk w
 ·by_cases h2:k=2
  ·subst h2
   rw [he (P:=tk=0/\1<=ss/\1<=nb/\0<=mk/\mk<nb/\chk l=0) (by rw [ok];simp)]
   exact check9_2 ao n cp tk ss nb mk l w h
  ·by_cases h3:k=3
   ·subst h3
    rw [he (P:=tk=0/\1<=ss/\nb=0/\mk=0/\n=0) (by rw [ok,hnil];simp)]
    exact check9_3 ao n cp tk ss nb mk w
   ·by_cases h4:k=4
    ·subst h4
     rw [he (P:=tk=0/\1<=ss/\nb=0/\mk=0/\n=0) (by rw [ok,hnil];simp)]
     exact check9_4 ao n cp tk ss nb mk w
    ·have hno:¬okC ⟨k,tk,ss,nb,mk,l⟩=true:=by rw [ok];simp [h1,h2,h3,h4]
     rw [chkC,if_neg hno]
     exact check9_0 ao n cp k tk ss nb mk w (by simp [h1]) (by simp [h2]) (by simp [h3]) (by simp [h4])
end Go.Proofs.YtanoabliahcbeaaGreat.Command
namespace Go.Proofs.YtanoabliahcbeaaGreat.Command
open Go.RowKit Disk
open _root_.Go.Proofs.YtanoabliahcbeaaGreat.Calls
open Names (Str)
theorem al2' (w:World)(A B:Array Value)(s t:Nat):∃W,(w.alloc (.cells A s)).alloc (.cells B t)=W/\Hid (Blk W w.heap.size s A/\Blk W (w.heap.size+1) t B/\w.grownBy W none/\W.heap.size=w.heap.size+2):=by
 refine ⟨_,rfl,?_,?_,g2 _ _ _,by simp⟩
 ·exact Blk.grown (heap_alloc_new _ _) (World.grownBy_alloc _ _ none) (by simp)
 ·have:=heap_alloc_new (w.alloc (.cells A s)) (.cells B t)
  rw [show (w.alloc (.cells A s)).heap.size=w.heap.size+1 by simp] at this
  exact this
theorem copy8 (u:Value)(c:PCmd)(w:World)(hu:Ops w u c.ops)(hf:Fit c.ops):Calls Tryz.prog 29 #[cmdV u c] w fun e w'=>∃v,e=.returned (cmdV v c)/\OpsOwn w' w.heap.size v c.ops/\w.grownBy w' none:=by
 obtain ⟨ao,n,ca,rfl,_,_,HU⟩:=ops_open hu
 have HF:Hid (Fit c.ops):=hf
 clear hu hf
 unfold cmdV
 go_enter Tryz.func29,Tryz.ntmps29
 go_wp2_with fail
 obtain ⟨W,hW,HW⟩:=al2' w #[.int .i64 c.kind,.int .i64 c.token,.int .i64 c.session,.int .i64 c.number,.int .i64 c.mark,.slice ao n ca] #[.int .i64 0,.int .i64 0,.int .i64 0,.int .i64 0,.int .i64 0,.slice none 0 0] 39 39
 rw [hW]
 clear hW
 refine (copy11 (.slice ao n ca) c.ops W (HU.out.grown HW.out.2.2.1) HF.out).mono ?_
 rintro e w1 ⟨v,rfl,hv,g1⟩
 obtain ⟨ux,un,uy,rfl⟩:∃a n b,v=.slice a n b:=by obtain ⟨a,n,b,e,_⟩:=ops_open hv.ops;exact ⟨a,n,b,e⟩
 have H1:Hid (Blk w1 w.heap.size 39 #[.int .i64 c.kind,.int .i64 c.token,.int .i64 c.session,.int .i64 c.number,.int .i64 c.mark,.slice ao n ca]/\Blk w1 (w.heap.size+1) 39 #[.int .i64 0,.int .i64 0,.int .i64 0,.int .i64 0,.int .i64 0,.slice none 0 0]/\w.grownBy w1 none/\OpsOwn w1 w.heap.size (.slice ux un uy) c.ops):=⟨HW.out.1.grown g1 (by simp),HW.out.2.1.grown g1 (by simp),grown_trans HW.out.2.2.1 g1,hv.mono (by have:=HW.out.2.2.2;omega)⟩
 clear g1 HW hv
 have c5:=H1.out.1.cell 5
 have z5:=H1.out.1.free 5
 simp at c5
 go_upto_region 2 with fail
 clear c5 z5
 have H2:Hid (Blk (w1.setCell ⟨w.heap.size,5,none⟩ (.slice ux un uy)) w.heap.size 39 #[.int .i64 c.kind,.int .i64 c.token,.int .i64 c.session,.int .i64 c.number,.int .i64 c.mark,.slice ux un uy]/\Blk (w1.setCell ⟨w.heap.size,5,none⟩ (.slice ux un uy)) (w.heap.size+1) 39 #[.int .i64 0,.int .i64 0,.int .i64 0,.int .i64 0,.int .i64 0,.slice none 0 0]/\w.grownBy (w1.setCell ⟨w.heap.size,5,none⟩ (.slice ux un uy)) none/\OpsOwn (w1.setCell ⟨w.heap.size,5,none⟩ (.slice ux un uy)) w.heap.size (.slice ux un uy) c.ops):=by
  have hg:=grown_setCell w1 w.heap.size 5 (.slice ux un uy)
  exact ⟨H1.out.1.store 5 _,H1.out.2.1.grown hg (by simp),grown_new H1.out.2.2.1 hg (fun x hx=>by simp at hx;omega),H1.out.2.2.2.set H1.out.1 (by decide) (by decide) hg⟩
 generalize w1.setCell ⟨w.heap.size,5,none⟩ (.slice ux un uy)=w2 at H2 ⊢
 clear H1
 have H3:=H2
 clear H2
 have c0:=H3.out.1.cell 0
 have c1:=H3.out.1.cell 1
 have c2:=H3.out.1.cell 2
 have c3:=H3.out.1.cell 3
 have c4:=H3.out.1.cell 4
 have c5:=H3.out.1.cell 5
 simp at c0 c1 c2 c3 c4 c5
 have r0:=H3.out.2.1.cell 0
 have r1:=H3.out.2.1.cell 1
 have r2:=H3.out.2.1.cell 2
 have r3:=H3.out.2.1.cell 3
 have r4:=H3.out.2.1.cell 4
 have r5:=H3.out.2.1.cell 5
 have z0:=H3.out.2.1.free 0
 have z1:=H3.out.2.1.free 1
 have z2:=H3.out.2.1.free 2
 have z3:=H3.out.2.1.free 3
 have z4:=H3.out.2.1.free 4
 have z5:=H3.out.2.1.free 5
 simp at r0 r1 r2 r3 r4 r5
 go_wp2_with fail
 obtain ⟨W6,hW6,H6⟩:=set6 H3.out.2.1 (.int .i64 c.kind) (.int .i64 c.token) (.int .i64 c.session) (.int .i64 c.number) (.int .i64 c.mark) (.slice ux un uy)
 rw [hW6]
 clear hW6
 have y0:=H6.out.1.cell 0
 have y1:=H6.out.1.cell 1
 have y2:=H6.out.1.cell 2
 have y3:=H6.out.1.cell 3
 have y4:=H6.out.1.cell 4
 have y5:=H6.out.1.cell 5
 simp at y0 y1 y2 y3 y4 y5
 have hgr:w.grownBy W6 none:=grown_new H3.out.2.2.1 H6.out.2 (fun x hx=>by simp at hx;omega)
 exact bodyPost_ret (v:=.agg #[.int .i64 c.kind,.int .i64 c.token,.int .i64 c.session,.int .i64 c.number,.int .i64 c.mark,.slice ux un uy]) (by simp [results,Tryz.results29,go_sem,y0,y1,y2,y3,y4,y5]) rfl ⟨.slice ux un uy,rfl,H3.out.2.2.2.set H3.out.2.1 (by decide) (by decide) H6.out.2,hgr⟩
end Go.Proofs.YtanoabliahcbeaaGreat.Command
