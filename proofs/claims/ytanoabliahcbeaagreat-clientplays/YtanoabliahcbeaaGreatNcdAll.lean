import Derived.Test.YtanoabliahcbeaaGreatCrsAll
import Derived.Test.YtanoabliahcbeaaGreatMklAll
set_option maxHeartbeats 4000000
set_option maxRecDepth 100000
namespace Go.Proofs.YtanoabliahcbeaaGreat
open Go.RowKit Disk
open _root_.Go.Proofs.YtanoabliahcbeaaGreat.Calls _root_.Go.Proofs.YtanoabliahcbeaaGreat.Command
theorem noReply31 (av:Value)(r:PRep)(w:World)(ha:Seg w av r.answer):Calls Tryz.prog 75 #[repV av r] w fun e w'=>e=.returned (.bool (decide (r=zeroR)))/\w.grownBy w' none:=by
 obtain ⟨bo,cb,rfl⟩:=ha.shape
 clear ha
 obtain ⟨k,tk,ss,nb,an⟩:=r
 dsimp only [repV]
 obtain ⟨p,hp⟩:∃p,an.length=p:=⟨_,rfl⟩
 rw [hp]
 have HP:Hid ((an=[])<->p=0):=by unfold Hid;rw [<-hp];exact List.length_eq_zero_iff.symm
 clear hp
 go_enter Tryz.func75,Tryz.ntmps75
 go_wp2
 all_goals go_ret
 all_goals refine ⟨?_,World.grownBy_alloc _ _ none⟩
 all_goals (refine congrArg (fun x=>Ending.returned (Value.bool x)) ?_;have:=HP.out;first | (simp [zeroR, *];done) | (by_cases hp0:p=0 <;> simp [zeroR, *];done))
theorem noCommand33 (ov:Value)(c:PCmd)(w:World)(ho:Ops w ov c.ops):Calls Tryz.prog 77 #[cmdV ov c] w fun e w'=>e=.returned (.bool (decide (c=zeroC)))/\w.grownBy w' none:=by
 obtain ⟨ao,ca,rfl⟩:=ho.shape
 clear ho
 obtain ⟨k,tk,ss,nb,mk,l⟩:=c
 dsimp only [cmdV]
 obtain ⟨p,hp⟩:∃p,l.length=p:=⟨_,rfl⟩
 rw [hp]
 have HP:Hid ((l=[])<->p=0):=by unfold Hid;rw [<-hp];exact List.length_eq_zero_iff.symm
 clear hp
 go_enter Tryz.func77,Tryz.ntmps77
 go_wp2
 all_goals go_ret
 all_goals refine ⟨?_,World.grownBy_alloc _ _ none⟩
 all_goals (refine congrArg (fun x=>Ending.returned (Value.bool x)) ?_;have:=HP.out;first | (simp [zeroC, *];done) | (by_cases hp0:p=0 <;> simp [zeroC, *];done))
theorem fields54_ttf (k t1 s1 n1:Int)(bo:Option Addr)(p cb:Nat)(w:World):Calls Tryz.prog 103 #[.agg #[.int .i64 k,.int .i64 t1,.int .i64 s1,.int .i64 n1,.slice bo p cb],.bool true,.bool true,.bool false] w fun e w'=>e=.returned (.bool (decide (1<=t1/\1<=s1/\n1=0)))/\w.grownBy w' none:=by
 by_cases et1:1<=t1
 rotate_left
 ·have HF:Hid (decide (1<=t1/\1<=s1/\n1=0)=false):=by unfold Hid;simp;omega
  have at1:(t1 ≥ 1)=False:=eq_false (by omega)
  have bt1:(1<=t1)=False:=eq_false (by omega)
  clear et1
  go_enter Tryz.func103,Tryz.ntmps103
  go_wp2_with fail
  go_ret
  refine ⟨?_,World.grownBy_alloc _ _ none⟩
  exact congrArg (fun x=>Ending.returned (Value.bool x)) HF.out.symm
 have at1:(t1 ≥ 1)=True:=eq_true (by omega)
 have bt1:(1<=t1)=True:=eq_true (by omega)
 have Et1:Hid (1<=t1):=et1
 clear et1
 by_cases es1:1<=s1
 rotate_left
 ·have HF:Hid (decide (1<=t1/\1<=s1/\n1=0)=false):=by unfold Hid;simp;omega
  have as1:(s1 ≥ 1)=False:=eq_false (by omega)
  have bs1:(1<=s1)=False:=eq_false (by omega)
  clear es1
  go_enter Tryz.func103,Tryz.ntmps103
  go_wp2_with fail
  go_ret
  refine ⟨?_,World.grownBy_alloc _ _ none⟩
  exact congrArg (fun x=>Ending.returned (Value.bool x)) HF.out.symm
 have as1:(s1 ≥ 1)=True:=eq_true (by omega)
 have bs1:(1<=s1)=True:=eq_true (by omega)
 have Es1:Hid (1<=s1):=es1
 clear es1
 by_cases en1:n1=0
 rotate_left
 ·have HF:Hid (decide (1<=t1/\1<=s1/\n1=0)=false):=by unfold Hid;simp;omega
  by_cases gn1:1<=n1
  ·have an1:(n1 ≥ 1)=True:=eq_true (by omega)
   have bn1:(1<=n1)=True:=eq_true (by omega)
   clear en1 gn1
   go_enter Tryz.func103,Tryz.ntmps103
   go_wp2_with fail
   go_ret
   refine ⟨?_,World.grownBy_alloc _ _ none⟩
   exact congrArg (fun x=>Ending.returned (Value.bool x)) HF.out.symm
  ·have an1:(n1 ≥ 1)=False:=eq_false (by omega)
   have bn1:(1<=n1)=False:=eq_false (by omega)
   have cn1:(n1==0)=false:=by simp;omega
   clear en1 gn1
   go_enter Tryz.func103,Tryz.ntmps103
   go_wp2_with fail
   go_ret
   refine ⟨?_,World.grownBy_alloc _ _ none⟩
   exact congrArg (fun x=>Ending.returned (Value.bool x)) HF.out.symm
 have an1:(n1 ≥ 1)=False:=eq_false (by omega)
 have bn1:(1<=n1)=False:=eq_false (by omega)
 have cn1:(n1==0)=true:=by simp;omega
 have c'n1:(n1=0)=True:=eq_true en1
 have En1:Hid (n1=0):=en1
 clear en1
 have HF:Hid (decide (1<=t1/\1<=s1/\n1=0)=true):=decide_eq_true ⟨Et1.out,Es1.out,En1.out⟩
 go_enter Tryz.func103,Tryz.ntmps103
 go_wp2_with fail
 go_ret
 refine ⟨?_,World.grownBy_alloc _ _ none⟩
 exact congrArg (fun x=>Ending.returned (Value.bool x)) HF.out.symm
theorem fields54_tff (k t1 s1 n1:Int)(bo:Option Addr)(p cb:Nat)(w:World):Calls Tryz.prog 103 #[.agg #[.int .i64 k,.int .i64 t1,.int .i64 s1,.int .i64 n1,.slice bo p cb],.bool true,.bool false,.bool false] w fun e w'=>e=.returned (.bool (decide (1<=t1/\s1=0/\n1=0)))/\w.grownBy w' none:=by
 by_cases et1:1<=t1
 rotate_left
 ·have HF:Hid (decide (1<=t1/\s1=0/\n1=0)=false):=by unfold Hid;simp;omega
  have at1:(t1 ≥ 1)=False:=eq_false (by omega)
  have bt1:(1<=t1)=False:=eq_false (by omega)
  clear et1
  go_enter Tryz.func103,Tryz.ntmps103
  go_wp2_with fail
  go_ret
  refine ⟨?_,World.grownBy_alloc _ _ none⟩
  exact congrArg (fun x=>Ending.returned (Value.bool x)) HF.out.symm
 have at1:(t1 ≥ 1)=True:=eq_true (by omega)
 have bt1:(1<=t1)=True:=eq_true (by omega)
 have Et1:Hid (1<=t1):=et1
 clear et1
 by_cases es1:s1=0
 rotate_left
 ·have HF:Hid (decide (1<=t1/\s1=0/\n1=0)=false):=by unfold Hid;simp;omega
  by_cases gs1:1<=s1
  ·have as1:(s1 ≥ 1)=True:=eq_true (by omega)
   have bs1:(1<=s1)=True:=eq_true (by omega)
   clear es1 gs1
   go_enter Tryz.func103,Tryz.ntmps103
   go_wp2_with fail
   go_ret
   refine ⟨?_,World.grownBy_alloc _ _ none⟩
   exact congrArg (fun x=>Ending.returned (Value.bool x)) HF.out.symm
  ·have as1:(s1 ≥ 1)=False:=eq_false (by omega)
   have bs1:(1<=s1)=False:=eq_false (by omega)
   have cs1:(s1==0)=false:=by simp;omega
   clear es1 gs1
   go_enter Tryz.func103,Tryz.ntmps103
   go_wp2_with fail
   go_ret
   refine ⟨?_,World.grownBy_alloc _ _ none⟩
   exact congrArg (fun x=>Ending.returned (Value.bool x)) HF.out.symm
 have as1:(s1 ≥ 1)=False:=eq_false (by omega)
 have bs1:(1<=s1)=False:=eq_false (by omega)
 have cs1:(s1==0)=true:=by simp;omega
 have c's1:(s1=0)=True:=eq_true es1
 have Es1:Hid (s1=0):=es1
 clear es1
 by_cases en1:n1=0
 rotate_left
 ·have HF:Hid (decide (1<=t1/\s1=0/\n1=0)=false):=by unfold Hid;simp;omega
  by_cases gn1:1<=n1
  ·have an1:(n1 ≥ 1)=True:=eq_true (by omega)
   have bn1:(1<=n1)=True:=eq_true (by omega)
   clear en1 gn1
   go_enter Tryz.func103,Tryz.ntmps103
   go_wp2_with fail
   go_ret
   refine ⟨?_,World.grownBy_alloc _ _ none⟩
   exact congrArg (fun x=>Ending.returned (Value.bool x)) HF.out.symm
  ·have an1:(n1 ≥ 1)=False:=eq_false (by omega)
   have bn1:(1<=n1)=False:=eq_false (by omega)
   have cn1:(n1==0)=false:=by simp;omega
   clear en1 gn1
   go_enter Tryz.func103,Tryz.ntmps103
   go_wp2_with fail
   go_ret
   refine ⟨?_,World.grownBy_alloc _ _ none⟩
   exact congrArg (fun x=>Ending.returned (Value.bool x)) HF.out.symm
 have an1:(n1 ≥ 1)=False:=eq_false (by omega)
 have bn1:(1<=n1)=False:=eq_false (by omega)
 have cn1:(n1==0)=true:=by simp;omega
 have c'n1:(n1=0)=True:=eq_true en1
 have En1:Hid (n1=0):=en1
 clear en1
 have HF:Hid (decide (1<=t1/\s1=0/\n1=0)=true):=decide_eq_true ⟨Et1.out,Es1.out,En1.out⟩
 go_enter Tryz.func103,Tryz.ntmps103
 go_wp2_with fail
 go_ret
 refine ⟨?_,World.grownBy_alloc _ _ none⟩
 exact congrArg (fun x=>Ending.returned (Value.bool x)) HF.out.symm
theorem fields54_ftt (k t1 s1 n1:Int)(bo:Option Addr)(p cb:Nat)(w:World):Calls Tryz.prog 103 #[.agg #[.int .i64 k,.int .i64 t1,.int .i64 s1,.int .i64 n1,.slice bo p cb],.bool false,.bool true,.bool true] w fun e w'=>e=.returned (.bool (decide (t1=0/\1<=s1/\1<=n1)))/\w.grownBy w' none:=by
 by_cases et1:t1=0
 rotate_left
 ·have HF:Hid (decide (t1=0/\1<=s1/\1<=n1)=false):=by unfold Hid;simp;omega
  by_cases gt1:1<=t1
  ·have at1:(t1 ≥ 1)=True:=eq_true (by omega)
   have bt1:(1<=t1)=True:=eq_true (by omega)
   clear et1 gt1
   go_enter Tryz.func103,Tryz.ntmps103
   go_wp2_with fail
   go_ret
   refine ⟨?_,World.grownBy_alloc _ _ none⟩
   exact congrArg (fun x=>Ending.returned (Value.bool x)) HF.out.symm
  ·have at1:(t1 ≥ 1)=False:=eq_false (by omega)
   have bt1:(1<=t1)=False:=eq_false (by omega)
   have ct1:(t1==0)=false:=by simp;omega
   clear et1 gt1
   go_enter Tryz.func103,Tryz.ntmps103
   go_wp2_with fail
   go_ret
   refine ⟨?_,World.grownBy_alloc _ _ none⟩
   exact congrArg (fun x=>Ending.returned (Value.bool x)) HF.out.symm
 have at1:(t1 ≥ 1)=False:=eq_false (by omega)
 have bt1:(1<=t1)=False:=eq_false (by omega)
 have ct1:(t1==0)=true:=by simp;omega
 have c't1:(t1=0)=True:=eq_true et1
 have Et1:Hid (t1=0):=et1
 clear et1
 by_cases es1:1<=s1
 rotate_left
 ·have HF:Hid (decide (t1=0/\1<=s1/\1<=n1)=false):=by unfold Hid;simp;omega
  have as1:(s1 ≥ 1)=False:=eq_false (by omega)
  have bs1:(1<=s1)=False:=eq_false (by omega)
  clear es1
  go_enter Tryz.func103,Tryz.ntmps103
  go_wp2_with fail
  go_ret
  refine ⟨?_,World.grownBy_alloc _ _ none⟩
  exact congrArg (fun x=>Ending.returned (Value.bool x)) HF.out.symm
 have as1:(s1 ≥ 1)=True:=eq_true (by omega)
 have bs1:(1<=s1)=True:=eq_true (by omega)
 have Es1:Hid (1<=s1):=es1
 clear es1
 by_cases en1:1<=n1
 rotate_left
 ·have HF:Hid (decide (t1=0/\1<=s1/\1<=n1)=false):=by unfold Hid;simp;omega
  have an1:(n1 ≥ 1)=False:=eq_false (by omega)
  have bn1:(1<=n1)=False:=eq_false (by omega)
  clear en1
  go_enter Tryz.func103,Tryz.ntmps103
  go_wp2_with fail
  go_ret
  refine ⟨?_,World.grownBy_alloc _ _ none⟩
  exact congrArg (fun x=>Ending.returned (Value.bool x)) HF.out.symm
 have an1:(n1 ≥ 1)=True:=eq_true (by omega)
 have bn1:(1<=n1)=True:=eq_true (by omega)
 have En1:Hid (1<=n1):=en1
 clear en1
 have HF:Hid (decide (t1=0/\1<=s1/\1<=n1)=true):=decide_eq_true ⟨Et1.out,Es1.out,En1.out⟩
 go_enter Tryz.func103,Tryz.ntmps103
 go_wp2_with fail
 go_ret
 refine ⟨?_,World.grownBy_alloc _ _ none⟩
 exact congrArg (fun x=>Ending.returned (Value.bool x)) HF.out.symm
theorem fields54_ftf (k t1 s1 n1:Int)(bo:Option Addr)(p cb:Nat)(w:World):Calls Tryz.prog 103 #[.agg #[.int .i64 k,.int .i64 t1,.int .i64 s1,.int .i64 n1,.slice bo p cb],.bool false,.bool true,.bool false] w fun e w'=>e=.returned (.bool (decide (t1=0/\1<=s1/\n1=0)))/\w.grownBy w' none:=by
 by_cases et1:t1=0
 rotate_left
 ·have HF:Hid (decide (t1=0/\1<=s1/\n1=0)=false):=by unfold Hid;simp;omega
  by_cases gt1:1<=t1
  ·have at1:(t1 ≥ 1)=True:=eq_true (by omega)
   have bt1:(1<=t1)=True:=eq_true (by omega)
   clear et1 gt1
   go_enter Tryz.func103,Tryz.ntmps103
   go_wp2_with fail
   go_ret
   refine ⟨?_,World.grownBy_alloc _ _ none⟩
   exact congrArg (fun x=>Ending.returned (Value.bool x)) HF.out.symm
  ·have at1:(t1 ≥ 1)=False:=eq_false (by omega)
   have bt1:(1<=t1)=False:=eq_false (by omega)
   have ct1:(t1==0)=false:=by simp;omega
   clear et1 gt1
   go_enter Tryz.func103,Tryz.ntmps103
   go_wp2_with fail
   go_ret
   refine ⟨?_,World.grownBy_alloc _ _ none⟩
   exact congrArg (fun x=>Ending.returned (Value.bool x)) HF.out.symm
 have at1:(t1 ≥ 1)=False:=eq_false (by omega)
 have bt1:(1<=t1)=False:=eq_false (by omega)
 have ct1:(t1==0)=true:=by simp;omega
 have c't1:(t1=0)=True:=eq_true et1
 have Et1:Hid (t1=0):=et1
 clear et1
 by_cases es1:1<=s1
 rotate_left
 ·have HF:Hid (decide (t1=0/\1<=s1/\n1=0)=false):=by unfold Hid;simp;omega
  have as1:(s1 ≥ 1)=False:=eq_false (by omega)
  have bs1:(1<=s1)=False:=eq_false (by omega)
  clear es1
  go_enter Tryz.func103,Tryz.ntmps103
  go_wp2_with fail
  go_ret
  refine ⟨?_,World.grownBy_alloc _ _ none⟩
  exact congrArg (fun x=>Ending.returned (Value.bool x)) HF.out.symm
 have as1:(s1 ≥ 1)=True:=eq_true (by omega)
 have bs1:(1<=s1)=True:=eq_true (by omega)
 have Es1:Hid (1<=s1):=es1
 clear es1
 by_cases en1:n1=0
 rotate_left
 ·have HF:Hid (decide (t1=0/\1<=s1/\n1=0)=false):=by unfold Hid;simp;omega
  by_cases gn1:1<=n1
  ·have an1:(n1 ≥ 1)=True:=eq_true (by omega)
   have bn1:(1<=n1)=True:=eq_true (by omega)
   clear en1 gn1
   go_enter Tryz.func103,Tryz.ntmps103
   go_wp2_with fail
   go_ret
   refine ⟨?_,World.grownBy_alloc _ _ none⟩
   exact congrArg (fun x=>Ending.returned (Value.bool x)) HF.out.symm
  ·have an1:(n1 ≥ 1)=False:=eq_false (by omega)
   have bn1:(1<=n1)=False:=eq_false (by omega)
   have cn1:(n1==0)=false:=by simp;omega
   clear en1 gn1
   go_enter Tryz.func103,Tryz.ntmps103
   go_wp2_with fail
   go_ret
   refine ⟨?_,World.grownBy_alloc _ _ none⟩
   exact congrArg (fun x=>Ending.returned (Value.bool x)) HF.out.symm
 have an1:(n1 ≥ 1)=False:=eq_false (by omega)
 have bn1:(1<=n1)=False:=eq_false (by omega)
 have cn1:(n1==0)=true:=by simp;omega
 have c'n1:(n1=0)=True:=eq_true en1
 have En1:Hid (n1=0):=en1
 clear en1
 have HF:Hid (decide (t1=0/\1<=s1/\n1=0)=true):=decide_eq_true ⟨Et1.out,Es1.out,En1.out⟩
 go_enter Tryz.func103,Tryz.ntmps103
 go_wp2_with fail
 go_ret
 refine ⟨?_,World.grownBy_alloc _ _ none⟩
 exact congrArg (fun x=>Ending.returned (Value.bool x)) HF.out.symm
theorem reply32_1 (t1 s1 n1:Int)(bo:Option Addr)(p cb:Nat)(w:World):Calls Tryz.prog 76 #[.agg #[.int .i64 1,.int .i64 t1,.int .i64 s1,.int .i64 n1,.slice bo p cb]] w fun e w'=>e=.returned (.bool (decide (1<=t1/\1<=s1/\n1=0) && decide (p=0)))/\w.grownBy w' none:=by
 go_enter Tryz.func76,Tryz.ntmps76
 go_upto_region 1 with fail
 obtain ⟨W,hW,HW⟩:=al1' w #[.int .i64 1,.int .i64 t1,.int .i64 s1,.int .i64 n1,.slice bo p cb] 43
 rw [hW]
 clear hW
 have d0:=HW.out.1.cell 0
 have d1:=HW.out.1.cell 1
 have d2:=HW.out.1.cell 2
 have d3:=HW.out.1.cell 3
 have d4:=HW.out.1.cell 4
 simp at d0 d1 d2 d3 d4
 go_wp2_with fail
 refine (fields54_ttf 1 t1 s1 n1 bo p cb W).mono ?_
 rintro e w1 ⟨rfl,gg⟩
 have Hw1:Hid (Blk w1 w.heap.size 43 #[.int .i64 1,.int .i64 t1,.int .i64 s1,.int .i64 n1,.slice bo p cb]/\w.grownBy w1 none):=⟨HW.out.1.grown gg (by simp),grown_trans HW.out.2.1 gg⟩
 clear gg d0 d1 d2 d3 d4
 have d0:=Hw1.out.1.cell 0
 have d1:=Hw1.out.1.cell 1
 have d2:=Hw1.out.1.cell 2
 have d3:=Hw1.out.1.cell 3
 have d4:=Hw1.out.1.cell 4
 simp at d0 d1 d2 d3 d4
 cases hb:decide (1<=t1/\1<=s1/\n1=0)
 ·have HB:Hid (_=_):=hb
  clear hb
  go_wp2_with fail
  go_ret
  exact ⟨by rw [HB.out];rfl,Hw1.out.2⟩
 ·have HB:Hid (_=_):=hb
  clear hb
  by_cases hp:p=0
  ·have q1:((p:Int)==0)=true:=by simp;omega
   have HP:Hid (decide (p=0)=true):=decide_eq_true hp
   clear hp
   go_wp2_with fail
   go_ret
   exact ⟨by rw [HB.out,HP.out];rfl,Hw1.out.2⟩
  ·have q1:((p:Int)==0)=false:=by simp;omega
   have HP:Hid (decide (p=0)=false):=decide_eq_false hp
   clear hp
   go_wp2_with fail
   go_ret
   exact ⟨by rw [HB.out,HP.out];rfl,Hw1.out.2⟩
theorem reply32_2 (t1 s1 n1:Int)(bo:Option Addr)(p cb:Nat)(w:World):Calls Tryz.prog 76 #[.agg #[.int .i64 2,.int .i64 t1,.int .i64 s1,.int .i64 n1,.slice bo p cb]] w fun e w'=>e=.returned (.bool (decide (1<=t1/\s1=0/\n1=0) && decide (p=0)))/\w.grownBy w' none:=by
 go_enter Tryz.func76,Tryz.ntmps76
 go_upto_region 1 with fail
 obtain ⟨W,hW,HW⟩:=al1' w #[.int .i64 2,.int .i64 t1,.int .i64 s1,.int .i64 n1,.slice bo p cb] 43
 rw [hW]
 clear hW
 have d0:=HW.out.1.cell 0
 have d1:=HW.out.1.cell 1
 have d2:=HW.out.1.cell 2
 have d3:=HW.out.1.cell 3
 have d4:=HW.out.1.cell 4
 simp at d0 d1 d2 d3 d4
 go_wp2_with fail
 refine (fields54_tff 2 t1 s1 n1 bo p cb W).mono ?_
 rintro e w1 ⟨rfl,gg⟩
 have Hw1:Hid (Blk w1 w.heap.size 43 #[.int .i64 2,.int .i64 t1,.int .i64 s1,.int .i64 n1,.slice bo p cb]/\w.grownBy w1 none):=⟨HW.out.1.grown gg (by simp),grown_trans HW.out.2.1 gg⟩
 clear gg d0 d1 d2 d3 d4
 have d0:=Hw1.out.1.cell 0
 have d1:=Hw1.out.1.cell 1
 have d2:=Hw1.out.1.cell 2
 have d3:=Hw1.out.1.cell 3
 have d4:=Hw1.out.1.cell 4
 simp at d0 d1 d2 d3 d4
 cases hb:decide (1<=t1/\s1=0/\n1=0)
 ·have HB:Hid (_=_):=hb
  clear hb
  go_wp2_with fail
  go_ret
  exact ⟨by rw [HB.out];rfl,Hw1.out.2⟩
 ·have HB:Hid (_=_):=hb
  clear hb
  by_cases hp:p=0
  ·have q1:((p:Int)==0)=true:=by simp;omega
   have HP:Hid (decide (p=0)=true):=decide_eq_true hp
   clear hp
   go_wp2_with fail
   go_ret
   exact ⟨by rw [HB.out,HP.out];rfl,Hw1.out.2⟩
  ·have q1:((p:Int)==0)=false:=by simp;omega
   have HP:Hid (decide (p=0)=false):=decide_eq_false hp
   clear hp
   go_wp2_with fail
   go_ret
   exact ⟨by rw [HB.out,HP.out];rfl,Hw1.out.2⟩
theorem reply32_3 (t1 s1 n1:Int)(bo:Option Addr)(p cb:Nat)(w:World)(an:Bs)(hs:Seg w (.slice bo p cb) an)(hz:an.length<=140737488355328):Calls Tryz.prog 76 #[.agg #[.int .i64 3,.int .i64 t1,.int .i64 s1,.int .i64 n1,.slice bo p cb]] w fun e w'=>e=.returned (.bool (decide (t1=0/\1<=s1/\1<=n1) && decide ((readR an).2=0)))/\w.grownBy w' none:=by
 have HS:Hid (Seg w (.slice bo p cb) an/\an.length<=140737488355328):=⟨hs,hz⟩
 clear hs hz
 go_enter Tryz.func76,Tryz.ntmps76
 go_upto_region 1 with fail
 obtain ⟨W,hW,HW⟩:=al1' w #[.int .i64 3,.int .i64 t1,.int .i64 s1,.int .i64 n1,.slice bo p cb] 43
 rw [hW]
 clear hW
 have d0:=HW.out.1.cell 0
 have d1:=HW.out.1.cell 1
 have d2:=HW.out.1.cell 2
 have d3:=HW.out.1.cell 3
 have d4:=HW.out.1.cell 4
 simp at d0 d1 d2 d3 d4
 go_wp2_with fail
 refine (read29 (.slice bo p cb) an W (HS.out.1.grown HW.out.2.1) HS.out.2).mono ?_
 rintro e w0 ⟨u,rfl,ho,gg⟩
 obtain ⟨xo,xn,xc,rfl,hxn⟩:=ho.slice
 have H0:Hid (Blk w0 w.heap.size 43 #[.int .i64 3,.int .i64 t1,.int .i64 s1,.int .i64 n1,.slice bo p cb]/\w.grownBy w0 none):=⟨HW.out.1.grown gg (by simp),grown_trans HW.out.2.1 gg⟩
 clear gg ho hxn d0 d1 d2 d3 d4
 obtain ⟨rr,hrr⟩:∃y,readR an=y:=⟨_,rfl⟩
 rw [hrr]
 have HRR:Hid (readR an=rr):=hrr
 clear hrr
 go_upto_region 8 with fail
 obtain ⟨W4,hW4,H4⟩:=al1' w0 #[.int .i64 rr.1.abort,.int .i64 rr.1.place,.slice xo xn xc] 174
 rw [hW4]
 clear hW4
 have HW4:Hid (Blk W4 w.heap.size 43 #[.int .i64 3,.int .i64 t1,.int .i64 s1,.int .i64 n1,.slice bo p cb]/\w.grownBy W4 none):=⟨H0.out.1.grown H4.out.2.1 (by simp),grown_trans H0.out.2 H4.out.2.1⟩
 have d0:=HW4.out.1.cell 0
 have d1:=HW4.out.1.cell 1
 have d2:=HW4.out.1.cell 2
 have d3:=HW4.out.1.cell 3
 have d4:=HW4.out.1.cell 4
 simp at d0 d1 d2 d3 d4
 go_wp2_with fail
 refine (fields54_ftt 3 t1 s1 n1 bo p cb W4).mono ?_
 rintro e w1 ⟨rfl,gg⟩
 have Hw1:Hid (Blk w1 w.heap.size 43 #[.int .i64 3,.int .i64 t1,.int .i64 s1,.int .i64 n1,.slice bo p cb]/\w.grownBy w1 none):=⟨HW4.out.1.grown gg (by simp),grown_trans HW4.out.2 gg⟩
 clear gg d0 d1 d2 d3 d4
 have d0:=Hw1.out.1.cell 0
 have d1:=Hw1.out.1.cell 1
 have d2:=Hw1.out.1.cell 2
 have d3:=Hw1.out.1.cell 3
 have d4:=Hw1.out.1.cell 4
 simp at d0 d1 d2 d3 d4
 cases hb:decide (t1=0/\1<=s1/\1<=n1)
 ·have HB:Hid (_=_):=hb
  clear hb
  go_wp2_with fail
  go_ret
  exact ⟨by rw [HB.out];rfl,Hw1.out.2⟩
 ·have HB:Hid (_=_):=hb
  clear hb
  by_cases hp:rr.2=0
  ·have HP:Hid (decide (rr.2=0)=true):=decide_eq_true hp
   rw [hp]
   clear hp
   go_wp2_with fail
   go_ret
   exact ⟨by rw [HRR.out,HP.out,HB.out];rfl,Hw1.out.2⟩
  ·have q1:(rr.2==0)=false:=by simp;omega
   have HP:Hid (decide (rr.2=0)=false):=decide_eq_false hp
   clear hp
   go_wp2_with fail
   go_ret
   exact ⟨by rw [HRR.out,HP.out,HB.out];rfl,Hw1.out.2⟩
theorem reply32_4 (t1 s1 n1:Int)(bo:Option Addr)(p cb:Nat)(w:World):Calls Tryz.prog 76 #[.agg #[.int .i64 4,.int .i64 t1,.int .i64 s1,.int .i64 n1,.slice bo p cb]] w fun e w'=>e=.returned (.bool ((decide (t1=0/\1<=s1/\1<=n1) || decide (t1=0/\1<=s1/\n1=0)) && decide (p=0)))/\w.grownBy w' none:=by
 go_enter Tryz.func76,Tryz.ntmps76
 go_upto_region 1 with fail
 obtain ⟨W,hW,HW⟩:=al1' w #[.int .i64 4,.int .i64 t1,.int .i64 s1,.int .i64 n1,.slice bo p cb] 43
 rw [hW]
 clear hW
 have d0:=HW.out.1.cell 0
 have d1:=HW.out.1.cell 1
 have d2:=HW.out.1.cell 2
 have d3:=HW.out.1.cell 3
 have d4:=HW.out.1.cell 4
 simp at d0 d1 d2 d3 d4
 go_wp2_with fail
 refine (fields54_ftt 4 t1 s1 n1 bo p cb W).mono ?_
 rintro e w1 ⟨rfl,gg⟩
 have Hw1:Hid (Blk w1 w.heap.size 43 #[.int .i64 4,.int .i64 t1,.int .i64 s1,.int .i64 n1,.slice bo p cb]/\w.grownBy w1 none):=⟨HW.out.1.grown gg (by simp),grown_trans HW.out.2.1 gg⟩
 clear gg d0 d1 d2 d3 d4
 have d0:=Hw1.out.1.cell 0
 have d1:=Hw1.out.1.cell 1
 have d2:=Hw1.out.1.cell 2
 have d3:=Hw1.out.1.cell 3
 have d4:=Hw1.out.1.cell 4
 simp at d0 d1 d2 d3 d4
 cases hb:decide (t1=0/\1<=s1/\1<=n1)
 ·have HB:Hid (_=_):=hb
  clear hb
  go_wp2_with fail
  refine (fields54_ftf 4 t1 s1 n1 bo p cb w1).mono ?_
  rintro e w2 ⟨rfl,gg⟩
  have Hw2:Hid (Blk w2 w.heap.size 43 #[.int .i64 4,.int .i64 t1,.int .i64 s1,.int .i64 n1,.slice bo p cb]/\w.grownBy w2 none):=⟨Hw1.out.1.grown gg (by simp),grown_trans Hw1.out.2 gg⟩
  clear gg d0 d1 d2 d3 d4
  have d0:=Hw2.out.1.cell 0
  have d1:=Hw2.out.1.cell 1
  have d2:=Hw2.out.1.cell 2
  have d3:=Hw2.out.1.cell 3
  have d4:=Hw2.out.1.cell 4
  simp at d0 d1 d2 d3 d4
  cases hb2:decide (t1=0/\1<=s1/\n1=0)
  ·have HB2:Hid (_=_):=hb2
   clear hb2
   go_wp2_with fail
   go_ret
   exact ⟨by rw [HB.out,HB2.out];rfl,Hw2.out.2⟩
  ·have HB2:Hid (_=_):=hb2
   clear hb2
   by_cases hp:p=0
   ·have q1:((p:Int)==0)=true:=by simp;omega
    have HP:Hid (decide (p=0)=true):=decide_eq_true hp
    clear hp
    go_wp2_with fail
    go_ret
    exact ⟨by rw [HB.out,HB2.out,HP.out];rfl,Hw2.out.2⟩
   ·have q1:((p:Int)==0)=false:=by simp;omega
    have HP:Hid (decide (p=0)=false):=decide_eq_false hp
    clear hp
    go_wp2_with fail
    go_ret
    exact ⟨by rw [HB.out,HB2.out,HP.out];rfl,Hw2.out.2⟩
 ·have HB:Hid (_=_):=hb
  clear hb
  by_cases hp:p=0
  ·have q1:((p:Int)==0)=true:=by simp;omega
   have HP:Hid (decide (p=0)=true):=decide_eq_true hp
   clear hp
   go_wp2_with fail
   go_ret
   exact ⟨by rw [HB.out,HP.out];rfl,Hw1.out.2⟩
  ·have q1:((p:Int)==0)=false:=by simp;omega
   have HP:Hid (decide (p=0)=false):=decide_eq_false hp
   clear hp
   go_wp2_with fail
   go_ret
   exact ⟨by rw [HB.out,HP.out];rfl,Hw1.out.2⟩
theorem reply32_5 (t1 s1 n1:Int)(bo:Option Addr)(p cb:Nat)(w:World):Calls Tryz.prog 76 #[.agg #[.int .i64 5,.int .i64 t1,.int .i64 s1,.int .i64 n1,.slice bo p cb]] w fun e w'=>e=.returned (.bool (decide (t1=0/\1<=s1/\1<=n1) && decide (p=0)))/\w.grownBy w' none:=by
 go_enter Tryz.func76,Tryz.ntmps76
 go_upto_region 1 with fail
 obtain ⟨W,hW,HW⟩:=al1' w #[.int .i64 5,.int .i64 t1,.int .i64 s1,.int .i64 n1,.slice bo p cb] 43
 rw [hW]
 clear hW
 have d0:=HW.out.1.cell 0
 have d1:=HW.out.1.cell 1
 have d2:=HW.out.1.cell 2
 have d3:=HW.out.1.cell 3
 have d4:=HW.out.1.cell 4
 simp at d0 d1 d2 d3 d4
 go_wp2_with fail
 refine (fields54_ftt 5 t1 s1 n1 bo p cb W).mono ?_
 rintro e w1 ⟨rfl,gg⟩
 have Hw1:Hid (Blk w1 w.heap.size 43 #[.int .i64 5,.int .i64 t1,.int .i64 s1,.int .i64 n1,.slice bo p cb]/\w.grownBy w1 none):=⟨HW.out.1.grown gg (by simp),grown_trans HW.out.2.1 gg⟩
 clear gg d0 d1 d2 d3 d4
 have d0:=Hw1.out.1.cell 0
 have d1:=Hw1.out.1.cell 1
 have d2:=Hw1.out.1.cell 2
 have d3:=Hw1.out.1.cell 3
 have d4:=Hw1.out.1.cell 4
 simp at d0 d1 d2 d3 d4
 cases hb:decide (t1=0/\1<=s1/\1<=n1)
 ·have HB:Hid (_=_):=hb
  clear hb
  go_wp2_with fail
  go_ret
  exact ⟨by rw [HB.out];rfl,Hw1.out.2⟩
 ·have HB:Hid (_=_):=hb
  clear hb
  by_cases hp:p=0
  ·have q1:((p:Int)==0)=true:=by simp;omega
   have HP:Hid (decide (p=0)=true):=decide_eq_true hp
   clear hp
   go_wp2_with fail
   go_ret
   exact ⟨by rw [HB.out,HP.out];rfl,Hw1.out.2⟩
  ·have q1:((p:Int)==0)=false:=by simp;omega
   have HP:Hid (decide (p=0)=false):=decide_eq_false hp
   clear hp
   go_wp2_with fail
   go_ret
   exact ⟨by rw [HB.out,HP.out];rfl,Hw1.out.2⟩
theorem reply32_6 (t1 s1 n1:Int)(bo:Option Addr)(p cb:Nat)(w:World):Calls Tryz.prog 76 #[.agg #[.int .i64 6,.int .i64 t1,.int .i64 s1,.int .i64 n1,.slice bo p cb]] w fun e w'=>e=.returned (.bool (decide (t1=0/\1<=s1/\1<=n1) && decide (p=0)))/\w.grownBy w' none:=by
 go_enter Tryz.func76,Tryz.ntmps76
 go_upto_region 1 with fail
 obtain ⟨W,hW,HW⟩:=al1' w #[.int .i64 6,.int .i64 t1,.int .i64 s1,.int .i64 n1,.slice bo p cb] 43
 rw [hW]
 clear hW
 have d0:=HW.out.1.cell 0
 have d1:=HW.out.1.cell 1
 have d2:=HW.out.1.cell 2
 have d3:=HW.out.1.cell 3
 have d4:=HW.out.1.cell 4
 simp at d0 d1 d2 d3 d4
 go_wp2_with fail
 refine (fields54_ftt 6 t1 s1 n1 bo p cb W).mono ?_
 rintro e w1 ⟨rfl,gg⟩
 have Hw1:Hid (Blk w1 w.heap.size 43 #[.int .i64 6,.int .i64 t1,.int .i64 s1,.int .i64 n1,.slice bo p cb]/\w.grownBy w1 none):=⟨HW.out.1.grown gg (by simp),grown_trans HW.out.2.1 gg⟩
 clear gg d0 d1 d2 d3 d4
 have d0:=Hw1.out.1.cell 0
 have d1:=Hw1.out.1.cell 1
 have d2:=Hw1.out.1.cell 2
 have d3:=Hw1.out.1.cell 3
 have d4:=Hw1.out.1.cell 4
 simp at d0 d1 d2 d3 d4
 cases hb:decide (t1=0/\1<=s1/\1<=n1)
 ·have HB:Hid (_=_):=hb
  clear hb
  go_wp2_with fail
  go_ret
  exact ⟨by rw [HB.out];rfl,Hw1.out.2⟩
 ·have HB:Hid (_=_):=hb
  clear hb
  by_cases hp:p=0
  ·have q1:((p:Int)==0)=true:=by simp;omega
   have HP:Hid (decide (p=0)=true):=decide_eq_true hp
   clear hp
   go_wp2_with fail
   go_ret
   exact ⟨by rw [HB.out,HP.out];rfl,Hw1.out.2⟩
  ·have q1:((p:Int)==0)=false:=by simp;omega
   have HP:Hid (decide (p=0)=false):=decide_eq_false hp
   clear hp
   go_wp2_with fail
   go_ret
   exact ⟨by rw [HB.out,HP.out];rfl,Hw1.out.2⟩
theorem reply32_7 (t1 s1 n1:Int)(bo:Option Addr)(p cb:Nat)(w:World):Calls Tryz.prog 76 #[.agg #[.int .i64 7,.int .i64 t1,.int .i64 s1,.int .i64 n1,.slice bo p cb]] w fun e w'=>e=.returned (.bool (decide (t1=0/\1<=s1/\n1=0) && decide (p=0)))/\w.grownBy w' none:=by
 go_enter Tryz.func76,Tryz.ntmps76
 go_upto_region 1 with fail
 obtain ⟨W,hW,HW⟩:=al1' w #[.int .i64 7,.int .i64 t1,.int .i64 s1,.int .i64 n1,.slice bo p cb] 43
 rw [hW]
 clear hW
 have d0:=HW.out.1.cell 0
 have d1:=HW.out.1.cell 1
 have d2:=HW.out.1.cell 2
 have d3:=HW.out.1.cell 3
 have d4:=HW.out.1.cell 4
 simp at d0 d1 d2 d3 d4
 go_wp2_with fail
 refine (fields54_ftf 7 t1 s1 n1 bo p cb W).mono ?_
 rintro e w1 ⟨rfl,gg⟩
 have Hw1:Hid (Blk w1 w.heap.size 43 #[.int .i64 7,.int .i64 t1,.int .i64 s1,.int .i64 n1,.slice bo p cb]/\w.grownBy w1 none):=⟨HW.out.1.grown gg (by simp),grown_trans HW.out.2.1 gg⟩
 clear gg d0 d1 d2 d3 d4
 have d0:=Hw1.out.1.cell 0
 have d1:=Hw1.out.1.cell 1
 have d2:=Hw1.out.1.cell 2
 have d3:=Hw1.out.1.cell 3
 have d4:=Hw1.out.1.cell 4
 simp at d0 d1 d2 d3 d4
 cases hb:decide (t1=0/\1<=s1/\n1=0)
 ·have HB:Hid (_=_):=hb
  clear hb
  go_wp2_with fail
  go_ret
  exact ⟨by rw [HB.out];rfl,Hw1.out.2⟩
 ·have HB:Hid (_=_):=hb
  clear hb
  by_cases hp:p=0
  ·have q1:((p:Int)==0)=true:=by simp;omega
   have HP:Hid (decide (p=0)=true):=decide_eq_true hp
   clear hp
   go_wp2_with fail
   go_ret
   exact ⟨by rw [HB.out,HP.out];rfl,Hw1.out.2⟩
  ·have q1:((p:Int)==0)=false:=by simp;omega
   have HP:Hid (decide (p=0)=false):=decide_eq_false hp
   clear hp
   go_wp2_with fail
   go_ret
   exact ⟨by rw [HB.out,HP.out];rfl,Hw1.out.2⟩
theorem reply32_0 (k t1 s1 n1:Int)(h1:(k==1)=false)(h2:(k==2)=false)(h3:(k==3)=false)(h4:(k==4)=false)(h5:(k==5)=false)(h6:(k==6)=false)(h7:(k==7)=false)(bo:Option Addr)(p cb:Nat)(w:World):Calls Tryz.prog 76 #[.agg #[.int .i64 k,.int .i64 t1,.int .i64 s1,.int .i64 n1,.slice bo p cb]] w fun e w'=>e=.returned (.bool (false))/\w.grownBy w' none:=by
 go_enter Tryz.func76,Tryz.ntmps76
 go_upto_region 1 with fail
 obtain ⟨W,hW,HW⟩:=al1' w #[.int .i64 k,.int .i64 t1,.int .i64 s1,.int .i64 n1,.slice bo p cb] 43
 rw [hW]
 clear hW
 have d0:=HW.out.1.cell 0
 have d1:=HW.out.1.cell 1
 have d2:=HW.out.1.cell 2
 have d3:=HW.out.1.cell 3
 have d4:=HW.out.1.cell 4
 simp at d0 d1 d2 d3 d4
 go_wp2_with fail
 go_ret
 exact ⟨rfl,HW.out.2.1⟩
theorem reply32 (av:Value)(r:PRep)(w:World)(ha:Seg w av r.answer)(hz:r.answer.length<=140737488355328):Calls Tryz.prog 76 #[repV av r] w fun e w'=>e=.returned (.bool (okR r))/\w.grownBy w' none:=by
 obtain ⟨bo,cb,rfl⟩:=ha.shape
 obtain ⟨k,t1,s1,n1,an⟩:=r
 dsimp only [repV] at ha hz ⊢
 unfold okR
 dsimp only
 have e0:(an.length=0)<->(an=[]):=List.length_eq_zero_iff
 by_cases h1:k=1
 ·subst h1;rw [if_pos rfl];refine (reply32_1 t1 s1 n1 bo an.length cb w).mono ?_;rintro e w' ⟨rfl,g⟩;refine ⟨?_,g⟩;simp [e0,Bool.and_assoc]
 by_cases h2:k=2
 ·subst h2;rw [if_neg (by decide),if_pos rfl];refine (reply32_2 t1 s1 n1 bo an.length cb w).mono ?_;rintro e w' ⟨rfl,g⟩;refine ⟨?_,g⟩;simp [e0,Bool.and_assoc]
 by_cases h3:k=3
 ·subst h3;rw [if_neg (by decide),if_neg (by decide),if_pos rfl];refine (reply32_3 t1 s1 n1 bo an.length cb w an ha hz).mono ?_;rintro e w' ⟨rfl,g⟩;refine ⟨?_,g⟩;simp [Bool.and_assoc]
 by_cases h4:k=4
 ·subst h4;rw [if_neg (by decide),if_neg (by decide),if_neg (by decide),if_pos rfl];refine (reply32_4 t1 s1 n1 bo an.length cb w).mono ?_;rintro e w' ⟨rfl,g⟩;refine ⟨?_,g⟩;refine congrArg (fun x=>Ending.returned (Value.bool x)) ?_;rw [Bool.eq_iff_iff];simp only [Bool.and_eq_true,Bool.or_eq_true,decide_eq_true_eq,e0];constructor
  ·rintro ⟨h | h,ha⟩
   ·exact ⟨h.1,h.2.1,by omega,ha⟩
   ·exact ⟨h.1,h.2.1,by omega,ha⟩
  ·rintro ⟨h1,h2,h3,ha⟩
   refine ⟨?_,ha⟩
   by_cases hn:1<=n1
   ·exact .inl ⟨h1,h2,hn⟩
   ·exact .inr ⟨h1,h2,by omega⟩
 by_cases h5:k=5
 ·subst h5;rw [if_neg (by decide),if_neg (by decide),if_neg (by decide),if_neg (by decide),if_pos (by decide)];refine (reply32_5 t1 s1 n1 bo an.length cb w).mono ?_;rintro e w' ⟨rfl,g⟩;refine ⟨?_,g⟩;simp [e0,Bool.and_assoc]
 by_cases h6:k=6
 ·subst h6;rw [if_neg (by decide),if_neg (by decide),if_neg (by decide),if_neg (by decide),if_pos (by decide)];refine (reply32_6 t1 s1 n1 bo an.length cb w).mono ?_;rintro e w' ⟨rfl,g⟩;refine ⟨?_,g⟩;simp [e0,Bool.and_assoc]
 by_cases h7:k=7
 ·subst h7;rw [if_neg (by decide),if_neg (by decide),if_neg (by decide),if_neg (by decide),if_neg (by decide),if_pos rfl];refine (reply32_7 t1 s1 n1 bo an.length cb w).mono ?_;rintro e w' ⟨rfl,g⟩;refine ⟨?_,g⟩;simp [e0,Bool.and_assoc]
 rw [if_neg h1,if_neg h2,if_neg h3,if_neg h4,if_neg (by omega),if_neg h7]
 exact reply32_0 k t1 s1 n1 (by simp [h1]) (by simp [h2]) (by simp [h3]) (by simp [h4]) (by simp [h5]) (by simp [h6]) (by simp [h7]) bo an.length cb w
theorem may13 (ov av:Value)(m:PMsg)(w:World)(ho:Ops w ov m.ask.ops)(ha:Seg w av m.tell.answer)(hz:m.tell.answer.length<=140737488355328):Calls Tryz.prog 41 #[msgV ov av m] w fun e w'=>e=.returned (.bool (okM m))/\w.grownBy w' none:=by
 obtain ⟨ao,n,ca,rfl⟩:=isSl_ops ho
 obtain ⟨bo,p,cb,rfl⟩:=isSl_seg ha
 have HS:Hid (Ops w (.slice ao n ca) m.ask.ops/\Seg w (.slice bo p cb) m.tell.answer/\m.tell.answer.length<=140737488355328):=⟨ho,ha,hz⟩
 clear ho ha hz
 unfold msgV
 go_enter Tryz.func41,Tryz.ntmps41
 go_upto_region 1 with fail
 obtain ⟨W,hW,HW⟩:=boxM w ao n ca bo p cb m
 rw [hW]
 clear hW
 obtain ⟨c0,c1,c2,c3,c4,c5,c6,c7,c8,c9,c10,c11,c12⟩:=HW.out.1.cells
 by_cases hc0:m.client<0
 ·have j1:(m.client<0)=True:=eq_true hc0
  have HF:Hid (okM m=false):=by unfold okM Hid;rw [decide_eq_false (by omega)];rfl
  clear hc0
  go_wp2_with fail
  go_ret
  exact ⟨by rw [HF.out];rfl,HW.out.2.1⟩
 have j1:(m.client<0)=False:=eq_false hc0
 by_cases hc8:m.client ≥ 8
 ·have j2:(m.client ≥ 8)=True:=eq_true hc8
  have j3:(8<=m.client)=True:=eq_true hc8
  have HF:Hid (okM m=false):=by unfold okM Hid;rw [decide_eq_false (by omega)];rfl
  clear hc0 hc8
  go_wp2_with fail
  go_ret
  exact ⟨by rw [HF.out];rfl,HW.out.2.1⟩
 have j2:(m.client ≥ 8)=False:=eq_false hc8
 have j3:(8<=m.client)=False:=eq_false hc8
 have HC:Hid (okM m=(if m.kind=1 then decide (m.ask.kind≠4) && okC m.ask && decide (m.tell=zeroR) else decide (m.kind=2) && okR m.tell && decide (m.ask=zeroC))):=by
  unfold okM Hid
  rw [decide_eq_true (show 0<=m.client/\m.client<8 by omega)]
  rfl
 clear hc0 hc8
 have HCK:Hid (∀w',w.grownBy w' none->Calls Tryz.prog 74 #[cmdV (.slice ao n ca) m.ask] w' fun e w''=>e=.returned (.int .i64 (chkC m.ask))/\w'.grownBy w'' none):=fun w' hg=>check9 _ _ _ (HS.out.1.grown hg)
 have HNR:Hid (∀w',w.grownBy w' none->Calls Tryz.prog 75 #[repV (.slice bo p cb) m.tell] w' fun e w''=>e=.returned (.bool (decide (m.tell=zeroR)))/\w'.grownBy w'' none):=fun w' hg=>noReply31 _ _ _ (HS.out.2.1.grown hg)
 have HRP:Hid (∀w',w.grownBy w' none->Calls Tryz.prog 76 #[repV (.slice bo p cb) m.tell] w' fun e w''=>e=.returned (.bool (okR m.tell))/\w'.grownBy w'' none):=fun w' hg=>reply32 _ _ _ (HS.out.2.1.grown hg) HS.out.2.2
 have HNC:Hid (∀w',w.grownBy w' none->Calls Tryz.prog 77 #[cmdV (.slice ao n ca) m.ask] w' fun e w''=>e=.returned (.bool (decide (m.ask=zeroC)))/\w'.grownBy w'' none):=fun w' hg=>noCommand33 _ _ _ (HS.out.1.grown hg)
 unfold cmdV at HCK HNC
 unfold repV at HNR HRP
 by_cases hk1:m.kind=1
 ·have q1:(m.kind==1)=true:=by simp [hk1]
  have HC1:Hid (okM m=(decide (m.ask.kind≠4) && okC m.ask && decide (m.tell=zeroR))):=by rw [HC.out,if_pos hk1];rfl
  clear HC hk1 HRP HNC
  by_cases ha4:m.ask.kind=4
  ·have q2:(m.ask.kind != 4)=false:=by simp [ha4]
   have HF:Hid (okM m=false):=by rw [HC1.out,decide_eq_false (by simpa using ha4)];rfl
   clear ha4 HC1
   go_wp2_with fail
   go_ret
   exact ⟨by rw [HF.out];rfl,HW.out.2.1⟩
  have q2:(m.ask.kind != 4)=true:=by simp [ha4]
  have HC2:Hid (okM m=(okC m.ask && decide (m.tell=zeroR))):=by rw [HC1.out,decide_eq_true (by simpa using ha4)];rfl
  clear ha4 HC1
  go_wp2_with fail
  refine (HCK.out W HW.out.2.1).mono ?_
  rintro e w1 ⟨rfl,g1⟩
  have H1:Hid (MB w1 w.heap.size (.slice ao n ca) (.slice bo p cb) m/\w.grownBy w1 none):=⟨HW.out.1.grown g1,grown_trans HW.out.2.1 g1⟩
  clear g1 HW c0 c1 c2 c3 c4 c5 c6 c7 c8 c9 c10 c11 c12
  obtain ⟨c0,c1,c2,c3,c4,c5,c6,c7,c8,c9,c10,c11,c12⟩:=H1.out.1.cells
  cases hok:okC m.ask
  ·have he:chkC m.ask=2:=by unfold chkC;rw [hok];rfl
   have HF:Hid (okM m=false):=by rw [HC2.out,hok];rfl
   rw [he]
   clear he hok HC2
   go_wp2_with fail
   go_ret
   exact ⟨by rw [HF.out];rfl,H1.out.2⟩
  ·have he:chkC m.ask=0:=by unfold chkC;rw [hok];rfl
   have HF:Hid (okM m=decide (m.tell=zeroR)):=by rw [HC2.out,hok];rfl
   rw [he]
   clear he hok HC2
   go_wp2_with fail
   refine (HNR.out w1 H1.out.2).mono ?_
   rintro e w2 ⟨rfl,g2'⟩
   go_wp2_with fail
   go_ret
   exact ⟨by rw [HF.out];rfl,grown_trans H1.out.2 g2'⟩
 have q1:(m.kind==1)=false:=by simp [hk1]
 have HC1:Hid (okM m=(decide (m.kind=2) && okR m.tell && decide (m.ask=zeroC))):=by rw [HC.out,if_neg hk1];rfl
 clear HC hk1 HCK HNR
 by_cases hk2:m.kind=2
 rotate_left
 ·have q2:(m.kind==2)=false:=by simp [hk2]
  have HF:Hid (okM m=false):=by rw [HC1.out,decide_eq_false hk2];rfl
  clear hk2 HC1
  go_wp2_with fail
  go_ret
  exact ⟨by rw [HF.out];rfl,HW.out.2.1⟩
 have q2:(m.kind==2)=true:=by simp [hk2]
 have HC2:Hid (okM m=(okR m.tell && decide (m.ask=zeroC))):=by rw [HC1.out,decide_eq_true hk2];rfl
 clear hk2 HC1
 go_wp2_with fail
 refine (HRP.out W HW.out.2.1).mono ?_
 rintro e w1 ⟨rfl,g1⟩
 have H1:Hid (MB w1 w.heap.size (.slice ao n ca) (.slice bo p cb) m/\w.grownBy w1 none):=⟨HW.out.1.grown g1,grown_trans HW.out.2.1 g1⟩
 clear g1 HW c0 c1 c2 c3 c4 c5 c6 c7 c8 c9 c10 c11 c12
 obtain ⟨c0,c1,c2,c3,c4,c5,c6,c7,c8,c9,c10,c11,c12⟩:=H1.out.1.cells
 cases hok:okR m.tell
 ·have HF:Hid (okM m=false):=by rw [HC2.out,hok];rfl
  clear hok HC2
  go_wp2_with fail
  go_ret
  exact ⟨by rw [HF.out];rfl,H1.out.2⟩
 ·have HF:Hid (okM m=decide (m.ask=zeroC)):=by rw [HC2.out,hok];rfl
  clear hok HC2
  go_wp2_with fail
  refine (HNC.out w1 H1.out.2).mono ?_
  rintro e w2 ⟨rfl,g2'⟩
  go_wp2_with fail
  go_ret
  exact ⟨by rw [HF.out];rfl,grown_trans H1.out.2 g2'⟩
theorem copy6 (ov av:Value)(m:PMsg)(w:World)(ho:Ops w ov m.ask.ops)(ha:Seg w av m.tell.answer)(hf:Fit m.ask.ops)(hz:m.tell.answer.length<=140737488355328):Calls Tryz.prog 8 #[msgV ov av m] w fun e w'=>∃u v,e=.returned (msgV u v m)/\OpsOwn w' w.heap.size u m.ask.ops/\Own w' w.heap.size v m.tell.answer/\w.grownBy w' none:=by
 obtain ⟨ao,n,ca,rfl⟩:=isSl_ops ho
 obtain ⟨bo,p,cb,rfl⟩:=isSl_seg ha
 have HS:Hid (Ops w (.slice ao n ca) m.ask.ops/\Seg w (.slice bo p cb) m.tell.answer/\m.tell.answer.length<=140737488355328/\Fit m.ask.ops):=⟨ho,ha,hz,hf⟩
 clear ho ha hz hf
 unfold msgV
 go_enter Tryz.func8,Tryz.ntmps8
 go_upto_region 1 with fail
 obtain ⟨W,hW,HW⟩:=al2' w #[.int .i64 m.kind,.int .i64 m.client,.int .i64 m.ask.kind,.int .i64 m.ask.token,.int .i64 m.ask.session,.int .i64 m.ask.number,.int .i64 m.ask.mark,.slice ao n ca,.int .i64 m.tell.kind,.int .i64 m.tell.token,.int .i64 m.tell.session,.int .i64 m.tell.number,.slice bo p cb] #[.int .i64 0,.int .i64 0,.int .i64 0,.int .i64 0,.int .i64 0,.int .i64 0,.int .i64 0,.slice none 0 0,.int .i64 0,.int .i64 0,.int .i64 0,.int .i64 0,.slice none 0 0] 45 45
 rw [hW]
 clear hW
 have HM:Hid (MB W w.heap.size (.slice ao n ca) (.slice bo p cb) m/\Room W (w.heap.size+1)/\w.grownBy W none):=⟨HW.out.1,room_lit HW.out.2.1,HW.out.2.2.1⟩
 clear HW
 obtain ⟨c0,c1,c2,c3,c4,c5,c6,c7,c8,c9,c10,c11,c12⟩:=HM.out.1.cells
 go_wp2_with fail
 refine (copy8 (.slice ao n ca) m.ask W (HS.out.1.grown HM.out.2.2) HS.out.2.2.2).mono ?_
 rintro e w1 ⟨u,rfl,hu,hg⟩
 obtain ⟨uo,un,uc,rfl,hun⟩:=hu.slice
 have H1:Hid (MB w1 w.heap.size (.slice ao n ca) (.slice bo p cb) m/\Room w1 (w.heap.size+1)/\w.grownBy w1 none/\OpsOwn w1 W.heap.size (.slice uo un uc) m.ask.ops):=⟨HM.out.1.grown hg,HM.out.2.1.grown hg,grown_trans HM.out.2.2 hg,hu⟩
 have HWS:Hid (w.heap.size<=W.heap.size):=HM.out.2.2.size
 clear hu hg HM hun c0 c1 c2 c3 c4 c5 c6 c7 c8 c9 c10 c11 c12
 unfold cmdV
 obtain ⟨c0,c1,c2,c3,c4,c5,c6,c7,c8,c9,c10,c11,c12⟩:=H1.out.1.cells
 have f2:=H1.out.1.free 2
 have f3:=H1.out.1.free 3
 have f4:=H1.out.1.free 4
 have f5:=H1.out.1.free 5
 have f6:=H1.out.1.free 6
 have f7:=H1.out.1.free 7
 go_upto_region 2 with fail
 have hch:∃W2,(((((w1.setCell ⟨w.heap.size,2,none⟩ (.int .i64 m.ask.kind)).setCell ⟨w.heap.size,3,none⟩ (.int .i64 m.ask.token)).setCell ⟨w.heap.size,4,none⟩ (.int .i64 m.ask.session)).setCell ⟨w.heap.size,5,none⟩ (.int .i64 m.ask.number)).setCell ⟨w.heap.size,6,none⟩ (.int .i64 m.ask.mark)).setCell ⟨w.heap.size,7,none⟩ (.slice uo un uc)=W2/\Hid (MB W2 w.heap.size (.slice uo un uc) (.slice bo p cb) m/\w1.grownBy W2 (some w.heap.size)):=by
  have b0:=Blk.store H1.out.1 2 (.int .i64 m.ask.kind)
  have b1:=Blk.store b0 3 (.int .i64 m.ask.token)
  have b2:=Blk.store b1 4 (.int .i64 m.ask.session)
  have b3:=Blk.store b2 5 (.int .i64 m.ask.number)
  have b4:=Blk.store b3 6 (.int .i64 m.ask.mark)
  have b5:=Blk.store b4 7 (.slice uo un uc)
  exact ⟨_,rfl,b5,grown_trans (grown_trans (grown_trans (grown_trans (grown_trans (grown_setCell _ _ _ _) (grown_setCell _ _ _ _)) (grown_setCell _ _ _ _)) (grown_setCell _ _ _ _)) (grown_setCell _ _ _ _)) (grown_setCell _ _ _ _)⟩
 obtain ⟨W2,hW2,HW2⟩:=hch
 rw [hW2]
 clear hW2 f2 f3 f4 f5 f6 f7 c0 c1 c2 c3 c4 c5 c6 c7 c8 c9 c10 c11 c12
 have H2:Hid (MB W2 w.heap.size (.slice uo un uc) (.slice bo p cb) m/\Room W2 (w.heap.size+1)/\w.grownBy W2 none/\OpsOwn W2 w.heap.size (.slice uo un uc) m.ask.ops):=⟨HW2.out.1,H1.out.2.1.but HW2.out.2 (by omega),grown_new H1.out.2.2.1 HW2.out.2 (by intro x hx;simp at hx;omega),(H1.out.2.2.2.set H1.out.1 (by decide) (by decide) HW2.out.2).mono HWS.out⟩
 clear H1 HW2
 obtain ⟨c0,c1,c2,c3,c4,c5,c6,c7,c8,c9,c10,c11,c12⟩:=H2.out.1.cells
 have HSG:Hid (Seg W2 (.slice bo p cb) m.tell.answer):=HS.out.2.1.grown H2.out.2.2.1
 have f12:=H2.out.1.free 12
 go_wp2_with (at_builtin;refine app22 W2 rfl _ _ rfl W2.heap.size _ [] _ m.tell.answer rfl rfl (Own.nil _ _) HSG.out ?c0 (Nat.le_refl _) ?_)
 case c0=>have:=HS.out.2.2.1;simp;omega
 intro v3 w3 hv hg _
 try rw [List.nil_append] at hv
 obtain ⟨vo,vn,vc,hvs⟩:=isSl_on hv
 subst hvs
 have hg3:W2.grownBy w3 none:=hg
 have H3:Hid (MB w3 w.heap.size (.slice uo un uc) (.slice bo p cb) m/\Room w3 (w.heap.size+1)/\w.grownBy w3 none/\OpsOwn w3 w.heap.size (.slice uo un uc) m.ask.ops/\Own w3 w.heap.size (.slice vo vn vc) m.tell.answer):=⟨H2.out.1.grown hg3,H2.out.2.1.grown hg3,grown_trans H2.out.2.2.1 hg3,H2.out.2.2.2.grown hg3,hv.mono H2.out.2.2.1.size⟩
 clear hv hg hg3 H2 HSG f12 c0 c1 c2 c3 c4 c5 c6 c7 c8 c9 c10 c11 c12
 have c12:=H3.out.1.cells.2.2.2.2.2.2.2.2.2.2.2.2
 have f12:=H3.out.1.free 12
 go_upto_region 3 with fail
 have H4:Hid (MB (w3.setCell ⟨w.heap.size,12,none⟩ (.slice vo vn vc)) w.heap.size (.slice uo un uc) (.slice vo vn vc) m/\Room (w3.setCell ⟨w.heap.size,12,none⟩ (.slice vo vn vc)) (w.heap.size+1)/\w.grownBy (w3.setCell ⟨w.heap.size,12,none⟩ (.slice vo vn vc)) none/\OpsOwn (w3.setCell ⟨w.heap.size,12,none⟩ (.slice vo vn vc)) w.heap.size (.slice uo un uc) m.ask.ops/\Own (w3.setCell ⟨w.heap.size,12,none⟩ (.slice vo vn vc)) w.heap.size (.slice vo vn vc) m.tell.answer):=by
  have s:=grown_setCell w3 w.heap.size 12 (.slice vo vn vc)
  exact ⟨Blk.store H3.out.1 12 _,H3.out.2.1.but s (by omega),grown_new H3.out.2.2.1 s (by intro x hx;simp at hx;omega),H3.out.2.2.2.1.set H3.out.1 (by decide) (by decide) s,own_set H3.out.2.2.2.2 H3.out.1 (by decide) s⟩
 generalize w3.setCell ⟨w.heap.size,12,none⟩ (.slice vo vn vc)=w4 at H4 ⊢
 clear H3 c12 f12
 obtain ⟨c0,c1,c2,c3,c4,c5,c6,c7,c8,c9,c10,c11,c12⟩:=H4.out.1.cells
 obtain ⟨r0,r1,r2,r3,r4,r5,r6,r7,r8,r9,r10,r11,r12,u0,u1,u2,u3,u4,u5,u6,u7,u8,u9,u10,u11,u12⟩:=H4.out.2.1.cells
 obtain ⟨z0,z1,z2,z3,z4,z5,z6,z7,z8,z9,z10,z11,z12⟩:=H4.out.2.1.frees
 go_wp2_with fail
 obtain ⟨W6,hW6,H6⟩:=setM H4.out.2.1 (.slice uo un uc) (.slice vo vn vc) m
 rw [hW6]
 clear hW6
 refine bodyPost_ret (v:=_) (results_cell_row rfl _ _ (w.heap.size+1) 45 _ (0,0) _ rfl H6.out.1 Tryz.underlying45 rfl (by kernel_rfl)) rfl ?_
 obtain ⟨k0,k1,k2,k3,k4,k5,k6,k7,k8,k9,k10,k11,k12,HRB⟩:=H4.out.2.1
 exact ⟨_,_,rfl,H4.out.2.2.2.1.set HRB (by decide) (by decide) H6.out.2,own_set H4.out.2.2.2.2 HRB (by decide) H6.out.2,grown_new H4.out.2.2.1 H6.out.2 (by intro x hx;simp at hx;omega)⟩
def Inv (m0:PMsg)(M0:Bs)(rem:List (Nat × Int))(r:PMsg)(N:Bs)(b:Bool):Prop :=
 (b=true->readNums (fld m0) m0 M0=readNums rem r N)/\(b=false->readNums (fld m0) m0 M0=none)
theorem Inv.step {m0:PMsg}{M0:Bs}{f:Nat × Int}{rem:List (Nat × Int)}{r:PMsg}{N N':Bs}{b b':Bool}{n:Nat}(h:Inv m0 M0 (f :: rem) r N b)(hn:(pNum 9223372036854775807 N=some (n,N')/\b'=b)\/(pNum 9223372036854775807 N=none/\b'=false)):Inv m0 M0 rem (setV r f.1 n) N' b':=by
 rcases hn with ⟨hp,rfl⟩ | ⟨hp,rfl⟩
 ·refine ⟨fun hb=>?_,h.2⟩
  rw [h.1 hb,readNums,hp]
  rfl
 ·refine ⟨(fun hb=>by cases hb),fun _=>?_⟩
  cases b
  ·exact h.2 rfl
  ·rw [h.1 rfl,readNums,hp]
   rfl
structure DS (w wc:World)(X d ob:Nat)(ao:Option Addr)(cap:Nat)(L:Bs)(k:Nat)(b:Bool)(ov av:Value)(r:PMsg):Prop where
 room:Room wc w.heap.size
 mb:MB wc X ov av r
 ops:OpsOwn wc w.heap.size ov r.ask.ops
 ans:Own wc w.heap.size av r.tell.answer
 rk:RK wc d ob ao cap L k b
 gr:w.grownBy wc none
 x1:w.heap.size<X
 d1:w.heap.size<=d
 o1:w.heap.size<=ob
variable {w wc:World} {X d ob:Nat} {ao:Option Addr} {cap:Nat} {L:Bs} {k:Nat} {b:Bool} {ov av:Value} {r:PMsg}
theorem room_fr {w':World}{q:Nat}(h:Room wc q)(hr:RK wc d ob ao cap L k b)(hf:Fr wc w' (RF d ob)):Room w' q:=by
 obtain ⟨c0,c1,c2,c3,c4,c5,c6,c7,c8,c9,c10,c11,c12,h⟩:=h
 exact room_lit (blk_fr h hr hf (by decide) (by decide))
theorem DS.next {w':World}{k':Nat}{b':Bool}(h:DS w wc X d ob ao cap L k b ov av r)(hk:DkPost d ob ao cap L k' b' wc w'):DS w w' X d ob ao cap L k' b' ov av r :=
 ⟨room_fr h.room h.rk hk.2,blk_fr h.mb h.rk hk.2 (by decide) (by decide),opsOwn_fr h.ops h.rk hk.2,own_fr h.ans h.rk hk.2,hk.1,fr_grown h.gr hk.2 h.d1 h.o1,h.x1,h.d1,h.o1⟩
theorem DS.grown {w':World}(h:DS w wc X d ob ao cap L k b ov av r)(hg:wc.grownBy w' none):DS w w' X d ob ao cap L k b ov av r :=
 ⟨h.room.grown hg,h.mb.grown hg,h.ops.grown hg,h.ans.grown hg,h.rk.grown hg,grown_trans h.gr hg,h.x1,h.d1,h.o1⟩
theorem mb_nou8 (j:Nat)(x:Int)(ho:IsSl ov)(ha:IsSl av):(msgA ov av r)[j]?≠some (Value.int .u8 x):=by
 obtain ⟨a1,a2,a3,rfl⟩:=ho
 obtain ⟨a4,a5,a6,rfl⟩:=ha
 unfold msgA
 rcases j with _ | _ | _ | _ | _ | _ | _ | _ | _ | _ | _ | _ | _ | j <;> simp
theorem blk_ne {a t t':Nat}{c c':Array Value}{q:Nat}(h:Blk wc a t c)(h':Blk wc q t' c')(hne:t≠t'):a≠q:=by
 rintro rfl
 exact hne (blk_type h h')
theorem rk_x {w':World}(h:RK wc d ob ao cap L k b)(hm:MB wc X ov av r)(ho:IsSl ov)(ha:IsSl av)(hg:wc.grownBy w' (some X)):RK w' d ob ao cap L k b :=
 ⟨seg_blk h.seg hm (fun j x=>mb_nou8 j x ho ha) hg,h.rf.grown hg (by simp;exact fun e=>blk_ne hm h.rf (by decide) e),h.ok.grown hg (by simp;exact fun e=>blk_ne hm h.ok (by decide) e),h.le,h.zz⟩
theorem DS.store {w':World}{ov' av':Value}{r':PMsg}(h:DS w wc X d ob ao cap L k b ov av r)(hg:wc.grownBy w' (some X))(hm:MB w' X ov' av' r')(h1:OpsOwn wc w.heap.size ov' r'.ask.ops)(h2:Own wc w.heap.size av' r'.tell.answer):DS w w' X d ob ao cap L k b ov' av' r' :=
 ⟨h.room.but hg (by have:=h.x1;omega),hm,h1.set h.mb (by decide) (by decide) hg,own_set h2 h.mb (by decide) hg,rk_x h.rk h.mb (isSl_ow h.ops) (isSl_on h.ans) hg,grown_new h.gr hg (by intro x hx;simp at hx;have:=h.x1;omega),h.x1,h.d1,h.o1⟩
theorem DS.num (h:DS w wc X d ob ao cap L k b ov av r){o:Nat}(ho:isOff o)(n:Int):DS w (wc.setCell ⟨X,o,none⟩ (.int .i64 n)) X d ob ao cap L k b ov av (setV r o n):=by
 obtain ⟨_,_,_,_,h5,h6⟩:=setV_kinds r o n
 exact h.store (grown_setCell _ _ _ _) (h.mb.set ho n) (by rw [h5];exact h.ops) (by rw [h6];exact h.ans)
theorem DS.say (h:DS w wc X d ob ao cap L k b ov av r)(b':Bool):DS w (wc.setCell ⟨ob,0,none⟩ (.bool b')) X d ob ao cap L k b' ov av r :=
 h.next ⟨h.rk.say b',fr_ob _⟩
theorem DS.cells (h:DS w wc X d ob ao cap L k b ov av r):wc.cell? ⟨d,0,none⟩=some (.slice ao L.length cap)/\wc.cell? ⟨d,1,none⟩=some (.int .i64 (k:Int))/\wc.cell? ⟨ob,0,none⟩=some (.bool b)/\wc.frozen? ⟨ob,0,none⟩=false :=
 ⟨h.rk.rf.cell 0,h.rk.rf.cell 1,h.rk.ok.cell 0,h.rk.ok.free 0⟩
end Go.Proofs.YtanoabliahcbeaaGreat
