import Derived.Test.YtncbdhdfemidlaaGreatMh
import Derived.Test.YtncbdhdfemidlaaGreatCrsAll
set_option maxHeartbeats 1000000
set_option maxRecDepth 100000
namespace Go.Proofs.YtncbdhdfemidlaaGreat
open Go.RowKit Disk
open _root_.Go.Proofs.YtncbdhdfemidlaaGreat.Calls _root_.Go.Proofs.YtncbdhdfemidlaaGreat.Command
theorem noReply31 (av:Value)(r:PRep)(w:World)(ha:Seg w av r.answer):Calls Tryz.prog 31 #[repV av r] w fun e w'=>e=.returned (.bool (decide (r=zeroR)))/\w.grownBy w' none:=by
 obtain ⟨bo,cb,rfl⟩:=ha.shape
 clear ha
 obtain ⟨k,tk,ss,nb,an⟩:=r
 dsimp only [repV]
 obtain ⟨p,hp⟩:∃p,an.length=p:=⟨_,rfl⟩
 rw [hp]
 have HP:Hid ((an=[])<->p=0):=by unfold Hid;rw [<-hp];exact List.length_eq_zero_iff.symm
 clear hp
 go_enter Tryz.func31,Tryz.ntmps31
 go_wp2
 all_goals go_ret
 all_goals refine ⟨?_,World.grownBy_alloc _ _ none⟩
 all_goals (refine congrArg (fun x=>Ending.returned (Value.bool x)) ?_;have:=HP.out;first | (simp [zeroR, *];done) | (by_cases hp0:p=0 <;> simp [zeroR, *];done))
theorem noCommand33 (ov:Value)(c:PCmd)(w:World)(ho:Ops w ov c.ops):Calls Tryz.prog 33 #[cmdV ov c] w fun e w'=>e=.returned (.bool (decide (c=zeroC)))/\w.grownBy w' none:=by
 obtain ⟨ao,ca,rfl⟩:=ho.shape
 clear ho
 obtain ⟨k,tk,ss,nb,mk,l⟩:=c
 dsimp only [cmdV]
 obtain ⟨p,hp⟩:∃p,l.length=p:=⟨_,rfl⟩
 rw [hp]
 have HP:Hid ((l=[])<->p=0):=by unfold Hid;rw [<-hp];exact List.length_eq_zero_iff.symm
 clear hp
 go_enter Tryz.func33,Tryz.ntmps33
 go_wp2
 all_goals go_ret
 all_goals refine ⟨?_,World.grownBy_alloc _ _ none⟩
 all_goals (refine congrArg (fun x=>Ending.returned (Value.bool x)) ?_;have:=HP.out;first | (simp [zeroC, *];done) | (by_cases hp0:p=0 <;> simp [zeroC, *];done))
theorem fields54_ttf (k t1 s1 n1:Int)(bo:Option Addr)(p cb:Nat)(w:World):Calls Tryz.prog 54 #[.agg #[.int .i64 k,.int .i64 t1,.int .i64 s1,.int .i64 n1,.slice bo p cb],.bool true,.bool true,.bool false] w fun e w'=>e=.returned (.bool (decide (1<=t1/\1<=s1/\n1=0)))/\w.grownBy w' none:=by
 by_cases et1:1<=t1
 rotate_left
 ·have HF:Hid (decide (1<=t1/\1<=s1/\n1=0)=false):=by unfold Hid;simp;omega
  have at1:(t1 ≥ 1)=False:=eq_false (by omega)
  have bt1:(1<=t1)=False:=eq_false (by omega)
  clear et1
  go_enter Tryz.func54,Tryz.ntmps54
  go_wp2_with fail
  go_ret
  refine ⟨?_,World.grownBy_alloc _ _ none⟩
  exact congrArg (fun x=>Ending.returned (Value.bool x)) HF.out.symm
 have at1:(t1 ≥ 1)=True:=eq_true (by omega)
 have bt1:(1<=t1)=True:=eq_true (by omega)
 have Et1:Hid (1<=t1):=et1
 clear et1
 by_cases es1:1<=s1
 rotate_left
 ·have HF:Hid (decide (1<=t1/\1<=s1/\n1=0)=false):=by unfold Hid;simp;omega
  have as1:(s1 ≥ 1)=False:=eq_false (by omega)
  have bs1:(1<=s1)=False:=eq_false (by omega)
  clear es1
  go_enter Tryz.func54,Tryz.ntmps54
  go_wp2_with fail
  go_ret
  refine ⟨?_,World.grownBy_alloc _ _ none⟩
  exact congrArg (fun x=>Ending.returned (Value.bool x)) HF.out.symm
 have as1:(s1 ≥ 1)=True:=eq_true (by omega)
 have bs1:(1<=s1)=True:=eq_true (by omega)
 have Es1:Hid (1<=s1):=es1
 clear es1
 by_cases en1:n1=0
 rotate_left
 ·have HF:Hid (decide (1<=t1/\1<=s1/\n1=0)=false):=by unfold Hid;simp;omega
  by_cases gn1:1<=n1
  ·have an1:(n1 ≥ 1)=True:=eq_true (by omega)
   have bn1:(1<=n1)=True:=eq_true (by omega)
   clear en1 gn1
   go_enter Tryz.func54,Tryz.ntmps54
   go_wp2_with fail
   go_ret
   refine ⟨?_,World.grownBy_alloc _ _ none⟩
   exact congrArg (fun x=>Ending.returned (Value.bool x)) HF.out.symm
  ·have an1:(n1 ≥ 1)=False:=eq_false (by omega)
   have bn1:(1<=n1)=False:=eq_false (by omega)
   have cn1:(n1==0)=false:=by simp;omega
   clear en1 gn1
   go_enter Tryz.func54,Tryz.ntmps54
   go_wp2_with fail
   go_ret
   refine ⟨?_,World.grownBy_alloc _ _ none⟩
   exact congrArg (fun x=>Ending.returned (Value.bool x)) HF.out.symm
 have an1:(n1 ≥ 1)=False:=eq_false (by omega)
 have bn1:(1<=n1)=False:=eq_false (by omega)
 have cn1:(n1==0)=true:=by simp;omega
 have c'n1:(n1=0)=True:=eq_true en1
 have En1:Hid (n1=0):=en1
 clear en1
 have HF:Hid (decide (1<=t1/\1<=s1/\n1=0)=true):=decide_eq_true ⟨Et1.out,Es1.out,En1.out⟩
 go_enter Tryz.func54,Tryz.ntmps54
 go_wp2_with fail
 go_ret
 refine ⟨?_,World.grownBy_alloc _ _ none⟩
 exact congrArg (fun x=>Ending.returned (Value.bool x)) HF.out.symm
theorem fields54_tff (k t1 s1 n1:Int)(bo:Option Addr)(p cb:Nat)(w:World):Calls Tryz.prog 54 #[.agg #[.int .i64 k,.int .i64 t1,.int .i64 s1,.int .i64 n1,.slice bo p cb],.bool true,.bool false,.bool false] w fun e w'=>e=.returned (.bool (decide (1<=t1/\s1=0/\n1=0)))/\w.grownBy w' none:=by
 by_cases et1:1<=t1
 rotate_left
 ·have HF:Hid (decide (1<=t1/\s1=0/\n1=0)=false):=by unfold Hid;simp;omega
  have at1:(t1 ≥ 1)=False:=eq_false (by omega)
  have bt1:(1<=t1)=False:=eq_false (by omega)
  clear et1
  go_enter Tryz.func54,Tryz.ntmps54
  go_wp2_with fail
  go_ret
  refine ⟨?_,World.grownBy_alloc _ _ none⟩
  exact congrArg (fun x=>Ending.returned (Value.bool x)) HF.out.symm
 have at1:(t1 ≥ 1)=True:=eq_true (by omega)
 have bt1:(1<=t1)=True:=eq_true (by omega)
 have Et1:Hid (1<=t1):=et1
 clear et1
 by_cases es1:s1=0
 rotate_left
 ·have HF:Hid (decide (1<=t1/\s1=0/\n1=0)=false):=by unfold Hid;simp;omega
  by_cases gs1:1<=s1
  ·have as1:(s1 ≥ 1)=True:=eq_true (by omega)
   have bs1:(1<=s1)=True:=eq_true (by omega)
   clear es1 gs1
   go_enter Tryz.func54,Tryz.ntmps54
   go_wp2_with fail
   go_ret
   refine ⟨?_,World.grownBy_alloc _ _ none⟩
   exact congrArg (fun x=>Ending.returned (Value.bool x)) HF.out.symm
  ·have as1:(s1 ≥ 1)=False:=eq_false (by omega)
   have bs1:(1<=s1)=False:=eq_false (by omega)
   have cs1:(s1==0)=false:=by simp;omega
   clear es1 gs1
   go_enter Tryz.func54,Tryz.ntmps54
   go_wp2_with fail
   go_ret
   refine ⟨?_,World.grownBy_alloc _ _ none⟩
   exact congrArg (fun x=>Ending.returned (Value.bool x)) HF.out.symm
 have as1:(s1 ≥ 1)=False:=eq_false (by omega)
 have bs1:(1<=s1)=False:=eq_false (by omega)
 have cs1:(s1==0)=true:=by simp;omega
 have c's1:(s1=0)=True:=eq_true es1
 have Es1:Hid (s1=0):=es1
 clear es1
 by_cases en1:n1=0
 rotate_left
 ·have HF:Hid (decide (1<=t1/\s1=0/\n1=0)=false):=by unfold Hid;simp;omega
  by_cases gn1:1<=n1
  ·have an1:(n1 ≥ 1)=True:=eq_true (by omega)
   have bn1:(1<=n1)=True:=eq_true (by omega)
   clear en1 gn1
   go_enter Tryz.func54,Tryz.ntmps54
   go_wp2_with fail
   go_ret
   refine ⟨?_,World.grownBy_alloc _ _ none⟩
   exact congrArg (fun x=>Ending.returned (Value.bool x)) HF.out.symm
  ·have an1:(n1 ≥ 1)=False:=eq_false (by omega)
   have bn1:(1<=n1)=False:=eq_false (by omega)
   have cn1:(n1==0)=false:=by simp;omega
   clear en1 gn1
   go_enter Tryz.func54,Tryz.ntmps54
   go_wp2_with fail
   go_ret
   refine ⟨?_,World.grownBy_alloc _ _ none⟩
   exact congrArg (fun x=>Ending.returned (Value.bool x)) HF.out.symm
 have an1:(n1 ≥ 1)=False:=eq_false (by omega)
 have bn1:(1<=n1)=False:=eq_false (by omega)
 have cn1:(n1==0)=true:=by simp;omega
 have c'n1:(n1=0)=True:=eq_true en1
 have En1:Hid (n1=0):=en1
 clear en1
 have HF:Hid (decide (1<=t1/\s1=0/\n1=0)=true):=decide_eq_true ⟨Et1.out,Es1.out,En1.out⟩
 go_enter Tryz.func54,Tryz.ntmps54
 go_wp2_with fail
 go_ret
 refine ⟨?_,World.grownBy_alloc _ _ none⟩
 exact congrArg (fun x=>Ending.returned (Value.bool x)) HF.out.symm
theorem fields54_ftt (k t1 s1 n1:Int)(bo:Option Addr)(p cb:Nat)(w:World):Calls Tryz.prog 54 #[.agg #[.int .i64 k,.int .i64 t1,.int .i64 s1,.int .i64 n1,.slice bo p cb],.bool false,.bool true,.bool true] w fun e w'=>e=.returned (.bool (decide (t1=0/\1<=s1/\1<=n1)))/\w.grownBy w' none:=by
 by_cases et1:t1=0
 rotate_left
 ·have HF:Hid (decide (t1=0/\1<=s1/\1<=n1)=false):=by unfold Hid;simp;omega
  by_cases gt1:1<=t1
  ·have at1:(t1 ≥ 1)=True:=eq_true (by omega)
   have bt1:(1<=t1)=True:=eq_true (by omega)
   clear et1 gt1
   go_enter Tryz.func54,Tryz.ntmps54
   go_wp2_with fail
   go_ret
   refine ⟨?_,World.grownBy_alloc _ _ none⟩
   exact congrArg (fun x=>Ending.returned (Value.bool x)) HF.out.symm
  ·have at1:(t1 ≥ 1)=False:=eq_false (by omega)
   have bt1:(1<=t1)=False:=eq_false (by omega)
   have ct1:(t1==0)=false:=by simp;omega
   clear et1 gt1
   go_enter Tryz.func54,Tryz.ntmps54
   go_wp2_with fail
   go_ret
   refine ⟨?_,World.grownBy_alloc _ _ none⟩
   exact congrArg (fun x=>Ending.returned (Value.bool x)) HF.out.symm
 have at1:(t1 ≥ 1)=False:=eq_false (by omega)
 have bt1:(1<=t1)=False:=eq_false (by omega)
 have ct1:(t1==0)=true:=by simp;omega
 have c't1:(t1=0)=True:=eq_true et1
 have Et1:Hid (t1=0):=et1
 clear et1
 by_cases es1:1<=s1
 rotate_left
 ·have HF:Hid (decide (t1=0/\1<=s1/\1<=n1)=false):=by unfold Hid;simp;omega
  have as1:(s1 ≥ 1)=False:=eq_false (by omega)
  have bs1:(1<=s1)=False:=eq_false (by omega)
  clear es1
  go_enter Tryz.func54,Tryz.ntmps54
  go_wp2_with fail
  go_ret
  refine ⟨?_,World.grownBy_alloc _ _ none⟩
  exact congrArg (fun x=>Ending.returned (Value.bool x)) HF.out.symm
 have as1:(s1 ≥ 1)=True:=eq_true (by omega)
 have bs1:(1<=s1)=True:=eq_true (by omega)
 have Es1:Hid (1<=s1):=es1
 clear es1
 by_cases en1:1<=n1
 rotate_left
 ·have HF:Hid (decide (t1=0/\1<=s1/\1<=n1)=false):=by unfold Hid;simp;omega
  have an1:(n1 ≥ 1)=False:=eq_false (by omega)
  have bn1:(1<=n1)=False:=eq_false (by omega)
  clear en1
  go_enter Tryz.func54,Tryz.ntmps54
  go_wp2_with fail
  go_ret
  refine ⟨?_,World.grownBy_alloc _ _ none⟩
  exact congrArg (fun x=>Ending.returned (Value.bool x)) HF.out.symm
 have an1:(n1 ≥ 1)=True:=eq_true (by omega)
 have bn1:(1<=n1)=True:=eq_true (by omega)
 have En1:Hid (1<=n1):=en1
 clear en1
 have HF:Hid (decide (t1=0/\1<=s1/\1<=n1)=true):=decide_eq_true ⟨Et1.out,Es1.out,En1.out⟩
 go_enter Tryz.func54,Tryz.ntmps54
 go_wp2_with fail
 go_ret
 refine ⟨?_,World.grownBy_alloc _ _ none⟩
 exact congrArg (fun x=>Ending.returned (Value.bool x)) HF.out.symm
theorem fields54_ftf (k t1 s1 n1:Int)(bo:Option Addr)(p cb:Nat)(w:World):Calls Tryz.prog 54 #[.agg #[.int .i64 k,.int .i64 t1,.int .i64 s1,.int .i64 n1,.slice bo p cb],.bool false,.bool true,.bool false] w fun e w'=>e=.returned (.bool (decide (t1=0/\1<=s1/\n1=0)))/\w.grownBy w' none:=by
 by_cases et1:t1=0
 rotate_left
 ·have HF:Hid (decide (t1=0/\1<=s1/\n1=0)=false):=by unfold Hid;simp;omega
  by_cases gt1:1<=t1
  ·have at1:(t1 ≥ 1)=True:=eq_true (by omega)
   have bt1:(1<=t1)=True:=eq_true (by omega)
   clear et1 gt1
   go_enter Tryz.func54,Tryz.ntmps54
   go_wp2_with fail
   go_ret
   refine ⟨?_,World.grownBy_alloc _ _ none⟩
   exact congrArg (fun x=>Ending.returned (Value.bool x)) HF.out.symm
  ·have at1:(t1 ≥ 1)=False:=eq_false (by omega)
   have bt1:(1<=t1)=False:=eq_false (by omega)
   have ct1:(t1==0)=false:=by simp;omega
   clear et1 gt1
   go_enter Tryz.func54,Tryz.ntmps54
   go_wp2_with fail
   go_ret
   refine ⟨?_,World.grownBy_alloc _ _ none⟩
   exact congrArg (fun x=>Ending.returned (Value.bool x)) HF.out.symm
 have at1:(t1 ≥ 1)=False:=eq_false (by omega)
 have bt1:(1<=t1)=False:=eq_false (by omega)
 have ct1:(t1==0)=true:=by simp;omega
 have c't1:(t1=0)=True:=eq_true et1
 have Et1:Hid (t1=0):=et1
 clear et1
 by_cases es1:1<=s1
 rotate_left
 ·have HF:Hid (decide (t1=0/\1<=s1/\n1=0)=false):=by unfold Hid;simp;omega
  have as1:(s1 ≥ 1)=False:=eq_false (by omega)
  have bs1:(1<=s1)=False:=eq_false (by omega)
  clear es1
  go_enter Tryz.func54,Tryz.ntmps54
  go_wp2_with fail
  go_ret
  refine ⟨?_,World.grownBy_alloc _ _ none⟩
  exact congrArg (fun x=>Ending.returned (Value.bool x)) HF.out.symm
 have as1:(s1 ≥ 1)=True:=eq_true (by omega)
 have bs1:(1<=s1)=True:=eq_true (by omega)
 have Es1:Hid (1<=s1):=es1
 clear es1
 by_cases en1:n1=0
 rotate_left
 ·have HF:Hid (decide (t1=0/\1<=s1/\n1=0)=false):=by unfold Hid;simp;omega
  by_cases gn1:1<=n1
  ·have an1:(n1 ≥ 1)=True:=eq_true (by omega)
   have bn1:(1<=n1)=True:=eq_true (by omega)
   clear en1 gn1
   go_enter Tryz.func54,Tryz.ntmps54
   go_wp2_with fail
   go_ret
   refine ⟨?_,World.grownBy_alloc _ _ none⟩
   exact congrArg (fun x=>Ending.returned (Value.bool x)) HF.out.symm
  ·have an1:(n1 ≥ 1)=False:=eq_false (by omega)
   have bn1:(1<=n1)=False:=eq_false (by omega)
   have cn1:(n1==0)=false:=by simp;omega
   clear en1 gn1
   go_enter Tryz.func54,Tryz.ntmps54
   go_wp2_with fail
   go_ret
   refine ⟨?_,World.grownBy_alloc _ _ none⟩
   exact congrArg (fun x=>Ending.returned (Value.bool x)) HF.out.symm
 have an1:(n1 ≥ 1)=False:=eq_false (by omega)
 have bn1:(1<=n1)=False:=eq_false (by omega)
 have cn1:(n1==0)=true:=by simp;omega
 have c'n1:(n1=0)=True:=eq_true en1
 have En1:Hid (n1=0):=en1
 clear en1
 have HF:Hid (decide (t1=0/\1<=s1/\n1=0)=true):=decide_eq_true ⟨Et1.out,Es1.out,En1.out⟩
 go_enter Tryz.func54,Tryz.ntmps54
 go_wp2_with fail
 go_ret
 refine ⟨?_,World.grownBy_alloc _ _ none⟩
 exact congrArg (fun x=>Ending.returned (Value.bool x)) HF.out.symm
end Go.Proofs.YtncbdhdfemidlaaGreat
