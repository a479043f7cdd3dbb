import Derived.Test.YtncbdhdfemidlaaGreatMabAll
import Derived.Deep.DeepCutAuto
set_option maxRecDepth 100000
namespace Go.Proofs.YtncbdhdfemidlaaGreat
open Go.RowKit Disk
open _root_.Go.Proofs.YtncbdhdfemidlaaGreat.Calls _root_.Go.Proofs.YtncbdhdfemidlaaGreat.Command
def IsSl (v:Value):Prop:=∃ao n c,v=.slice ao n c
theorem isSl_ops {w:World}{v:Value}{l:List POp}(h:Ops w v l):IsSl v:=by obtain ⟨a,c,h⟩:=h.shape;exact ⟨a,_,c,h⟩
theorem isSl_seg {w:World}{v:Value}{l:Bs}(h:Seg w v l):IsSl v:=by obtain ⟨a,c,h⟩:=h.shape;exact ⟨a,_,c,h⟩
theorem isSl_nil:IsSl (.slice none 0 0):=⟨_,_,_,rfl⟩
theorem beq_decI (a b:Int):(a==b)=decide (a=b):=by by_cases h:a=b <;> simp [h]
theorem calling46 (ov av:Value)(m:PMsg)(w:World)(ho:IsSl ov)(ha:IsSl av):Calls Tryz.prog 46 #[msgV ov av m] w fun e w'=>e=.returned (.bool (callsB m))/\w.grownBy w' none:=by
 obtain ⟨ao,n,ca,rfl⟩:=ho
 obtain ⟨bo,p,cb,rfl⟩:=ha
 unfold msgV callsB
 go_enter Tryz.func46,Tryz.ntmps46
 go_wp2
 all_goals go_ret
 all_goals refine ⟨?_,World.grownBy_alloc _ _ none⟩
 all_goals (refine congrArg (fun x=>Ending.returned (Value.bool x)) ?_;simp_all [beq_decI])
theorem answering49 (ov av:Value)(m:PMsg)(w:World)(ho:IsSl ov)(ha:IsSl av):Calls Tryz.prog 49 #[msgV ov av m] w fun e w'=>e=.returned (.bool (answersB m))/\w.grownBy w' none:=by
 obtain ⟨ao,n,ca,rfl⟩:=ho
 obtain ⟨bo,p,cb,rfl⟩:=ha
 unfold msgV answersB
 go_enter Tryz.func49,Tryz.ntmps49
 go_wp2
 all_goals go_ret
 all_goals refine ⟨?_,World.grownBy_alloc _ _ none⟩
 all_goals (refine congrArg (fun x=>Ending.returned (Value.bool x)) ?_;simp_all [beq_decI])
theorem said25 (ov av:Value)(m:PMsg)(w:World)(ho:IsSl ov)(ha:IsSl av):Calls Tryz.prog 25 #[msgV ov av m] w fun e w'=>e=.returned (.int .i64 (saidM m))/\w.grownBy w' none:=by
 obtain ⟨ao,n,ca,rfl⟩:=ho
 obtain ⟨bo,p,cb,rfl⟩:=ha
 unfold msgV saidM
 go_enter Tryz.func25,Tryz.ntmps25
 go_wp2
 all_goals go_ret
 all_goals refine ⟨?_,World.grownBy_alloc _ _ none⟩
 all_goals simp_all
theorem sameReply35 (u v:Value)(a b:PRep)(w:World)(ha:Seg w u a.answer)(hb:Seg w v b.answer):Calls Tryz.prog 35 #[repV u a,repV v b] w fun e w'=>e=.returned (.bool (decide (a=b)))/\w.grownBy w' none:=by
 obtain ⟨ao,n,ca,rfl⟩:=isSl_seg ha
 obtain ⟨bo,p,cb,rfl⟩:=isSl_seg hb
 have HS:Hid (∀x y,Calls Tryz.prog 57 #[.slice ao n ca,.slice bo p cb] ((w.alloc x).alloc y) fun e w'=>e=.returned (.bool (decide (a.answer=b.answer)))/\w'=(w.alloc x).alloc y):=fun x y=>equal114 _ _ _ _ _ (seg_alloc (seg_alloc ha x) y) (seg_alloc (seg_alloc hb x) y)
 clear ha hb
 unfold repV
 go_enter Tryz.func35,Tryz.ntmps35
 go_wp2_with (go_at_call 57;refine (HS.out _ _).mono ?_;rintro e w1 ⟨rfl,rfl⟩)
 all_goals go_ret
 all_goals refine ⟨?_,g2 _ _ _⟩
 all_goals (refine congrArg (fun x=>Ending.returned (Value.bool x)) ?_;simp [PRep.ext', *])
theorem sameReply37 (u v:Value)(a b:PRep)(w:World)(ha:Seg w u a.answer)(hb:Seg w v b.answer):Calls Tryz.prog 37 #[repV u a,repV v b] w fun e w'=>e=.returned (.bool (decide (a=b)))/\w.grownBy w' none:=by
 have h1:=fun o1 o2=>seg_str (seg_alloc (seg_alloc ha o1) o2)
 have h2:=fun o1 o2=>seg_str (seg_alloc (seg_alloc hb o1) o2)
 obtain ⟨ao,n,ca,rfl⟩:=isSl_seg ha
 obtain ⟨bo,p,cb,rfl⟩:=isSl_seg hb
 clear ha hb
 unfold repV
 go_enter Tryz.func37,Tryz.ntmps37
 go_wp2
 all_goals go_ret
 all_goals refine ⟨?_,g2 _ _ _⟩
 all_goals (refine congrArg (fun x=>Ending.returned (Value.bool x)) ?_;simp [PRep.ext',beq_dec, *])
theorem boxM (w:World)(ao:Option Addr)(n ca:Nat)(bo:Option Addr)(p cb:Nat)(a:PMsg):∃W,w.alloc (.cells #[.int .i64 a.kind,.int .i64 a.client,.int .i64 a.ask.kind,.int .i64 a.ask.token,.int .i64 a.ask.session,.int .i64 a.ask.number,.int .i64 a.ask.mark,.slice ao n ca,.int .i64 a.tell.kind,.int .i64 a.tell.token,.int .i64 a.tell.session,.int .i64 a.tell.number,.slice bo p cb] 34)=W/\Hid (MB W w.heap.size (.slice ao n ca) (.slice bo p cb) a/\w.grownBy W none/\W.heap.size=w.heap.size+1) :=
 ⟨_,rfl,heap_alloc_new _ _,World.grownBy_alloc _ _ _,by simp⟩
theorem boxM2 (w:World)(ao:Option Addr)(n ca:Nat)(bo:Option Addr)(p cb:Nat)(a:PMsg)(co:Option Addr)(q cc:Nat)(eo:Option Addr)(r cd:Nat)(b:PMsg):∃W,(w.alloc (.cells #[.int .i64 a.kind,.int .i64 a.client,.int .i64 a.ask.kind,.int .i64 a.ask.token,.int .i64 a.ask.session,.int .i64 a.ask.number,.int .i64 a.ask.mark,.slice ao n ca,.int .i64 a.tell.kind,.int .i64 a.tell.token,.int .i64 a.tell.session,.int .i64 a.tell.number,.slice bo p cb] 34)).alloc (.cells #[.int .i64 b.kind,.int .i64 b.client,.int .i64 b.ask.kind,.int .i64 b.ask.token,.int .i64 b.ask.session,.int .i64 b.ask.number,.int .i64 b.ask.mark,.slice co q cc,.int .i64 b.tell.kind,.int .i64 b.tell.token,.int .i64 b.tell.session,.int .i64 b.tell.number,.slice eo r cd] 34)=W/\Hid (MB W w.heap.size (.slice ao n ca) (.slice bo p cb) a/\MB W (w.heap.size+1) (.slice co q cc) (.slice eo r cd) b/\w.grownBy W none/\W.heap.size=w.heap.size+2):=by
 obtain ⟨W,hW,h1,h2,h3,h4⟩:=al2' w #[.int .i64 a.kind,.int .i64 a.client,.int .i64 a.ask.kind,.int .i64 a.ask.token,.int .i64 a.ask.session,.int .i64 a.ask.number,.int .i64 a.ask.mark,.slice ao n ca,.int .i64 a.tell.kind,.int .i64 a.tell.token,.int .i64 a.tell.session,.int .i64 a.tell.number,.slice bo p cb] #[.int .i64 b.kind,.int .i64 b.client,.int .i64 b.ask.kind,.int .i64 b.ask.token,.int .i64 b.ask.session,.int .i64 b.ask.number,.int .i64 b.ask.mark,.slice co q cc,.int .i64 b.tell.kind,.int .i64 b.tell.token,.int .i64 b.tell.session,.int .i64 b.tell.number,.slice eo r cd] 34 34
 exact ⟨W,hW,h1,h2,h3,h4⟩
theorem same15 (ov av pv qv:Value)(a b:PMsg)(w:World)(h1:Ops w ov a.ask.ops)(h2:Seg w av a.tell.answer)(h3:Ops w pv b.ask.ops)(h4:Seg w qv b.tell.answer):Calls Tryz.prog 15 #[msgV ov av a,msgV pv qv b] w fun e w'=>e=.returned (.bool (decide (a=b)))/\w.grownBy w' none:=by
 have HC:Hid (∀w',w.grownBy w' none->Calls Tryz.prog 34 #[cmdV ov a.ask,cmdV pv b.ask] w' fun e w''=>e=.returned (.bool (decide (a.ask=b.ask)))/\w'.grownBy w'' none):=fun w' hg=>same24 _ _ _ _ _ (h1.grown hg) (h3.grown hg)
 have HR:Hid (∀w',w.grownBy w' none->Calls Tryz.prog 35 #[repV av a.tell,repV qv b.tell] w' fun e w''=>e=.returned (.bool (decide (a.tell=b.tell)))/\w'.grownBy w'' none):=fun w' hg=>sameReply35 _ _ _ _ _ (h2.grown hg) (h4.grown hg)
 obtain ⟨ao,n,ca,rfl⟩:=isSl_ops h1
 obtain ⟨bo,p,cb,rfl⟩:=isSl_seg h2
 obtain ⟨co,q,cc,rfl⟩:=isSl_ops h3
 obtain ⟨eo,r,cd,rfl⟩:=isSl_seg h4
 clear h1 h2 h3 h4
 unfold cmdV at HC
 unfold repV at HR
 unfold msgV
 have HE:Hid ((a=b)<->(a.kind=b.kind/\a.client=b.client/\a.ask=b.ask/\a.tell=b.tell)):=PMsg.ext'
 obtain ⟨da,hda⟩:∃x,decide (a.ask=b.ask)=x:=⟨_,rfl⟩
 obtain ⟨dt,hdt⟩:∃x,decide (a.tell=b.tell)=x:=⟨_,rfl⟩
 rw [hda] at HC
 rw [hdt] at HR
 have HA:Hid (decide (a.ask=b.ask)=da):=hda
 have HT:Hid (decide (a.tell=b.tell)=dt):=hdt
 clear hda hdt
 go_enter Tryz.func15,Tryz.ntmps15
 go_upto_region 1 with fail
 obtain ⟨W,hW,HW⟩:=boxM2 w ao n ca bo p cb a co q cc eo r cd b
 rw [hW]
 clear hW
 obtain ⟨c0,c1,c2,c3,c4,c5,c6,c7,c8,c9,c10,c11,c12⟩:=HW.out.1.cells
 obtain ⟨d0,d1,d2,d3,d4,d5,d6,d7,d8,d9,d10,d11,d12⟩:=HW.out.2.1.cells
 by_cases e0:a.kind=b.kind
 rotate_left
 ·have q0:(a.kind==b.kind)=false:=by simp [e0]
  have N0:Hid (¬a.kind=b.kind):=e0
  clear e0
  go_wp2_with fail
  go_ret
  refine ⟨?_,HW.out.2.2.1⟩
  have:¬a=b:=fun h=>N0.out (HE.out.1 h).1
  simp [this]
 have q0:(a.kind==b.kind)=true:=by simp [e0]
 have E0:Hid (a.kind=b.kind):=e0
 clear e0
 by_cases e1:a.client=b.client
 rotate_left
 ·have q1:(a.client==b.client)=false:=by simp [e1]
  have N0:Hid (¬a.client=b.client):=e1
  clear e1
  go_wp2_with fail
  go_ret
  refine ⟨?_,HW.out.2.2.1⟩
  have:¬a=b:=fun h=>N0.out (HE.out.1 h).2.1
  simp [this]
 have q1:(a.client==b.client)=true:=by simp [e1]
 have E1:Hid (a.client=b.client):=e1
 clear e1
 go_wp2_with fail
 refine (HC.out _ HW.out.2.2.1).mono ?_
 rintro e w1 ⟨rfl,hg1⟩
 have GG:Hid (w.grownBy w1 none/\MB w1 w.heap.size (.slice ao n ca) (.slice bo p cb) a/\MB w1 (w.heap.size+1) (.slice co q cc) (.slice eo r cd) b):=⟨grown_trans HW.out.2.2.1 hg1,HW.out.1.grown hg1,HW.out.2.1.grown hg1⟩
 clear hg1 c0 c1 c2 c3 c4 c5 c6 c7 c8 c9 c10 c11 c12 d0 d1 d2 d3 d4 d5 d6 d7 d8 d9 d10 d11 d12
 obtain ⟨c0,c1,c2,c3,c4,c5,c6,c7,c8,c9,c10,c11,c12⟩:=GG.out.2.1.cells
 obtain ⟨d0,d1,d2,d3,d4,d5,d6,d7,d8,d9,d10,d11,d12⟩:=GG.out.2.2.cells
 cases da
 ·go_wp2_with fail
  go_ret
  refine ⟨?_,GG.out.1⟩
  have:=HA.out
  simp at this
  simp [HE.out,this]
 go_wp2_with fail
 refine (HR.out _ GG.out.1).mono ?_
 rintro e w2 ⟨rfl,hg2⟩
 go_wp2_with fail
 go_ret
 refine ⟨?_,grown_trans GG.out.1 hg2⟩
 refine congrArg (fun x=>Ending.returned (Value.bool x)) ?_
 have:=HA.out
 simp at this
 rw [<-HT.out]
 simp [HE.out,E0.out,E1.out,this]
theorem same16m (ov av pv qv:Value)(a b:PMsg)(w:World)(h1:Ops w ov a.ask.ops)(h2:Seg w av a.tell.answer)(h3:Ops w pv b.ask.ops)(h4:Seg w qv b.tell.answer):Calls Tryz.prog 16 #[msgV ov av a,msgV pv qv b] w fun e w'=>e=.returned (.bool (decide (a=b)))/\w.grownBy w' none:=by
 have HC:Hid (∀w',w.grownBy w' none->Calls Tryz.prog 36 #[cmdV ov a.ask,cmdV pv b.ask] w' fun e w''=>e=.returned (.bool (decide (a.ask=b.ask)))/\w'.grownBy w'' none):=fun w' hg=>same16 _ _ _ _ _ (h1.grown hg) (h3.grown hg)
 have HR:Hid (∀w',w.grownBy w' none->Calls Tryz.prog 37 #[repV av a.tell,repV qv b.tell] w' fun e w''=>e=.returned (.bool (decide (a.tell=b.tell)))/\w'.grownBy w'' none):=fun w' hg=>sameReply37 _ _ _ _ _ (h2.grown hg) (h4.grown hg)
 obtain ⟨ao,n,ca,rfl⟩:=isSl_ops h1
 obtain ⟨bo,p,cb,rfl⟩:=isSl_seg h2
 obtain ⟨co,q,cc,rfl⟩:=isSl_ops h3
 obtain ⟨eo,r,cd,rfl⟩:=isSl_seg h4
 clear h1 h2 h3 h4
 unfold cmdV at HC
 unfold repV at HR
 unfold msgV
 have HE:Hid ((a=b)<->(a.kind=b.kind/\a.client=b.client/\a.ask=b.ask/\a.tell=b.tell)):=PMsg.ext'
 obtain ⟨da,hda⟩:∃x,decide (a.ask=b.ask)=x:=⟨_,rfl⟩
 obtain ⟨dt,hdt⟩:∃x,decide (a.tell=b.tell)=x:=⟨_,rfl⟩
 rw [hda] at HC
 rw [hdt] at HR
 have HA:Hid (decide (a.ask=b.ask)=da):=hda
 have HT:Hid (decide (a.tell=b.tell)=dt):=hdt
 clear hda hdt
 go_enter Tryz.func16,Tryz.ntmps16
 go_upto_region 1 with fail
 obtain ⟨W,hW,HW⟩:=boxM2 w ao n ca bo p cb a co q cc eo r cd b
 rw [hW]
 clear hW
 obtain ⟨c0,c1,c2,c3,c4,c5,c6,c7,c8,c9,c10,c11,c12⟩:=HW.out.1.cells
 obtain ⟨d0,d1,d2,d3,d4,d5,d6,d7,d8,d9,d10,d11,d12⟩:=HW.out.2.1.cells
 by_cases e0:a.kind=b.kind
 rotate_left
 ·have q0:(a.kind==b.kind)=false:=by simp [e0]
  have N0:Hid (¬a.kind=b.kind):=e0
  clear e0
  go_wp2_with fail
  go_ret
  refine ⟨?_,HW.out.2.2.1⟩
  have:¬a=b:=fun h=>N0.out (HE.out.1 h).1
  simp [this]
 have q0:(a.kind==b.kind)=true:=by simp [e0]
 have E0:Hid (a.kind=b.kind):=e0
 clear e0
 by_cases e1:a.client=b.client
 rotate_left
 ·have q1:(a.client==b.client)=false:=by simp [e1]
  have N0:Hid (¬a.client=b.client):=e1
  clear e1
  go_wp2_with fail
  go_ret
  refine ⟨?_,HW.out.2.2.1⟩
  have:¬a=b:=fun h=>N0.out (HE.out.1 h).2.1
  simp [this]
 have q1:(a.client==b.client)=true:=by simp [e1]
 have E1:Hid (a.client=b.client):=e1
 clear e1
 go_wp2_with fail
 refine (HC.out _ HW.out.2.2.1).mono ?_
 rintro e w1 ⟨rfl,hg1⟩
 have GG:Hid (w.grownBy w1 none/\MB w1 w.heap.size (.slice ao n ca) (.slice bo p cb) a/\MB w1 (w.heap.size+1) (.slice co q cc) (.slice eo r cd) b):=⟨grown_trans HW.out.2.2.1 hg1,HW.out.1.grown hg1,HW.out.2.1.grown hg1⟩
 clear hg1 c0 c1 c2 c3 c4 c5 c6 c7 c8 c9 c10 c11 c12 d0 d1 d2 d3 d4 d5 d6 d7 d8 d9 d10 d11 d12
 obtain ⟨c0,c1,c2,c3,c4,c5,c6,c7,c8,c9,c10,c11,c12⟩:=GG.out.2.1.cells
 obtain ⟨d0,d1,d2,d3,d4,d5,d6,d7,d8,d9,d10,d11,d12⟩:=GG.out.2.2.cells
 cases da
 ·go_wp2_with fail
  go_ret
  refine ⟨?_,GG.out.1⟩
  have:=HA.out
  simp at this
  simp [HE.out,this]
 go_wp2_with fail
 refine (HR.out _ GG.out.1).mono ?_
 rintro e w2 ⟨rfl,hg2⟩
 go_wp2_with fail
 go_ret
 refine ⟨?_,grown_trans GG.out.1 hg2⟩
 refine congrArg (fun x=>Ending.returned (Value.bool x)) ?_
 have:=HA.out
 simp at this
 rw [<-HT.out]
 simp [HE.out,E0.out,E1.out,this]
end Go.Proofs.YtncbdhdfemidlaaGreat
