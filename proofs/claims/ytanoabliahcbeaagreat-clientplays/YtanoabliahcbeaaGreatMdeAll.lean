import Derived.Test.YtanoabliahcbeaaGreatMabAll
import Derived.Deep.DeepCutAuto
set_option maxHeartbeats 4000000
set_option maxRecDepth 100000
namespace Go.Proofs.YtanoabliahcbeaaGreat
open Go.RowKit Disk
open _root_.Go.Proofs.YtanoabliahcbeaaGreat.Calls _root_.Go.Proofs.YtanoabliahcbeaaGreat.Command
def IsSl (v:Value):Prop:=∃ao n c,v=.slice ao n c
theorem isSl_ops {w:World}{v:Value}{l:List POp}(h:Ops w v l):IsSl v:=by obtain ⟨a,c,h⟩:=h.shape;exact ⟨a,_,c,h⟩
theorem isSl_seg {w:World}{v:Value}{l:Bs}(h:Seg w v l):IsSl v:=by obtain ⟨a,c,h⟩:=h.shape;exact ⟨a,_,c,h⟩
theorem isSl_nil:IsSl (.slice none 0 0):=⟨_,_,_,rfl⟩
theorem beq_decI (a b:Int):(a==b)=decide (a=b):=by by_cases h:a=b <;> simp [h]
theorem calling46 (ov av:Value)(m:PMsg)(w:World)(ho:IsSl ov)(ha:IsSl av):Calls Tryz.prog 126 #[msgV ov av m] w fun e w'=>e=.returned (.bool (callsB m))/\w.grownBy w' none:=by
 obtain ⟨ao,n,ca,rfl⟩:=ho
 obtain ⟨bo,p,cb,rfl⟩:=ha
 unfold msgV callsB
 go_enter Tryz.func126,Tryz.ntmps126
 go_wp2
 all_goals go_ret
 all_goals refine ⟨?_,World.grownBy_alloc _ _ none⟩
 all_goals (refine congrArg (fun x=>Ending.returned (Value.bool x)) ?_;simp_all [beq_decI])
theorem answering49 (ov av:Value)(m:PMsg)(w:World)(ho:IsSl ov)(ha:IsSl av):Calls Tryz.prog 129 #[msgV ov av m] w fun e w'=>e=.returned (.bool (answersB m))/\w.grownBy w' none:=by
 obtain ⟨ao,n,ca,rfl⟩:=ho
 obtain ⟨bo,p,cb,rfl⟩:=ha
 unfold msgV answersB
 go_enter Tryz.func129,Tryz.ntmps129
 go_wp2
 all_goals go_ret
 all_goals refine ⟨?_,World.grownBy_alloc _ _ none⟩
 all_goals (refine congrArg (fun x=>Ending.returned (Value.bool x)) ?_;simp_all [beq_decI])
theorem said25 (ov av:Value)(m:PMsg)(w:World)(ho:IsSl ov)(ha:IsSl av):Calls Tryz.prog 97 #[msgV ov av m] w fun e w'=>e=.returned (.int .i64 (saidM m))/\w.grownBy w' none:=by
 obtain ⟨ao,n,ca,rfl⟩:=ho
 obtain ⟨bo,p,cb,rfl⟩:=ha
 unfold msgV saidM
 go_enter Tryz.func97,Tryz.ntmps97
 go_wp2
 all_goals go_ret
 all_goals refine ⟨?_,World.grownBy_alloc _ _ none⟩
 all_goals simp_all
theorem sameReply35 (u v:Value)(a b:PRep)(w:World)(ha:Seg w u a.answer)(hb:Seg w v b.answer):Calls Tryz.prog 157 #[repV u a,repV v b] w fun e w'=>e=.returned (.bool (decide (a=b)))/\w.grownBy w' none:=by
 obtain ⟨ao,n,ca,rfl⟩:=isSl_seg ha
 obtain ⟨bo,p,cb,rfl⟩:=isSl_seg hb
 have HS:Hid (∀x y,Calls Tryz.prog 183 #[.slice ao n ca,.slice bo p cb] ((w.alloc x).alloc y) fun e w'=>e=.returned (.bool (decide (a.answer=b.answer)))/\w'=(w.alloc x).alloc y):=fun x y=>equal114 _ _ _ _ _ (seg_alloc (seg_alloc ha x) y) (seg_alloc (seg_alloc hb x) y)
 clear ha hb
 unfold repV
 go_enter Tryz.func157,Tryz.ntmps157
 go_wp2_with (go_at_call 183;refine (HS.out _ _).mono ?_;rintro e w1 ⟨rfl,rfl⟩)
 all_goals go_ret
 all_goals refine ⟨?_,g2 _ _ _⟩
 all_goals (refine congrArg (fun x=>Ending.returned (Value.bool x)) ?_;simp [PRep.ext', *])
theorem sameReply37 (u v:Value)(a b:PRep)(w:World)(ha:Seg w u a.answer)(hb:Seg w v b.answer):Calls Tryz.prog 68 #[repV u a,repV v b] w fun e w'=>e=.returned (.bool (decide (a=b)))/\w.grownBy w' none:=by
 have h1:=fun o1 o2=>seg_str (seg_alloc (seg_alloc ha o1) o2)
 have h2:=fun o1 o2=>seg_str (seg_alloc (seg_alloc hb o1) o2)
 obtain ⟨ao,n,ca,rfl⟩:=isSl_seg ha
 obtain ⟨bo,p,cb,rfl⟩:=isSl_seg hb
 clear ha hb
 unfold repV
 go_enter Tryz.func68,Tryz.ntmps68
 go_wp2
 all_goals go_ret
 all_goals refine ⟨?_,g2 _ _ _⟩
 all_goals (refine congrArg (fun x=>Ending.returned (Value.bool x)) ?_;simp [PRep.ext',beq_dec, *])
theorem boxM (w:World)(ao:Option Addr)(n ca:Nat)(bo:Option Addr)(p cb:Nat)(a:PMsg):∃W,w.alloc (.cells #[.int .i64 a.kind,.int .i64 a.client,.int .i64 a.ask.kind,.int .i64 a.ask.token,.int .i64 a.ask.session,.int .i64 a.ask.number,.int .i64 a.ask.mark,.slice ao n ca,.int .i64 a.tell.kind,.int .i64 a.tell.token,.int .i64 a.tell.session,.int .i64 a.tell.number,.slice bo p cb] 45)=W/\Hid (MB W w.heap.size (.slice ao n ca) (.slice bo p cb) a/\w.grownBy W none/\W.heap.size=w.heap.size+1) :=
 ⟨_,rfl,heap_alloc_new _ _,World.grownBy_alloc _ _ _,by simp⟩
theorem boxM2 (w:World)(ao:Option Addr)(n ca:Nat)(bo:Option Addr)(p cb:Nat)(a:PMsg)(co:Option Addr)(q cc:Nat)(eo:Option Addr)(r cd:Nat)(b:PMsg):∃W,(w.alloc (.cells #[.int .i64 a.kind,.int .i64 a.client,.int .i64 a.ask.kind,.int .i64 a.ask.token,.int .i64 a.ask.session,.int .i64 a.ask.number,.int .i64 a.ask.mark,.slice ao n ca,.int .i64 a.tell.kind,.int .i64 a.tell.token,.int .i64 a.tell.session,.int .i64 a.tell.number,.slice bo p cb] 45)).alloc (.cells #[.int .i64 b.kind,.int .i64 b.client,.int .i64 b.ask.kind,.int .i64 b.ask.token,.int .i64 b.ask.session,.int .i64 b.ask.number,.int .i64 b.ask.mark,.slice co q cc,.int .i64 b.tell.kind,.int .i64 b.tell.token,.int .i64 b.tell.session,.int .i64 b.tell.number,.slice eo r cd] 45)=W/\Hid (MB W w.heap.size (.slice ao n ca) (.slice bo p cb) a/\MB W (w.heap.size+1) (.slice co q cc) (.slice eo r cd) b/\w.grownBy W none/\W.heap.size=w.heap.size+2):=by
 obtain ⟨W,hW,h1,h2,h3,h4⟩:=al2' w #[.int .i64 a.kind,.int .i64 a.client,.int .i64 a.ask.kind,.int .i64 a.ask.token,.int .i64 a.ask.session,.int .i64 a.ask.number,.int .i64 a.ask.mark,.slice ao n ca,.int .i64 a.tell.kind,.int .i64 a.tell.token,.int .i64 a.tell.session,.int .i64 a.tell.number,.slice bo p cb] #[.int .i64 b.kind,.int .i64 b.client,.int .i64 b.ask.kind,.int .i64 b.ask.token,.int .i64 b.ask.session,.int .i64 b.ask.number,.int .i64 b.ask.mark,.slice co q cc,.int .i64 b.tell.kind,.int .i64 b.tell.token,.int .i64 b.tell.session,.int .i64 b.tell.number,.slice eo r cd] 45 45
 exact ⟨W,hW,h1,h2,h3,h4⟩
theorem same15 (ov av pv qv:Value)(a b:PMsg)(w:World)(h1:Ops w ov a.ask.ops)(h2:Seg w av a.tell.answer)(h3:Ops w pv b.ask.ops)(h4:Seg w qv b.tell.answer):Calls Tryz.prog 127 #[msgV ov av a,msgV pv qv b] w fun e w'=>e=.returned (.bool (decide (a=b)))/\w.grownBy w' none:=by
 have HC:Hid (∀w',w.grownBy w' none->Calls Tryz.prog 156 #[cmdV ov a.ask,cmdV pv b.ask] w' fun e w''=>e=.returned (.bool (decide (a.ask=b.ask)))/\w'.grownBy w'' none):=fun w' hg=>same24 _ _ _ _ _ (h1.grown hg) (h3.grown hg)
 have HR:Hid (∀w',w.grownBy w' none->Calls Tryz.prog 157 #[repV av a.tell,repV qv b.tell] w' fun e w''=>e=.returned (.bool (decide (a.tell=b.tell)))/\w'.grownBy w'' none):=fun w' hg=>sameReply35 _ _ _ _ _ (h2.grown hg) (h4.grown hg)
 obtain ⟨ao,n,ca,rfl⟩:=isSl_ops h1
 obtain ⟨bo,p,cb,rfl⟩:=isSl_seg h2
 obtain ⟨co,q,cc,rfl⟩:=isSl_ops h3
 obtain ⟨eo,r,cd,rfl⟩:=isSl_seg h4
 clear h1 h2 h3 h4
 unfold cmdV at HC
 unfold repV at HR
 unfold msgV
 have HE:Hid ((a=b)<->(a.kind=b.kind/\a.client=b.client/\a.ask=b.ask/\a.tell=b.tell)):=PMsg.ext'
 obtain ⟨da,hda⟩:∃x,decide (a.ask=b.ask)=x:=⟨_,rfl⟩
 obtain ⟨dt,hdt⟩:∃x,decide (a.tell=b.tell)=x:=⟨_,rfl⟩
 rw [hda] at HC
 rw [hdt] at HR
 have HA:Hid (decide (a.ask=b.ask)=da):=hda
 have HT:Hid (decide (a.tell=b.tell)=dt):=hdt
 clear hda hdt
 go_enter Tryz.func127,Tryz.ntmps127
 go_upto_region 1 with fail
 obtain ⟨W,hW,HW⟩:=boxM2 w ao n ca bo p cb a co q cc eo r cd b
 rw [hW]
 clear hW
 obtain ⟨c0,c1,c2,c3,c4,c5,c6,c7,c8,c9,c10,c11,c12⟩:=HW.out.1.cells
 obtain ⟨d0,d1,d2,d3,d4,d5,d6,d7,d8,d9,d10,d11,d12⟩:=HW.out.2.1.cells
 by_cases e0:a.kind=b.kind
 rotate_left
 ·have q0:(a.kind==b.kind)=false:=by simp [e0]
  have N0:Hid (¬a.kind=b.kind):=e0
  clear e0
  go_wp2_with fail
  go_ret
  refine ⟨?_,HW.out.2.2.1⟩
  have:¬a=b:=fun h=>N0.out (HE.out.1 h).1
  simp [this]
 have q0:(a.kind==b.kind)=true:=by simp [e0]
 have E0:Hid (a.kind=b.kind):=e0
 clear e0
 by_cases e1:a.client=b.client
 rotate_left
 ·have q1:(a.client==b.client)=false:=by simp [e1]
  have N0:Hid (¬a.client=b.client):=e1
  clear e1
  go_wp2_with fail
  go_ret
  refine ⟨?_,HW.out.2.2.1⟩
  have:¬a=b:=fun h=>N0.out (HE.out.1 h).2.1
  simp [this]
 have q1:(a.client==b.client)=true:=by simp [e1]
 have E1:Hid (a.client=b.client):=e1
 clear e1
 go_wp2_with fail
 refine (HC.out _ HW.out.2.2.1).mono ?_
 rintro e w1 ⟨rfl,hg1⟩
 have GG:Hid (w.grownBy w1 none/\MB w1 w.heap.size (.slice ao n ca) (.slice bo p cb) a/\MB w1 (w.heap.size+1) (.slice co q cc) (.slice eo r cd) b):=⟨grown_trans HW.out.2.2.1 hg1,HW.out.1.grown hg1,HW.out.2.1.grown hg1⟩
 clear hg1 c0 c1 c2 c3 c4 c5 c6 c7 c8 c9 c10 c11 c12 d0 d1 d2 d3 d4 d5 d6 d7 d8 d9 d10 d11 d12
 obtain ⟨c0,c1,c2,c3,c4,c5,c6,c7,c8,c9,c10,c11,c12⟩:=GG.out.2.1.cells
 obtain ⟨d0,d1,d2,d3,d4,d5,d6,d7,d8,d9,d10,d11,d12⟩:=GG.out.2.2.cells
 cases da
 ·go_wp2_with fail
  go_ret
  refine ⟨?_,GG.out.1⟩
  have:=HA.out
  simp at this
  simp [HE.out,this]
 go_wp2_with fail
 refine (HR.out _ GG.out.1).mono ?_
 rintro e w2 ⟨rfl,hg2⟩
 go_wp2_with fail
 go_ret
 refine ⟨?_,grown_trans GG.out.1 hg2⟩
 refine congrArg (fun x=>Ending.returned (Value.bool x)) ?_
 have:=HA.out
 simp at this
 rw [<-HT.out]
 simp [HE.out,E0.out,E1.out,this]
theorem same16m (ov av pv qv:Value)(a b:PMsg)(w:World)(h1:Ops w ov a.ask.ops)(h2:Seg w av a.tell.answer)(h3:Ops w pv b.ask.ops)(h4:Seg w qv b.tell.answer):Calls Tryz.prog 38 #[msgV ov av a,msgV pv qv b] w fun e w'=>e=.returned (.bool (decide (a=b)))/\w.grownBy w' none:=by
 have HC:Hid (∀w',w.grownBy w' none->Calls Tryz.prog 67 #[cmdV ov a.ask,cmdV pv b.ask] w' fun e w''=>e=.returned (.bool (decide (a.ask=b.ask)))/\w'.grownBy w'' none):=fun w' hg=>same16 _ _ _ _ _ (h1.grown hg) (h3.grown hg)
 have HR:Hid (∀w',w.grownBy w' none->Calls Tryz.prog 68 #[repV av a.tell,repV qv b.tell] w' fun e w''=>e=.returned (.bool (decide (a.tell=b.tell)))/\w'.grownBy w'' none):=fun w' hg=>sameReply37 _ _ _ _ _ (h2.grown hg) (h4.grown hg)
 obtain ⟨ao,n,ca,rfl⟩:=isSl_ops h1
 obtain ⟨bo,p,cb,rfl⟩:=isSl_seg h2
 obtain ⟨co,q,cc,rfl⟩:=isSl_ops h3
 obtain ⟨eo,r,cd,rfl⟩:=isSl_seg h4
 clear h1 h2 h3 h4
 unfold cmdV at HC
 unfold repV at HR
 unfold msgV
 have HE:Hid ((a=b)<->(a.kind=b.kind/\a.client=b.client/\a.ask=b.ask/\a.tell=b.tell)):=PMsg.ext'
 obtain ⟨da,hda⟩:∃x,decide (a.ask=b.ask)=x:=⟨_,rfl⟩
 obtain ⟨dt,hdt⟩:∃x,decide (a.tell=b.tell)=x:=⟨_,rfl⟩
 rw [hda] at HC
 rw [hdt] at HR
 have HA:Hid (decide (a.ask=b.ask)=da):=hda
 have HT:Hid (decide (a.tell=b.tell)=dt):=hdt
 clear hda hdt
 go_enter Tryz.func38,Tryz.ntmps38
 go_upto_region 1 with fail
 obtain ⟨W,hW,HW⟩:=boxM2 w ao n ca bo p cb a co q cc eo r cd b
 rw [hW]
 clear hW
 obtain ⟨c0,c1,c2,c3,c4,c5,c6,c7,c8,c9,c10,c11,c12⟩:=HW.out.1.cells
 obtain ⟨d0,d1,d2,d3,d4,d5,d6,d7,d8,d9,d10,d11,d12⟩:=HW.out.2.1.cells
 by_cases e0:a.kind=b.kind
 rotate_left
 ·have q0:(a.kind==b.kind)=false:=by simp [e0]
  have N0:Hid (¬a.kind=b.kind):=e0
  clear e0
  go_wp2_with fail
  go_ret
  refine ⟨?_,HW.out.2.2.1⟩
  have:¬a=b:=fun h=>N0.out (HE.out.1 h).1
  simp [this]
 have q0:(a.kind==b.kind)=true:=by simp [e0]
 have E0:Hid (a.kind=b.kind):=e0
 clear e0
 by_cases e1:a.client=b.client
 rotate_left
 ·have q1:(a.client==b.client)=false:=by simp [e1]
  have N0:Hid (¬a.client=b.client):=e1
  clear e1
  go_wp2_with fail
  go_ret
  refine ⟨?_,HW.out.2.2.1⟩
  have:¬a=b:=fun h=>N0.out (HE.out.1 h).2.1
  simp [this]
 have q1:(a.client==b.client)=true:=by simp [e1]
 have E1:Hid (a.client=b.client):=e1
 clear e1
 go_wp2_with fail
 refine (HC.out _ HW.out.2.2.1).mono ?_
 rintro e w1 ⟨rfl,hg1⟩
 have GG:Hid (w.grownBy w1 none/\MB w1 w.heap.size (.slice ao n ca) (.slice bo p cb) a/\MB w1 (w.heap.size+1) (.slice co q cc) (.slice eo r cd) b):=⟨grown_trans HW.out.2.2.1 hg1,HW.out.1.grown hg1,HW.out.2.1.grown hg1⟩
 clear hg1 c0 c1 c2 c3 c4 c5 c6 c7 c8 c9 c10 c11 c12 d0 d1 d2 d3 d4 d5 d6 d7 d8 d9 d10 d11 d12
 obtain ⟨c0,c1,c2,c3,c4,c5,c6,c7,c8,c9,c10,c11,c12⟩:=GG.out.2.1.cells
 obtain ⟨d0,d1,d2,d3,d4,d5,d6,d7,d8,d9,d10,d11,d12⟩:=GG.out.2.2.cells
 cases da
 ·go_wp2_with fail
  go_ret
  refine ⟨?_,GG.out.1⟩
  have:=HA.out
  simp at this
  simp [HE.out,this]
 go_wp2_with fail
 refine (HR.out _ GG.out.1).mono ?_
 rintro e w2 ⟨rfl,hg2⟩
 go_wp2_with fail
 go_ret
 refine ⟨?_,grown_trans GG.out.1 hg2⟩
 refine congrArg (fun x=>Ending.returned (Value.bool x)) ?_
 have:=HA.out
 simp at this
 rw [<-HT.out]
 simp [HE.out,E0.out,E1.out,this]
theorem set13 {x:World}{b:Nat}{c0 c1 c2 c3 c4 c5 c6 c7 c8 c9 c10 c11 c12:Value}(h:Blk x b 45 #[c0,c1,c2,c3,c4,c5,c6,c7,c8,c9,c10,c11,c12])(v0 v1 v2 v3 v4 v5 v6 v7 v8 v9 v10 v11 v12:Value):∃W,(((((((((((((x.setCell ⟨b,0,none⟩ v0).setCell ⟨b,1,none⟩ v1).setCell ⟨b,2,none⟩ v2).setCell ⟨b,3,none⟩ v3).setCell ⟨b,4,none⟩ v4).setCell ⟨b,5,none⟩ v5).setCell ⟨b,6,none⟩ v6).setCell ⟨b,7,none⟩ v7).setCell ⟨b,8,none⟩ v8).setCell ⟨b,9,none⟩ v9).setCell ⟨b,10,none⟩ v10).setCell ⟨b,11,none⟩ v11).setCell ⟨b,12,none⟩ v12)=W/\Hid (Blk W b 45 #[v0,v1,v2,v3,v4,v5,v6,v7,v8,v9,v10,v11,v12]/\x.grownBy W (some b)):=by
 have h0:Blk (x.setCell ⟨b,0,none⟩ v0) b 45 #[v0,c1,c2,c3,c4,c5,c6,c7,c8,c9,c10,c11,c12]:=h.store 0 v0
 have h1:Blk ((x.setCell ⟨b,0,none⟩ v0).setCell ⟨b,1,none⟩ v1) b 45 #[v0,v1,c2,c3,c4,c5,c6,c7,c8,c9,c10,c11,c12]:=h0.store 1 v1
 have h2:Blk (((x.setCell ⟨b,0,none⟩ v0).setCell ⟨b,1,none⟩ v1).setCell ⟨b,2,none⟩ v2) b 45 #[v0,v1,v2,c3,c4,c5,c6,c7,c8,c9,c10,c11,c12]:=h1.store 2 v2
 have h3:Blk ((((x.setCell ⟨b,0,none⟩ v0).setCell ⟨b,1,none⟩ v1).setCell ⟨b,2,none⟩ v2).setCell ⟨b,3,none⟩ v3) b 45 #[v0,v1,v2,v3,c4,c5,c6,c7,c8,c9,c10,c11,c12]:=h2.store 3 v3
 have h4:Blk (((((x.setCell ⟨b,0,none⟩ v0).setCell ⟨b,1,none⟩ v1).setCell ⟨b,2,none⟩ v2).setCell ⟨b,3,none⟩ v3).setCell ⟨b,4,none⟩ v4) b 45 #[v0,v1,v2,v3,v4,c5,c6,c7,c8,c9,c10,c11,c12]:=h3.store 4 v4
 have h5:Blk ((((((x.setCell ⟨b,0,none⟩ v0).setCell ⟨b,1,none⟩ v1).setCell ⟨b,2,none⟩ v2).setCell ⟨b,3,none⟩ v3).setCell ⟨b,4,none⟩ v4).setCell ⟨b,5,none⟩ v5) b 45 #[v0,v1,v2,v3,v4,v5,c6,c7,c8,c9,c10,c11,c12]:=h4.store 5 v5
 have h6:Blk (((((((x.setCell ⟨b,0,none⟩ v0).setCell ⟨b,1,none⟩ v1).setCell ⟨b,2,none⟩ v2).setCell ⟨b,3,none⟩ v3).setCell ⟨b,4,none⟩ v4).setCell ⟨b,5,none⟩ v5).setCell ⟨b,6,none⟩ v6) b 45 #[v0,v1,v2,v3,v4,v5,v6,c7,c8,c9,c10,c11,c12]:=h5.store 6 v6
 have h7:Blk ((((((((x.setCell ⟨b,0,none⟩ v0).setCell ⟨b,1,none⟩ v1).setCell ⟨b,2,none⟩ v2).setCell ⟨b,3,none⟩ v3).setCell ⟨b,4,none⟩ v4).setCell ⟨b,5,none⟩ v5).setCell ⟨b,6,none⟩ v6).setCell ⟨b,7,none⟩ v7) b 45 #[v0,v1,v2,v3,v4,v5,v6,v7,c8,c9,c10,c11,c12]:=h6.store 7 v7
 have h8:Blk (((((((((x.setCell ⟨b,0,none⟩ v0).setCell ⟨b,1,none⟩ v1).setCell ⟨b,2,none⟩ v2).setCell ⟨b,3,none⟩ v3).setCell ⟨b,4,none⟩ v4).setCell ⟨b,5,none⟩ v5).setCell ⟨b,6,none⟩ v6).setCell ⟨b,7,none⟩ v7).setCell ⟨b,8,none⟩ v8) b 45 #[v0,v1,v2,v3,v4,v5,v6,v7,v8,c9,c10,c11,c12]:=h7.store 8 v8
 have h9:Blk ((((((((((x.setCell ⟨b,0,none⟩ v0).setCell ⟨b,1,none⟩ v1).setCell ⟨b,2,none⟩ v2).setCell ⟨b,3,none⟩ v3).setCell ⟨b,4,none⟩ v4).setCell ⟨b,5,none⟩ v5).setCell ⟨b,6,none⟩ v6).setCell ⟨b,7,none⟩ v7).setCell ⟨b,8,none⟩ v8).setCell ⟨b,9,none⟩ v9) b 45 #[v0,v1,v2,v3,v4,v5,v6,v7,v8,v9,c10,c11,c12]:=h8.store 9 v9
 have h10:Blk (((((((((((x.setCell ⟨b,0,none⟩ v0).setCell ⟨b,1,none⟩ v1).setCell ⟨b,2,none⟩ v2).setCell ⟨b,3,none⟩ v3).setCell ⟨b,4,none⟩ v4).setCell ⟨b,5,none⟩ v5).setCell ⟨b,6,none⟩ v6).setCell ⟨b,7,none⟩ v7).setCell ⟨b,8,none⟩ v8).setCell ⟨b,9,none⟩ v9).setCell ⟨b,10,none⟩ v10) b 45 #[v0,v1,v2,v3,v4,v5,v6,v7,v8,v9,v10,c11,c12]:=h9.store 10 v10
 have h11:Blk ((((((((((((x.setCell ⟨b,0,none⟩ v0).setCell ⟨b,1,none⟩ v1).setCell ⟨b,2,none⟩ v2).setCell ⟨b,3,none⟩ v3).setCell ⟨b,4,none⟩ v4).setCell ⟨b,5,none⟩ v5).setCell ⟨b,6,none⟩ v6).setCell ⟨b,7,none⟩ v7).setCell ⟨b,8,none⟩ v8).setCell ⟨b,9,none⟩ v9).setCell ⟨b,10,none⟩ v10).setCell ⟨b,11,none⟩ v11) b 45 #[v0,v1,v2,v3,v4,v5,v6,v7,v8,v9,v10,v11,c12]:=h10.store 11 v11
 have h12:Blk (((((((((((((x.setCell ⟨b,0,none⟩ v0).setCell ⟨b,1,none⟩ v1).setCell ⟨b,2,none⟩ v2).setCell ⟨b,3,none⟩ v3).setCell ⟨b,4,none⟩ v4).setCell ⟨b,5,none⟩ v5).setCell ⟨b,6,none⟩ v6).setCell ⟨b,7,none⟩ v7).setCell ⟨b,8,none⟩ v8).setCell ⟨b,9,none⟩ v9).setCell ⟨b,10,none⟩ v10).setCell ⟨b,11,none⟩ v11).setCell ⟨b,12,none⟩ v12) b 45 #[v0,v1,v2,v3,v4,v5,v6,v7,v8,v9,v10,v11,v12]:=h11.store 12 v12
 exact ⟨_,rfl,h12,grown_trans (grown_trans (grown_trans (grown_trans (grown_trans (grown_trans (grown_trans (grown_trans (grown_trans (grown_trans (grown_trans (grown_trans (grown_setCell _ _ _ _) (grown_setCell _ _ _ _)) (grown_setCell _ _ _ _)) (grown_setCell _ _ _ _)) (grown_setCell _ _ _ _)) (grown_setCell _ _ _ _)) (grown_setCell _ _ _ _)) (grown_setCell _ _ _ _)) (grown_setCell _ _ _ _)) (grown_setCell _ _ _ _)) (grown_setCell _ _ _ _)) (grown_setCell _ _ _ _)) (grown_setCell _ _ _ _)⟩
def Room (w:World)(b:Nat):Prop:=∃c0 c1 c2 c3 c4 c5 c6 c7 c8 c9 c10 c11 c12,Blk w b 45 #[c0,c1,c2,c3,c4,c5,c6,c7,c8,c9,c10,c11,c12]
theorem MB.room {w:World}{b:Nat}{ov av:Value}{m:PMsg}(h:MB w b ov av m):Room w b:=⟨_,_,_,_,_,_,_,_,_,_,_,_,_,h⟩
theorem room_lit {w:World}{b:Nat}{c0 c1 c2 c3 c4 c5 c6 c7 c8 c9 c10 c11 c12:Value}(h:Blk w b 45 #[c0,c1,c2,c3,c4,c5,c6,c7,c8,c9,c10,c11,c12]):Room w b:=⟨_,_,_,_,_,_,_,_,_,_,_,_,_,h⟩
theorem Room.grown {w w':World}{b:Nat}(h:Room w b)(hg:w.grownBy w' none):Room w' b:=by
 obtain ⟨c0,c1,c2,c3,c4,c5,c6,c7,c8,c9,c10,c11,c12,h⟩:=h
 exact room_lit (h.grown hg (by simp))
theorem Room.but {w w':World}{b c:Nat}(h:Room w b)(hg:w.grownBy w' (some c))(hc:c≠b):Room w' b:=by
 obtain ⟨c0,c1,c2,c3,c4,c5,c6,c7,c8,c9,c10,c11,c12,h⟩:=h
 exact room_lit (h.grown hg (by simpa using hc))
theorem Room.lt {w:World}{b:Nat}(h:Room w b):b<w.heap.size:=by
 obtain ⟨c0,c1,c2,c3,c4,c5,c6,c7,c8,c9,c10,c11,c12,h⟩:=h
 exact h.lt
theorem Room.cells {w:World}{b:Nat}(h:Room w b):∃c0 c1 c2 c3 c4 c5 c6 c7 c8 c9 c10 c11 c12,w.cell? ⟨b,0,none⟩=some c0/\w.cell? ⟨b,1,none⟩=some c1/\w.cell? ⟨b,2,none⟩=some c2/\w.cell? ⟨b,3,none⟩=some c3/\w.cell? ⟨b,4,none⟩=some c4/\w.cell? ⟨b,5,none⟩=some c5/\w.cell? ⟨b,6,none⟩=some c6/\w.cell? ⟨b,7,none⟩=some c7/\w.cell? ⟨b,8,none⟩=some c8/\w.cell? ⟨b,9,none⟩=some c9/\w.cell? ⟨b,10,none⟩=some c10/\w.cell? ⟨b,11,none⟩=some c11/\w.cell? ⟨b,12,none⟩=some c12:=by
 obtain ⟨c0,c1,c2,c3,c4,c5,c6,c7,c8,c9,c10,c11,c12,h⟩:=h
 exact ⟨c0,c1,c2,c3,c4,c5,c6,c7,c8,c9,c10,c11,c12,h.cell 0,h.cell 1,h.cell 2,h.cell 3,h.cell 4,h.cell 5,h.cell 6,h.cell 7,h.cell 8,h.cell 9,h.cell 10,h.cell 11,h.cell 12⟩
theorem Room.frees {w:World}{b:Nat}(h:Room w b):w.frozen? ⟨b,0,none⟩=false/\w.frozen? ⟨b,1,none⟩=false/\w.frozen? ⟨b,2,none⟩=false/\w.frozen? ⟨b,3,none⟩=false/\w.frozen? ⟨b,4,none⟩=false/\w.frozen? ⟨b,5,none⟩=false/\w.frozen? ⟨b,6,none⟩=false/\w.frozen? ⟨b,7,none⟩=false/\w.frozen? ⟨b,8,none⟩=false/\w.frozen? ⟨b,9,none⟩=false/\w.frozen? ⟨b,10,none⟩=false/\w.frozen? ⟨b,11,none⟩=false/\w.frozen? ⟨b,12,none⟩=false:=by
 obtain ⟨c0,c1,c2,c3,c4,c5,c6,c7,c8,c9,c10,c11,c12,h⟩:=h
 exact ⟨h.free 0,h.free 1,h.free 2,h.free 3,h.free 4,h.free 5,h.free 6,h.free 7,h.free 8,h.free 9,h.free 10,h.free 11,h.free 12⟩
theorem setM {x:World}{b:Nat}(h:Room x b)(ov av:Value)(m:PMsg):∃W,(((((((((((((x.setCell ⟨b,0,none⟩ (.int .i64 m.kind)).setCell ⟨b,1,none⟩ (.int .i64 m.client)).setCell ⟨b,2,none⟩ (.int .i64 m.ask.kind)).setCell ⟨b,3,none⟩ (.int .i64 m.ask.token)).setCell ⟨b,4,none⟩ (.int .i64 m.ask.session)).setCell ⟨b,5,none⟩ (.int .i64 m.ask.number)).setCell ⟨b,6,none⟩ (.int .i64 m.ask.mark)).setCell ⟨b,7,none⟩ ov).setCell ⟨b,8,none⟩ (.int .i64 m.tell.kind)).setCell ⟨b,9,none⟩ (.int .i64 m.tell.token)).setCell ⟨b,10,none⟩ (.int .i64 m.tell.session)).setCell ⟨b,11,none⟩ (.int .i64 m.tell.number)).setCell ⟨b,12,none⟩ av)=W/\Hid (MB W b ov av m/\x.grownBy W (some b)):=by
 obtain ⟨c0,c1,c2,c3,c4,c5,c6,c7,c8,c9,c10,c11,c12,h⟩:=h
 obtain ⟨W,hW,H⟩:=set13 h (.int .i64 m.kind) (.int .i64 m.client) (.int .i64 m.ask.kind) (.int .i64 m.ask.token) (.int .i64 m.ask.session) (.int .i64 m.ask.number) (.int .i64 m.ask.mark) (ov) (.int .i64 m.tell.kind) (.int .i64 m.tell.token) (.int .i64 m.tell.session) (.int .i64 m.tell.number) (av)
 exact ⟨W,hW,H⟩
theorem MB.but {w w':World}{b c:Nat}{ov av:Value}{m:PMsg}(h:MB w b ov av m)(hg:w.grownBy w' (some c))(hc:c≠b):MB w' b ov av m:=Blk.grown h hg (by simpa using hc)
theorem begun59_1 (c s:Int)(w:World):Calls Tryz.prog 158 #[.int .i64 1,.int .i64 c,.int .i64 s] w fun e w'=>e=.returned (.agg #[.int .i64 1,.int .i64 c,.int .i64 s,.int .i64 0,.int .i64 0,.int .i64 0,.int .i64 0,.slice none 0 0,.int .i64 0,.int .i64 0,.int .i64 0,.int .i64 0,.slice none 0 0])/\w.grownBy w' none:=by
 go_enter Tryz.func158,Tryz.ntmps158
 go_upto_region 2 with fail
 obtain ⟨W,hW,HW⟩:=al2' w #[.int .i64 0,.int .i64 0,.int .i64 0,.int .i64 0,.int .i64 0,.int .i64 0,.int .i64 0,.slice none 0 0,.int .i64 0,.int .i64 0,.int .i64 0,.int .i64 0,.slice none 0 0] #[.int .i64 1,.int .i64 c,.int .i64 0,.int .i64 0,.int .i64 0,.int .i64 0,.int .i64 0,.slice none 0 0,.int .i64 0,.int .i64 0,.int .i64 0,.int .i64 0,.slice none 0 0] 45 45
 rw [hW]
 clear hW
 have R0:Hid (Room W w.heap.size):=room_lit HW.out.1
 have a0:=HW.out.2.1.cell 2
 have z0:=HW.out.2.1.free 2
 simp at a0
 go_upto_region 7 with fail
 have H2:Hid (Blk (W.setCell ⟨w.heap.size+1,2,none⟩ (.int .i64 s)) (w.heap.size+1) 45 #[.int .i64 1,.int .i64 c,.int .i64 s,.int .i64 0,.int .i64 0,.int .i64 0,.int .i64 0,.slice none 0 0,.int .i64 0,.int .i64 0,.int .i64 0,.int .i64 0,.slice none 0 0]/\Room (W.setCell ⟨w.heap.size+1,2,none⟩ (.int .i64 s)) w.heap.size/\w.grownBy (W.setCell ⟨w.heap.size+1,2,none⟩ (.int .i64 s)) none) :=
  ⟨HW.out.2.1.store 2 _,R0.out.but (grown_setCell _ _ _ _) (by omega),grown_new HW.out.2.2.1 (grown_setCell _ _ _ _) (by intro x hx;simp at hx;omega)⟩
 generalize W.setCell ⟨w.heap.size+1,2,none⟩ (.int .i64 s)=X at H2 ⊢
 clear HW R0 a0 z0
 have y0:=H2.out.1.cell 0
 have y1:=H2.out.1.cell 1
 have y2:=H2.out.1.cell 2
 have y3:=H2.out.1.cell 3
 have y4:=H2.out.1.cell 4
 have y5:=H2.out.1.cell 5
 have y6:=H2.out.1.cell 6
 have y7:=H2.out.1.cell 7
 have y8:=H2.out.1.cell 8
 have y9:=H2.out.1.cell 9
 have y10:=H2.out.1.cell 10
 have y11:=H2.out.1.cell 11
 have y12:=H2.out.1.cell 12
 simp at y0 y1 y2 y3 y4 y5 y6 y7 y8 y9 y10 y11 y12
 obtain ⟨r0,r1,r2,r3,r4,r5,r6,r7,r8,r9,r10,r11,r12,u0,u1,u2,u3,u4,u5,u6,u7,u8,u9,u10,u11,u12⟩:=H2.out.2.1.cells
 obtain ⟨z0,z1,z2,z3,z4,z5,z6,z7,z8,z9,z10,z11,z12⟩:=H2.out.2.1.frees
 go_wp2_with fail
 obtain ⟨RC,hRC⟩:=H2.out.2.1
 obtain ⟨W6,hW6,H6⟩:=(by obtain ⟨e1,e2,e3,e4,e5,e6,e7,e8,e9,e10,e11,e12,h⟩:=hRC;exact set13 h (.int .i64 1) (.int .i64 c) (.int .i64 s) (.int .i64 0) (.int .i64 0) (.int .i64 0) (.int .i64 0) (.slice none 0 0) (.int .i64 0) (.int .i64 0) (.int .i64 0) (.int .i64 0) (.slice none 0 0):∃W6,(((((((((((((X.setCell ⟨w.heap.size,0,none⟩ (.int .i64 1)).setCell ⟨w.heap.size,1,none⟩ (.int .i64 c)).setCell ⟨w.heap.size,2,none⟩ (.int .i64 s)).setCell ⟨w.heap.size,3,none⟩ (.int .i64 0)).setCell ⟨w.heap.size,4,none⟩ (.int .i64 0)).setCell ⟨w.heap.size,5,none⟩ (.int .i64 0)).setCell ⟨w.heap.size,6,none⟩ (.int .i64 0)).setCell ⟨w.heap.size,7,none⟩ (.slice none 0 0)).setCell ⟨w.heap.size,8,none⟩ (.int .i64 0)).setCell ⟨w.heap.size,9,none⟩ (.int .i64 0)).setCell ⟨w.heap.size,10,none⟩ (.int .i64 0)).setCell ⟨w.heap.size,11,none⟩ (.int .i64 0)).setCell ⟨w.heap.size,12,none⟩ (.slice none 0 0))=W6/\Hid (Blk W6 w.heap.size 45 #[.int .i64 1,.int .i64 c,.int .i64 s,.int .i64 0,.int .i64 0,.int .i64 0,.int .i64 0,.slice none 0 0,.int .i64 0,.int .i64 0,.int .i64 0,.int .i64 0,.slice none 0 0]/\X.grownBy W6 (some w.heap.size)))
 rw [hW6]
 clear hW6
 refine bodyPost_ret (v:=_) (results_cell_row rfl _ _ w.heap.size 45 _ (0,0) _ rfl H6.out.1 Tryz.underlying45 rfl (by kernel_rfl)) rfl ?_
 exact ⟨rfl,grown_new H2.out.2.2 H6.out.2 (by intro x hx;simp at hx;omega)⟩
theorem begun59_2 (c s:Int)(w:World):Calls Tryz.prog 158 #[.int .i64 2,.int .i64 c,.int .i64 s] w fun e w'=>e=.returned (.agg #[.int .i64 2,.int .i64 c,.int .i64 0,.int .i64 0,.int .i64 0,.int .i64 0,.int .i64 0,.slice none 0 0,.int .i64 s,.int .i64 0,.int .i64 0,.int .i64 0,.slice none 0 0])/\w.grownBy w' none:=by
 go_enter Tryz.func158,Tryz.ntmps158
 go_upto_region 2 with fail
 obtain ⟨W,hW,HW⟩:=al2' w #[.int .i64 0,.int .i64 0,.int .i64 0,.int .i64 0,.int .i64 0,.int .i64 0,.int .i64 0,.slice none 0 0,.int .i64 0,.int .i64 0,.int .i64 0,.int .i64 0,.slice none 0 0] #[.int .i64 2,.int .i64 c,.int .i64 0,.int .i64 0,.int .i64 0,.int .i64 0,.int .i64 0,.slice none 0 0,.int .i64 0,.int .i64 0,.int .i64 0,.int .i64 0,.slice none 0 0] 45 45
 rw [hW]
 clear hW
 have R0:Hid (Room W w.heap.size):=room_lit HW.out.1
 have a0:=HW.out.2.1.cell 8
 have z0:=HW.out.2.1.free 8
 simp at a0
 go_upto_region 7 with fail
 have H2:Hid (Blk (W.setCell ⟨w.heap.size+1,8,none⟩ (.int .i64 s)) (w.heap.size+1) 45 #[.int .i64 2,.int .i64 c,.int .i64 0,.int .i64 0,.int .i64 0,.int .i64 0,.int .i64 0,.slice none 0 0,.int .i64 s,.int .i64 0,.int .i64 0,.int .i64 0,.slice none 0 0]/\Room (W.setCell ⟨w.heap.size+1,8,none⟩ (.int .i64 s)) w.heap.size/\w.grownBy (W.setCell ⟨w.heap.size+1,8,none⟩ (.int .i64 s)) none) :=
  ⟨HW.out.2.1.store 8 _,R0.out.but (grown_setCell _ _ _ _) (by omega),grown_new HW.out.2.2.1 (grown_setCell _ _ _ _) (by intro x hx;simp at hx;omega)⟩
 generalize W.setCell ⟨w.heap.size+1,8,none⟩ (.int .i64 s)=X at H2 ⊢
 clear HW R0 a0 z0
 have y0:=H2.out.1.cell 0
 have y1:=H2.out.1.cell 1
 have y2:=H2.out.1.cell 2
 have y3:=H2.out.1.cell 3
 have y4:=H2.out.1.cell 4
 have y5:=H2.out.1.cell 5
 have y6:=H2.out.1.cell 6
 have y7:=H2.out.1.cell 7
 have y8:=H2.out.1.cell 8
 have y9:=H2.out.1.cell 9
 have y10:=H2.out.1.cell 10
 have y11:=H2.out.1.cell 11
 have y12:=H2.out.1.cell 12
 simp at y0 y1 y2 y3 y4 y5 y6 y7 y8 y9 y10 y11 y12
 obtain ⟨r0,r1,r2,r3,r4,r5,r6,r7,r8,r9,r10,r11,r12,u0,u1,u2,u3,u4,u5,u6,u7,u8,u9,u10,u11,u12⟩:=H2.out.2.1.cells
 obtain ⟨z0,z1,z2,z3,z4,z5,z6,z7,z8,z9,z10,z11,z12⟩:=H2.out.2.1.frees
 go_wp2_with fail
 obtain ⟨RC,hRC⟩:=H2.out.2.1
 obtain ⟨W6,hW6,H6⟩:=(by obtain ⟨e1,e2,e3,e4,e5,e6,e7,e8,e9,e10,e11,e12,h⟩:=hRC;exact set13 h (.int .i64 2) (.int .i64 c) (.int .i64 0) (.int .i64 0) (.int .i64 0) (.int .i64 0) (.int .i64 0) (.slice none 0 0) (.int .i64 s) (.int .i64 0) (.int .i64 0) (.int .i64 0) (.slice none 0 0):∃W6,(((((((((((((X.setCell ⟨w.heap.size,0,none⟩ (.int .i64 2)).setCell ⟨w.heap.size,1,none⟩ (.int .i64 c)).setCell ⟨w.heap.size,2,none⟩ (.int .i64 0)).setCell ⟨w.heap.size,3,none⟩ (.int .i64 0)).setCell ⟨w.heap.size,4,none⟩ (.int .i64 0)).setCell ⟨w.heap.size,5,none⟩ (.int .i64 0)).setCell ⟨w.heap.size,6,none⟩ (.int .i64 0)).setCell ⟨w.heap.size,7,none⟩ (.slice none 0 0)).setCell ⟨w.heap.size,8,none⟩ (.int .i64 s)).setCell ⟨w.heap.size,9,none⟩ (.int .i64 0)).setCell ⟨w.heap.size,10,none⟩ (.int .i64 0)).setCell ⟨w.heap.size,11,none⟩ (.int .i64 0)).setCell ⟨w.heap.size,12,none⟩ (.slice none 0 0))=W6/\Hid (Blk W6 w.heap.size 45 #[.int .i64 2,.int .i64 c,.int .i64 0,.int .i64 0,.int .i64 0,.int .i64 0,.int .i64 0,.slice none 0 0,.int .i64 s,.int .i64 0,.int .i64 0,.int .i64 0,.slice none 0 0]/\X.grownBy W6 (some w.heap.size)))
 rw [hW6]
 clear hW6
 refine bodyPost_ret (v:=_) (results_cell_row rfl _ _ w.heap.size 45 _ (0,0) _ rfl H6.out.1 Tryz.underlying45 rfl (by kernel_rfl)) rfl ?_
 exact ⟨rfl,grown_new H2.out.2.2 H6.out.2 (by intro x hx;simp at hx;omega)⟩
theorem begun59_0 (k c s:Int)(h1:(k==1)=false)(h2:(k==2)=false)(w:World):Calls Tryz.prog 158 #[.int .i64 k,.int .i64 c,.int .i64 s] w fun e w'=>e=.returned (.agg #[.int .i64 k,.int .i64 c,.int .i64 0,.int .i64 0,.int .i64 0,.int .i64 0,.int .i64 0,.slice none 0 0,.int .i64 0,.int .i64 0,.int .i64 0,.int .i64 0,.slice none 0 0])/\w.grownBy w' none:=by
 go_enter Tryz.func158,Tryz.ntmps158
 go_upto_region 2 with fail
 obtain ⟨W,hW,HW⟩:=al2' w #[.int .i64 0,.int .i64 0,.int .i64 0,.int .i64 0,.int .i64 0,.int .i64 0,.int .i64 0,.slice none 0 0,.int .i64 0,.int .i64 0,.int .i64 0,.int .i64 0,.slice none 0 0] #[.int .i64 k,.int .i64 c,.int .i64 0,.int .i64 0,.int .i64 0,.int .i64 0,.int .i64 0,.slice none 0 0,.int .i64 0,.int .i64 0,.int .i64 0,.int .i64 0,.slice none 0 0] 45 45
 rw [hW]
 clear hW
 have R0:Hid (Room W w.heap.size):=room_lit HW.out.1
 have q1:=h1
 have q2:=h2
 go_upto_region 7 with fail
 have H2:Hid (Blk W (w.heap.size+1) 45 #[.int .i64 k,.int .i64 c,.int .i64 0,.int .i64 0,.int .i64 0,.int .i64 0,.int .i64 0,.slice none 0 0,.int .i64 0,.int .i64 0,.int .i64 0,.int .i64 0,.slice none 0 0]/\Room W w.heap.size/\w.grownBy W none):=⟨HW.out.2.1,R0.out,HW.out.2.2.1⟩
 clear HW R0
 have y0:=H2.out.1.cell 0
 have y1:=H2.out.1.cell 1
 have y2:=H2.out.1.cell 2
 have y3:=H2.out.1.cell 3
 have y4:=H2.out.1.cell 4
 have y5:=H2.out.1.cell 5
 have y6:=H2.out.1.cell 6
 have y7:=H2.out.1.cell 7
 have y8:=H2.out.1.cell 8
 have y9:=H2.out.1.cell 9
 have y10:=H2.out.1.cell 10
 have y11:=H2.out.1.cell 11
 have y12:=H2.out.1.cell 12
 simp at y0 y1 y2 y3 y4 y5 y6 y7 y8 y9 y10 y11 y12
 obtain ⟨r0,r1,r2,r3,r4,r5,r6,r7,r8,r9,r10,r11,r12,u0,u1,u2,u3,u4,u5,u6,u7,u8,u9,u10,u11,u12⟩:=H2.out.2.1.cells
 obtain ⟨z0,z1,z2,z3,z4,z5,z6,z7,z8,z9,z10,z11,z12⟩:=H2.out.2.1.frees
 go_wp2_with fail
 obtain ⟨RC,hRC⟩:=H2.out.2.1
 obtain ⟨W6,hW6,H6⟩:=(by obtain ⟨e1,e2,e3,e4,e5,e6,e7,e8,e9,e10,e11,e12,h⟩:=hRC;exact set13 h (.int .i64 k) (.int .i64 c) (.int .i64 0) (.int .i64 0) (.int .i64 0) (.int .i64 0) (.int .i64 0) (.slice none 0 0) (.int .i64 0) (.int .i64 0) (.int .i64 0) (.int .i64 0) (.slice none 0 0):∃W6,(((((((((((((W.setCell ⟨w.heap.size,0,none⟩ (.int .i64 k)).setCell ⟨w.heap.size,1,none⟩ (.int .i64 c)).setCell ⟨w.heap.size,2,none⟩ (.int .i64 0)).setCell ⟨w.heap.size,3,none⟩ (.int .i64 0)).setCell ⟨w.heap.size,4,none⟩ (.int .i64 0)).setCell ⟨w.heap.size,5,none⟩ (.int .i64 0)).setCell ⟨w.heap.size,6,none⟩ (.int .i64 0)).setCell ⟨w.heap.size,7,none⟩ (.slice none 0 0)).setCell ⟨w.heap.size,8,none⟩ (.int .i64 0)).setCell ⟨w.heap.size,9,none⟩ (.int .i64 0)).setCell ⟨w.heap.size,10,none⟩ (.int .i64 0)).setCell ⟨w.heap.size,11,none⟩ (.int .i64 0)).setCell ⟨w.heap.size,12,none⟩ (.slice none 0 0))=W6/\Hid (Blk W6 w.heap.size 45 #[.int .i64 k,.int .i64 c,.int .i64 0,.int .i64 0,.int .i64 0,.int .i64 0,.int .i64 0,.slice none 0 0,.int .i64 0,.int .i64 0,.int .i64 0,.int .i64 0,.slice none 0 0]/\W.grownBy W6 (some w.heap.size)))
 rw [hW6]
 clear hW6
 refine bodyPost_ret (v:=_) (results_cell_row rfl _ _ w.heap.size 45 _ (0,0) _ rfl H6.out.1 Tryz.underlying45 rfl (by kernel_rfl)) rfl ?_
 exact ⟨rfl,grown_new H2.out.2.2 H6.out.2 (by intro x hx;simp at hx;omega)⟩
theorem begun59 (k c s:Int)(w:World):Calls Tryz.prog 158 #[.int .i64 k,.int .i64 c,.int .i64 s] w fun e w'=>e=.returned (msgV (.slice none 0 0) (.slice none 0 0) (beginM k c s))/\w.grownBy w' none:=by
 by_cases h1:k=1
 ·subst h1;exact begun59_1 c s w
 by_cases h2:k=2
 ·subst h2;exact begun59_2 c s w
 have:=begun59_0 k c s (by simp [h1]) (by simp [h2]) w
 unfold msgV beginM
 simp only [if_neg h1,if_neg h2]
 exact this
def numTo (m:PMsg)(k:Nat):PMsg:=((fld m).take k).foldl (fun s f=>setV s f.1 (val m f.1)) (beginM m.kind m.client (saidM m))
theorem numTo_all (m:PMsg){k:Nat}(h:(fld m).length<=k):numTo m k=numM m:=by unfold numTo numM;rw [List.take_of_length_le h]
theorem numTo_succ (m:PMsg)(k:Nat)(h:k<(fld m).length):numTo m (k+1)=setV (numTo m k) (fld m)[k].1 (val m (fld m)[k].1):=by
 unfold numTo
 rw [List.take_succ_eq_append_getElem h,List.foldl_append]
 rfl
theorem al1' (w:World)(c:Array Value)(t:Nat):∃w1,w.alloc (.cells c t)=w1/\Hid (Blk w1 w.heap.size t c/\w.grownBy w1 none/\w1.heap.size=w.heap.size+1) :=
 ⟨_,rfl,heap_alloc_new _ _,World.grownBy_alloc _ _ _,by simp⟩
def nOv (ov:Value)(m:PMsg):Value:=if callsB m=true then ov else .slice none 0 0
def nAv (av:Value)(m:PMsg):Value:=if answersB m=true then av else .slice none 0 0
theorem calls_not (m:PMsg)(h:callsB m=true):answersB m=false:=by
 unfold callsB at h
 unfold answersB
 simp at h ⊢
 omega
theorem nOv_ops {w:World}{ov:Value}{m:PMsg}(h:Ops w ov m.ask.ops)(hk:(namedM m).ask.ops=if callsB m=true then m.ask.ops else []):Ops w (nOv ov m) (namedM m).ask.ops:=by
 unfold nOv
 rw [hk]
 split
 ·exact h
 ·exact ops_nil w
theorem nAv_seg {w:World}{av:Value}{m:PMsg}(h:Seg w av m.tell.answer)(hk:(namedM m).tell.answer=if answersB m=true then m.tell.answer else []):Seg w (nAv av m) (namedM m).tell.answer:=by
 unfold nAv
 rw [hk]
 split
 ·exact h
 ·exact seg_nil w
theorem fold_ends (m:PMsg):∀(l:List (Nat × Int)) (s:PMsg),(l.foldl (fun s f=>setV s f.1 (val m f.1)) s).ask.ops=s.ask.ops/\(l.foldl (fun s f=>setV s f.1 (val m f.1)) s).tell.answer=s.tell.answer
 | [],_=>⟨rfl,rfl⟩
 | f :: l,s=>by
  have h:=fold_ends m l (setV s f.1 (val m f.1))
  obtain ⟨_,_,_,_,g5,g6⟩:=setV_kinds s f.1 (val m f.1)
  simp only [List.foldl_cons]
  exact ⟨h.1.trans g5,h.2.trans g6⟩
theorem named_ends (m:PMsg):((namedM m).ask.ops=if callsB m=true then m.ask.ops else [])/\((namedM m).tell.answer=if answersB m=true then m.tell.answer else []):=by
 have h:=fold_ends m (fld m) (beginM m.kind m.client (saidM m))
 unfold namedM endM
 by_cases c1:callsB m=true
 ·rw [if_pos c1,if_pos c1,if_neg (by rw [calls_not m c1];decide)]
  exact ⟨rfl,h.2⟩
 ·rw [if_neg c1,if_neg c1]
  by_cases c2:answersB m=true
  ·rw [if_pos c2,if_pos c2]
   exact ⟨h.1,rfl⟩
  ·rw [if_neg c2,if_neg c2]
   exact h
theorem named47 (ov av:Value)(m:PMsg)(w:World)(ho:IsSl ov)(ha:IsSl av):Calls Tryz.prog 128 #[msgV ov av m] w fun e w'=>e=.returned (msgV (nOv ov m) (nAv av m) (namedM m))/\w.grownBy w' none:=by
 obtain ⟨ao,n,ca,rfl⟩:=ho
 obtain ⟨bo,p,cb,rfl⟩:=ha
 unfold msgV
 go_enter Tryz.func128,Tryz.ntmps128
 go_upto_region 1 with fail
 obtain ⟨W,hW,HW⟩:=al2' w #[.int .i64 m.kind,.int .i64 m.client,.int .i64 m.ask.kind,.int .i64 m.ask.token,.int .i64 m.ask.session,.int .i64 m.ask.number,.int .i64 m.ask.mark,.slice ao n ca,.int .i64 m.tell.kind,.int .i64 m.tell.token,.int .i64 m.tell.session,.int .i64 m.tell.number,.slice bo p cb] #[.int .i64 0,.int .i64 0,.int .i64 0,.int .i64 0,.int .i64 0,.int .i64 0,.int .i64 0,.slice none 0 0,.int .i64 0,.int .i64 0,.int .i64 0,.int .i64 0,.slice none 0 0] 45 45
 rw [hW]
 clear hW
 have HM:Hid (MB W w.heap.size (.slice ao n ca) (.slice bo p cb) m):=HW.out.1
 have HC:Hid (Room W (w.heap.size+1)):=room_lit HW.out.2.1
 have HG:Hid (w.grownBy W none/\W.heap.size=w.heap.size+2):=HW.out.2.2
 clear HW
 go_cut [3] (fun x wc=>∃Q,x=.pointer (some ⟨Q,0,none⟩)/\W.heap.size<=Q/\MB wc Q (.slice none 0 0) (.slice none 0 0) (beginM m.kind m.client (saidM m))/\W.grownBy wc none)
 case first =>
  refine wp_region_noPanic ?_
  refine wp_region_hold 1000 (fun y=>W.grownBy y none) (by kernel_rfl) ?_
  have G0:Hid (W.grownBy W.drew none):=grown_drew _ _
  generalize W.drew=wd at G0 ⊢
  have J:Idx [0,1,2,3,4]:=trivial
  iterate 5 (refine tK J (G0.out) rfl rfl (fun wk hk=>by obtain ⟨c0,c1,c2,c3,c4,c5,c6,c7,c8,c9,c10,c11,c12⟩:=(HM.out.grown hk).cells;go_simp;try rfl) ?_;replace J:=J.tl;try simp only [pN])
  clear J
  refine wpHold_two (i:=5) (j:=7) rfl rfl (by kernel_rfl) (by rfl) (by rfl) (fun K hK=>?_) (fun K hK=>?_)
  ·go_wp2_with fail
   refine (said25 (.slice ao n ca) (.slice bo p cb) m wd ⟨_,_,_,rfl⟩ ⟨_,_,_,rfl⟩).mono ?_
   rintro e wd ⟨rfl,gg⟩
   try replace HU:Hid (Room wd ub):=HU.out.grown gg
   replace G0:Hid (W.grownBy wd none):=grown_trans G0.out gg
   clear gg
   go_wp2_with fail
   refine hK.out _ _ (fun _=>G0.out) ?_
   clear hK K
   try simp only [pN]
   refine wpHold_two (i:=6) (j:=7) rfl rfl (by kernel_rfl) (by rfl) (by rfl) (fun K hK=>?_) (fun K hK=>?_)
   ·go_wp2_with fail
    refine (begun59 m.kind m.client (saidM m) wd).mono ?_
    rintro e wd ⟨rfl,gg⟩
    try replace HU:Hid (Room wd ub):=HU.out.grown gg
    replace G0:Hid (W.grownBy wd none):=grown_trans G0.out gg
    clear gg
    go_wp2_with fail
    refine hK.out _ _ (fun _=>G0.out) ?_
    clear hK K
    try simp only [pN]
    refine wpHold_one (i:=7) rfl (by kernel_rfl) (by rfl) (fun K hK=>?_)
    go_wp2_with fail
    obtain ⟨ub,hub⟩:∃x,wd.heap.size=x:=⟨_,rfl⟩
    have HUB:Hid (W.heap.size<=ub):=by rw [<-hub];exact G0.out.size
    obtain ⟨wd,hwn,HA⟩:=al1' wd #[.int .i64 0,.int .i64 0,.int .i64 0,.int .i64 0,.int .i64 0,.int .i64 0,.int .i64 0,.slice none 0 0,.int .i64 0,.int .i64 0,.int .i64 0,.int .i64 0,.slice none 0 0] 45
    rw [hwn,hub]
    rw [hub] at HA
    have HU:Hid (Room wd ub):=room_lit HA.out.1
    replace G0:Hid (W.grownBy wd none):=grown_trans G0.out HA.out.2.1
    clear hwn hub HA
    refine hK.out _ _ (fun _=>G0.out) ?_
    clear hK K
    try simp only [pN]
    refine wpHold_one (i:=8) rfl (by kernel_rfl) (by rfl) (fun K hK=>?_)
    obtain ⟨r0,r1,r2,r3,r4,r5,r6,r7,r8,r9,r10,r11,r12,u0,u1,u2,u3,u4,u5,u6,u7,u8,u9,u10,u11,u12⟩:=HU.out.cells
    obtain ⟨z0,z1,z2,z3,z4,z5,z6,z7,z8,z9,z10,z11,z12⟩:=HU.out.frees
    unfold msgV
    go_wp2_with fail
    obtain ⟨wz,hwz,HZ⟩:=setM HU.out (.slice none 0 0) (.slice none 0 0) (beginM m.kind m.client (saidM m))
    rw [hwz]
    clear hwz
    clear r0 r1 r2 r3 r4 r5 r6 r7 r8 r9 r10 r11 r12 u0 u1 u2 u3 u4 u5 u6 u7 u8 u9 u10 u11 u12 z0 z1 z2 z3 z4 z5 z6 z7 z8 z9 z10 z11 z12
    have GZ:Hid (W.grownBy wz none):=grown_new G0.out HZ.out.2 (by intro x hx;simp at hx;have:=HUB.out;omega)
    refine hK.out _ _ (fun _=>GZ.out) ?_
    clear hK K
    try simp only [pN]
    refine wpHold_done (by kernel_rfl) ?_
    refine (‹∀(a:Act) (w:World),Met _ a w->_› _ _ ?_)
    go_meet
    case rel=>exact ⟨ub,rfl,HUB.out,HZ.out.1,GZ.out⟩
   ·go_wp2_with fail
    obtain ⟨ub,hub⟩:∃x,wd.heap.size=x:=⟨_,rfl⟩
    have HUB:Hid (W.heap.size<=ub):=by rw [<-hub];exact G0.out.size
    obtain ⟨wd,hwn,HA⟩:=al1' wd #[.int .i64 0,.int .i64 0,.int .i64 0,.int .i64 0,.int .i64 0,.int .i64 0,.int .i64 0,.slice none 0 0,.int .i64 0,.int .i64 0,.int .i64 0,.int .i64 0,.slice none 0 0] 45
    rw [hwn,hub]
    rw [hub] at HA
    have HU:Hid (Room wd ub):=room_lit HA.out.1
    replace G0:Hid (W.grownBy wd none):=grown_trans G0.out HA.out.2.1
    clear hwn hub HA
    refine hK.out _ _ (fun _=>G0.out) ?_
    clear hK K
    try simp only [pN]
    refine wpHold_one (i:=6) rfl (by kernel_rfl) (by rfl) (fun K hK=>?_)
    go_wp2_with fail
    refine (begun59 m.kind m.client (saidM m) wd).mono ?_
    rintro e wd ⟨rfl,gg⟩
    try replace HU:Hid (Room wd ub):=HU.out.grown gg
    replace G0:Hid (W.grownBy wd none):=grown_trans G0.out gg
    clear gg
    go_wp2_with fail
    refine hK.out _ _ (fun _=>G0.out) ?_
    clear hK K
    try simp only [pN]
    refine wpHold_one (i:=8) rfl (by kernel_rfl) (by rfl) (fun K hK=>?_)
    obtain ⟨r0,r1,r2,r3,r4,r5,r6,r7,r8,r9,r10,r11,r12,u0,u1,u2,u3,u4,u5,u6,u7,u8,u9,u10,u11,u12⟩:=HU.out.cells
    obtain ⟨z0,z1,z2,z3,z4,z5,z6,z7,z8,z9,z10,z11,z12⟩:=HU.out.frees
    unfold msgV
    go_wp2_with fail
    obtain ⟨wz,hwz,HZ⟩:=setM HU.out (.slice none 0 0) (.slice none 0 0) (beginM m.kind m.client (saidM m))
    rw [hwz]
    clear hwz
    clear r0 r1 r2 r3 r4 r5 r6 r7 r8 r9 r10 r11 r12 u0 u1 u2 u3 u4 u5 u6 u7 u8 u9 u10 u11 u12 z0 z1 z2 z3 z4 z5 z6 z7 z8 z9 z10 z11 z12
    have GZ:Hid (W.grownBy wz none):=grown_new G0.out HZ.out.2 (by intro x hx;simp at hx;have:=HUB.out;omega)
    refine hK.out _ _ (fun _=>GZ.out) ?_
    clear hK K
    try simp only [pN]
    refine wpHold_done (by kernel_rfl) ?_
    refine (‹∀(a:Act) (w:World),Met _ a w->_› _ _ ?_)
    go_meet
    case rel=>exact ⟨ub,rfl,HUB.out,HZ.out.1,GZ.out⟩
  ·go_wp2_with fail
   obtain ⟨ub,hub⟩:∃x,wd.heap.size=x:=⟨_,rfl⟩
   have HUB:Hid (W.heap.size<=ub):=by rw [<-hub];exact G0.out.size
   obtain ⟨wd,hwn,HA⟩:=al1' wd #[.int .i64 0,.int .i64 0,.int .i64 0,.int .i64 0,.int .i64 0,.int .i64 0,.int .i64 0,.slice none 0 0,.int .i64 0,.int .i64 0,.int .i64 0,.int .i64 0,.slice none 0 0] 45
   rw [hwn,hub]
   rw [hub] at HA
   have HU:Hid (Room wd ub):=room_lit HA.out.1
   replace G0:Hid (W.grownBy wd none):=grown_trans G0.out HA.out.2.1
   clear hwn hub HA
   refine hK.out _ _ (fun _=>G0.out) ?_
   clear hK K
   try simp only [pN]
   refine wpHold_one (i:=5) rfl (by kernel_rfl) (by rfl) (fun K hK=>?_)
   go_wp2_with fail
   refine (said25 (.slice ao n ca) (.slice bo p cb) m wd ⟨_,_,_,rfl⟩ ⟨_,_,_,rfl⟩).mono ?_
   rintro e wd ⟨rfl,gg⟩
   try replace HU:Hid (Room wd ub):=HU.out.grown gg
   replace G0:Hid (W.grownBy wd none):=grown_trans G0.out gg
   clear gg
   go_wp2_with fail
   refine hK.out _ _ (fun _=>G0.out) ?_
   clear hK K
   try simp only [pN]
   refine wpHold_one (i:=6) rfl (by kernel_rfl) (by rfl) (fun K hK=>?_)
   go_wp2_with fail
   refine (begun59 m.kind m.client (saidM m) wd).mono ?_
   rintro e wd ⟨rfl,gg⟩
   try replace HU:Hid (Room wd ub):=HU.out.grown gg
   replace G0:Hid (W.grownBy wd none):=grown_trans G0.out gg
   clear gg
   go_wp2_with fail
   refine hK.out _ _ (fun _=>G0.out) ?_
   clear hK K
   try simp only [pN]
   refine wpHold_one (i:=8) rfl (by kernel_rfl) (by rfl) (fun K hK=>?_)
   obtain ⟨r0,r1,r2,r3,r4,r5,r6,r7,r8,r9,r10,r11,r12,u0,u1,u2,u3,u4,u5,u6,u7,u8,u9,u10,u11,u12⟩:=HU.out.cells
   obtain ⟨z0,z1,z2,z3,z4,z5,z6,z7,z8,z9,z10,z11,z12⟩:=HU.out.frees
   unfold msgV
   go_wp2_with fail
   obtain ⟨wz,hwz,HZ⟩:=setM HU.out (.slice none 0 0) (.slice none 0 0) (beginM m.kind m.client (saidM m))
   rw [hwz]
   clear hwz
   clear r0 r1 r2 r3 r4 r5 r6 r7 r8 r9 r10 r11 r12 u0 u1 u2 u3 u4 u5 u6 u7 u8 u9 u10 u11 u12 z0 z1 z2 z3 z4 z5 z6 z7 z8 z9 z10 z11 z12
   have GZ:Hid (W.grownBy wz none):=grown_new G0.out HZ.out.2 (by intro x hx;simp at hx;have:=HUB.out;omega)
   refine hK.out _ _ (fun _=>GZ.out) ?_
   clear hK K
   try simp only [pN]
   refine wpHold_done (by kernel_rfl) ?_
   refine (‹∀(a:Act) (w:World),Met _ a w->_› _ _ ?_)
   go_meet
   case rel=>exact ⟨ub,rfl,HUB.out,HZ.out.1,GZ.out⟩
 case rest =>
  obtain ⟨Q,rfl,hQ,hz,hg⟩:=hcut
  have HB:Hid (MB wc w.heap.size (.slice ao n ca) (.slice bo p cb) m/\Room wc (w.heap.size+1)/\MB wc Q (.slice none 0 0) (.slice none 0 0) (beginM m.kind m.client (saidM m))/\w.grownBy wc none/\w.heap.size+2<=Q):=⟨HM.out.grown hg,HC.out.grown hg,hz,grown_trans HG.out.1 hg,by have:=HG.out.2;omega⟩
  clear hz hg hQ HM HC HG
  go_wp2_with fail
  refine (numbers26 w.heap.size (.slice ao n ca) (.slice bo p cb) m wc HB.out.1).mono ?_
  rintro e w1 ⟨v1,rfl,f1,g1⟩
  have H1:Hid (MB w1 w.heap.size (.slice ao n ca) (.slice bo p cb) m/\Room w1 (w.heap.size+1)/\MB w1 Q (.slice none 0 0) (.slice none 0 0) (beginM m.kind m.client (saidM m))/\w.grownBy w1 none/\w.heap.size+2<=Q/\Q<wc.heap.size/\Flds w1 wc.heap.size w.heap.size v1 (fld m)):=⟨HB.out.1.grown g1,HB.out.2.1.grown g1,HB.out.2.2.1.grown g1,grown_trans HB.out.2.2.2.1 g1,HB.out.2.2.2.2,HB.out.2.2.1.lt,f1⟩
  clear f1 g1 HB
  go_wp2_with fail
  refine (numbers26 Q (.slice none 0 0) (.slice none 0 0) (beginM m.kind m.client (saidM m)) w1 H1.out.2.2.1).mono ?_
  rintro e w2 ⟨v2,rfl,f2,g2⟩
  rw [begin_fld] at f2
  obtain ⟨l,hl⟩:∃l,fld m=l:=⟨_,rfl⟩
  obtain ⟨nf,hnf⟩:∃x,l.length=x:=⟨_,rfl⟩
  have nf3:nf<=3:=by rw [<-hnf,<-hl];exact fld_len m
  have HL:Hid (fld m=l/\l.length=nf):=⟨hl,hnf⟩
  have H2:Hid (MB w2 w.heap.size (.slice ao n ca) (.slice bo p cb) m/\Room w2 (w.heap.size+1)/\MB w2 Q (.slice none 0 0) (.slice none 0 0) (numTo m 0)/\w.grownBy w2 none/\w.heap.size+2<=Q/\Flds w2 (Q+1) w.heap.size v1 l/\Flds w2 (Q+1) Q v2 l):=by
   refine ⟨H1.out.1.grown g2,H1.out.2.1.grown g2,H1.out.2.2.1.grown g2,grown_trans H1.out.2.2.2.1 g2,H1.out.2.2.2.2.1,?_,?_⟩
   ·rw [<-hl];exact (H1.out.2.2.2.2.2.2.grown g2).mono (by have:=H1.out.2.2.2.2.2.1;omega)
   ·rw [<-hl];exact f2.mono (by have:=H1.out.2.2.1.lt;omega)
  obtain ⟨a1,rfl⟩:∃a1,v1=.slice a1 nf nf:=by obtain ⟨x,hx⟩:=H2.out.2.2.2.2.2.1.shape;rw [hnf] at hx;exact ⟨x,hx⟩
  obtain ⟨a2,rfl⟩:∃a2,v2=.slice a2 nf nf:=by obtain ⟨x,hx⟩:=H2.out.2.2.2.2.2.2.shape;rw [hnf] at hx;exact ⟨x,hx⟩
  clear f2 g2 H1 hl hnf
  go_wp2_with fail
  go_loopw [17] (fun i wr=>∃k:Nat,k<=nf/\i=.int .i64 k/\Hid (MB wr w.heap.size (.slice ao n ca) (.slice bo p cb) m/\Room wr (w.heap.size+1)/\MB wr Q (.slice none 0 0) (.slice none 0 0) (numTo m k)/\w.grownBy wr none/\w.heap.size+2<=Q/\Flds wr (Q+1) w.heap.size (.slice a1 nf nf) l/\Flds wr (Q+1) Q (.slice a2 nf nf) l)) (fun i _=>nf-(intOf i).toNat)
  case atStart=>exact ⟨0,by omega,rfl,H2⟩
  case round =>
   obtain ⟨k,hk,rfl,HR⟩:=hrel
   by_cases hlt:k<nf
   ·have i3:(k:Int)<(nf:Int):=by omega
    have i0:(0:Int)<=(k:Int):=by omega
    have hkl:k<l.length:=by rw [HL.out.2];omega
    have hkf:k<(fld m).length:=by rw [HL.out.1];exact hkl
    obtain ⟨q1,rfl,hq1,x0,x1⟩:=HR.out.2.2.2.2.2.1.at k hkl
    obtain ⟨q2,rfl,hq2,y0,y1⟩:=HR.out.2.2.2.2.2.2.at k hkl
    have HS:Hid (numTo m (k+1)=setV (numTo m k) l[k].1 (val m l[k].1)):=by have h:=numTo_succ m k hkf;simp only [HL.out.1] at h;exact h
    have HO:Hid (isOff l[k].1):=(fld_off m l[k] (by rw [HL.out.1];exact List.getElem_mem hkl)).1
    obtain ⟨f,hf⟩:∃f,l[k]=f:=⟨_,rfl⟩
    rw [hf] at x0 x1 y0 y1 HS HO
    clear hf hkl hkf
    obtain ⟨fo,fl⟩:=f
    dsimp only at x0 x1 y0 y1 HS HO
    unfold pt at x0 y0
    have HX:Hid (wr.cell? ⟨q1,k*2,none⟩=some (.pointer (some ⟨w.heap.size,fo,none⟩))/\q1<wr.heap.size):=⟨x0,cell_lt x0⟩
    clear x0 x1
    go_upto_region 6 with fail
    obtain ⟨W5,hW5,H5⟩:=al1' wr #[.pointer (some ⟨Q,fo,none⟩),.int .i64 fl] 165
    rw [hW5]
    clear hW5 y0 y1
    have HD:Hid (∀y,W5.grownBy y none->y.cell? ⟨wr.heap.size,0,none⟩=some (.pointer (some ⟨Q,fo,none⟩))/\y.cell? ⟨q1,k*2,none⟩=some (.pointer (some ⟨w.heap.size,fo,none⟩))/\y.cell? ⟨w.heap.size,fo,none⟩=some (.int .i64 (val m fo))):=fun y hy=>⟨(H5.out.1.grown hy (by simp)).cell 0,(grown_trans H5.out.2.1 hy).cell HX.out.1 (by simp),(HR.out.1.grown (grown_trans H5.out.2.1 hy)).at HO.out⟩
    refine wp_region_noPanic ?_
    refine wp_region_hold 10 (fun y=>W5.grownBy y none) (by kernel_rfl) ?_
    have G0:Hid (W5.grownBy W5.drew none):=grown_drew _ _
    generalize W5.drew=wd at G0 ⊢
    have J:Idx [0,1,2,3,4,5,6,7,8,9]:=trivial
    iterate 10 (refine tK J (G0.out) rfl rfl (fun wk hk=>by obtain ⟨d0,d1,d2⟩:=HD.out wk hk;go_simp;try rfl) ?_;replace J:=J.tl;try simp only [pN])
    clear J
    refine wpHold_one (i:=10) rfl (by kernel_rfl) (by rfl) (fun K hK=>?_)
    have hs:wd.cell? ⟨Q,fo,none⟩=some (.int .i64 (val (numTo m k) fo)):=(HR.out.2.2.1.grown (grown_trans H5.out.2.1 G0.out)).at HO.out
    have hfz:wd.frozen? ⟨Q,fo,none⟩=false:=(HR.out.2.2.1.grown (grown_trans H5.out.2.1 G0.out)).free fo
    go_wp2_with fail
    have HZ:Hid (MB (wd.setCell ⟨Q,fo,none⟩ (.int .i64 (val m fo))) w.heap.size (.slice ao n ca) (.slice bo p cb) m/\Room (wd.setCell ⟨Q,fo,none⟩ (.int .i64 (val m fo))) (w.heap.size+1)/\MB (wd.setCell ⟨Q,fo,none⟩ (.int .i64 (val m fo))) Q (.slice none 0 0) (.slice none 0 0) (numTo m (k+1))/\w.grownBy (wd.setCell ⟨Q,fo,none⟩ (.int .i64 (val m fo))) none/\w.heap.size+2<=Q/\Flds (wd.setCell ⟨Q,fo,none⟩ (.int .i64 (val m fo))) (Q+1) w.heap.size (.slice (some ⟨q1,0,none⟩) nf nf) l/\Flds (wd.setCell ⟨Q,fo,none⟩ (.int .i64 (val m fo))) (Q+1) Q (.slice (some ⟨q2,0,none⟩) nf nf) l):=by
     have g:=grown_trans H5.out.2.1 G0.out
     have s:=grown_setCell wd Q fo (.int .i64 (val m fo))
     have h5:=HR.out.2.2.2.2.1
     refine ⟨(HR.out.1.grown g).but s (by omega),(HR.out.2.1.grown g).but s (by omega),?_,grown_new (grown_trans HR.out.2.2.2.1 g) s (by intro x hx;simp at hx;omega),h5,(HR.out.2.2.2.2.2.1.grown g).but s (by omega),(HR.out.2.2.2.2.2.2.grown g).but s (by omega)⟩
     rw [HS.out]
     exact (HR.out.2.2.1.grown g).set HO.out _
    generalize wd.setCell ⟨Q,fo,none⟩ (.int .i64 (val m fo))=wz at HZ ⊢
    clear hs hfz
    refine hK.out _ _ (fun h=>absurd rfl h) ?_
    clear hK K
    try simp only [pN]
    refine wpHold_done (by kernel_rfl) ?_
    refine (‹∀(a:Act) (w:World),Code.wp Tryz.prog _ _ a w->_› _ _ ?_)
    clear HD HX HO HS H5 G0
    go_wp2_with fail
    go_roundw
    case rel=>exact ⟨k+1,by omega,by go_num,HZ⟩
    case measure=>simp [intOf];omega
   ·have i3:((k:Int)<(nf:Int))=False:=eq_false (by omega)
    have HQ:Hid (numTo m k=numM m):=numTo_all m (by rw [HL.out.1,HL.out.2];omega)
    obtain ⟨r0,hr0⟩:∃r,numM m=r:=⟨_,rfl⟩
    have HP:Hid (MB wr w.heap.size (.slice ao n ca) (.slice bo p cb) m/\Room wr (w.heap.size+1)/\MB wr Q (.slice none 0 0) (.slice none 0 0) r0/\w.grownBy wr none/\w.heap.size+2<=Q):=⟨HR.out.1,HR.out.2.1,by rw [<-hr0,<-HQ.out];exact HR.out.2.2.1,HR.out.2.2.2.1,HR.out.2.2.2.2.1⟩
    have HN:Hid (namedM m=endM m r0):=by rw [<-hr0];rfl
    clear HR HQ hr0 HL H2
    obtain ⟨c0,c1,c2,c3,c4,c5,c6,c7,c8,c9,c10,c11,c12⟩:=HP.out.1.cells
    go_wp2_with fail
    refine (calling46 (.slice ao n ca) (.slice bo p cb) m wr ⟨_,_,_,rfl⟩ ⟨_,_,_,rfl⟩).mono ?_
    rintro e w3 ⟨rfl,g3⟩
    have H3:Hid (MB w3 w.heap.size (.slice ao n ca) (.slice bo p cb) m/\Room w3 (w.heap.size+1)/\MB w3 Q (.slice none 0 0) (.slice none 0 0) r0/\w.grownBy w3 none/\w.heap.size+2<=Q):=⟨HP.out.1.grown g3,HP.out.2.1.grown g3,HP.out.2.2.1.grown g3,grown_trans HP.out.2.2.2.1 g3,HP.out.2.2.2.2⟩
    clear g3 HP c0 c1 c2 c3 c4 c5 c6 c7 c8 c9 c10 c11 c12
    obtain ⟨c0,c1,c2,c3,c4,c5,c6,c7,c8,c9,c10,c11,c12⟩:=H3.out.1.cells
    cases hcb:callsB m
    rotate_left
    ·obtain ⟨r,hr⟩:∃r,namedM m=r:=⟨_,rfl⟩
     have HV:Hid (msgV (nOv (.slice ao n ca) m) (nAv (.slice bo p cb) m) (namedM m)=msgV (.slice ao n ca) (.slice none 0 0) r):=by unfold nOv nAv;rw [if_pos hcb,if_neg (by rw [calls_not m hcb];decide),hr];rfl
     have HRR:Hid (r=setOps r0 m.ask.ops):=by rw [<-hr,HN.out];unfold endM;rw [if_pos hcb];rfl
     have s7:=H3.out.2.2.1.cells.2.2.2.2.2.2.2.1
     have z7:=H3.out.2.2.1.free 7
     clear hr hcb
     go_upto_region 12 with fail
     have HX:Hid (MB (w3.setCell ⟨Q,7,none⟩ (.slice ao n ca)) Q (.slice ao n ca) (.slice none 0 0) r/\Room (w3.setCell ⟨Q,7,none⟩ (.slice ao n ca)) (w.heap.size+1)/\w.grownBy (w3.setCell ⟨Q,7,none⟩ (.slice ao n ca)) none):=by
      have s:=grown_setCell w3 Q 7 (.slice ao n ca)
      have h5:=H3.out.2.2.2.2
      refine ⟨?_,H3.out.2.1.but s (by omega),grown_new H3.out.2.2.2.1 s (by intro x hx;simp at hx;omega)⟩
      rw [HRR.out]
      exact Blk.store H3.out.2.2.1 7 (.slice ao n ca)
     generalize w3.setCell ⟨Q,7,none⟩ (.slice ao n ca)=X at HX ⊢
     clear H3 s7 z7 HN HRR c0 c1 c2 c3 c4 c5 c6 c7 c8 c9 c10 c11 c12
     obtain ⟨y0,y1,y2,y3,y4,y5,y6,y7,y8,y9,y10,y11,y12⟩:=HX.out.1.cells
     obtain ⟨r0,r1,r2,r3,r4,r5,r6,r7,r8,r9,r10,r11,r12,u0,u1,u2,u3,u4,u5,u6,u7,u8,u9,u10,u11,u12⟩:=HX.out.2.1.cells
     obtain ⟨z0,z1,z2,z3,z4,z5,z6,z7,z8,z9,z10,z11,z12⟩:=HX.out.2.1.frees
     go_wp2_with fail
     obtain ⟨W6,hW6,H6⟩:=setM HX.out.2.1 (.slice ao n ca) (.slice none 0 0) r
     rw [hW6]
     clear hW6
     refine bodyPost_ret (v:=_) (results_cell_row rfl _ _ (w.heap.size+1) 45 _ (0,0) _ rfl H6.out.1 Tryz.underlying45 rfl (by kernel_rfl)) rfl ?_
     exact ⟨congrArg Ending.returned HV.out.symm,grown_new HX.out.2.2 H6.out.2 (by intro x hx;simp at hx;omega)⟩
    ·go_wp2_with fail
     refine (answering49 (.slice ao n ca) (.slice bo p cb) m w3 ⟨_,_,_,rfl⟩ ⟨_,_,_,rfl⟩).mono ?_
     rintro e w4 ⟨rfl,g4⟩
     have H4:Hid (MB w4 w.heap.size (.slice ao n ca) (.slice bo p cb) m/\Room w4 (w.heap.size+1)/\MB w4 Q (.slice none 0 0) (.slice none 0 0) r0/\w.grownBy w4 none/\w.heap.size+2<=Q):=⟨H3.out.1.grown g4,H3.out.2.1.grown g4,H3.out.2.2.1.grown g4,grown_trans H3.out.2.2.2.1 g4,H3.out.2.2.2.2⟩
     clear g4 H3 c0 c1 c2 c3 c4 c5 c6 c7 c8 c9 c10 c11 c12
     obtain ⟨c0,c1,c2,c3,c4,c5,c6,c7,c8,c9,c10,c11,c12⟩:=H4.out.1.cells
     cases han:answersB m
     rotate_left
     ·obtain ⟨r,hr⟩:∃r,namedM m=r:=⟨_,rfl⟩
      have HV:Hid (msgV (nOv (.slice ao n ca) m) (nAv (.slice bo p cb) m) (namedM m)=msgV (.slice none 0 0) (.slice bo p cb) r):=by unfold nOv nAv;rw [if_neg (by rw [hcb];decide),if_pos han,hr];rfl
      have HRR:Hid (r=setAns r0 m.tell.answer):=by rw [<-hr,HN.out];unfold endM;rw [if_neg (by rw [hcb];decide),if_pos han];rfl
      have s7:=H4.out.2.2.1.cells.2.2.2.2.2.2.2.2.2.2.2.2
      have z7:=H4.out.2.2.1.free 12
      clear hr hcb han
      go_upto_region 12 with fail
      have HX:Hid (MB (w4.setCell ⟨Q,12,none⟩ (.slice bo p cb)) Q (.slice none 0 0) (.slice bo p cb) r/\Room (w4.setCell ⟨Q,12,none⟩ (.slice bo p cb)) (w.heap.size+1)/\w.grownBy (w4.setCell ⟨Q,12,none⟩ (.slice bo p cb)) none):=by
       have s:=grown_setCell w4 Q 12 (.slice bo p cb)
       have h5:=H4.out.2.2.2.2
       refine ⟨?_,H4.out.2.1.but s (by omega),grown_new H4.out.2.2.2.1 s (by intro x hx;simp at hx;omega)⟩
       rw [HRR.out]
       exact Blk.store H4.out.2.2.1 12 (.slice bo p cb)
      generalize w4.setCell ⟨Q,12,none⟩ (.slice bo p cb)=X at HX ⊢
      clear H4 s7 z7 HN HRR c0 c1 c2 c3 c4 c5 c6 c7 c8 c9 c10 c11 c12
      obtain ⟨y0,y1,y2,y3,y4,y5,y6,y7,y8,y9,y10,y11,y12⟩:=HX.out.1.cells
      obtain ⟨r0,r1,r2,r3,r4,r5,r6,r7,r8,r9,r10,r11,r12,u0,u1,u2,u3,u4,u5,u6,u7,u8,u9,u10,u11,u12⟩:=HX.out.2.1.cells
      obtain ⟨z0,z1,z2,z3,z4,z5,z6,z7,z8,z9,z10,z11,z12⟩:=HX.out.2.1.frees
      go_wp2_with fail
      obtain ⟨W6,hW6,H6⟩:=setM HX.out.2.1 (.slice none 0 0) (.slice bo p cb) r
      rw [hW6]
      clear hW6
      refine bodyPost_ret (v:=_) (results_cell_row rfl _ _ (w.heap.size+1) 45 _ (0,0) _ rfl H6.out.1 Tryz.underlying45 rfl (by kernel_rfl)) rfl ?_
      exact ⟨congrArg Ending.returned HV.out.symm,grown_new HX.out.2.2 H6.out.2 (by intro x hx;simp at hx;omega)⟩
     ·obtain ⟨r,hr⟩:∃r,namedM m=r:=⟨_,rfl⟩
      have HV:Hid (msgV (nOv (.slice ao n ca) m) (nAv (.slice bo p cb) m) (namedM m)=msgV (.slice none 0 0) (.slice none 0 0) r):=by unfold nOv nAv;rw [if_neg (by rw [hcb];decide),if_neg (by rw [han];decide),hr];rfl
      have HRR:Hid (r=r0):=by rw [<-hr,HN.out];unfold endM;rw [if_neg (by rw [hcb];decide),if_neg (by rw [han];decide)];rfl
      clear hr hcb han
      have HX:Hid (MB w4 Q (.slice none 0 0) (.slice none 0 0) r/\Room w4 (w.heap.size+1)/\w.grownBy w4 none):=⟨by rw [HRR.out];exact H4.out.2.2.1,H4.out.2.1,H4.out.2.2.2.1⟩
      have HB1:Hid (w.heap.size+2<=Q):=H4.out.2.2.2.2
      clear H4 HN HRR c0 c1 c2 c3 c4 c5 c6 c7 c8 c9 c10 c11 c12
      obtain ⟨y0,y1,y2,y3,y4,y5,y6,y7,y8,y9,y10,y11,y12⟩:=HX.out.1.cells
      obtain ⟨r0,r1,r2,r3,r4,r5,r6,r7,r8,r9,r10,r11,r12,u0,u1,u2,u3,u4,u5,u6,u7,u8,u9,u10,u11,u12⟩:=HX.out.2.1.cells
      obtain ⟨z0,z1,z2,z3,z4,z5,z6,z7,z8,z9,z10,z11,z12⟩:=HX.out.2.1.frees
      go_wp2_with fail
      obtain ⟨W6,hW6,H6⟩:=setM HX.out.2.1 (.slice none 0 0) (.slice none 0 0) r
      rw [hW6]
      clear hW6
      refine bodyPost_ret (v:=_) (results_cell_row rfl _ _ (w.heap.size+1) 45 _ (0,0) _ rfl H6.out.1 Tryz.underlying45 rfl (by kernel_rfl)) rfl ?_
      exact ⟨congrArg Ending.returned HV.out.symm,grown_new HX.out.2.2 H6.out.2 (by intro x hx;simp at hx;omega)⟩
theorem least_step {m:PMsg}{l:List (Nat × Int)}{k:Nat}(hk:k<l.length)(h:(l.take k).all (fun f=>decide (f.2<=val m f.1))=true)(hv:l[k].2<=val m l[k].1):(l.take (k+1)).all (fun f=>decide (f.2<=val m f.1))=true:=by
 rw [List.take_succ_eq_append_getElem hk,List.all_append,h]
 simpa using hv
theorem fits_least {m:PMsg}{l:List (Nat × Int)}(hl:fld m=l){k:Nat}(hk:k<l.length)(hv:val m l[k].1<l[k].2):fitsM m=false:=by
 have:leastM m=false:=by
  unfold leastM
  rw [hl]
  apply Bool.eq_false_iff.2
  intro h
  have:=List.all_eq_true.1 h l[k] (List.getElem_mem hk)
  simp at this
  omega
 unfold fitsM
 rw [this]
 rfl
theorem fits23 (ov av:Value)(m:PMsg)(w:World)(ho:Ops w ov m.ask.ops)(ha:Seg w av m.tell.answer):Calls Tryz.prog 95 #[msgV ov av m] w fun e w'=>e=.returned (.bool (fitsM m))/\w.grownBy w' none:=by
 obtain ⟨ao,n,ca,rfl⟩:=isSl_ops ho
 obtain ⟨bo,p,cb,rfl⟩:=isSl_seg ha
 have HS:Hid (Ops w (.slice ao n ca) m.ask.ops/\Seg w (.slice bo p cb) m.tell.answer):=⟨ho,ha⟩
 clear ho ha
 unfold msgV
 go_enter Tryz.func95,Tryz.ntmps95
 go_upto_region 1 with fail
 obtain ⟨W,hW,HW⟩:=boxM w ao n ca bo p cb m
 rw [hW]
 clear hW
 go_wp2_with fail
 refine (numbers26 w.heap.size (.slice ao n ca) (.slice bo p cb) m W HW.out.1).mono ?_
 rintro e w1 ⟨v1,rfl,f1,g1⟩
 obtain ⟨l,hl⟩:∃l,fld m=l:=⟨_,rfl⟩
 obtain ⟨nf,hnf⟩:∃x,l.length=x:=⟨_,rfl⟩
 have nf3:nf<=3:=by rw [<-hnf,<-hl];exact fld_len m
 have HL:Hid (fld m=l/\l.length=nf):=⟨hl,hnf⟩
 have H1:Hid (MB w1 w.heap.size (.slice ao n ca) (.slice bo p cb) m/\w.grownBy w1 none/\Flds w1 (w.heap.size+1) w.heap.size v1 l):=⟨HW.out.1.grown g1,grown_trans HW.out.2.1 g1,by rw [<-hl];exact f1.mono (by have:=HW.out.2.2;omega)⟩
 obtain ⟨a1,rfl⟩:∃a1,v1=.slice a1 nf nf:=by obtain ⟨x,hx⟩:=H1.out.2.2.shape;rw [hnf] at hx;exact ⟨x,hx⟩
 clear f1 g1 hl hnf HW
 go_wp2_with fail
 go_loopw [9] (fun i wr=>∃k:Nat,k<=nf/\i=.int .i64 k/\Hid (MB wr w.heap.size (.slice ao n ca) (.slice bo p cb) m/\w.grownBy wr none/\Flds wr (w.heap.size+1) w.heap.size (.slice a1 nf nf) l/\(l.take k).all (fun f=>decide (f.2<=val m f.1))=true)) (fun i _=>nf-(intOf i).toNat)
 case atStart=>exact ⟨0,by omega,rfl,H1.out.1,H1.out.2.1,H1.out.2.2,rfl⟩
 case round =>
  obtain ⟨k,hk,rfl,HR⟩:=hrel
  by_cases hlt:k<nf
  ·have i3:(k:Int)<(nf:Int):=by omega
   have i0:(0:Int)<=(k:Int):=by omega
   have hkl:k<l.length:=by rw [HL.out.2];omega
   obtain ⟨q1,rfl,hq1,x0,x1⟩:=HR.out.2.2.1.at k hkl
   have HO:Hid (isOff l[k].1):=(fld_off m l[k] (by rw [HL.out.1];exact List.getElem_mem hkl)).1
   have HY:Hid (val m l[k].1<l[k].2->fitsM m=false):=fits_least HL.out.1 hkl
   have HT:Hid (l[k].2<=val m l[k].1->(l.take (k+1)).all (fun f=>decide (f.2<=val m f.1))=true):=least_step hkl HR.out.2.2.2
   obtain ⟨f,hf⟩:∃f,l[k]=f:=⟨_,rfl⟩
   rw [hf] at x0 x1 HO HY HT
   clear hf hkl
   obtain ⟨fo,fl⟩:=f
   dsimp only at x0 x1 HO HY HT
   unfold pt at x0
   go_upto_region 5 with fail
   obtain ⟨W5,hW5,H5⟩:=al1' wr #[.pointer (some ⟨w.heap.size,fo,none⟩),.int .i64 fl] 165
   rw [hW5]
   clear hW5 x0 x1
   have HD:Hid (∀y,W5.grownBy y none->y.cell? ⟨wr.heap.size,0,none⟩=some (.pointer (some ⟨w.heap.size,fo,none⟩))/\y.cell? ⟨wr.heap.size,1,none⟩=some (.int .i64 fl)/\y.cell? ⟨w.heap.size,fo,none⟩=some (.int .i64 (val m fo))):=fun y hy=>⟨(H5.out.1.grown hy (by simp)).cell 0,(H5.out.1.grown hy (by simp)).cell 1,(HR.out.1.grown (grown_trans H5.out.2.1 hy)).at HO.out⟩
   obtain ⟨vv,hvv⟩:∃x,val m fo=x:=⟨_,rfl⟩
   rw [hvv] at HD HY HT
   clear hvv
   refine wp_region_noPanic ?_
   refine wp_region_hold 1000 (fun y=>W5.grownBy y none) (by kernel_rfl) ?_
   have G0:Hid (W5.grownBy W5.drew none):=grown_drew _ _
   generalize W5.drew=wd at G0 ⊢
   have J:Idx [0,1,2,3,4,5,6]:=trivial
   iterate 7 (refine tK J (G0.out) rfl rfl (fun wk hk=>by obtain ⟨d0,d1,d2⟩:=HD.out wk hk;go_simp;try rfl) ?_;replace J:=J.tl;try simp only [pN])
   clear J
   refine wpHold_done (by kernel_rfl) ?_
   refine (‹∀(a:Act) (w:World),Code.wp Tryz.prog _ _ a w->_› _ _ ?_)
   have HQ:Hid (MB wd w.heap.size (.slice ao n ca) (.slice bo p cb) m/\w.grownBy wd none/\Flds wd (w.heap.size+1) w.heap.size (.slice (some ⟨q1,0,none⟩) nf nf) l):=⟨HR.out.1.grown (grown_trans H5.out.2.1 G0.out),grown_trans HR.out.2.1 (grown_trans H5.out.2.1 G0.out),HR.out.2.2.1.grown (grown_trans H5.out.2.1 G0.out)⟩
   clear HD HO H5 G0 HR
   by_cases hvl:vv<fl
   ·rw [show decide (vv<fl)=true by simp [hvl]]
    have HF:Hid (fitsM m=false):=HY.out hvl
    clear hvl HY HT
    go_wp2_with fail
    go_ret
    exact ⟨by rw [HF.out];rfl,HQ.out.2.1⟩
   ·rw [show decide (vv<fl)=false by simp [hvl]]
    have HF:Hid ((l.take (k+1)).all (fun f=>decide (f.2<=val m f.1))=true):=HT.out (by omega)
    clear hvl HY HT
    go_wp2_with fail
    go_roundw
    case rel=>exact ⟨k+1,by omega,by go_num,HQ.out.1,HQ.out.2.1,HQ.out.2.2,HF.out⟩
    case measure=>simp [intOf];omega
  ·have i3:((k:Int)<(nf:Int))=False:=eq_false (by omega)
   have HF:Hid (leastM m=true):=by
    have h:=HR.out.2.2.2
    rw [List.take_of_length_le (by rw [HL.out.2];omega),<-HL.out.1] at h
    exact h
   have HP:Hid (MB wr w.heap.size (.slice ao n ca) (.slice bo p cb) m/\w.grownBy wr none):=⟨HR.out.1,HR.out.2.1⟩
   have HB:Hid (fitsM m=(!(callsB m && decide (m.ask.mark ≥ m.ask.number)) && decide (0<nf) && decide (0<=m.client) && decide (m.client<8) && decide (m=namedM m))):=by
    unfold fitsM Hid
    rw [HF.out,HL.out.1,HL.out.2]
    rfl
   clear HR HL H1 HF
   have HE:Hid ((callsB m && decide (m.ask.mark ≥ m.ask.number))=false->fitsM m=(decide (0<nf) && decide (0<=m.client) && decide (m.client<8) && decide (m=namedM m))):=by
    intro h
    rw [HB.out,h]
    rfl
   have HX:Hid ((callsB m && decide (m.ask.mark ≥ m.ask.number))=true->fitsM m=false):=by
    intro h
    rw [HB.out,h]
    rfl
   clear HB
   obtain ⟨dc,hdc⟩:∃x,(callsB m && decide (m.ask.mark ≥ m.ask.number))=x:=⟨_,rfl⟩
   have HDC:Hid ((callsB m && decide (m.ask.mark ≥ m.ask.number))=dc):=hdc
   rw [hdc] at HE HX
   clear hdc
   go_upto_region 8 with fail
   go_cut [31] (fun x wc=>x=.bool dc/\Hid (MB wc w.heap.size (.slice ao n ca) (.slice bo p cb) m/\w.grownBy wc none))
   case first =>
    obtain ⟨c0,c1,c2,c3,c4,c5,c6,c7,c8,c9,c10,c11,c12⟩:=HP.out.1.cells
    go_wp2_with fail
    refine (calling46 (.slice ao n ca) (.slice bo p cb) m wr ⟨_,_,_,rfl⟩ ⟨_,_,_,rfl⟩).mono ?_
    rintro e w2 ⟨rfl,g2'⟩
    have H2:Hid (MB w2 w.heap.size (.slice ao n ca) (.slice bo p cb) m/\w.grownBy w2 none):=⟨HP.out.1.grown g2',grown_trans HP.out.2 g2'⟩
    clear g2' HP c0 c1 c2 c3 c4 c5 c6 c7 c8 c9 c10 c11 c12
    obtain ⟨c0,c1,c2,c3,c4,c5,c6,c7,c8,c9,c10,c11,c12⟩:=H2.out.1.cells
    cases hcb:callsB m
    ·have D:Hid (dc=false):=by rw [<-HDC.out,hcb];rfl
     clear hcb
     go_wp2_with fail
     go_meet
     case rel=>exact ⟨by rw [D.out],H2⟩
    ·by_cases hge:m.ask.mark ≥ m.ask.number
     ·have j1:(m.ask.mark ≥ m.ask.number)=True:=eq_true hge
      have j2:(m.ask.number<=m.ask.mark)=True:=eq_true hge
      have D:Hid (dc=true):=by unfold Hid;rw [<-HDC.out,hcb];simp [hge]
      clear hge hcb
      go_wp2_with fail
      go_meet
      case rel=>exact ⟨by rw [D.out],H2⟩
     ·have j1:(m.ask.mark ≥ m.ask.number)=False:=eq_false hge
      have j2:(m.ask.number<=m.ask.mark)=False:=eq_false hge
      have D:Hid (dc=false):=by unfold Hid;rw [<-HDC.out,hcb];simp;omega
      clear hge hcb
      go_wp2_with fail
      go_meet
      case rel=>exact ⟨by rw [D.out],H2⟩
   case rest =>
    obtain ⟨rfl,hc2⟩:=hcut
    obtain ⟨w2,hw2⟩:∃x:World,x=wc:=⟨_,rfl⟩
    subst hw2
    have H2:Hid (MB w2 w.heap.size (.slice ao n ca) (.slice bo p cb) m/\w.grownBy w2 none):=hc2
    clear hc2 HDC HP
    cases dc
    rotate_left
    ·have HF:Hid (fitsM m=false):=HX.out rfl
     clear HE HX
     go_wp2_with fail
     go_ret
     exact ⟨by rw [HF.out];rfl,H2.out.2⟩
    have HF:Hid (fitsM m=(decide (0<nf) && decide (0<=m.client) && decide (m.client<8) && decide (m=namedM m))):=HE.out rfl
    clear HE HX
    go_upto_region 10 with fail
    by_cases hn0:nf=0
    ·subst hn0
     have HF0:Hid (fitsM m=false):=by unfold Hid;rw [HF.out];simp
     clear HF
     refine wp_region_noPanic ?_
     refine wp_region_hold 1000 (fun y=>w2.grownBy y none) (by kernel_rfl) ?_
     have G0:Hid (w2.grownBy w2.drew none):=grown_drew _ _
     generalize w2.drew=wd at G0 ⊢
     have J:Idx [0,1,2,3]:=trivial
     iterate 4 (refine tK J (G0.out) rfl rfl (fun wk hk=>by obtain ⟨c0,c1,c2,c3,c4,c5,c6,c7,c8,c9,c10,c11,c12⟩:=(H2.out.1.grown hk).cells;go_simp;try rfl) ?_;replace J:=J.tl;try simp only [pN])
     clear J
     have J:Idx [4,5,6]:=trivial
     iterate 3 (refine sk J (G0.out) rfl rfl ?_;replace J:=J.tl;try simp only [pN])
     clear J
     have J:Idx [7,8]:=trivial
     iterate 2 (refine tK J (G0.out) rfl rfl (fun wk hk=>by obtain ⟨c0,c1,c2,c3,c4,c5,c6,c7,c8,c9,c10,c11,c12⟩:=(H2.out.1.grown hk).cells;go_simp;try rfl) ?_;replace J:=J.tl;try simp only [pN])
     clear J
     have J:Idx [9,10,11]:=trivial
     iterate 3 (refine sk J (G0.out) rfl rfl ?_;replace J:=J.tl;try simp only [pN])
     clear J
     have J:Idx [12,13]:=trivial
     iterate 2 (refine tK J (G0.out) rfl rfl (fun wk hk=>by obtain ⟨c0,c1,c2,c3,c4,c5,c6,c7,c8,c9,c10,c11,c12⟩:=(H2.out.1.grown hk).cells;go_simp;try rfl) ?_;replace J:=J.tl;try simp only [pN])
     clear J
     have J:Idx [14,15,16,17]:=trivial
     iterate 4 (refine sk J (G0.out) rfl rfl ?_;replace J:=J.tl;try simp only [pN])
     clear J
     have J:Idx [18,19]:=trivial
     iterate 2 (refine tK J (G0.out) rfl rfl (fun wk hk=>by obtain ⟨c0,c1,c2,c3,c4,c5,c6,c7,c8,c9,c10,c11,c12⟩:=(H2.out.1.grown hk).cells;go_simp;try rfl) ?_;replace J:=J.tl;try simp only [pN])
     clear J
     refine wpHold_done (by kernel_rfl) ?_
     refine (‹∀(a:Act) (w:World),Code.wp Tryz.prog _ _ a w->_› _ _ ?_)
     go_wp2_with fail
     go_ret
     exact ⟨by rw [HF0.out];rfl,grown_trans H2.out.2 G0.out⟩
    have k1:((nf:Int) > 0)=True:=eq_true (by omega)
    have k2:((0:Int)<(nf:Int))=True:=eq_true (by omega)
    have k3:(0<nf)=True:=eq_true (by omega)
    have k4:(nf=0)=False:=eq_false hn0
    clear hn0
    by_cases hc0:0<=m.client
    rotate_left
    ·have k5:((0:Int)<=m.client)=False:=eq_false hc0
     have HF0:Hid (fitsM m=false):=by unfold Hid;rw [HF.out];simp [hc0]
     clear HF hc0
     refine wp_region_noPanic ?_
     refine wp_region_hold 1000 (fun y=>w2.grownBy y none) (by kernel_rfl) ?_
     have G0:Hid (w2.grownBy w2.drew none):=grown_drew _ _
     generalize w2.drew=wd at G0 ⊢
     have J:Idx [0,1,2,3,4,5,6,7,8]:=trivial
     iterate 9 (refine tK J (G0.out) rfl rfl (fun wk hk=>by obtain ⟨c0,c1,c2,c3,c4,c5,c6,c7,c8,c9,c10,c11,c12⟩:=(H2.out.1.grown hk).cells;go_simp;try rfl) ?_;replace J:=J.tl;try simp only [pN])
     clear J
     have J:Idx [9,10,11]:=trivial
     iterate 3 (refine sk J (G0.out) rfl rfl ?_;replace J:=J.tl;try simp only [pN])
     clear J
     have J:Idx [12,13]:=trivial
     iterate 2 (refine tK J (G0.out) rfl rfl (fun wk hk=>by obtain ⟨c0,c1,c2,c3,c4,c5,c6,c7,c8,c9,c10,c11,c12⟩:=(H2.out.1.grown hk).cells;go_simp;try rfl) ?_;replace J:=J.tl;try simp only [pN])
     clear J
     have J:Idx [14,15,16,17]:=trivial
     iterate 4 (refine sk J (G0.out) rfl rfl ?_;replace J:=J.tl;try simp only [pN])
     clear J
     have J:Idx [18,19]:=trivial
     iterate 2 (refine tK J (G0.out) rfl rfl (fun wk hk=>by obtain ⟨c0,c1,c2,c3,c4,c5,c6,c7,c8,c9,c10,c11,c12⟩:=(H2.out.1.grown hk).cells;go_simp;try rfl) ?_;replace J:=J.tl;try simp only [pN])
     clear J
     refine wpHold_done (by kernel_rfl) ?_
     refine (‹∀(a:Act) (w:World),Code.wp Tryz.prog _ _ a w->_› _ _ ?_)
     go_wp2_with fail
     go_ret
     exact ⟨by rw [HF0.out];rfl,grown_trans H2.out.2 G0.out⟩
    have k5:((0:Int)<=m.client)=True:=eq_true hc0
    by_cases hc8:m.client<8
    rotate_left
    ·have k6:(m.client<8)=False:=eq_false hc8
     have HF0:Hid (fitsM m=false):=by unfold Hid;rw [HF.out];simp [hc8]
     clear HF hc0 hc8
     refine wp_region_noPanic ?_
     refine wp_region_hold 1000 (fun y=>w2.grownBy y none) (by kernel_rfl) ?_
     have G0:Hid (w2.grownBy w2.drew none):=grown_drew _ _
     generalize w2.drew=wd at G0 ⊢
     have J:Idx [0,1,2,3,4,5,6,7,8,9,10,11,12,13]:=trivial
     iterate 14 (refine tK J (G0.out) rfl rfl (fun wk hk=>by obtain ⟨c0,c1,c2,c3,c4,c5,c6,c7,c8,c9,c10,c11,c12⟩:=(H2.out.1.grown hk).cells;go_simp;try rfl) ?_;replace J:=J.tl;try simp only [pN])
     clear J
     have J:Idx [14,15,16,17]:=trivial
     iterate 4 (refine sk J (G0.out) rfl rfl ?_;replace J:=J.tl;try simp only [pN])
     clear J
     have J:Idx [18,19]:=trivial
     iterate 2 (refine tK J (G0.out) rfl rfl (fun wk hk=>by obtain ⟨c0,c1,c2,c3,c4,c5,c6,c7,c8,c9,c10,c11,c12⟩:=(H2.out.1.grown hk).cells;go_simp;try rfl) ?_;replace J:=J.tl;try simp only [pN])
     clear J
     refine wpHold_done (by kernel_rfl) ?_
     refine (‹∀(a:Act) (w:World),Code.wp Tryz.prog _ _ a w->_› _ _ ?_)
     go_wp2_with fail
     go_ret
     exact ⟨by rw [HF0.out];rfl,grown_trans H2.out.2 G0.out⟩
    have k6:(m.client<8)=True:=eq_true hc8
    have HF0:Hid (fitsM m=decide (m=namedM m)):=by unfold Hid;rw [HF.out];simp [k3,hc0,hc8]
    clear HF hc0 hc8
    refine wp_region_noPanic ?_
    refine wp_region_hold 1000 (fun y=>w2.grownBy y none) (by kernel_rfl) ?_
    have G0:Hid (w2.grownBy w2.drew none):=grown_drew _ _
    generalize w2.drew=wd at G0 ⊢
    have J:Idx [0,1,2,3,4,5,6,7,8,9,10,11,12,13,14,15]:=trivial
    iterate 16 (refine tK J (G0.out) rfl rfl (fun wk hk=>by obtain ⟨c0,c1,c2,c3,c4,c5,c6,c7,c8,c9,c10,c11,c12⟩:=(H2.out.1.grown hk).cells;go_simp;try rfl) ?_;replace J:=J.tl;try simp only [pN])
    clear J
    refine wpHold_one (i:=16) rfl (by kernel_rfl) (by rfl) (fun K hK=>?_)
    go_wp2_with fail
    refine (named47 (.slice ao n ca) (.slice bo p cb) m wd ⟨_,_,_,rfl⟩ ⟨_,_,_,rfl⟩).mono ?_
    rintro e wd ⟨rfl,gg⟩
    replace G0:Hid (w2.grownBy wd none):=grown_trans G0.out gg
    clear gg
    go_wp2_with fail
    refine hK.out _ _ (fun _=>G0.out) ?_
    clear hK K
    try simp only [pN]
    refine wpHold_one (i:=17) rfl (by kernel_rfl) (by rfl) (fun K hK=>?_)
    go_wp2_with fail
    refine (same15 (.slice ao n ca) (.slice bo p cb) (nOv (.slice ao n ca) m) (nAv (.slice bo p cb) m) m (namedM m) wd (HS.out.1.grown (grown_trans H2.out.2 G0.out)) (HS.out.2.grown (grown_trans H2.out.2 G0.out)) (nOv_ops (HS.out.1.grown (grown_trans H2.out.2 G0.out)) (named_ends m).1) (nAv_seg (HS.out.2.grown (grown_trans H2.out.2 G0.out)) (named_ends m).2)).mono ?_
    rintro e wd ⟨rfl,gg⟩
    replace G0:Hid (w2.grownBy wd none):=grown_trans G0.out gg
    clear gg
    go_wp2_with fail
    refine hK.out _ _ (fun _=>G0.out) ?_
    clear hK K
    try simp only [pN]
    have J:Idx [18,19]:=trivial
    iterate 2 (refine tK J (G0.out) rfl rfl (fun wk hk=>by obtain ⟨c0,c1,c2,c3,c4,c5,c6,c7,c8,c9,c10,c11,c12⟩:=(H2.out.1.grown hk).cells;go_simp;try rfl) ?_;replace J:=J.tl;try simp only [pN])
    clear J
    refine wpHold_done (by kernel_rfl) ?_
    refine (‹∀(a:Act) (w:World),Code.wp Tryz.prog _ _ a w->_› _ _ ?_)
    go_wp2_with fail
    go_ret
    exact ⟨by rw [HF0.out];rfl,grown_trans H2.out.2 G0.out⟩
end Go.Proofs.YtanoabliahcbeaaGreat
