import Derived.Test.YtgjcpjckaopeeaaGreatDoorKa
import Derived.Test.YtgjcpjckaopeeaaGreatDoorCallsSm
set_option maxHeartbeats 4000000
set_option maxRecDepth 100000
namespace Go.Proofs.YtgjcpjckaopeeaaGreatDoor
open Go.RowKit Disk
open _root_.Go.Proofs.YtgjcpjckaopeeaaGreatDoor.Calls
def cmdV (ov:Value)(c:PCmd):Value:=.agg #[.int .i64 c.kind,.int .i64 c.token,.int .i64 c.session,.int .i64 c.number,.int .i64 c.mark,ov]
def cmdA (ov:Value)(c:PCmd):Array Value:=#[.int .i64 c.kind,.int .i64 c.token,.int .i64 c.session,.int .i64 c.number,.int .i64 c.mark,ov]
def CB (w:World)(b:Nat)(ov:Value)(c:PCmd):Prop:=Blk w b 27 (cmdA ov c)
def pt (b i:Nat):Value:=.pointer (some ⟨b,i,none⟩)
theorem CB.cells {w:World}{b:Nat}{ov:Value}{c:PCmd}(h:CB w b ov c):w.cell? ⟨b,0,none⟩=some (.int .i64 c.kind)/\w.cell? ⟨b,1,none⟩=some (.int .i64 c.token)/\w.cell? ⟨b,2,none⟩=some (.int .i64 c.session)/\w.cell? ⟨b,3,none⟩=some (.int .i64 c.number)/\w.cell? ⟨b,4,none⟩=some (.int .i64 c.mark)/\w.cell? ⟨b,5,none⟩=some ov:=by
 have q:=fun j=>Blk.cell h j
 exact ⟨q 0,q 1,q 2,q 3,q 4,q 5⟩
theorem CB.grown {w w':World}{b:Nat}{ov:Value}{c:PCmd}(h:CB w b ov c)(hg:w.grownBy w' none):CB w' b ov c:=Blk.grown h hg (by simp)
theorem CB.lt {w:World}{b:Nat}{ov:Value}{c:PCmd}(h:CB w b ov c):b<w.heap.size:=Blk.lt h
theorem res60 (w:World)(x y z:Value):w.grownBy (w.alloc (.cells #[x,y,z] 60)) none/\(w.alloc (.cells #[x,y,z] 60)).cell? ⟨w.heap.size,0,none⟩=some x/\(w.alloc (.cells #[x,y,z] 60)).cell? ⟨w.heap.size,1,none⟩=some y/\(w.alloc (.cells #[x,y,z] 60)).cell? ⟨w.heap.size,2,none⟩=some z:=by
 have hb:Blk (w.alloc (.cells #[x,y,z] 60)) w.heap.size 60 #[x,y,z]:=heap_alloc_new _ _
 exact ⟨World.grownBy_alloc _ _ _,hb.cell 0,hb.cell 1,hb.cell 2⟩
theorem numbers30_1 (b:Nat)(ov:Value)(c:PCmd)(w:World)(h:CB w b ov c)(hk:c.kind=1):Calls Tryz.prog 30 #[.pointer (some ⟨b,0,none⟩)] w fun e w'=>e=.returned (.agg #[pt b 1,.pointer none,.pointer none])/\w.grownBy w' none:=by
 obtain ⟨c0,_⟩:=h.cells
 rw [hk] at c0
 have c0':=fun o=>(World.grownBy_alloc w o none).cell c0 (by simp)
 go_enter Tryz.func30,Tryz.ntmps30
 go_wp2_with fail
 obtain ⟨g,q0,q1,q2⟩:=res60 w (pt b 1) (.pointer none) (.pointer none)
 exact bodyPost_ret (v:=.agg #[pt b 1,.pointer none,.pointer none]) (by simp [results,Tryz.results30,go_sem,pt]) rfl ⟨rfl,g⟩
theorem numbers30_3 (b:Nat)(ov:Value)(c:PCmd)(w:World)(h:CB w b ov c)(hk:c.kind=3):Calls Tryz.prog 30 #[.pointer (some ⟨b,0,none⟩)] w fun e w'=>e=.returned (.agg #[pt b 2,.pointer none,.pointer none])/\w.grownBy w' none:=by
 obtain ⟨c0,_⟩:=h.cells
 rw [hk] at c0
 have c0':=fun o=>(World.grownBy_alloc w o none).cell c0 (by simp)
 go_enter Tryz.func30,Tryz.ntmps30
 go_wp2_with fail
 obtain ⟨g,q0,q1,q2⟩:=res60 w (pt b 2) (.pointer none) (.pointer none)
 exact bodyPost_ret (v:=.agg #[pt b 2,.pointer none,.pointer none]) (by simp [results,Tryz.results30,go_sem,pt]) rfl ⟨rfl,g⟩
theorem numbers30_4 (b:Nat)(ov:Value)(c:PCmd)(w:World)(h:CB w b ov c)(hk:c.kind=4):Calls Tryz.prog 30 #[.pointer (some ⟨b,0,none⟩)] w fun e w'=>e=.returned (.agg #[pt b 2,.pointer none,.pointer none])/\w.grownBy w' none:=by
 obtain ⟨c0,_⟩:=h.cells
 rw [hk] at c0
 have c0':=fun o=>(World.grownBy_alloc w o none).cell c0 (by simp)
 go_enter Tryz.func30,Tryz.ntmps30
 go_wp2_with fail
 obtain ⟨g,q0,q1,q2⟩:=res60 w (pt b 2) (.pointer none) (.pointer none)
 exact bodyPost_ret (v:=.agg #[pt b 2,.pointer none,.pointer none]) (by simp [results,Tryz.results30,go_sem,pt]) rfl ⟨rfl,g⟩
theorem numbers30_34 (b:Nat)(ov:Value)(c:PCmd)(w:World)(h:CB w b ov c)(hk:c.kind=3\/c.kind=4):Calls Tryz.prog 30 #[.pointer (some ⟨b,0,none⟩)] w fun e w'=>e=.returned (.agg #[pt b 2,.pointer none,.pointer none])/\w.grownBy w' none:=by
 rcases hk with hk | hk
 ·exact numbers30_3 b ov c w h hk
 ·exact numbers30_4 b ov c w h hk
theorem numbers30_0 (b:Nat)(ov:Value)(c:PCmd)(w:World)(h:CB w b ov c)(h1:(c.kind==1)=false)(h2:(c.kind==2)=false)(h3:(c.kind==3)=false)(h4:(c.kind==4)=false):Calls Tryz.prog 30 #[.pointer (some ⟨b,0,none⟩)] w fun e w'=>e=.returned (.agg #[.pointer none,.pointer none,.pointer none])/\w.grownBy w' none:=by
 obtain ⟨c0,_⟩:=h.cells
 have c0':=fun o=>(World.grownBy_alloc w o none).cell c0 (by simp)
 go_enter Tryz.func30,Tryz.ntmps30
 go_wp2_with fail
 obtain ⟨g,q0,q1,q2⟩:=res60 w (.pointer none) (.pointer none) (.pointer none)
 exact bodyPost_ret (v:=.agg #[.pointer none,.pointer none,.pointer none]) (by simp [results,Tryz.results30,go_sem,q0,q1,q2]) rfl ⟨rfl,g⟩
theorem numbers30_2 (b:Nat)(ov:Value)(c:PCmd)(w:World)(h:CB w b ov c)(hk:c.kind=2):Calls Tryz.prog 30 #[.pointer (some ⟨b,0,none⟩)] w fun e w'=>e=.returned (.agg #[pt b 2,pt b 3,pt b 4])/\w.grownBy w' none:=by
 obtain ⟨c0,_⟩:=h.cells
 rw [hk] at c0
 have c0':=fun o=>(World.grownBy_alloc w o none).cell c0 (by simp)
 go_enter Tryz.func30,Tryz.ntmps30
 go_wp2_with fail
 have HB:Hid (Blk (w.alloc (.cells #[.pointer none,.pointer none,.pointer none] 60)) w.heap.size 60 #[.pointer none,.pointer none,.pointer none]/\w.grownBy (w.alloc (.cells #[.pointer none,.pointer none,.pointer none] 60)) none):=⟨heap_alloc_new _ _,World.grownBy_alloc _ _ _⟩
 generalize w.alloc (.cells #[.pointer none,.pointer none,.pointer none] 60)=w1 at HB ⊢
 refine wp_region_noPanic ?_
 refine wp_region_hold 10 (fun y=>w1.grownBy y none) (by kernel_rfl) ?_
 have G0:Hid (w1.grownBy w1.drew none):=grown_drew _ _
 generalize w1.drew=wd at G0 ⊢
 have J:Idx [0,1,2,3,4,5,6,7,8,9]:=trivial
 iterate 10 (refine tK J (G0.out) rfl rfl (fun wk hk=>by skip;go_simp;try rfl) ?_;replace J:=J.tl;try simp only [pN])
 clear J
 refine wpHold_one (i:=10) rfl (by kernel_rfl) (by rfl) (fun K hK=>?_)
 have hb:=HB.out.1.grown G0.out (by simp)
 have k0:=hb.cell 0
 have k1:=hb.cell 1
 have k2:=hb.cell 2
 have f0:=hb.free 0
 have f1:=hb.free 1
 have f2:=hb.free 2
 simp at k0 k1 k2
 go_wp2_with fail
 have HS:Hid (Blk (((wd.setCell ⟨w.heap.size,0,none⟩ (pt b 2)).setCell ⟨w.heap.size,1,none⟩ (pt b 3)).setCell ⟨w.heap.size,2,none⟩ (pt b 4)) w.heap.size 60 #[pt b 2,pt b 3,pt b 4]/\w.grownBy (((wd.setCell ⟨w.heap.size,0,none⟩ (pt b 2)).setCell ⟨w.heap.size,1,none⟩ (pt b 3)).setCell ⟨w.heap.size,2,none⟩ (pt b 4)) none) :=
  ⟨((hb.store 0 _).store 1 _).store 2 _,grown_new (grown_trans HB.out.2 G0.out) (grown_trans (grown_trans (grown_setCell _ _ _ _) (grown_setCell _ _ _ _)) (grown_setCell _ _ _ _)) (by intro x hx;simp at hx;omega)⟩
 unfold pt at HS
 generalize ((wd.setCell ⟨w.heap.size,0,none⟩ (.pointer (some ⟨b,2,none⟩))).setCell ⟨w.heap.size,1,none⟩ (.pointer (some ⟨b,3,none⟩))).setCell ⟨w.heap.size,2,none⟩ (.pointer (some ⟨b,4,none⟩))=w2 at HS ⊢
 refine hK.out _ _ (fun h=>absurd rfl h) ?_
 clear hK K
 try simp only [pN]
 refine wpHold_done (by kernel_rfl) ?_
 refine (‹∀(a:Act) (w:World),Code.wp Tryz.prog _ _ a w->_› _ _ ?_)
 go_wp2_with fail
 have q0:=HS.out.1.cell 0
 have q1:=HS.out.1.cell 1
 have q2:=HS.out.1.cell 2
 exact bodyPost_ret (v:=.agg #[pt b 2,pt b 3,pt b 4]) (by simp [results,Tryz.results30,go_sem,q0,q1,q2,pt]) rfl ⟨rfl,HS.out.2⟩
theorem PCmd.ext' {a b:PCmd}:a=b<->a.kind=b.kind/\a.token=b.token/\a.session=b.session/\a.number=b.number/\a.mark=b.mark/\a.ops=b.ops:=by
 constructor
 ·rintro rfl;simp
 ·rintro ⟨h1,h2,h3,h4,h5,h6⟩
  cases a;cases b;simp_all
theorem g2 (w:World)(x y:Obj):w.grownBy ((w.alloc x).alloc y) none:=grown_trans (World.grownBy_alloc _ _ none) (World.grownBy_alloc _ _ none)
theorem same24 (u v:Value)(a b:PCmd)(w:World)(ha:Ops w u a.ops)(hb:Ops w v b.ops) :
  Calls Tryz.prog 24 #[cmdV u a,cmdV v b] w fun e w'=>e=.returned (.bool (decide (a=b)))/\w.grownBy w' none:=by
 unfold cmdV
 obtain ⟨ao,n,ca,rfl,hn,_,HA⟩:=ops_open ha
 obtain ⟨bo,m,cb,rfl,hm,_,HB⟩:=ops_open hb
 clear ha hb hn hm
 have HS:Hid (∀x y,Calls Tryz.prog 59 #[.agg #[.slice ao n ca],.agg #[.slice bo m cb]] ((w.alloc x).alloc y) fun e w'=>e=.returned (.bool (decide (a.ops=b.ops)))/\((w.alloc x).alloc y).grownBy w' none):=fun x y=>same34 _ _ a.ops b.ops _ (HA.out.grown (g2 _ _ _)) (HB.out.grown (g2 _ _ _))
 clear HA HB
 obtain ⟨a0,ha0⟩:∃x,a.kind=x:=⟨_,rfl⟩
 obtain ⟨a1,ha1⟩:∃x,a.token=x:=⟨_,rfl⟩
 obtain ⟨a2,ha2⟩:∃x,a.session=x:=⟨_,rfl⟩
 obtain ⟨a3,ha3⟩:∃x,a.number=x:=⟨_,rfl⟩
 obtain ⟨a4,ha4⟩:∃x,a.mark=x:=⟨_,rfl⟩
 obtain ⟨b0,hb0⟩:∃x,b.kind=x:=⟨_,rfl⟩
 obtain ⟨b1,hb1⟩:∃x,b.token=x:=⟨_,rfl⟩
 obtain ⟨b2,hb2⟩:∃x,b.session=x:=⟨_,rfl⟩
 obtain ⟨b3,hb3⟩:∃x,b.number=x:=⟨_,rfl⟩
 obtain ⟨b4,hb4⟩:∃x,b.mark=x:=⟨_,rfl⟩
 have HE:Hid ((a=b)<->(a0=b0/\a1=b1/\a2=b2/\a3=b3/\a4=b4/\a.ops=b.ops)):=by unfold Hid;rw [PCmd.ext',ha0,ha1,ha2,ha3,ha4,hb0,hb1,hb2,hb3,hb4]
 rw [ha0,ha1,ha2,ha3,ha4,hb0,hb1,hb2,hb3,hb4]
 obtain ⟨so,hso⟩:∃x,decide (a.ops=b.ops)=x:=⟨_,rfl⟩
 rw [hso] at HS
 have HO:Hid (decide (a.ops=b.ops)=so):=hso
 clear hso ha0 ha1 ha2 ha3 ha4 hb0 hb1 hb2 hb3 hb4
 by_cases e0:a0=b0
 rotate_left
 ·have q0:(a0==b0)=false:=by simp [e0]
  have N0:Hid (¬a0=b0):=e0
  clear e0
  go_enter Tryz.func24,Tryz.ntmps24
  go_wp2_with fail
  go_ret
  refine ⟨?_,g2 _ _ _⟩
  have:¬a=b:=fun h=>N0.out (HE.out.1 h).1
  simp [this]
 subst e0
 by_cases e1:a1=b1
 rotate_left
 ·have q1:(a1==b1)=false:=by simp [e1]
  have N1:Hid (¬a1=b1):=e1
  clear e1
  go_enter Tryz.func24,Tryz.ntmps24
  go_wp2_with fail
  go_ret
  refine ⟨?_,g2 _ _ _⟩
  have:¬a=b:=fun h=>N1.out (HE.out.1 h).2.1
  simp [this]
 subst e1
 by_cases e2:a2=b2
 rotate_left
 ·have q2:(a2==b2)=false:=by simp [e2]
  have N2:Hid (¬a2=b2):=e2
  clear e2
  go_enter Tryz.func24,Tryz.ntmps24
  go_wp2_with fail
  go_ret
  refine ⟨?_,g2 _ _ _⟩
  have:¬a=b:=fun h=>N2.out (HE.out.1 h).2.2.1
  simp [this]
 subst e2
 by_cases e3:a3=b3
 rotate_left
 ·have q3:(a3==b3)=false:=by simp [e3]
  have N3:Hid (¬a3=b3):=e3
  clear e3
  go_enter Tryz.func24,Tryz.ntmps24
  go_wp2_with fail
  go_ret
  refine ⟨?_,g2 _ _ _⟩
  have:¬a=b:=fun h=>N3.out (HE.out.1 h).2.2.2.1
  simp [this]
 subst e3
 by_cases e4:a4=b4
 rotate_left
 ·have q4:(a4==b4)=false:=by simp [e4]
  have N4:Hid (¬a4=b4):=e4
  clear e4
  go_enter Tryz.func24,Tryz.ntmps24
  go_wp2_with fail
  go_ret
  refine ⟨?_,g2 _ _ _⟩
  have:¬a=b:=fun h=>N4.out (HE.out.1 h).2.2.2.2.1
  simp [this]
 subst e4
 go_enter Tryz.func24,Tryz.ntmps24
 go_wp2_with (go_at_call 59;refine (HS.out _ _).mono ?_;rintro e w1 ⟨rfl,hg1⟩)
 go_ret
 refine ⟨?_,grown_trans (g2 _ _ _) hg1⟩
 refine congrArg (fun x=>Ending.returned (Value.bool x)) ?_
 rw [<-HO.out]
 by_cases h:a.ops=b.ops
 ·have:a=b:=HE.out.2 (by simp [h])
  simp [this]
 ·have:¬a=b:=fun e=>h (HE.out.1 e).2.2.2.2.2
  simp [this,h]
theorem same16 (u v:Value)(a b:PCmd)(w:World)(ha:Ops w u a.ops)(hb:Ops w v b.ops) :
  Calls Tryz.prog 16 #[cmdV u a,cmdV v b] w fun e w'=>e=.returned (.bool (decide (a=b)))/\w.grownBy w' none:=by
 unfold cmdV
 obtain ⟨ao,n,ca,rfl,hn,_,HA⟩:=ops_open ha
 obtain ⟨bo,m,cb,rfl,hm,_,HB⟩:=ops_open hb
 clear ha hb hn hm
 have HS:Hid (∀x y,Calls Tryz.prog 40 #[.agg #[.slice ao n ca],.agg #[.slice bo m cb]] ((w.alloc x).alloc y) fun e w'=>e=.returned (.bool (decide (a.ops=b.ops)))/\((w.alloc x).alloc y).grownBy w' none):=fun x y=>same19 _ _ a.ops b.ops _ (HA.out.grown (g2 _ _ _)) (HB.out.grown (g2 _ _ _))
 clear HA HB
 obtain ⟨a0,ha0⟩:∃x,a.kind=x:=⟨_,rfl⟩
 obtain ⟨a1,ha1⟩:∃x,a.token=x:=⟨_,rfl⟩
 obtain ⟨a2,ha2⟩:∃x,a.session=x:=⟨_,rfl⟩
 obtain ⟨a3,ha3⟩:∃x,a.number=x:=⟨_,rfl⟩
 obtain ⟨a4,ha4⟩:∃x,a.mark=x:=⟨_,rfl⟩
 obtain ⟨b0,hb0⟩:∃x,b.kind=x:=⟨_,rfl⟩
 obtain ⟨b1,hb1⟩:∃x,b.token=x:=⟨_,rfl⟩
 obtain ⟨b2,hb2⟩:∃x,b.session=x:=⟨_,rfl⟩
 obtain ⟨b3,hb3⟩:∃x,b.number=x:=⟨_,rfl⟩
 obtain ⟨b4,hb4⟩:∃x,b.mark=x:=⟨_,rfl⟩
 have HE:Hid ((a=b)<->(a0=b0/\a1=b1/\a2=b2/\a3=b3/\a4=b4/\a.ops=b.ops)):=by unfold Hid;rw [PCmd.ext',ha0,ha1,ha2,ha3,ha4,hb0,hb1,hb2,hb3,hb4]
 rw [ha0,ha1,ha2,ha3,ha4,hb0,hb1,hb2,hb3,hb4]
 obtain ⟨so,hso⟩:∃x,decide (a.ops=b.ops)=x:=⟨_,rfl⟩
 rw [hso] at HS
 have HO:Hid (decide (a.ops=b.ops)=so):=hso
 clear hso ha0 ha1 ha2 ha3 ha4 hb0 hb1 hb2 hb3 hb4
 by_cases e0:a0=b0
 rotate_left
 ·have q0:(a0==b0)=false:=by simp [e0]
  have N0:Hid (¬a0=b0):=e0
  clear e0
  go_enter Tryz.func16,Tryz.ntmps16
  go_wp2_with fail
  go_ret
  refine ⟨?_,g2 _ _ _⟩
  have:¬a=b:=fun h=>N0.out (HE.out.1 h).1
  simp [this]
 subst e0
 by_cases e1:a1=b1
 rotate_left
 ·have q1:(a1==b1)=false:=by simp [e1]
  have N1:Hid (¬a1=b1):=e1
  clear e1
  go_enter Tryz.func16,Tryz.ntmps16
  go_wp2_with fail
  go_ret
  refine ⟨?_,g2 _ _ _⟩
  have:¬a=b:=fun h=>N1.out (HE.out.1 h).2.1
  simp [this]
 subst e1
 by_cases e2:a2=b2
 rotate_left
 ·have q2:(a2==b2)=false:=by simp [e2]
  have N2:Hid (¬a2=b2):=e2
  clear e2
  go_enter Tryz.func16,Tryz.ntmps16
  go_wp2_with fail
  go_ret
  refine ⟨?_,g2 _ _ _⟩
  have:¬a=b:=fun h=>N2.out (HE.out.1 h).2.2.1
  simp [this]
 subst e2
 by_cases e3:a3=b3
 rotate_left
 ·have q3:(a3==b3)=false:=by simp [e3]
  have N3:Hid (¬a3=b3):=e3
  clear e3
  go_enter Tryz.func16,Tryz.ntmps16
  go_wp2_with fail
  go_ret
  refine ⟨?_,g2 _ _ _⟩
  have:¬a=b:=fun h=>N3.out (HE.out.1 h).2.2.2.1
  simp [this]
 subst e3
 by_cases e4:a4=b4
 rotate_left
 ·have q4:(a4==b4)=false:=by simp [e4]
  have N4:Hid (¬a4=b4):=e4
  clear e4
  go_enter Tryz.func16,Tryz.ntmps16
  go_wp2_with fail
  go_ret
  refine ⟨?_,g2 _ _ _⟩
  have:¬a=b:=fun h=>N4.out (HE.out.1 h).2.2.2.2.1
  simp [this]
 subst e4
 go_enter Tryz.func16,Tryz.ntmps16
 go_wp2_with (go_at_call 40;refine (HS.out _ _).mono ?_;rintro e w1 ⟨rfl,hg1⟩)
 go_ret
 refine ⟨?_,grown_trans (g2 _ _ _) hg1⟩
 refine congrArg (fun x=>Ending.returned (Value.bool x)) ?_
 rw [<-HO.out]
 by_cases h:a.ops=b.ops
 ·have:a=b:=HE.out.2 (by simp [h])
  simp [this]
 ·have:¬a=b:=fun e=>h (HE.out.1 e).2.2.2.2.2
  simp [this,h]
end Go.Proofs.YtgjcpjckaopeeaaGreatDoor
