import Derived.Test.YtgjcpjckaopeeaaGreatDoorKo
import Derived.Test.YtgjcpjckaopeeaaGreatDoorCfcAll
set_option maxHeartbeats 4000000
set_option maxRecDepth 100000
namespace Go.Proofs.YtgjcpjckaopeeaaGreatDoor
open Go.RowKit Disk
open _root_.Go.Proofs.YtgjcpjckaopeeaaGreatDoor.Calls
open Names (Str)
attribute [local go_sem ↓] run_min9
def getC:PCmd:=⟨2,0,1,2,0,[getOp]⟩
def OPA (w:World):Array Value:=#[.int .i64 1,.string ⟨#[116]⟩,.slice (some ⟨w.heap.size+1,0,none⟩) 1 1,.slice none 0 0,.bool false,.slice none 0 0,.slice none 0 0,.int .i64 0]
theorem get25 (w:World):Calls Tryz.prog 25 #[] w fun e w'=>∃u,e=.returned (cmdV u getC)/\Ops w' u [getOp]/\w.grownBy w' none:=by
 obtain ⟨w1,cv,hs1,H1⟩:=lit29 (w.alloc (.cells #[.int .i64 0,.int .i64 0,.int .i64 0,.int .i64 0,.int .i64 0,.slice none 0 0] 27)) #[.int .u8 107] 1 [107] rfl rfl rfl (by simp)
 have e0:(w.alloc (.cells #[.int .i64 0,.int .i64 0,.int .i64 0,.int .i64 0,.int .i64 0,.slice none 0 0] 27)).heap.size=w.heap.size+1:=by simp
 rw [e0] at cv hs1 H1
 clear e0
 have hb0:Blk w1 w.heap.size 27 #[.int .i64 0,.int .i64 0,.int .i64 0,.int .i64 0,.int .i64 0,.slice none 0 0]:=Blk.grown (heap_alloc_new w _) H1.out.2 (by simp)
 have c0:∀(o:Obj),(w1.alloc o).cell? ⟨w.heap.size,0,none⟩=some (.int .i64 0):=fun o=>(hb0.grown (World.grownBy_alloc _ o none) (by simp)).cell 0
 have z0:∀(o:Obj),(w1.alloc o).frozen? ⟨w.heap.size,0,none⟩=false:=fun o=>(hb0.grown (World.grownBy_alloc _ o none) (by simp)).free 0
 have c1:∀(v0:Value) (o:Obj),((w1.setCell ⟨w.heap.size,0,none⟩ v0).alloc o).cell? ⟨w.heap.size,1,none⟩=some (.int .i64 0):=fun v0 o=>((hb0.store 0 v0).grown (World.grownBy_alloc _ o none) (by simp)).cell 1
 have z1:∀(v0:Value) (o:Obj),((w1.setCell ⟨w.heap.size,0,none⟩ v0).alloc o).frozen? ⟨w.heap.size,1,none⟩=false:=fun v0 o=>((hb0.store 0 v0).grown (World.grownBy_alloc _ o none) (by simp)).free 1
 have c2:∀(v0 v1:Value) (o:Obj),(((w1.setCell ⟨w.heap.size,0,none⟩ v0).setCell ⟨w.heap.size,1,none⟩ v1).alloc o).cell? ⟨w.heap.size,2,none⟩=some (.int .i64 0):=fun v0 v1 o=>(((hb0.store 0 v0).store 1 v1).grown (World.grownBy_alloc _ o none) (by simp)).cell 2
 have z2:∀(v0 v1:Value) (o:Obj),(((w1.setCell ⟨w.heap.size,0,none⟩ v0).setCell ⟨w.heap.size,1,none⟩ v1).alloc o).frozen? ⟨w.heap.size,2,none⟩=false:=fun v0 v1 o=>(((hb0.store 0 v0).store 1 v1).grown (World.grownBy_alloc _ o none) (by simp)).free 2
 have c3:∀(v0 v1 v2:Value) (o:Obj),((((w1.setCell ⟨w.heap.size,0,none⟩ v0).setCell ⟨w.heap.size,1,none⟩ v1).setCell ⟨w.heap.size,2,none⟩ v2).alloc o).cell? ⟨w.heap.size,3,none⟩=some (.int .i64 0):=fun v0 v1 v2 o=>((((hb0.store 0 v0).store 1 v1).store 2 v2).grown (World.grownBy_alloc _ o none) (by simp)).cell 3
 have z3:∀(v0 v1 v2:Value) (o:Obj),((((w1.setCell ⟨w.heap.size,0,none⟩ v0).setCell ⟨w.heap.size,1,none⟩ v1).setCell ⟨w.heap.size,2,none⟩ v2).alloc o).frozen? ⟨w.heap.size,3,none⟩=false:=fun v0 v1 v2 o=>((((hb0.store 0 v0).store 1 v1).store 2 v2).grown (World.grownBy_alloc _ o none) (by simp)).free 3
 have c4:∀(v0 v1 v2 v3:Value) (o:Obj),(((((w1.setCell ⟨w.heap.size,0,none⟩ v0).setCell ⟨w.heap.size,1,none⟩ v1).setCell ⟨w.heap.size,2,none⟩ v2).setCell ⟨w.heap.size,3,none⟩ v3).alloc o).cell? ⟨w.heap.size,4,none⟩=some (.int .i64 0):=fun v0 v1 v2 v3 o=>(((((hb0.store 0 v0).store 1 v1).store 2 v2).store 3 v3).grown (World.grownBy_alloc _ o none) (by simp)).cell 4
 have z4:∀(v0 v1 v2 v3:Value) (o:Obj),(((((w1.setCell ⟨w.heap.size,0,none⟩ v0).setCell ⟨w.heap.size,1,none⟩ v1).setCell ⟨w.heap.size,2,none⟩ v2).setCell ⟨w.heap.size,3,none⟩ v3).alloc o).frozen? ⟨w.heap.size,4,none⟩=false:=fun v0 v1 v2 v3 o=>(((((hb0.store 0 v0).store 1 v1).store 2 v2).store 3 v3).grown (World.grownBy_alloc _ o none) (by simp)).free 4
 have c5:∀(v0 v1 v2 v3 v4:Value) (o:Obj),((((((w1.setCell ⟨w.heap.size,0,none⟩ v0).setCell ⟨w.heap.size,1,none⟩ v1).setCell ⟨w.heap.size,2,none⟩ v2).setCell ⟨w.heap.size,3,none⟩ v3).setCell ⟨w.heap.size,4,none⟩ v4).alloc o).cell? ⟨w.heap.size,5,none⟩=some (.slice none 0 0):=fun v0 v1 v2 v3 v4 o=>((((((hb0.store 0 v0).store 1 v1).store 2 v2).store 3 v3).store 4 v4).grown (World.grownBy_alloc _ o none) (by simp)).cell 5
 have z5:∀(v0 v1 v2 v3 v4:Value) (o:Obj),((((((w1.setCell ⟨w.heap.size,0,none⟩ v0).setCell ⟨w.heap.size,1,none⟩ v1).setCell ⟨w.heap.size,2,none⟩ v2).setCell ⟨w.heap.size,3,none⟩ v3).setCell ⟨w.heap.size,4,none⟩ v4).alloc o).frozen? ⟨w.heap.size,5,none⟩=false:=fun v0 v1 v2 v3 v4 o=>((((((hb0.store 0 v0).store 1 v1).store 2 v2).store 3 v3).store 4 v4).grown (World.grownBy_alloc _ o none) (by simp)).free 5
 have HB:Hid (Blk w1 w.heap.size 27 #[.int .i64 0,.int .i64 0,.int .i64 0,.int .i64 0,.int .i64 0,.slice none 0 0]):=hb0
 clear hb0
 go_enter Tryz.func25,Tryz.ntmps25
 go_wp2_with fail
 clear c0 c1 c2 c3 c4 c5 z0 z1 z2 z3 z4 z5
 obtain ⟨W6,hW6,H6⟩:=set6 HB.out (.int .i64 2) (.int .i64 0) (.int .i64 1) (.int .i64 2) (.int .i64 0) (.slice (some ⟨w.heap.size+1+1,0,none⟩) 1 1)
 have hsz:W6.heap.size=w.heap.size+1+1:=by rw [<-hW6,<-hs1];simp
 rw [hW6]
 clear hW6
 obtain ⟨W7,hW7,H7⟩:=al1 W6 (OPA w) 53
 have hb2:Blk W7 (w.heap.size+1+1) 53 (OPA w):=by rw [<-hsz];exact H7.out.1
 unfold OPA at hW7
 rw [hW7]
 clear hW7
 have hb1:=H6.out.1.grown H7.out.2.1 (by simp)
 have y0:=hb1.cell 0
 have y1:=hb1.cell 1
 have y2:=hb1.cell 2
 have y3:=hb1.cell 3
 have y4:=hb1.cell 4
 have y5:=hb1.cell 5
 simp at y0 y1 y2 y3 y4 y5
 have hg1:w1.grownBy W7 (some w.heap.size):=grown_trans H6.out.2 (grown_weak H7.out.2.1 _)
 refine bodyPost_ret (v:=.agg #[.int .i64 2,.int .i64 0,.int .i64 1,.int .i64 2,.int .i64 0,.slice (some ⟨w.heap.size+1+1,0,none⟩) 1 1]) (by simp [results,Tryz.results25,go_sem,y0,y1,y2,y3,y4,y5]) rfl ?_
 refine ⟨.slice (some ⟨w.heap.size+1+1,0,none⟩) 1 1,rfl,⟨some ⟨w.heap.size+1+1,0,none⟩,1,rfl,by simp,fun j hj=>?_⟩,grown_new (grown_trans (World.grownBy_alloc _ _ none) H1.out.2) hg1 (by simp)⟩
 have e:j=0:=by simp at hj;omega
 subst e
 refine ⟨w.heap.size+1+1,0,.slice (some ⟨w.heap.size+1,0,none⟩) 1 1,.slice none 0 0,.slice none 0 0,.slice none 0 0,rfl,⟨hb2.cell 0,hb2.cell 1,hb2.cell 2,hb2.cell 3,hb2.cell 4,hb2.cell 5,hb2.cell 6,hb2.cell 7⟩,?_⟩
 refine ⟨?_,seg_nil _,seg_nil _,seg_nil _,getOp_in⟩
 obtain ⟨ao,cap,hv,q1,q2,q3,q4⟩:=H1.out.1
 refine ⟨ao,cap,hv,q1,q2,q3,fun j hj=>?_⟩
 obtain ⟨b,off,e,hc⟩:=q4 j hj
 refine ⟨b,off,e,hg1.cell hc (fun e2=>?_)⟩
 simp at hv
 rw [<-hv.1] at e
 simp at e e2
 omega
def oneC:PCmd:=⟨1,5,0,0,0,[]⟩
theorem f_one:okC oneC=true/\formC oneC=[1,10]/\chkC oneC=0:=⟨by kernel_rfl,by kernel_rfl,by kernel_rfl⟩
theorem f_get:okC getC=true/\formC getC=[2,2,4,0,6,1,1,1,116,1,107]/\chkC getC=0/\chgC getC=false:=⟨by kernel_rfl,by kernel_rfl,by kernel_rfl,by kernel_rfl⟩
theorem f_text:textC getC=[99,97,108,108,32,49,32,50,32,48,32,103,101,116,32,116,32,107]:=by kernel_rfl
theorem f_parse:parseM [111,112,101,110,32,48,53]=(zeroC,4):=by kernel_rfl
theorem f_read:readM [3,6]=(⟨3,0,3,0,0,[]⟩,0):=by kernel_rfl
theorem in_get:InC getC:=by constructor <;> decide
theorem in_one:InC oneC:=by constructor <;> decide
end Go.Proofs.YtgjcpjckaopeeaaGreatDoor
