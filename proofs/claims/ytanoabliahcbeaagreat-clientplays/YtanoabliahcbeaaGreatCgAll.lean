import Derived.Test.YtanoabliahcbeaaGreatCdAll
set_option maxHeartbeats 4000000
set_option maxRecDepth 100000
namespace Go.Proofs.YtanoabliahcbeaaGreat.Calls
open Go.RowKit Disk
open Names (Str)
theorem assert30 (c:Int)(w:World):(Instr.typeAssert (.iface 28 (.int .i64 c)) 20 28 false).run Tryz.prog w=.ok (.int .i64 c) w:=by kernel_rfl
def Within (w:World)(R:Value->World->Prop)(T:Int->World->Prop)(e:Ending)(w':World):Prop:=(∃u,e=.returned u/\R u w'/\w.grownBy w' none)\/(∃c,e=Pan c/\T c w'/\w.grownBy w' none)
def Later (b:Nat)(w w':World):Prop:=∃x,Blk w b 28 #[x]/\w.grownBy w' (some b)
def FacePost (z:Value)(w:World)(R:Value->World->Prop)(T:Int->World->Prop)(e:Ending)(w':World):Prop:=((∃u w1,e=.returned (.tuple #[u,.int .i64 0])/\R u w1/\Later w.heap.size w1 w')\/(∃c w1,e=.returned (.tuple #[z,.int .i64 c])/\T c w1/\Later w.heap.size w1 w'))/\w.grownBy w' none
theorem later_set {w:World}{b:Nat}{x v:Value}(h:Blk w b 28 #[x]):Later b w (w.setCell ⟨b,0,none⟩ v):=⟨x,h,grown_setCell _ _ _ _⟩
theorem catch102_panicking (p:Addr)(x c:Int)(w:World)(hc:w.cell? p=some (.int .i64 x))(hz:w.frozen? p=false) :
  CallsD Tryz.prog 142 #[.pointer (some p)] (.panicking [{ v:=.iface 28 (.int .i64 c),recovered:=false }]) w fun e u' w' =>
   e=.returned (.tuple #[])/\u'=.panicking [{ v:=.iface 28 (.int .i64 c),recovered:=true }]/\w'=w.setCell p (.int .i64 c):=by
 refine callsD_of_wpS Tryz.func142 rfl fun c₀ cs hu=>?_
 apply wpS_seq
 apply wpS_region
 simp [wpOpsS,go_sem,recoverD,hu,Tryz.ntmps142,Exit.thenS]
 apply wpS_seq
 apply wpS_region
 simp [wpOpsS,go_sem,recoverD,Exit.thenS]
 refine wpS_cond (t:=true) (by simp [Act.eval,Array.replicate]) ?_
 simp only [if_true]
 apply wpS_region
 simp [wpOpsS,go_sem,hc,hz,bodyPostS,results,Tryz.results142,assert30]
theorem catch102_idle (p:Addr)(w:World) :
  CallsD Tryz.prog 142 #[.pointer (some p)] .returning w fun e u' w'=>e=.returned (.tuple #[])/\u'=.returning/\w'=w:=by
 refine callsD_of_wpS Tryz.func142 rfl fun c₀ cs hu=>?_
 apply wpS_seq
 apply wpS_region
 simp [wpOpsS,go_sem,recoverD,hu,Tryz.ntmps142,Exit.thenS]
 apply wpS_seq
 apply wpS_region
 simp [wpOpsS,go_sem,recoverD,hu,Exit.thenS]
 refine wpS_cond (t:=false) (by simp [Act.eval,Array.replicate]) ?_
 simp only [Bool.false_eq_true,if_false]
 refine wpS_of_wp (wp_skip ?_)
 cases c₀
 simp_all [bodyPostS,results,Tryz.results142]
theorem catch91_panicking (p:Addr)(x c:Int)(w:World)(hc:w.cell? p=some (.int .i64 x))(hz:w.frozen? p=false) :
  CallsD Tryz.prog 147 #[.pointer (some p)] (.panicking [{ v:=.iface 28 (.int .i64 c),recovered:=false }]) w fun e u' w' =>
   e=.returned (.tuple #[])/\u'=.panicking [{ v:=.iface 28 (.int .i64 c),recovered:=true }]/\w'=w.setCell p (.int .i64 c):=by
 refine callsD_of_wpS Tryz.func147 rfl fun c₀ cs hu=>?_
 apply wpS_seq
 apply wpS_region
 simp [wpOpsS,go_sem,recoverD,hu,Tryz.ntmps147,Exit.thenS]
 apply wpS_seq
 apply wpS_region
 simp [wpOpsS,go_sem,recoverD,Exit.thenS]
 refine wpS_cond (t:=true) (by simp [Act.eval,Array.replicate]) ?_
 simp only [if_true]
 apply wpS_region
 simp [wpOpsS,go_sem,hc,hz,bodyPostS,results,Tryz.results147,assert30]
theorem catch91_idle (p:Addr)(w:World) :
  CallsD Tryz.prog 147 #[.pointer (some p)] .returning w fun e u' w'=>e=.returned (.tuple #[])/\u'=.returning/\w'=w:=by
 refine callsD_of_wpS Tryz.func147 rfl fun c₀ cs hu=>?_
 apply wpS_seq
 apply wpS_region
 simp [wpOpsS,go_sem,recoverD,hu,Tryz.ntmps147,Exit.thenS]
 apply wpS_seq
 apply wpS_region
 simp [wpOpsS,go_sem,recoverD,hu,Exit.thenS]
 refine wpS_cond (t:=false) (by simp [Act.eval,Array.replicate]) ?_
 simp only [Bool.false_eq_true,if_false]
 refine wpS_of_wp (wp_skip ?_)
 cases c₀
 simp_all [bodyPostS,results,Tryz.results147]
theorem catch151_panicking (p:Addr)(x c:Int)(w:World)(hc:w.cell? p=some (.int .i64 x))(hz:w.frozen? p=false) :
  CallsD Tryz.prog 200 #[.pointer (some p)] (.panicking [{ v:=.iface 28 (.int .i64 c),recovered:=false }]) w fun e u' w' =>
   e=.returned (.tuple #[])/\u'=.panicking [{ v:=.iface 28 (.int .i64 c),recovered:=true }]/\w'=w.setCell p (.int .i64 c):=by
 refine callsD_of_wpS Tryz.func200 rfl fun c₀ cs hu=>?_
 apply wpS_seq
 apply wpS_region
 simp [wpOpsS,go_sem,recoverD,hu,Tryz.ntmps200,Exit.thenS]
 apply wpS_seq
 apply wpS_region
 simp [wpOpsS,go_sem,recoverD,Exit.thenS]
 refine wpS_cond (t:=true) (by simp [Act.eval,Array.replicate]) ?_
 simp only [if_true]
 apply wpS_region
 simp [wpOpsS,go_sem,hc,hz,bodyPostS,results,Tryz.results200,assert30]
theorem catch151_idle (p:Addr)(w:World) :
  CallsD Tryz.prog 200 #[.pointer (some p)] .returning w fun e u' w'=>e=.returned (.tuple #[])/\u'=.returning/\w'=w:=by
 refine callsD_of_wpS Tryz.func200 rfl fun c₀ cs hu=>?_
 apply wpS_seq
 apply wpS_region
 simp [wpOpsS,go_sem,recoverD,hu,Tryz.ntmps200,Exit.thenS]
 apply wpS_seq
 apply wpS_region
 simp [wpOpsS,go_sem,recoverD,hu,Exit.thenS]
 refine wpS_cond (t:=false) (by simp [Act.eval,Array.replicate]) ?_
 simp only [Bool.false_eq_true,if_false]
 refine wpS_of_wp (wp_skip ?_)
 cases c₀
 simp_all [bodyPostS,results,Tryz.results200]
theorem face57_74 (p0:Value)(w:World)(R:Value->World->Prop)(T:Int->World->Prop)
  (h:Calls Tryz.prog 109 #[p0] (w.alloc (.cells #[.int .i64 0] 28)) (Within (w.alloc (.cells #[.int .i64 0] 28)) R T)) :
  Calls Tryz.prog 108 #[.func (.func 109) #[] #[p0]] w (FacePost (.slice none 0 0) w R T):=by
 have hmf:∀(fn:Fn) (first cap:Array Value) (w:World),(Instr.makeFunc fn first cap).run Tryz.prog w=.ok (.func fn first cap) w:=fun _ _ _ _=>rfl
 go_enter_defers Tryz.func108,Tryz.ntmps108
 go_wp2_with (go_at_call 109;refine h.mono ?_)
 rintro e w1 (⟨u,rfl,hR,hg⟩ | ⟨c,rfl,hT,hg⟩)
 ·have hb:Blk w1 w.heap.size 28 #[.int .i64 0]:=Blk.grown (heap_alloc_new w _) hg (by simp)
  have hc:=hb.cell 0
  have hz:=hb.free 0
  have HG:Hid (w.grownBy w1 none):=grown_trans (World.grownBy_alloc _ _ none) hg
  clear hg
  go_wp2_with fail
  refine leaves_cons (f:=142) (args:=#[.pointer (some ⟨w.heap.size,0,none⟩)]) (by simp) (by simp [go_sem]) ?_
  refine (catch102_idle ⟨w.heap.size,0,none⟩ _).mono ?_
  rintro e u' w'' ⟨rfl,rfl,rfl⟩
  have hb2:=(hb.store 0 (.int .i64 0)).cell 0
  simp [Leaves,settle,results,Tryz.results108,go_sem,hb2]
  exact ⟨.inl ⟨u,w1,rfl,hR,later_set hb⟩,grown_new HG.out (grown_setCell _ _ _ _) (by simp)⟩
 ·have hb:Blk w1 w.heap.size 28 #[.int .i64 0]:=Blk.grown (heap_alloc_new w _) hg (by simp)
  have hc:=hb.cell 0
  have hz:=hb.free 0
  have HG:Hid (w.grownBy w1 none):=grown_trans (World.grownBy_alloc _ _ none) hg
  clear hg
  unfold Pan
  go_wp2_with fail
  refine leaves_cons (f:=142) (args:=#[.pointer (some ⟨w.heap.size,0,none⟩)]) (by simp) (by simp [go_sem]) ?_
  refine (catch102_panicking ⟨w.heap.size,0,none⟩ 0 c _ hc hz).mono ?_
  rintro e u' w'' ⟨rfl,rfl,rfl⟩
  have hb2:=(hb.store 0 (.int .i64 c)).cell 0
  simp [Leaves,settle,results,Tryz.results108,go_sem,hb2]
  exact ⟨.inr ⟨c,w1,rfl,hT,later_set hb⟩,grown_new HG.out (grown_setCell _ _ _ _) (by simp)⟩
def FacePostS (z:Value)(w:World)(R:Value->World->Prop)(T:Int->World->Prop)(e:Ending)(w':World):Prop:=((∃u,e=.returned (.tuple #[u,.int .i64 0])/\R u w')\/(∃c w1,e=.returned (.tuple #[z,.int .i64 c])/\T c w1))/\w.grownBy w' none
theorem face51_85 (p0 p1:Value)(w:World)(R:Value->World->Prop)(T:Int->World->Prop)(hsh:∀u w1,R u w1->∃ao n c,u=.agg #[.slice ao n c])
  (hsk:∀u w1 w2 b t c,R u w1->Blk w1 b t c->(t=28\/t=35)->w1.grownBy w2 (some b)->R u w2)
  (h:Calls Tryz.prog 114 #[p0,p1] ((w.alloc (.cells #[.slice none 0 0] 35)).alloc (.cells #[.int .i64 0] 28)) (Within ((w.alloc (.cells #[.slice none 0 0] 35)).alloc (.cells #[.int .i64 0] 28)) R T)) :
  Calls Tryz.prog 113 #[.func (.func 114) #[] #[p0,p1]] w (FacePostS (.agg #[.slice none 0 0]) w R T):=by
 have hmf:∀(fn:Fn) (first cap:Array Value) (w:World),(Instr.makeFunc fn first cap).run Tryz.prog w=.ok (.func fn first cap) w:=fun _ _ _ _=>rfl
 go_enter_defers Tryz.func113,Tryz.ntmps113
 go_wp2_with (go_at_call 114;refine h.mono ?_)
 rintro e w1 (⟨u,rfl,hR,hg⟩ | ⟨c,rfl,hT,hg⟩)
 ·have ha:Blk w1 w.heap.size 35 #[.slice none 0 0]:=Blk.grown (Blk.grown (heap_alloc_new w _) (World.grownBy_alloc _ _ none) (by simp)) hg (by simp)
  have hb:Blk w1 (w.heap.size+1) 28 #[.int .i64 0]:=by
   have:=Blk.grown (heap_alloc_new (w.alloc (.cells #[.slice none 0 0] 35)) (.cells #[.int .i64 0] 28)) hg (by simp)
   simpa using this
  have HG:Hid (w.grownBy w1 none):=grown_trans (grown_trans (World.grownBy_alloc _ _ none) (World.grownBy_alloc _ _ none)) hg
  clear hg
  have HR:Hid (R u w1):=hR
  obtain ⟨x0,x1,x2,rfl⟩:=hsh u w1 hR
  clear hR
  have c0:=ha.cell 0
  have z0:=ha.free 0
  have d1:=hb.cell 0
  have y1:=hb.free 0
  go_wp2_with fail
  refine leaves_cons (f:=147) (args:=#[.pointer (some ⟨w.heap.size+1,0,none⟩)]) (by simp) (by simp [go_sem]) ?_
  refine (catch91_idle ⟨w.heap.size+1,0,none⟩ _).mono ?_
  rintro e u' w'' ⟨rfl,rfl,rfl⟩
  clear d1 y1 c0 z0
  have ha1:=ha.store 0 (.slice x0 x1 x2)
  have hga:w1.grownBy (w1.setCell ⟨w.heap.size,0,none⟩ (.slice x0 x1 x2)) (some w.heap.size):=grown_setCell _ _ _ _
  have hb1:Blk (w1.setCell ⟨w.heap.size,0,none⟩ (.slice x0 x1 x2)) (w.heap.size+1) 28 #[.int .i64 0]:=hb.grown hga (by simp)
  have hb2:=(hb1.store 0 (.int .i64 0)).cell 0
  have ha9:=Blk.grown ha1 (grown_setCell _ (w.heap.size+1) 0 (.int .i64 0)) (by simp)
  have hc0:=ha9.cell 0
  simp [Leaves,settle,results,Tryz.results113,go_sem,hb2,hc0]
  refine ⟨.inl ⟨_,rfl,hsk _ _ _ _ _ _ (hsk _ _ _ _ _ _ HR.out ha (.inr rfl) hga) hb1 (.inl rfl) (grown_setCell _ _ _ _)⟩,?_⟩
  exact grown_new (grown_new HG.out hga (by simp)) (grown_setCell _ _ _ _) (by simp)
 ·have ha:Blk w1 w.heap.size 35 #[.slice none 0 0]:=Blk.grown (Blk.grown (heap_alloc_new w _) (World.grownBy_alloc _ _ none) (by simp)) hg (by simp)
  have hb:Blk w1 (w.heap.size+1) 28 #[.int .i64 0]:=by
   have:=Blk.grown (heap_alloc_new (w.alloc (.cells #[.slice none 0 0] 35)) (.cells #[.int .i64 0] 28)) hg (by simp)
   simpa using this
  have HG:Hid (w.grownBy w1 none):=grown_trans (grown_trans (World.grownBy_alloc _ _ none) (World.grownBy_alloc _ _ none)) hg
  clear hg
  have hc:=hb.cell 0
  have hz:=hb.free 0
  unfold Pan
  go_wp2_with fail
  refine leaves_cons (f:=147) (args:=#[.pointer (some ⟨w.heap.size+1,0,none⟩)]) (by simp) (by simp [go_sem]) ?_
  refine (catch91_panicking ⟨w.heap.size+1,0,none⟩ 0 c _ hc hz).mono ?_
  rintro e u' w'' ⟨rfl,rfl,rfl⟩
  have hb2:=(hb.store 0 (.int .i64 c)).cell 0
  have hp0:=(ha.grown (grown_setCell _ (w.heap.size+1) 0 (.int .i64 c)) (by simp)).cell 0
  simp [Leaves,settle,results,Tryz.results113,go_sem,hb2,hp0]
  exact ⟨.inr ⟨c,w1,rfl,hT⟩,grown_new HG.out (grown_setCell _ _ _ _) (by simp)⟩
theorem face107_108 (p0 p1:Value)(w:World)(R:Value->World->Prop)(T:Int->World->Prop)(hsh:∀u w1,R u w1->∃a b ao n c,u=.agg #[.int .i64 a,.int .i64 b,.slice ao n c])
  (hsk:∀u w1 w2 b t c,R u w1->Blk w1 b t c->(t=28\/t=174)->w1.grownBy w2 (some b)->R u w2)
  (h:Calls Tryz.prog 185 #[p0,p1] ((w.alloc (.cells #[.int .i64 0,.int .i64 0,.slice none 0 0] 174)).alloc (.cells #[.int .i64 0] 28)) (Within ((w.alloc (.cells #[.int .i64 0,.int .i64 0,.slice none 0 0] 174)).alloc (.cells #[.int .i64 0] 28)) R T)) :
  Calls Tryz.prog 184 #[.func (.func 185) #[] #[p0,p1]] w (FacePostS (.agg #[.int .i64 0,.int .i64 0,.slice none 0 0]) w R T):=by
 have hmf:∀(fn:Fn) (first cap:Array Value) (w:World),(Instr.makeFunc fn first cap).run Tryz.prog w=.ok (.func fn first cap) w:=fun _ _ _ _=>rfl
 go_enter_defers Tryz.func184,Tryz.ntmps184
 go_wp2_with (go_at_call 185;refine h.mono ?_)
 rintro e w1 (⟨u,rfl,hR,hg⟩ | ⟨c,rfl,hT,hg⟩)
 ·have ha:Blk w1 w.heap.size 174 #[.int .i64 0,.int .i64 0,.slice none 0 0]:=Blk.grown (Blk.grown (heap_alloc_new w _) (World.grownBy_alloc _ _ none) (by simp)) hg (by simp)
  have hb:Blk w1 (w.heap.size+1) 28 #[.int .i64 0]:=by
   have:=Blk.grown (heap_alloc_new (w.alloc (.cells #[.int .i64 0,.int .i64 0,.slice none 0 0] 174)) (.cells #[.int .i64 0] 28)) hg (by simp)
   simpa using this
  have HG:Hid (w.grownBy w1 none):=grown_trans (grown_trans (World.grownBy_alloc _ _ none) (World.grownBy_alloc _ _ none)) hg
  clear hg
  have HR:Hid (R u w1):=hR
  obtain ⟨x0,x1,x2,x3,x4,rfl⟩:=hsh u w1 hR
  clear hR
  have c0:=ha.cell 0
  have z0:=ha.free 0
  have c1:=ha.cell 1
  have z1:=ha.free 1
  have c2:=ha.cell 2
  have z2:=ha.free 2
  have d1:=hb.cell 0
  have y1:=hb.free 0
  go_wp2_with fail
  refine leaves_cons (f:=200) (args:=#[.pointer (some ⟨w.heap.size+1,0,none⟩)]) (by simp) (by simp [go_sem]) ?_
  refine (catch151_idle ⟨w.heap.size+1,0,none⟩ _).mono ?_
  rintro e u' w'' ⟨rfl,rfl,rfl⟩
  clear d1 y1 c0 z0 c1 z1 c2 z2
  have ha1:=ha.store 0 (.int .i64 x0)
  have ha2:=ha1.store 1 (.int .i64 x1)
  have ha3:=ha2.store 2 (.slice x2 x3 x4)
  have hga:w1.grownBy (((w1.setCell ⟨w.heap.size,0,none⟩ (.int .i64 x0)).setCell ⟨w.heap.size,1,none⟩ (.int .i64 x1)).setCell ⟨w.heap.size,2,none⟩ (.slice x2 x3 x4)) (some w.heap.size):=grown_trans (grown_trans (grown_setCell _ _ _ _) (grown_setCell _ _ _ _)) (grown_setCell _ _ _ _)
  have hb1:Blk (((w1.setCell ⟨w.heap.size,0,none⟩ (.int .i64 x0)).setCell ⟨w.heap.size,1,none⟩ (.int .i64 x1)).setCell ⟨w.heap.size,2,none⟩ (.slice x2 x3 x4)) (w.heap.size+1) 28 #[.int .i64 0]:=hb.grown hga (by simp)
  have hb2:=(hb1.store 0 (.int .i64 0)).cell 0
  have ha9:=Blk.grown ha3 (grown_setCell _ (w.heap.size+1) 0 (.int .i64 0)) (by simp)
  have hc0:=ha9.cell 0
  have hc1:=ha9.cell 1
  have hc2:=ha9.cell 2
  simp [Leaves,settle,results,Tryz.results184,go_sem,hb2,hc0,hc1,hc2]
  refine ⟨.inl ⟨_,rfl,hsk _ _ _ _ _ _ (hsk _ _ _ _ _ _ HR.out ha (.inr rfl) hga) hb1 (.inl rfl) (grown_setCell _ _ _ _)⟩,?_⟩
  exact grown_new (grown_new HG.out hga (by simp)) (grown_setCell _ _ _ _) (by simp)
 ·have ha:Blk w1 w.heap.size 174 #[.int .i64 0,.int .i64 0,.slice none 0 0]:=Blk.grown (Blk.grown (heap_alloc_new w _) (World.grownBy_alloc _ _ none) (by simp)) hg (by simp)
  have hb:Blk w1 (w.heap.size+1) 28 #[.int .i64 0]:=by
   have:=Blk.grown (heap_alloc_new (w.alloc (.cells #[.int .i64 0,.int .i64 0,.slice none 0 0] 174)) (.cells #[.int .i64 0] 28)) hg (by simp)
   simpa using this
  have HG:Hid (w.grownBy w1 none):=grown_trans (grown_trans (World.grownBy_alloc _ _ none) (World.grownBy_alloc _ _ none)) hg
  clear hg
  have hc:=hb.cell 0
  have hz:=hb.free 0
  unfold Pan
  go_wp2_with fail
  refine leaves_cons (f:=200) (args:=#[.pointer (some ⟨w.heap.size+1,0,none⟩)]) (by simp) (by simp [go_sem]) ?_
  refine (catch151_panicking ⟨w.heap.size+1,0,none⟩ 0 c _ hc hz).mono ?_
  rintro e u' w'' ⟨rfl,rfl,rfl⟩
  have hb2:=(hb.store 0 (.int .i64 c)).cell 0
  have hp0:=(ha.grown (grown_setCell _ (w.heap.size+1) 0 (.int .i64 c)) (by simp)).cell 0
  have hp1:=(ha.grown (grown_setCell _ (w.heap.size+1) 0 (.int .i64 c)) (by simp)).cell 1
  have hp2:=(ha.grown (grown_setCell _ (w.heap.size+1) 0 (.int .i64 c)) (by simp)).cell 2
  simp [Leaves,settle,results,Tryz.results184,go_sem,hb2,hp0,hp1,hp2]
  exact ⟨.inr ⟨c,w1,rfl,hT⟩,grown_new HG.out (grown_setCell _ _ _ _) (by simp)⟩
theorem opForm_len {o:POp}(h:mayOp o=true):(opForm o).length<=1200:=by
 have hm:=may_of h
 have hk:=hm.kind
 have h0:=Wire.numForm_len10 o.kind.toNat (by omega)
 have h1:=bytesForm_len o.table (by have:=tab_len hm.tab;omega)
 have h2:=bytesForm_len o.key (by have:=hm.key;omega)
 have h3:=bytesForm_len o.value hm.value
 have h4:=bytesForm_len o.old hm.old
 have h5:=bytesForm_len o.to (by have:=hm.to;omega)
 have h6:(flagForm o.has).length=1:=by cases o.has <;> rfl
 unfold opForm frontForm tailForm
 split
 ·simp;omega
 ·split
  ·simp;omega
  ·split
   ·rename_i h5'
    have:=hm.most h5'
    have h7:=Wire.numForm_len10 o.most.toNat (by omega)
    simp;omega
   ·simp;omega
theorem forms_len:∀{l:List POp},l.all mayOp=true->(l.flatMap opForm).length<=1200*l.length
 | [],_=>by simp
 | o :: l,h=>by
  simp only [List.all_cons,Bool.and_eq_true] at h
  have:=opForm_len h.1
  have:=forms_len h.2
  rw [List.flatMap_cons,List.length_append,List.length_cons];omega
theorem take_snoc {α:Type}(l:List α)(k:Nat)(hk:k<l.length):l.take (k+1)=l.take k ++ [l[k]]:=by simp
theorem flatMap_take {α:Type}(f:α->Bs)(l:List α)(k:Nat)(hk:k<l.length):(l.take (k+1)).flatMap f=(l.take k).flatMap f ++ f l[k]:=by
 rw [take_snoc l k hk];simp only [List.flatMap_append,List.flatMap_cons,List.flatMap_nil,List.append_nil]
theorem all_take {α:Type}(p:α->Bool)(l:List α)(k:Nat)(hk:k<l.length):(l.take (k+1)).all p=((l.take k).all p && p l[k]):=by
 rw [take_snoc l k hk];simp only [List.all_append,List.all_cons,List.all_nil,Bool.and_true]
theorem all_false {α:Type}(p:α->Bool)(l:List α)(k:Nat)(hk:k<l.length)(h:p l[k]=false):l.all p=false:=by
 rw [List.all_eq_false];exact ⟨l[k],List.getElem_mem hk,by simp [h]⟩
theorem ne81 (w:World):(binOp .eql 153 (.func (.func 112) #[] #[]) .nilFunc).run Tryz.prog w=.ok (.bool false) w:=by kernel_rfl
theorem put119 (v:Value)(l:List POp)(w:World)(hv:Ops w v l)(hz:l.length<=16) :
  Calls Tryz.prog 143 #[v,.func (.func 112) #[] #[]] w fun e w'=>(l.all mayOp=true/\∃u,e=.returned (.tuple #[u,.int .i64 0])/\Own w' w.heap.size u (callForm l)/\w.grownBy w' none)\/(l.all mayOp=false/\e=Pan 2/\w.grownBy w' none):=by
 obtain ⟨ao,n,cap,rfl,hn,hn2,HV⟩:=ops_open hv
 have HN:Hid (l.length=n):=hn
 have q1:=ne81
 have hn16:n<=16:=by omega
 have wu:IntKind.u64.wrap (n:Int)=(n:Int):=by rw [IntKind.wrap_u64];omega
 clear hv hn hn2 hz
 go_enter Tryz.func143,Tryz.ntmps143
 go_wp2_with (go_at_call 100;refine (Wire.number9_int _ n rfl (by omega) w).mono ?_)
 rintro e w1 ⟨r1,rfl,o1,g1⟩
 have S1:Hid (Own w1 w.heap.size r1 (Wire.numForm n)/\w.grownBy w1 none):=⟨o1,g1⟩
 clear o1 g1
 go_wp2_with fail
 go_loopw [6,17] (fun x i wr=>∃k:Nat,k<=n/\i=.int .i64 k/\Own wr w.heap.size x (Wire.numForm n ++ (l.take k).flatMap opForm)/\w.grownBy wr none/\(l.take k).all mayOp=true) (fun _ i _=>n-(intOf i).toNat)
 case atStart=>exact ⟨0,by omega,rfl,by simpa using S1.out.1,S1.out.2,by simp⟩
 case round =>
  obtain ⟨k,hk,rfl,hown,hg,hall⟩:=hrel
  by_cases hlt:k<n
  ·have hkl:k<l.length:=by rw [HN.out];omega
   obtain ⟨b1,off,kk,x,ol,t,rfl,h1,s1⟩:=ops_at (HV.out.grown hg) k hkl
   have HE:Hid _:=flatMap_take opForm l k hkl
   have HA:Hid _:=all_take mayOp l k hkl
   have HF:Hid _:=all_false mayOp l k hkl
   have HL:Hid ((Wire.numForm n ++ (l.take k).flatMap opForm).length<=20000):=by
    have h1:=forms_len hall
    have h2:=Wire.numForm_len10 n (by omega)
    rw [List.length_take] at h1
    unfold Hid
    rw [List.length_append];omega
   obtain ⟨o,ho⟩:∃o,o=l[k]:=⟨_,rfl⟩
   rw [<-ho] at h1 s1 HE HA HF
   obtain ⟨_,_,_,_,_,_,_,_,rfl,rfl,rfl,rfl⟩:=s1.shapes
   obtain ⟨a0,a1,a2,a3,a4,a5,a6,a7⟩:=h1
   unfold Str at a1
   have i1:(0:Int)<=(k:Int):=by omega
   have i2:(k:Int)<(n:Int):=by omega
   have HO:Hid (Own wr w.heap.size u6 (Wire.numForm n ++ (l.take k).flatMap opForm)/\w.grownBy wr none/\(l.take k).all mayOp=true):=⟨hown,hg,hall⟩
   have HS:Hid _:=s1
   clear ho hown hg hall s1 hkl
   go_wp2_with (go_at_call 112;refine (opform76 _ _ _ _ o _ (OpSeg.grown HS.out (World.grownBy_alloc _ _ none))).mono ?_)
   rintro e w2 (⟨hok,u,rfl,ho2,hg2⟩ | ⟨hno,rfl,hg2⟩)
   ·have S3:Hid (Own w2 w.heap.size u6 (Wire.numForm n ++ (l.take k).flatMap opForm)/\w.grownBy w2 none/\Own w2 w.heap.size u (opForm o)):=by
     have g3:wr.grownBy w2 none:=grown_trans (World.grownBy_alloc _ _ none) hg2
     refine ⟨HO.out.1.grown g3,grown_trans HO.out.2.1 g3,ho2.mono ?_⟩
     have:=HO.out.2.1.size
     simp;omega
    have HB:Hid ((Wire.numForm n ++ (l.take k).flatMap opForm).length+(opForm o).length<=140737488355328):=by
     have:=opForm_len hok
     have:=HL.out
     unfold Hid;omega
    have HK:Hid (mayOp o=true):=hok
    clear ho2 hg2 hok
    go_wp2_with (at_builtin;refine app22 _ rfl (.tmp 21) (.tmp 24) rfl w.heap.size _ _ _ _ rfl rfl S3.out.1 S3.out.2.2.seg HB.out S3.out.2.1.size ?_;intro v3 w3 o3 g3 l3)
    have S4:Hid (Own w3 w.heap.size v3 (Wire.numForm n ++ (l.take (k+1)).flatMap opForm)/\w.grownBy w3 none):=by
     refine ⟨by rw [HE.out,<-List.append_assoc];exact o3,grown_new S3.out.2.1 g3 (fun x hx=>(S3.out.1.lt x hx).1)⟩
    clear o3 g3 l3 S3
    go_wp2_with fail
    go_roundw
    case rel=>exact ⟨k+1,by omega,by go_num,S4.out.1,S4.out.2,by rw [HA.out,HO.out.2.2,HK.out];rfl⟩
    case measure=>simp [intOf];omega
   ·unfold Pan
    go_wp2_with fail
    exact ⟨rfl,.inr ⟨HF.out hno,rfl,grown_trans HO.out.2.1 (grown_trans (World.grownBy_alloc _ _ none) hg2)⟩⟩
  ·have e:k=n:=by omega
   subst e
   rw [List.take_of_length_le (by rw [HN.out];omega)] at hown hall
   have S2:Hid (Own wr w.heap.size u6 (callForm l)/\w.grownBy wr none/\l.all mayOp=true):=⟨by unfold callForm;rw [HN.out];exact hown,hg,hall⟩
   clear hown hg hall
   go_wp2_with fail
   go_ret2
   exact .inl ⟨S2.out.2.2,_,rfl,S2.out.1,S2.out.2.1⟩
theorem forms75 (v:Value)(l:List POp)(w:World)(hv:Ops w v l)(hz:l.length<=16) :
  Calls Tryz.prog 111 #[v,.func (.func 112) #[] #[]] w (FormOr (l.all mayOp) (callForm l) 2 w):=by
 have HV:Hid (Ops w v l):=hv
 go_enter Tryz.func111,Tryz.ntmps111
 go_wp2_with (go_at_call 143;refine (put119 _ l _ HV.out hz).mono ?_)
 rintro e w1 (⟨hok,u,rfl,ho,hg⟩ | ⟨hno,rfl,hg⟩)
 ·have HO:Hid (Own w1 w.heap.size u (callForm l)/\w.grownBy w1 none/\l.all mayOp=true):=⟨ho,hg,hok⟩
  clear ho hg hok
  go_wp2_with (go_at_call 110;refine (sure_yes _ _).mono ?_;rintro e w2 ⟨rfl,hw2⟩;rw [hw2];clear hw2)
  go_ret
  exact .inl ⟨HO.out.2.2,_,rfl,HO.out.1,HO.out.2.1⟩
 ·have HO:Hid (l.all mayOp=false/\w.grownBy w1 none):=⟨hno,hg⟩
  clear hno hg
  unfold Pan
  go_wp2_with fail
  exact ⟨rfl,.inr ⟨HO.out.1,rfl,HO.out.2⟩⟩
def FormE (ok:Bool)(F:Bs)(w:World)(e:Ending)(w':World):Prop:=(ok=true/\∃u,e=.returned (.tuple #[u,.int .i64 0])/\Own w' w.heap.size u F/\w.grownBy w' none)\/(ok=false/\e=.returned (.tuple #[.slice none 0 0,.int .i64 2])/\w.grownBy w' none)
theorem form74 (b:Nat)(v:Value)(l:List POp)(w:World)(hb:w.cell? ⟨b,0,none⟩=some v)(hv:Ops w v l) :
  Calls Tryz.prog 109 #[.pointer (some ⟨b,0,none⟩)] w (Within w (fun u w'=>mayCall l=true/\Own w' w.heap.size u (callForm l)) (fun c _=>mayCall l=false/\c=2)):=by
 obtain ⟨ao,n,cap,rfl,hn,hn2,HV⟩:=ops_open hv
 have HN:Hid (l.length=n):=hn
 clear hv hn
 by_cases h1:1<=n
 ·by_cases h16:n<=16
  ·have i1:(1:Int)<=(n:Int):=by omega
   have i2:(n:Int)<=16:=by omega
   have HM:Hid (mayCall l=l.all mayOp):=by unfold mayCall;rw [HN.out];simp [h1,h16,Hid]
   go_enter Tryz.func109,Tryz.ntmps109
   go_wp2_with (first | (go_at_call 110;refine (sure_yes _ _).mono ?_;rintro e w2 ⟨rfl,hw2⟩;rw [hw2];clear hw2) | (go_at_call 111;refine (forms75 _ l _ HV.out (by rw [HN.out];omega)).mono ?_))
   rintro e w1 (⟨hok,u,rfl,ho,hg⟩ | ⟨hno,rfl,hg⟩)
   ·have HO:Hid (Own w1 w.heap.size u (callForm l)/\w.grownBy w1 none/\l.all mayOp=true):=⟨ho,hg,hok⟩
    clear ho hg hok
    go_wp2_with fail
    go_ret
    exact .inl ⟨_,rfl,⟨by rw [HM.out];exact HO.out.2.2,HO.out.1⟩,HO.out.2.1⟩
   ·have HO:Hid (l.all mayOp=false/\w.grownBy w1 none):=⟨hno,hg⟩
    clear hno hg
    unfold Pan
    go_wp2_with fail
    exact ⟨rfl,.inr ⟨2,rfl,⟨by rw [HM.out];exact HO.out.1,rfl⟩,HO.out.2⟩⟩
  ·have i1:(1:Int)<=(n:Int):=by omega
   have i2:((n:Int)<=16)=False:=eq_false (by omega)
   have HM:Hid (mayCall l=false):=by unfold mayCall;rw [HN.out];simp [h16,Hid]
   go_enter Tryz.func109,Tryz.ntmps109
   go_wp2_with (first | (go_at_call 110;refine (sure_no _ _).mono ?_;rintro e w2 ⟨rfl,hw2⟩;rw [hw2];clear hw2;unfold Pan))
   exact ⟨rfl,.inr ⟨2,rfl,⟨HM.out,rfl⟩,grown_refl _ _⟩⟩
 ·have i1:((1:Int)<=(n:Int))=False:=eq_false (by omega)
  have HM:Hid (mayCall l=false):=by unfold mayCall;rw [HN.out];simp [h1,Hid]
  go_enter Tryz.func109,Tryz.ntmps109
  go_wp2_with (first | (go_at_call 110;refine (sure_no _ _).mono ?_;rintro e w2 ⟨rfl,hw2⟩;rw [hw2];clear hw2;unfold Pan))
  exact ⟨rfl,.inr ⟨2,rfl,⟨HM.out,rfl⟩,grown_refl _ _⟩⟩
theorem own_later {w w':World}{B b:Nat}{v:Value}{L:Bs}(h:Own w B v L)(hl:Later b w w'):Own w' B v L:=by
 obtain ⟨x,hx,hg⟩:=hl
 exact h.same fun k hk=>hg.block k (h.lt k hk).2 (fun e=>h.other hx (by decide) (by rw [hk,e]))
theorem form38 (v:Value)(l:List POp)(w:World)(hv:Ops w v l) :
  Calls Tryz.prog 83 #[.agg #[v]] w (FormE (mayCall l) (callForm l) w):=by
 have HV:Hid (Ops w v l):=hv
 obtain ⟨ao,cap,e⟩:=hv.shape
 obtain ⟨n,hn⟩:∃n,n=l.length:=⟨_,rfl⟩
 rw [<-hn] at e
 subst e
 clear hv hn
 have hmf:∀(fn:Fn) (first cap:Array Value) (w:World),(Instr.makeFunc fn first cap).run Tryz.prog w=.ok (.func fn first cap) w:=fun _ _ _ _=>rfl
 have hin:Calls Tryz.prog 109 #[.pointer (some ⟨w.heap.size,0,none⟩)] ((w.alloc (.cells #[.slice ao n cap] 35)).alloc (.cells #[.int .i64 0] 28)) _:=form74 w.heap.size (.slice ao n cap) l _ (by simp [go_sem]) (HV.out.grown (grown_trans (World.grownBy_alloc _ _ none) (World.grownBy_alloc _ _ none)))
 have HF:Hid _:=face57_74 _ _ _ _ hin
 clear hin
 go_enter Tryz.func83,Tryz.ntmps83
 go_wp2_with (go_at_call 108;refine Calls.mono HF.out ?_)
 rintro e w1 ⟨(⟨u,w2,rfl,⟨hm,ho⟩,hl⟩ | ⟨c,w2,rfl,⟨hm,rfl⟩,hl⟩),hg⟩
 ·have HO:Hid (mayCall l=true/\Own w1 w.heap.size u (callForm l)/\w.grownBy w1 none):=⟨hm,own_later (ho.mono (B':=w.heap.size) (by simp;omega)) hl,grown_trans (World.grownBy_alloc _ _ none) hg⟩
  clear hm ho hl hg HF
  go_wp2_with fail
  go_ret2
  exact .inl ⟨HO.out.1,_,rfl,HO.out.2.1,HO.out.2.2⟩
 ·have HO:Hid (mayCall l=false/\w.grownBy w1 none):=⟨hm,grown_trans (World.grownBy_alloc _ _ none) hg⟩
  clear hm hl hg HF
  go_wp2_with fail
  go_ret2
  exact .inr ⟨HO.out.1,rfl,HO.out.2⟩
def BytesPost (l:List POp)(w:World)(e:Ending)(w':World):Prop:=∃u,e=.returned (.tuple #[u,.int .i64 (chk l)])/\Own w' w.heap.size u (if chk l=0 then callForm l else [])/\w.grownBy w' none
theorem form_max {l:List POp}(h:mayCall l=true):(callForm l).length<=20000:=by
 unfold mayCall at h
 simp only [Bool.and_eq_true,decide_eq_true_eq] at h
 have h1:=forms_len h.2
 have h2:=Wire.numForm_len10 l.length (by omega)
 unfold callForm
 rw [List.length_append];omega
theorem bytes13 (v:Value)(l:List POp)(w:World)(hv:Ops w v l) :
  Calls Tryz.prog 56 #[.agg #[v]] w (BytesPost l w):=by
 have HV:Hid (Ops w v l):=hv
 obtain ⟨ao,cap,e⟩:=hv.shape
 obtain ⟨n,hn⟩:∃n,n=l.length:=⟨_,rfl⟩
 rw [<-hn] at e
 subst e
 clear hv hn
 go_enter Tryz.func56,Tryz.ntmps56
 go_wp2_with (go_at_call 83;refine (form38 _ l _ (HV.out.grown (World.grownBy_alloc _ _ none))).mono ?_)
 rintro e w1 (⟨hok,u,rfl,ho,hg⟩ | ⟨hno,rfl,hg⟩)
 ·have HO:Hid (mayCall l=true/\Own w1 w.heap.size u (callForm l)/\w.grownBy w1 none):=⟨hok,ho.mono (by simp),grown_trans (World.grownBy_alloc _ _ none) hg⟩
  obtain ⟨x,m,y,e,hm⟩:∃x m y,u=.slice x m y/\m=(callForm l).length:=by obtain ⟨x,y,e⟩:=ho.seg.shape;exact ⟨x,_,y,e,rfl⟩
  subst e
  have HM:Hid (m=(callForm l).length/\m<=20000):=⟨hm,by rw [hm];exact form_max hok⟩
  have hm2:=HM.out.2
  clear hok ho hg hm
  by_cases h:m<=4096
  ·have i1:((m:Int) > 4096)=False:=eq_false (by omega)
   have i2:¬(4096:Int)<(m:Int):=by omega
   have HC:Hid (chk l=0):=by unfold chk;rw [if_pos HO.out.1,if_pos (by rw [<-HM.out.1];exact h)];rfl
   go_wp2_with fail
   go_ret2
   exact ⟨_,by rw [HC.out];rfl,by rw [if_pos HC.out];exact HO.out.2.1,HO.out.2.2⟩
  ·have i2:(4096:Int)<(m:Int):=by omega
   have HC:Hid (chk l=3):=by unfold chk;rw [if_pos HO.out.1,if_neg (by rw [<-HM.out.1];exact h)];rfl
   go_wp2_with fail
   go_ret2
   exact ⟨_,by rw [HC.out];rfl,by rw [HC.out];exact Own.nil _ _,HO.out.2.2⟩
 ·have HO:Hid (chk l=2/\w.grownBy w1 none):=⟨by unfold chk;rw [if_neg (by rw [hno];simp)],grown_trans (World.grownBy_alloc _ _ none) hg⟩
  clear hno hg
  go_wp2_with fail
  go_ret2
  exact ⟨_,by rw [HO.out.1];rfl,by rw [HO.out.1];exact Own.nil _ _,HO.out.2⟩
end Go.Proofs.YtanoabliahcbeaaGreat.Calls
