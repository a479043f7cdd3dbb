import Derived.Test.YtanoabliahcbeaaGreatCrsAll
import Derived.Test.YtanoabliahcbeaaGreatMklAll
set_option maxHeartbeats 4000000
set_option maxRecDepth 100000
namespace Go.Proofs.YtanoabliahcbeaaGreat
open Go.RowKit Disk
open _root_.Go.Proofs.YtanoabliahcbeaaGreat.Calls _root_.Go.Proofs.YtanoabliahcbeaaGreat.Command
theorem copy6 (ov av:Value)(m:PMsg)(w:World)(ho:Ops w ov m.ask.ops)(ha:Seg w av m.tell.answer)(hf:Fit m.ask.ops)(hz:m.tell.answer.length<=140737488355328):Calls Tryz.prog 8 #[msgV ov av m] w fun e w'=>∃u v,e=.returned (msgV u v m)/\OpsOwn w' w.heap.size u m.ask.ops/\Own w' w.heap.size v m.tell.answer/\w.grownBy w' none:=by
 obtain ⟨ao,n,ca,rfl⟩:=isSl_ops ho
 obtain ⟨bo,p,cb,rfl⟩:=isSl_seg ha
 have HS:Hid (Ops w (.slice ao n ca) m.ask.ops/\Seg w (.slice bo p cb) m.tell.answer/\m.tell.answer.length<=140737488355328/\Fit m.ask.ops):=⟨ho,ha,hz,hf⟩
 clear ho ha hz hf
 unfold msgV
 go_enter Tryz.func8,Tryz.ntmps8
 go_upto_region 1 with fail
 obtain ⟨W,hW,HW⟩:=al2' w #[.int .i64 m.kind,.int .i64 m.client,.int .i64 m.ask.kind,.int .i64 m.ask.token,.int .i64 m.ask.session,.int .i64 m.ask.number,.int .i64 m.ask.mark,.slice ao n ca,.int .i64 m.tell.kind,.int .i64 m.tell.token,.int .i64 m.tell.session,.int .i64 m.tell.number,.slice bo p cb] #[.int .i64 0,.int .i64 0,.int .i64 0,.int .i64 0,.int .i64 0,.int .i64 0,.int .i64 0,.slice none 0 0,.int .i64 0,.int .i64 0,.int .i64 0,.int .i64 0,.slice none 0 0] 45 45
 rw [hW]
 clear hW
 have HM:Hid (MB W w.heap.size (.slice ao n ca) (.slice bo p cb) m/\Room W (w.heap.size+1)/\w.grownBy W none):=⟨HW.out.1,room_lit HW.out.2.1,HW.out.2.2.1⟩
 clear HW
 obtain ⟨c0,c1,c2,c3,c4,c5,c6,c7,c8,c9,c10,c11,c12⟩:=HM.out.1.cells
 go_wp2_with fail
 refine (copy8 (.slice ao n ca) m.ask W (HS.out.1.grown HM.out.2.2) HS.out.2.2.2).mono ?_
 rintro e w1 ⟨u,rfl,hu,hg⟩
 obtain ⟨uo,un,uc,rfl,hun⟩:=hu.slice
 have H1:Hid (MB w1 w.heap.size (.slice ao n ca) (.slice bo p cb) m/\Room w1 (w.heap.size+1)/\w.grownBy w1 none/\OpsOwn w1 W.heap.size (.slice uo un uc) m.ask.ops):=⟨HM.out.1.grown hg,HM.out.2.1.grown hg,grown_trans HM.out.2.2 hg,hu⟩
 have HWS:Hid (w.heap.size<=W.heap.size):=HM.out.2.2.size
 clear hu hg HM hun c0 c1 c2 c3 c4 c5 c6 c7 c8 c9 c10 c11 c12
 unfold cmdV
 obtain ⟨c0,c1,c2,c3,c4,c5,c6,c7,c8,c9,c10,c11,c12⟩:=H1.out.1.cells
 have f2:=H1.out.1.free 2
 have f3:=H1.out.1.free 3
 have f4:=H1.out.1.free 4
 have f5:=H1.out.1.free 5
 have f6:=H1.out.1.free 6
 have f7:=H1.out.1.free 7
 go_upto_region 2 with fail
 have hch:∃W2,(((((w1.setCell ⟨w.heap.size,2,none⟩ (.int .i64 m.ask.kind)).setCell ⟨w.heap.size,3,none⟩ (.int .i64 m.ask.token)).setCell ⟨w.heap.size,4,none⟩ (.int .i64 m.ask.session)).setCell ⟨w.heap.size,5,none⟩ (.int .i64 m.ask.number)).setCell ⟨w.heap.size,6,none⟩ (.int .i64 m.ask.mark)).setCell ⟨w.heap.size,7,none⟩ (.slice uo un uc)=W2/\Hid (MB W2 w.heap.size (.slice uo un uc) (.slice bo p cb) m/\w1.grownBy W2 (some w.heap.size)):=by
  have b0:=Blk.store H1.out.1 2 (.int .i64 m.ask.kind)
  have b1:=Blk.store b0 3 (.int .i64 m.ask.token)
  have b2:=Blk.store b1 4 (.int .i64 m.ask.session)
  have b3:=Blk.store b2 5 (.int .i64 m.ask.number)
  have b4:=Blk.store b3 6 (.int .i64 m.ask.mark)
  have b5:=Blk.store b4 7 (.slice uo un uc)
  exact ⟨_,rfl,b5,grown_trans (grown_trans (grown_trans (grown_trans (grown_trans (grown_setCell _ _ _ _) (grown_setCell _ _ _ _)) (grown_setCell _ _ _ _)) (grown_setCell _ _ _ _)) (grown_setCell _ _ _ _)) (grown_setCell _ _ _ _)⟩
 obtain ⟨W2,hW2,HW2⟩:=hch
 rw [hW2]
 clear hW2 f2 f3 f4 f5 f6 f7 c0 c1 c2 c3 c4 c5 c6 c7 c8 c9 c10 c11 c12
 have H2:Hid (MB W2 w.heap.size (.slice uo un uc) (.slice bo p cb) m/\Room W2 (w.heap.size+1)/\w.grownBy W2 none/\OpsOwn W2 w.heap.size (.slice uo un uc) m.ask.ops):=⟨HW2.out.1,H1.out.2.1.but HW2.out.2 (by omega),grown_new H1.out.2.2.1 HW2.out.2 (by intro x hx;simp at hx;omega),(H1.out.2.2.2.set H1.out.1 (by decide) (by decide) HW2.out.2).mono HWS.out⟩
 clear H1 HW2
 obtain ⟨c0,c1,c2,c3,c4,c5,c6,c7,c8,c9,c10,c11,c12⟩:=H2.out.1.cells
 have HSG:Hid (Seg W2 (.slice bo p cb) m.tell.answer):=HS.out.2.1.grown H2.out.2.2.1
 have f12:=H2.out.1.free 12
 go_wp2_with (at_builtin;refine app22 W2 rfl _ _ rfl W2.heap.size _ [] _ m.tell.answer rfl rfl (Own.nil _ _) HSG.out ?c0 (Nat.le_refl _) ?_)
 case c0=>have:=HS.out.2.2.1;simp;omega
 intro v3 w3 hv hg _
 try rw [List.nil_append] at hv
 obtain ⟨vo,vn,vc,hvs⟩:=isSl_on hv
 subst hvs
 have hg3:W2.grownBy w3 none:=hg
 have H3:Hid (MB w3 w.heap.size (.slice uo un uc) (.slice bo p cb) m/\Room w3 (w.heap.size+1)/\w.grownBy w3 none/\OpsOwn w3 w.heap.size (.slice uo un uc) m.ask.ops/\Own w3 w.heap.size (.slice vo vn vc) m.tell.answer):=⟨H2.out.1.grown hg3,H2.out.2.1.grown hg3,grown_trans H2.out.2.2.1 hg3,H2.out.2.2.2.grown hg3,hv.mono H2.out.2.2.1.size⟩
 clear hv hg hg3 H2 HSG f12 c0 c1 c2 c3 c4 c5 c6 c7 c8 c9 c10 c11 c12
 have c12:=H3.out.1.cells.2.2.2.2.2.2.2.2.2.2.2.2
 have f12:=H3.out.1.free 12
 go_upto_region 3 with fail
 have H4:Hid (MB (w3.setCell ⟨w.heap.size,12,none⟩ (.slice vo vn vc)) w.heap.size (.slice uo un uc) (.slice vo vn vc) m/\Room (w3.setCell ⟨w.heap.size,12,none⟩ (.slice vo vn vc)) (w.heap.size+1)/\w.grownBy (w3.setCell ⟨w.heap.size,12,none⟩ (.slice vo vn vc)) none/\OpsOwn (w3.setCell ⟨w.heap.size,12,none⟩ (.slice vo vn vc)) w.heap.size (.slice uo un uc) m.ask.ops/\Own (w3.setCell ⟨w.heap.size,12,none⟩ (.slice vo vn vc)) w.heap.size (.slice vo vn vc) m.tell.answer):=by
  have s:=grown_setCell w3 w.heap.size 12 (.slice vo vn vc)
  exact ⟨Blk.store H3.out.1 12 _,H3.out.2.1.but s (by omega),grown_new H3.out.2.2.1 s (by intro x hx;simp at hx;omega),H3.out.2.2.2.1.set H3.out.1 (by decide) (by decide) s,own_set H3.out.2.2.2.2 H3.out.1 (by decide) s⟩
 generalize w3.setCell ⟨w.heap.size,12,none⟩ (.slice vo vn vc)=w4 at H4 ⊢
 clear H3 c12 f12
 obtain ⟨c0,c1,c2,c3,c4,c5,c6,c7,c8,c9,c10,c11,c12⟩:=H4.out.1.cells
 obtain ⟨r0,r1,r2,r3,r4,r5,r6,r7,r8,r9,r10,r11,r12,u0,u1,u2,u3,u4,u5,u6,u7,u8,u9,u10,u11,u12⟩:=H4.out.2.1.cells
 obtain ⟨z0,z1,z2,z3,z4,z5,z6,z7,z8,z9,z10,z11,z12⟩:=H4.out.2.1.frees
 go_wp2_with fail
 obtain ⟨W6,hW6,H6⟩:=setM H4.out.2.1 (.slice uo un uc) (.slice vo vn vc) m
 rw [hW6]
 clear hW6
 refine bodyPost_ret (v:=_) (results_cell_row rfl _ _ (w.heap.size+1) 45 _ (0,0) _ rfl H6.out.1 Tryz.underlying45 rfl (by kernel_rfl)) rfl ?_
 obtain ⟨k0,k1,k2,k3,k4,k5,k6,k7,k8,k9,k10,k11,k12,HRB⟩:=H4.out.2.1
 exact ⟨_,_,rfl,H4.out.2.2.2.1.set HRB (by decide) (by decide) H6.out.2,own_set H4.out.2.2.2.2 HRB (by decide) H6.out.2,grown_new H4.out.2.2.1 H6.out.2 (by intro x hx;simp at hx;omega)⟩
def Inv (m0:PMsg)(M0:Bs)(rem:List (Nat × Int))(r:PMsg)(N:Bs)(b:Bool):Prop :=
 (b=true->readNums (fld m0) m0 M0=readNums rem r N)/\(b=false->readNums (fld m0) m0 M0=none)
theorem Inv.step {m0:PMsg}{M0:Bs}{f:Nat × Int}{rem:List (Nat × Int)}{r:PMsg}{N N':Bs}{b b':Bool}{n:Nat}(h:Inv m0 M0 (f :: rem) r N b)(hn:(pNum 9223372036854775807 N=some (n,N')/\b'=b)\/(pNum 9223372036854775807 N=none/\b'=false)):Inv m0 M0 rem (setV r f.1 n) N' b':=by
 rcases hn with ⟨hp,rfl⟩ | ⟨hp,rfl⟩
 ·refine ⟨fun hb=>?_,h.2⟩
  rw [h.1 hb,readNums,hp]
  rfl
 ·refine ⟨(fun hb=>by cases hb),fun _=>?_⟩
  cases b
  ·exact h.2 rfl
  ·rw [h.1 rfl,readNums,hp]
   rfl
structure DS (w wc:World)(X d ob:Nat)(ao:Option Addr)(cap:Nat)(L:Bs)(k:Nat)(b:Bool)(ov av:Value)(r:PMsg):Prop where
 room:Room wc w.heap.size
 mb:MB wc X ov av r
 ops:OpsOwn wc w.heap.size ov r.ask.ops
 ans:Own wc w.heap.size av r.tell.answer
 rk:RK wc d ob ao cap L k b
 gr:w.grownBy wc none
 x1:w.heap.size<X
 d1:w.heap.size<=d
 o1:w.heap.size<=ob
variable {w wc:World} {X d ob:Nat} {ao:Option Addr} {cap:Nat} {L:Bs} {k:Nat} {b:Bool} {ov av:Value} {r:PMsg}
theorem room_fr {w':World}{q:Nat}(h:Room wc q)(hr:RK wc d ob ao cap L k b)(hf:Fr wc w' (RF d ob)):Room w' q:=by
 obtain ⟨c0,c1,c2,c3,c4,c5,c6,c7,c8,c9,c10,c11,c12,h⟩:=h
 exact room_lit (blk_fr h hr hf (by decide) (by decide))
theorem DS.next {w':World}{k':Nat}{b':Bool}(h:DS w wc X d ob ao cap L k b ov av r)(hk:DkPost d ob ao cap L k' b' wc w'):DS w w' X d ob ao cap L k' b' ov av r :=
 ⟨room_fr h.room h.rk hk.2,blk_fr h.mb h.rk hk.2 (by decide) (by decide),opsOwn_fr h.ops h.rk hk.2,own_fr h.ans h.rk hk.2,hk.1,fr_grown h.gr hk.2 h.d1 h.o1,h.x1,h.d1,h.o1⟩
theorem DS.grown {w':World}(h:DS w wc X d ob ao cap L k b ov av r)(hg:wc.grownBy w' none):DS w w' X d ob ao cap L k b ov av r :=
 ⟨h.room.grown hg,h.mb.grown hg,h.ops.grown hg,h.ans.grown hg,h.rk.grown hg,grown_trans h.gr hg,h.x1,h.d1,h.o1⟩
theorem mb_nou8 (j:Nat)(x:Int)(ho:IsSl ov)(ha:IsSl av):(msgA ov av r)[j]?≠some (Value.int .u8 x):=by
 obtain ⟨a1,a2,a3,rfl⟩:=ho
 obtain ⟨a4,a5,a6,rfl⟩:=ha
 unfold msgA
 rcases j with _ | _ | _ | _ | _ | _ | _ | _ | _ | _ | _ | _ | _ | j <;> simp
theorem blk_ne {a t t':Nat}{c c':Array Value}{q:Nat}(h:Blk wc a t c)(h':Blk wc q t' c')(hne:t≠t'):a≠q:=by
 rintro rfl
 exact hne (blk_type h h')
theorem rk_x {w':World}(h:RK wc d ob ao cap L k b)(hm:MB wc X ov av r)(ho:IsSl ov)(ha:IsSl av)(hg:wc.grownBy w' (some X)):RK w' d ob ao cap L k b :=
 ⟨seg_blk h.seg hm (fun j x=>mb_nou8 j x ho ha) hg,h.rf.grown hg (by simp;exact fun e=>blk_ne hm h.rf (by decide) e),h.ok.grown hg (by simp;exact fun e=>blk_ne hm h.ok (by decide) e),h.le,h.zz⟩
theorem DS.store {w':World}{ov' av':Value}{r':PMsg}(h:DS w wc X d ob ao cap L k b ov av r)(hg:wc.grownBy w' (some X))(hm:MB w' X ov' av' r')(h1:OpsOwn wc w.heap.size ov' r'.ask.ops)(h2:Own wc w.heap.size av' r'.tell.answer):DS w w' X d ob ao cap L k b ov' av' r' :=
 ⟨h.room.but hg (by have:=h.x1;omega),hm,h1.set h.mb (by decide) (by decide) hg,own_set h2 h.mb (by decide) hg,rk_x h.rk h.mb (isSl_ow h.ops) (isSl_on h.ans) hg,grown_new h.gr hg (by intro x hx;simp at hx;have:=h.x1;omega),h.x1,h.d1,h.o1⟩
theorem DS.num (h:DS w wc X d ob ao cap L k b ov av r){o:Nat}(ho:isOff o)(n:Int):DS w (wc.setCell ⟨X,o,none⟩ (.int .i64 n)) X d ob ao cap L k b ov av (setV r o n):=by
 obtain ⟨_,_,_,_,h5,h6⟩:=setV_kinds r o n
 exact h.store (grown_setCell _ _ _ _) (h.mb.set ho n) (by rw [h5];exact h.ops) (by rw [h6];exact h.ans)
theorem DS.say (h:DS w wc X d ob ao cap L k b ov av r)(b':Bool):DS w (wc.setCell ⟨ob,0,none⟩ (.bool b')) X d ob ao cap L k b' ov av r :=
 h.next ⟨h.rk.say b',fr_ob _⟩
theorem DS.cells (h:DS w wc X d ob ao cap L k b ov av r):wc.cell? ⟨d,0,none⟩=some (.slice ao L.length cap)/\wc.cell? ⟨d,1,none⟩=some (.int .i64 (k:Int))/\wc.cell? ⟨ob,0,none⟩=some (.bool b)/\wc.frozen? ⟨ob,0,none⟩=false :=
 ⟨h.rk.rf.cell 0,h.rk.rf.cell 1,h.rk.ok.cell 0,h.rk.ok.free 0⟩
end Go.Proofs.YtanoabliahcbeaaGreat
