import Derived.Test.YtncbdhdfemidlaaGreatMd
set_option maxHeartbeats 2000000
set_option maxRecDepth 100000
namespace Go.Proofs.YtncbdhdfemidlaaGreat
open Go.RowKit Disk
open _root_.Go.Proofs.YtncbdhdfemidlaaGreat.Calls _root_.Go.Proofs.YtncbdhdfemidlaaGreat.Command
theorem set13 {x:World}{b:Nat}{c0 c1 c2 c3 c4 c5 c6 c7 c8 c9 c10 c11 c12:Value}(h:Blk x b 34 #[c0,c1,c2,c3,c4,c5,c6,c7,c8,c9,c10,c11,c12])(v0 v1 v2 v3 v4 v5 v6 v7 v8 v9 v10 v11 v12:Value):∃W,(((((((((((((x.setCell ⟨b,0,none⟩ v0).setCell ⟨b,1,none⟩ v1).setCell ⟨b,2,none⟩ v2).setCell ⟨b,3,none⟩ v3).setCell ⟨b,4,none⟩ v4).setCell ⟨b,5,none⟩ v5).setCell ⟨b,6,none⟩ v6).setCell ⟨b,7,none⟩ v7).setCell ⟨b,8,none⟩ v8).setCell ⟨b,9,none⟩ v9).setCell ⟨b,10,none⟩ v10).setCell ⟨b,11,none⟩ v11).setCell ⟨b,12,none⟩ v12)=W/\Hid (Blk W b 34 #[v0,v1,v2,v3,v4,v5,v6,v7,v8,v9,v10,v11,v12]/\x.grownBy W (some b)):=by
 have h0:Blk (x.setCell ⟨b,0,none⟩ v0) b 34 #[v0,c1,c2,c3,c4,c5,c6,c7,c8,c9,c10,c11,c12]:=h.store 0 v0
 have h1:Blk ((x.setCell ⟨b,0,none⟩ v0).setCell ⟨b,1,none⟩ v1) b 34 #[v0,v1,c2,c3,c4,c5,c6,c7,c8,c9,c10,c11,c12]:=h0.store 1 v1
 have h2:Blk (((x.setCell ⟨b,0,none⟩ v0).setCell ⟨b,1,none⟩ v1).setCell ⟨b,2,none⟩ v2) b 34 #[v0,v1,v2,c3,c4,c5,c6,c7,c8,c9,c10,c11,c12]:=h1.store 2 v2
 have h3:Blk ((((x.setCell ⟨b,0,none⟩ v0).setCell ⟨b,1,none⟩ v1).setCell ⟨b,2,none⟩ v2).setCell ⟨b,3,none⟩ v3) b 34 #[v0,v1,v2,v3,c4,c5,c6,c7,c8,c9,c10,c11,c12]:=h2.store 3 v3
 have h4:Blk (((((x.setCell ⟨b,0,none⟩ v0).setCell ⟨b,1,none⟩ v1).setCell ⟨b,2,none⟩ v2).setCell ⟨b,3,none⟩ v3).setCell ⟨b,4,none⟩ v4) b 34 #[v0,v1,v2,v3,v4,c5,c6,c7,c8,c9,c10,c11,c12]:=h3.store 4 v4
 have h5:Blk ((((((x.setCell ⟨b,0,none⟩ v0).setCell ⟨b,1,none⟩ v1).setCell ⟨b,2,none⟩ v2).setCell ⟨b,3,none⟩ v3).setCell ⟨b,4,none⟩ v4).setCell ⟨b,5,none⟩ v5) b 34 #[v0,v1,v2,v3,v4,v5,c6,c7,c8,c9,c10,c11,c12]:=h4.store 5 v5
 have h6:Blk (((((((x.setCell ⟨b,0,none⟩ v0).setCell ⟨b,1,none⟩ v1).setCell ⟨b,2,none⟩ v2).setCell ⟨b,3,none⟩ v3).setCell ⟨b,4,none⟩ v4).setCell ⟨b,5,none⟩ v5).setCell ⟨b,6,none⟩ v6) b 34 #[v0,v1,v2,v3,v4,v5,v6,c7,c8,c9,c10,c11,c12]:=h5.store 6 v6
 have h7:Blk ((((((((x.setCell ⟨b,0,none⟩ v0).setCell ⟨b,1,none⟩ v1).setCell ⟨b,2,none⟩ v2).setCell ⟨b,3,none⟩ v3).setCell ⟨b,4,none⟩ v4).setCell ⟨b,5,none⟩ v5).setCell ⟨b,6,none⟩ v6).setCell ⟨b,7,none⟩ v7) b 34 #[v0,v1,v2,v3,v4,v5,v6,v7,c8,c9,c10,c11,c12]:=h6.store 7 v7
 have h8:Blk (((((((((x.setCell ⟨b,0,none⟩ v0).setCell ⟨b,1,none⟩ v1).setCell ⟨b,2,none⟩ v2).setCell ⟨b,3,none⟩ v3).setCell ⟨b,4,none⟩ v4).setCell ⟨b,5,none⟩ v5).setCell ⟨b,6,none⟩ v6).setCell ⟨b,7,none⟩ v7).setCell ⟨b,8,none⟩ v8) b 34 #[v0,v1,v2,v3,v4,v5,v6,v7,v8,c9,c10,c11,c12]:=h7.store 8 v8
 have h9:Blk ((((((((((x.setCell ⟨b,0,none⟩ v0).setCell ⟨b,1,none⟩ v1).setCell ⟨b,2,none⟩ v2).setCell ⟨b,3,none⟩ v3).setCell ⟨b,4,none⟩ v4).setCell ⟨b,5,none⟩ v5).setCell ⟨b,6,none⟩ v6).setCell ⟨b,7,none⟩ v7).setCell ⟨b,8,none⟩ v8).setCell ⟨b,9,none⟩ v9) b 34 #[v0,v1,v2,v3,v4,v5,v6,v7,v8,v9,c10,c11,c12]:=h8.store 9 v9
 have h10:Blk (((((((((((x.setCell ⟨b,0,none⟩ v0).setCell ⟨b,1,none⟩ v1).setCell ⟨b,2,none⟩ v2).setCell ⟨b,3,none⟩ v3).setCell ⟨b,4,none⟩ v4).setCell ⟨b,5,none⟩ v5).setCell ⟨b,6,none⟩ v6).setCell ⟨b,7,none⟩ v7).setCell ⟨b,8,none⟩ v8).setCell ⟨b,9,none⟩ v9).setCell ⟨b,10,none⟩ v10) b 34 #[v0,v1,v2,v3,v4,v5,v6,v7,v8,v9,v10,c11,c12]:=h9.store 10 v10
 have h11:Blk ((((((((((((x.setCell ⟨b,0,none⟩ v0).setCell ⟨b,1,none⟩ v1).setCell ⟨b,2,none⟩ v2).setCell ⟨b,3,none⟩ v3).setCell ⟨b,4,none⟩ v4).setCell ⟨b,5,none⟩ v5).setCell ⟨b,6,none⟩ v6).setCell ⟨b,7,none⟩ v7).setCell ⟨b,8,none⟩ v8).setCell ⟨b,9,none⟩ v9).setCell ⟨b,10,none⟩ v10).setCell ⟨b,11,none⟩ v11) b 34 #[v0,v1,v2,v3,v4,v5,v6,v7,v8,v9,v10,v11,c12]:=h10.store 11 v11
 have h12:Blk (((((((((((((x.setCell ⟨b,0,none⟩ v0).setCell ⟨b,1,none⟩ v1).setCell ⟨b,2,none⟩ v2).setCell ⟨b,3,none⟩ v3).setCell ⟨b,4,none⟩ v4).setCell ⟨b,5,none⟩ v5).setCell ⟨b,6,none⟩ v6).setCell ⟨b,7,none⟩ v7).setCell ⟨b,8,none⟩ v8).setCell ⟨b,9,none⟩ v9).setCell ⟨b,10,none⟩ v10).setCell ⟨b,11,none⟩ v11).setCell ⟨b,12,none⟩ v12) b 34 #[v0,v1,v2,v3,v4,v5,v6,v7,v8,v9,v10,v11,v12]:=h11.store 12 v12
 exact ⟨_,rfl,h12,grown_trans (grown_trans (grown_trans (grown_trans (grown_trans (grown_trans (grown_trans (grown_trans (grown_trans (grown_trans (grown_trans (grown_trans (grown_setCell _ _ _ _) (grown_setCell _ _ _ _)) (grown_setCell _ _ _ _)) (grown_setCell _ _ _ _)) (grown_setCell _ _ _ _)) (grown_setCell _ _ _ _)) (grown_setCell _ _ _ _)) (grown_setCell _ _ _ _)) (grown_setCell _ _ _ _)) (grown_setCell _ _ _ _)) (grown_setCell _ _ _ _)) (grown_setCell _ _ _ _)) (grown_setCell _ _ _ _)⟩
def Room (w:World)(b:Nat):Prop:=∃c0 c1 c2 c3 c4 c5 c6 c7 c8 c9 c10 c11 c12,Blk w b 34 #[c0,c1,c2,c3,c4,c5,c6,c7,c8,c9,c10,c11,c12]
theorem MB.room {w:World}{b:Nat}{ov av:Value}{m:PMsg}(h:MB w b ov av m):Room w b:=⟨_,_,_,_,_,_,_,_,_,_,_,_,_,h⟩
theorem room_lit {w:World}{b:Nat}{c0 c1 c2 c3 c4 c5 c6 c7 c8 c9 c10 c11 c12:Value}(h:Blk w b 34 #[c0,c1,c2,c3,c4,c5,c6,c7,c8,c9,c10,c11,c12]):Room w b:=⟨_,_,_,_,_,_,_,_,_,_,_,_,_,h⟩
theorem Room.grown {w w':World}{b:Nat}(h:Room w b)(hg:w.grownBy w' none):Room w' b:=by
 obtain ⟨c0,c1,c2,c3,c4,c5,c6,c7,c8,c9,c10,c11,c12,h⟩:=h
 exact room_lit (h.grown hg (by simp))
theorem Room.but {w w':World}{b c:Nat}(h:Room w b)(hg:w.grownBy w' (some c))(hc:c≠b):Room w' b:=by
 obtain ⟨c0,c1,c2,c3,c4,c5,c6,c7,c8,c9,c10,c11,c12,h⟩:=h
 exact room_lit (h.grown hg (by simpa using hc))
theorem Room.lt {w:World}{b:Nat}(h:Room w b):b<w.heap.size:=by
 obtain ⟨c0,c1,c2,c3,c4,c5,c6,c7,c8,c9,c10,c11,c12,h⟩:=h
 exact h.lt
theorem Room.cells {w:World}{b:Nat}(h:Room w b):∃c0 c1 c2 c3 c4 c5 c6 c7 c8 c9 c10 c11 c12,w.cell? ⟨b,0,none⟩=some c0/\w.cell? ⟨b,1,none⟩=some c1/\w.cell? ⟨b,2,none⟩=some c2/\w.cell? ⟨b,3,none⟩=some c3/\w.cell? ⟨b,4,none⟩=some c4/\w.cell? ⟨b,5,none⟩=some c5/\w.cell? ⟨b,6,none⟩=some c6/\w.cell? ⟨b,7,none⟩=some c7/\w.cell? ⟨b,8,none⟩=some c8/\w.cell? ⟨b,9,none⟩=some c9/\w.cell? ⟨b,10,none⟩=some c10/\w.cell? ⟨b,11,none⟩=some c11/\w.cell? ⟨b,12,none⟩=some c12:=by
 obtain ⟨c0,c1,c2,c3,c4,c5,c6,c7,c8,c9,c10,c11,c12,h⟩:=h
 exact ⟨c0,c1,c2,c3,c4,c5,c6,c7,c8,c9,c10,c11,c12,h.cell 0,h.cell 1,h.cell 2,h.cell 3,h.cell 4,h.cell 5,h.cell 6,h.cell 7,h.cell 8,h.cell 9,h.cell 10,h.cell 11,h.cell 12⟩
theorem Room.frees {w:World}{b:Nat}(h:Room w b):w.frozen? ⟨b,0,none⟩=false/\w.frozen? ⟨b,1,none⟩=false/\w.frozen? ⟨b,2,none⟩=false/\w.frozen? ⟨b,3,none⟩=false/\w.frozen? ⟨b,4,none⟩=false/\w.frozen? ⟨b,5,none⟩=false/\w.frozen? ⟨b,6,none⟩=false/\w.frozen? ⟨b,7,none⟩=false/\w.frozen? ⟨b,8,none⟩=false/\w.frozen? ⟨b,9,none⟩=false/\w.frozen? ⟨b,10,none⟩=false/\w.frozen? ⟨b,11,none⟩=false/\w.frozen? ⟨b,12,none⟩=false:=by
 obtain ⟨c0,c1,c2,c3,c4,c5,c6,c7,c8,c9,c10,c11,c12,h⟩:=h
 exact ⟨h.free 0,h.free 1,h.free 2,h.free 3,h.free 4,h.free 5,h.free 6,h.free 7,h.free 8,h.free 9,h.free 10,h.free 11,h.free 12⟩
theorem setM {x:World}{b:Nat}(h:Room x b)(ov av:Value)(m:PMsg):∃W,(((((((((((((x.setCell ⟨b,0,none⟩ (.int .i64 m.kind)).setCell ⟨b,1,none⟩ (.int .i64 m.client)).setCell ⟨b,2,none⟩ (.int .i64 m.ask.kind)).setCell ⟨b,3,none⟩ (.int .i64 m.ask.token)).setCell ⟨b,4,none⟩ (.int .i64 m.ask.session)).setCell ⟨b,5,none⟩ (.int .i64 m.ask.number)).setCell ⟨b,6,none⟩ (.int .i64 m.ask.mark)).setCell ⟨b,7,none⟩ ov).setCell ⟨b,8,none⟩ (.int .i64 m.tell.kind)).setCell ⟨b,9,none⟩ (.int .i64 m.tell.token)).setCell ⟨b,10,none⟩ (.int .i64 m.tell.session)).setCell ⟨b,11,none⟩ (.int .i64 m.tell.number)).setCell ⟨b,12,none⟩ av)=W/\Hid (MB W b ov av m/\x.grownBy W (some b)):=by
 obtain ⟨c0,c1,c2,c3,c4,c5,c6,c7,c8,c9,c10,c11,c12,h⟩:=h
 obtain ⟨W,hW,H⟩:=set13 h (.int .i64 m.kind) (.int .i64 m.client) (.int .i64 m.ask.kind) (.int .i64 m.ask.token) (.int .i64 m.ask.session) (.int .i64 m.ask.number) (.int .i64 m.ask.mark) (ov) (.int .i64 m.tell.kind) (.int .i64 m.tell.token) (.int .i64 m.tell.session) (.int .i64 m.tell.number) (av)
 exact ⟨W,hW,H⟩
theorem MB.but {w w':World}{b c:Nat}{ov av:Value}{m:PMsg}(h:MB w b ov av m)(hg:w.grownBy w' (some c))(hc:c≠b):MB w' b ov av m:=Blk.grown h hg (by simpa using hc)
theorem begun59_1 (c s:Int)(w:World):Calls Tryz.prog 59 #[.int .i64 1,.int .i64 c,.int .i64 s] w fun e w'=>e=.returned (.agg #[.int .i64 1,.int .i64 c,.int .i64 s,.int .i64 0,.int .i64 0,.int .i64 0,.int .i64 0,.slice none 0 0,.int .i64 0,.int .i64 0,.int .i64 0,.int .i64 0,.slice none 0 0])/\w.grownBy w' none:=by
 go_enter Tryz.func59,Tryz.ntmps59
 go_upto_region 2 with fail
 obtain ⟨W,hW,HW⟩:=al2' w #[.int .i64 0,.int .i64 0,.int .i64 0,.int .i64 0,.int .i64 0,.int .i64 0,.int .i64 0,.slice none 0 0,.int .i64 0,.int .i64 0,.int .i64 0,.int .i64 0,.slice none 0 0] #[.int .i64 1,.int .i64 c,.int .i64 0,.int .i64 0,.int .i64 0,.int .i64 0,.int .i64 0,.slice none 0 0,.int .i64 0,.int .i64 0,.int .i64 0,.int .i64 0,.slice none 0 0] 34 34
 rw [hW]
 clear hW
 have R0:Hid (Room W w.heap.size):=room_lit HW.out.1
 have a0:=HW.out.2.1.cell 2
 have z0:=HW.out.2.1.free 2
 simp at a0
 go_upto_region 7 with fail
 have H2:Hid (Blk (W.setCell ⟨w.heap.size+1,2,none⟩ (.int .i64 s)) (w.heap.size+1) 34 #[.int .i64 1,.int .i64 c,.int .i64 s,.int .i64 0,.int .i64 0,.int .i64 0,.int .i64 0,.slice none 0 0,.int .i64 0,.int .i64 0,.int .i64 0,.int .i64 0,.slice none 0 0]/\Room (W.setCell ⟨w.heap.size+1,2,none⟩ (.int .i64 s)) w.heap.size/\w.grownBy (W.setCell ⟨w.heap.size+1,2,none⟩ (.int .i64 s)) none) :=
  ⟨HW.out.2.1.store 2 _,R0.out.but (grown_setCell _ _ _ _) (by omega),grown_new HW.out.2.2.1 (grown_setCell _ _ _ _) (by intro x hx;simp at hx;omega)⟩
 generalize W.setCell ⟨w.heap.size+1,2,none⟩ (.int .i64 s)=X at H2 ⊢
 clear HW R0 a0 z0
 have y0:=H2.out.1.cell 0
 have y1:=H2.out.1.cell 1
 have y2:=H2.out.1.cell 2
 have y3:=H2.out.1.cell 3
 have y4:=H2.out.1.cell 4
 have y5:=H2.out.1.cell 5
 have y6:=H2.out.1.cell 6
 have y7:=H2.out.1.cell 7
 have y8:=H2.out.1.cell 8
 have y9:=H2.out.1.cell 9
 have y10:=H2.out.1.cell 10
 have y11:=H2.out.1.cell 11
 have y12:=H2.out.1.cell 12
 simp at y0 y1 y2 y3 y4 y5 y6 y7 y8 y9 y10 y11 y12
 obtain ⟨r0,r1,r2,r3,r4,r5,r6,r7,r8,r9,r10,r11,r12,u0,u1,u2,u3,u4,u5,u6,u7,u8,u9,u10,u11,u12⟩:=H2.out.2.1.cells
 obtain ⟨z0,z1,z2,z3,z4,z5,z6,z7,z8,z9,z10,z11,z12⟩:=H2.out.2.1.frees
 go_wp2_with fail
 obtain ⟨RC,hRC⟩:=H2.out.2.1
 obtain ⟨W6,hW6,H6⟩:=(by obtain ⟨e1,e2,e3,e4,e5,e6,e7,e8,e9,e10,e11,e12,h⟩:=hRC;exact set13 h (.int .i64 1) (.int .i64 c) (.int .i64 s) (.int .i64 0) (.int .i64 0) (.int .i64 0) (.int .i64 0) (.slice none 0 0) (.int .i64 0) (.int .i64 0) (.int .i64 0) (.int .i64 0) (.slice none 0 0):∃W6,(((((((((((((X.setCell ⟨w.heap.size,0,none⟩ (.int .i64 1)).setCell ⟨w.heap.size,1,none⟩ (.int .i64 c)).setCell ⟨w.heap.size,2,none⟩ (.int .i64 s)).setCell ⟨w.heap.size,3,none⟩ (.int .i64 0)).setCell ⟨w.heap.size,4,none⟩ (.int .i64 0)).setCell ⟨w.heap.size,5,none⟩ (.int .i64 0)).setCell ⟨w.heap.size,6,none⟩ (.int .i64 0)).setCell ⟨w.heap.size,7,none⟩ (.slice none 0 0)).setCell ⟨w.heap.size,8,none⟩ (.int .i64 0)).setCell ⟨w.heap.size,9,none⟩ (.int .i64 0)).setCell ⟨w.heap.size,10,none⟩ (.int .i64 0)).setCell ⟨w.heap.size,11,none⟩ (.int .i64 0)).setCell ⟨w.heap.size,12,none⟩ (.slice none 0 0))=W6/\Hid (Blk W6 w.heap.size 34 #[.int .i64 1,.int .i64 c,.int .i64 s,.int .i64 0,.int .i64 0,.int .i64 0,.int .i64 0,.slice none 0 0,.int .i64 0,.int .i64 0,.int .i64 0,.int .i64 0,.slice none 0 0]/\X.grownBy W6 (some w.heap.size)))
 rw [hW6]
 clear hW6
 refine bodyPost_ret (v:=_) (results_cell_row rfl _ _ w.heap.size 34 _ (0,0) _ rfl H6.out.1 Tryz.underlying34 rfl (by kernel_rfl)) rfl ?_
 exact ⟨rfl,grown_new H2.out.2.2 H6.out.2 (by intro x hx;simp at hx;omega)⟩
theorem begun59_2 (c s:Int)(w:World):Calls Tryz.prog 59 #[.int .i64 2,.int .i64 c,.int .i64 s] w fun e w'=>e=.returned (.agg #[.int .i64 2,.int .i64 c,.int .i64 0,.int .i64 0,.int .i64 0,.int .i64 0,.int .i64 0,.slice none 0 0,.int .i64 s,.int .i64 0,.int .i64 0,.int .i64 0,.slice none 0 0])/\w.grownBy w' none:=by
 go_enter Tryz.func59,Tryz.ntmps59
 go_upto_region 2 with fail
 obtain ⟨W,hW,HW⟩:=al2' w #[.int .i64 0,.int .i64 0,.int .i64 0,.int .i64 0,.int .i64 0,.int .i64 0,.int .i64 0,.slice none 0 0,.int .i64 0,.int .i64 0,.int .i64 0,.int .i64 0,.slice none 0 0] #[.int .i64 2,.int .i64 c,.int .i64 0,.int .i64 0,.int .i64 0,.int .i64 0,.int .i64 0,.slice none 0 0,.int .i64 0,.int .i64 0,.int .i64 0,.int .i64 0,.slice none 0 0] 34 34
 rw [hW]
 clear hW
 have R0:Hid (Room W w.heap.size):=room_lit HW.out.1
 have a0:=HW.out.2.1.cell 8
 have z0:=HW.out.2.1.free 8
 simp at a0
 go_upto_region 7 with fail
 have H2:Hid (Blk (W.setCell ⟨w.heap.size+1,8,none⟩ (.int .i64 s)) (w.heap.size+1) 34 #[.int .i64 2,.int .i64 c,.int .i64 0,.int .i64 0,.int .i64 0,.int .i64 0,.int .i64 0,.slice none 0 0,.int .i64 s,.int .i64 0,.int .i64 0,.int .i64 0,.slice none 0 0]/\Room (W.setCell ⟨w.heap.size+1,8,none⟩ (.int .i64 s)) w.heap.size/\w.grownBy (W.setCell ⟨w.heap.size+1,8,none⟩ (.int .i64 s)) none) :=
  ⟨HW.out.2.1.store 8 _,R0.out.but (grown_setCell _ _ _ _) (by omega),grown_new HW.out.2.2.1 (grown_setCell _ _ _ _) (by intro x hx;simp at hx;omega)⟩
 generalize W.setCell ⟨w.heap.size+1,8,none⟩ (.int .i64 s)=X at H2 ⊢
 clear HW R0 a0 z0
 have y0:=H2.out.1.cell 0
 have y1:=H2.out.1.cell 1
 have y2:=H2.out.1.cell 2
 have y3:=H2.out.1.cell 3
 have y4:=H2.out.1.cell 4
 have y5:=H2.out.1.cell 5
 have y6:=H2.out.1.cell 6
 have y7:=H2.out.1.cell 7
 have y8:=H2.out.1.cell 8
 have y9:=H2.out.1.cell 9
 have y10:=H2.out.1.cell 10
 have y11:=H2.out.1.cell 11
 have y12:=H2.out.1.cell 12
 simp at y0 y1 y2 y3 y4 y5 y6 y7 y8 y9 y10 y11 y12
 obtain ⟨r0,r1,r2,r3,r4,r5,r6,r7,r8,r9,r10,r11,r12,u0,u1,u2,u3,u4,u5,u6,u7,u8,u9,u10,u11,u12⟩:=H2.out.2.1.cells
 obtain ⟨z0,z1,z2,z3,z4,z5,z6,z7,z8,z9,z10,z11,z12⟩:=H2.out.2.1.frees
 go_wp2_with fail
 obtain ⟨RC,hRC⟩:=H2.out.2.1
 obtain ⟨W6,hW6,H6⟩:=(by obtain ⟨e1,e2,e3,e4,e5,e6,e7,e8,e9,e10,e11,e12,h⟩:=hRC;exact set13 h (.int .i64 2) (.int .i64 c) (.int .i64 0) (.int .i64 0) (.int .i64 0) (.int .i64 0) (.int .i64 0) (.slice none 0 0) (.int .i64 s) (.int .i64 0) (.int .i64 0) (.int .i64 0) (.slice none 0 0):∃W6,(((((((((((((X.setCell ⟨w.heap.size,0,none⟩ (.int .i64 2)).setCell ⟨w.heap.size,1,none⟩ (.int .i64 c)).setCell ⟨w.heap.size,2,none⟩ (.int .i64 0)).setCell ⟨w.heap.size,3,none⟩ (.int .i64 0)).setCell ⟨w.heap.size,4,none⟩ (.int .i64 0)).setCell ⟨w.heap.size,5,none⟩ (.int .i64 0)).setCell ⟨w.heap.size,6,none⟩ (.int .i64 0)).setCell ⟨w.heap.size,7,none⟩ (.slice none 0 0)).setCell ⟨w.heap.size,8,none⟩ (.int .i64 s)).setCell ⟨w.heap.size,9,none⟩ (.int .i64 0)).setCell ⟨w.heap.size,10,none⟩ (.int .i64 0)).setCell ⟨w.heap.size,11,none⟩ (.int .i64 0)).setCell ⟨w.heap.size,12,none⟩ (.slice none 0 0))=W6/\Hid (Blk W6 w.heap.size 34 #[.int .i64 2,.int .i64 c,.int .i64 0,.int .i64 0,.int .i64 0,.int .i64 0,.int .i64 0,.slice none 0 0,.int .i64 s,.int .i64 0,.int .i64 0,.int .i64 0,.slice none 0 0]/\X.grownBy W6 (some w.heap.size)))
 rw [hW6]
 clear hW6
 refine bodyPost_ret (v:=_) (results_cell_row rfl _ _ w.heap.size 34 _ (0,0) _ rfl H6.out.1 Tryz.underlying34 rfl (by kernel_rfl)) rfl ?_
 exact ⟨rfl,grown_new H2.out.2.2 H6.out.2 (by intro x hx;simp at hx;omega)⟩
theorem begun59_0 (k c s:Int)(h1:(k==1)=false)(h2:(k==2)=false)(w:World):Calls Tryz.prog 59 #[.int .i64 k,.int .i64 c,.int .i64 s] w fun e w'=>e=.returned (.agg #[.int .i64 k,.int .i64 c,.int .i64 0,.int .i64 0,.int .i64 0,.int .i64 0,.int .i64 0,.slice none 0 0,.int .i64 0,.int .i64 0,.int .i64 0,.int .i64 0,.slice none 0 0])/\w.grownBy w' none:=by
 go_enter Tryz.func59,Tryz.ntmps59
 go_upto_region 2 with fail
 obtain ⟨W,hW,HW⟩:=al2' w #[.int .i64 0,.int .i64 0,.int .i64 0,.int .i64 0,.int .i64 0,.int .i64 0,.int .i64 0,.slice none 0 0,.int .i64 0,.int .i64 0,.int .i64 0,.int .i64 0,.slice none 0 0] #[.int .i64 k,.int .i64 c,.int .i64 0,.int .i64 0,.int .i64 0,.int .i64 0,.int .i64 0,.slice none 0 0,.int .i64 0,.int .i64 0,.int .i64 0,.int .i64 0,.slice none 0 0] 34 34
 rw [hW]
 clear hW
 have R0:Hid (Room W w.heap.size):=room_lit HW.out.1
 have q1:=h1
 have q2:=h2
 go_upto_region 7 with fail
 have H2:Hid (Blk W (w.heap.size+1) 34 #[.int .i64 k,.int .i64 c,.int .i64 0,.int .i64 0,.int .i64 0,.int .i64 0,.int .i64 0,.slice none 0 0,.int .i64 0,.int .i64 0,.int .i64 0,.int .i64 0,.slice none 0 0]/\Room W w.heap.size/\w.grownBy W none):=⟨HW.out.2.1,R0.out,HW.out.2.2.1⟩
 clear HW R0
 have y0:=H2.out.1.cell 0
 have y1:=H2.out.1.cell 1
 have y2:=H2.out.1.cell 2
 have y3:=H2.out.1.cell 3
 have y4:=H2.out.1.cell 4
 have y5:=H2.out.1.cell 5
 have y6:=H2.out.1.cell 6
 have y7:=H2.out.1.cell 7
 have y8:=H2.out.1.cell 8
 have y9:=H2.out.1.cell 9
 have y10:=H2.out.1.cell 10
 have y11:=H2.out.1.cell 11
 have y12:=H2.out.1.cell 12
 simp at y0 y1 y2 y3 y4 y5 y6 y7 y8 y9 y10 y11 y12
 obtain ⟨r0,r1,r2,r3,r4,r5,r6,r7,r8,r9,r10,r11,r12,u0,u1,u2,u3,u4,u5,u6,u7,u8,u9,u10,u11,u12⟩:=H2.out.2.1.cells
 obtain ⟨z0,z1,z2,z3,z4,z5,z6,z7,z8,z9,z10,z11,z12⟩:=H2.out.2.1.frees
 go_wp2_with fail
 obtain ⟨RC,hRC⟩:=H2.out.2.1
 obtain ⟨W6,hW6,H6⟩:=(by obtain ⟨e1,e2,e3,e4,e5,e6,e7,e8,e9,e10,e11,e12,h⟩:=hRC;exact set13 h (.int .i64 k) (.int .i64 c) (.int .i64 0) (.int .i64 0) (.int .i64 0) (.int .i64 0) (.int .i64 0) (.slice none 0 0) (.int .i64 0) (.int .i64 0) (.int .i64 0) (.int .i64 0) (.slice none 0 0):∃W6,(((((((((((((W.setCell ⟨w.heap.size,0,none⟩ (.int .i64 k)).setCell ⟨w.heap.size,1,none⟩ (.int .i64 c)).setCell ⟨w.heap.size,2,none⟩ (.int .i64 0)).setCell ⟨w.heap.size,3,none⟩ (.int .i64 0)).setCell ⟨w.heap.size,4,none⟩ (.int .i64 0)).setCell ⟨w.heap.size,5,none⟩ (.int .i64 0)).setCell ⟨w.heap.size,6,none⟩ (.int .i64 0)).setCell ⟨w.heap.size,7,none⟩ (.slice none 0 0)).setCell ⟨w.heap.size,8,none⟩ (.int .i64 0)).setCell ⟨w.heap.size,9,none⟩ (.int .i64 0)).setCell ⟨w.heap.size,10,none⟩ (.int .i64 0)).setCell ⟨w.heap.size,11,none⟩ (.int .i64 0)).setCell ⟨w.heap.size,12,none⟩ (.slice none 0 0))=W6/\Hid (Blk W6 w.heap.size 34 #[.int .i64 k,.int .i64 c,.int .i64 0,.int .i64 0,.int .i64 0,.int .i64 0,.int .i64 0,.slice none 0 0,.int .i64 0,.int .i64 0,.int .i64 0,.int .i64 0,.slice none 0 0]/\W.grownBy W6 (some w.heap.size)))
 rw [hW6]
 clear hW6
 refine bodyPost_ret (v:=_) (results_cell_row rfl _ _ w.heap.size 34 _ (0,0) _ rfl H6.out.1 Tryz.underlying34 rfl (by kernel_rfl)) rfl ?_
 exact ⟨rfl,grown_new H2.out.2.2 H6.out.2 (by intro x hx;simp at hx;omega)⟩
theorem begun59 (k c s:Int)(w:World):Calls Tryz.prog 59 #[.int .i64 k,.int .i64 c,.int .i64 s] w fun e w'=>e=.returned (msgV (.slice none 0 0) (.slice none 0 0) (beginM k c s))/\w.grownBy w' none:=by
 by_cases h1:k=1
 ·subst h1;exact begun59_1 c s w
 by_cases h2:k=2
 ·subst h2;exact begun59_2 c s w
 have:=begun59_0 k c s (by simp [h1]) (by simp [h2]) w
 unfold msgV beginM
 simp only [if_neg h1,if_neg h2]
 exact this
end Go.Proofs.YtncbdhdfemidlaaGreat
