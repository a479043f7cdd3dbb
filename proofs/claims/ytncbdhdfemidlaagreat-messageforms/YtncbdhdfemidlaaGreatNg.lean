import Derived.Test.YtncbdhdfemidlaaGreatNf
import Derived.Deep.CutBlock
set_option maxHeartbeats 8000000
set_option maxRecDepth 100000
namespace Go.Proofs.YtncbdhdfemidlaaGreat
open Go.RowKit Disk
open _root_.Go.Proofs.YtncbdhdfemidlaaGreat.Calls _root_.Go.Proofs.YtncbdhdfemidlaaGreat.Command
theorem read20_ask (v:Value)(k0 c0 s0:UInt8)(M:Bs)(w:World)(hs:Seg w v (k0 :: c0 :: s0 :: M))(hz:(k0 :: c0 :: s0 :: M).length<=140737488354304)(hk:(k0.toNat:Int)=1):Calls Tryz.prog 20 #[v] w (ReadMP (k0 :: c0 :: s0 :: M) w):=by
 have HS:Hid (Seg w v (k0 :: c0 :: s0 :: M)):=hs
 obtain ⟨lo,lc,rfl,_,_,_,hcs⟩:=hs
 obtain ⟨lb,off,rfl,x0⟩:=hcs 0 (by simp)
 obtain ⟨_,_,e1,x1⟩:=hcs 1 (by simp)
 obtain ⟨_,_,e2,x2⟩:=hcs 2 (by simp)
 simp only [Option.some.injEq,Addr.mk.injEq] at e1 e2
 obtain ⟨rfl,rfl,_⟩:=e1
 obtain ⟨rfl,rfl,_⟩:=e2
 simp only [List.getElem_cons_zero,List.getElem_cons_succ,Nat.add_zero] at x0 x1 x2
 have hk256:=k0.toNat_lt
 have hc256:=c0.toNat_lt
 have hs256:=s0.toNat_lt
 have wc0:IntKind.i64.wrap (c0.toNat:Int)=(c0.toNat:Int):=by rw [IntKind.wrap_i64];omega
 have ws0:IntKind.i64.wrap (s0.toNat:Int)=(s0.toNat:Int):=by rw [IntKind.wrap_i64];omega
 obtain ⟨ln,hln⟩:∃y,(k0 :: c0 :: s0 :: M).length=y:=⟨_,rfl⟩
 have HLN:Hid ((k0 :: c0 :: s0 :: M).length=ln/\ln<=140737488354304):=⟨hln,by omega⟩
 have l3:3<=ln:=by rw [<-hln];simp
 have l1:((ln:Int)<3)=False:=eq_false (by omega)
 have l2:(ln<3)=False:=eq_false (by omega)
 have HX:Hid (∀y,w.grownBy y none->y.cell? ⟨lb,off,none⟩=some (.int .u8 (k0.toNat:Int))/\y.cell? ⟨lb,off+1,none⟩=some (.int .u8 (c0.toNat:Int))/\y.cell? ⟨lb,off+2,none⟩=some (.int .u8 (s0.toNat:Int))):=fun y hy=>⟨hy.cell x0 (by simp),hy.cell x1 (by simp),hy.cell x2 (by simp)⟩
 clear hcs hz x0 x1 x2
 rw [hk] at HX
 have HK:Hid ((k0.toNat:Int)=1):=hk
 clear hk hk256
 rw [hln] at HS ⊢
 clear hln
 go_enter Tryz.func20,Tryz.ntmps20
 go_upto_region 3 with fail
 obtain ⟨W1,hW1,H1⟩:=al1' w #[.int .i64 0,.int .i64 0,.int .i64 0,.int .i64 0,.int .i64 0,.int .i64 0,.int .i64 0,.slice none 0 0,.int .i64 0,.int .i64 0,.int .i64 0,.int .i64 0,.slice none 0 0] 34
 rw [hW1]
 clear hW1
 obtain ⟨x0,x1,x2⟩:=HX.out W1 H1.out.2.1
 go_upto_region 4 with fail
 obtain ⟨W2,hW2,H2⟩:=al1' W1 #[.int .i64 0,.int .i64 (c0.toNat:Int),.int .i64 0,.int .i64 0,.int .i64 0,.int .i64 0,.int .i64 0,.slice none 0 0,.int .i64 0,.int .i64 0,.int .i64 0,.int .i64 0,.slice none 0 0] 34
 rw [hW2]
 obtain ⟨X,hX⟩:∃y,W1.heap.size=y:=⟨_,rfl⟩
 rw [hX] at H2 ⊢
 have H2':Hid (Room W2 w.heap.size/\MB W2 X (.slice none 0 0) (.slice none 0 0) ⟨0,(c0.toNat:Int),zeroC,zeroR⟩/\w.grownBy W2 none/\w.heap.size<X):=⟨(room_lit H1.out.1).grown H2.out.2.1,H2.out.1,grown_trans H1.out.2.1 H2.out.2.1,by have:=H1.out.2.2;omega⟩
 clear hW2 hX x0 x1 x2 H1 H2
 have HSG:Hid (Seg W2 (.slice (some ⟨lb,off,none⟩) ln lc) (k0 :: c0 :: s0 :: M)):=HS.out.grown H2'.out.2.2.1
 go_wp2_with (at_builtin;refine app22 W2 rfl _ _ rfl W2.heap.size _ [] _ (k0 :: c0 :: s0 :: M) rfl rfl (Own.nil _ _) HSG.out ?c0 (Nat.le_refl _) ?_)
 case c0=>have:=HLN.out;simp at this ⊢;omega
 intro v3 w3 hv hg _
 try rw [List.nil_append] at hv
 obtain ⟨ao',cap,hvs⟩:=hv.seg.shape
 rw [HLN.out.1] at hvs
 subst hvs
 have hg3:W2.grownBy w3 none:=hg
 have H3:Hid (Room w3 w.heap.size/\MB w3 X (.slice none 0 0) (.slice none 0 0) ⟨0,(c0.toNat:Int),zeroC,zeroR⟩/\w.grownBy w3 none/\w.heap.size<X/\Own w3 W2.heap.size (.slice ao' ln cap) (k0 :: c0 :: s0 :: M)):=⟨H2'.out.1.grown hg3,H2'.out.2.1.grown hg3,grown_trans H2'.out.2.2.1 hg3,H2'.out.2.2.2,hv⟩
 clear hv hg hg3 H2' HSG
 go_upto_region 5 with fail
 obtain ⟨W4,hW4,H4⟩:=al1' w3 #[.slice ao' ln cap,.int .i64 3] 79
 rw [hW4]
 obtain ⟨d,hd⟩:∃y,w3.heap.size=y:=⟨_,rfl⟩
 rw [hd] at H4 ⊢
 clear hW4
 go_upto_region 7 with fail
 obtain ⟨W5,hW5,H5⟩:=al1' W4 #[.bool true] 4
 rw [hW5]
 obtain ⟨ob,hob⟩:∃y,W4.heap.size=y:=⟨_,rfl⟩
 rw [hob] at H5 ⊢
 clear hW5
 have HD0:Hid (DS w W5 X d ob ao' cap (k0 :: c0 :: s0 :: M) 3 true (.slice none 0 0) (.slice none 0 0) ⟨0,(c0.toNat:Int),zeroC,zeroR⟩):=by
  have g:=grown_trans H4.out.2.1 H5.out.2.1
  have s1:=H3.out.2.2.1.size
  have s2:=H4.out.2.1.size
  refine ⟨H3.out.1.grown g,H3.out.2.1.grown g,opsOwn_nil _ _,Own.nil _ _,⟨?_,?_,H5.out.1,by simp,by have:=HLN.out;omega⟩,grown_trans H3.out.2.2.1 g,H3.out.2.2.2.1,by omega,by omega⟩
  ·rw [HLN.out.1];exact (H3.out.2.2.2.2.grown g).seg
  ·rw [HLN.out.1];exact H4.out.1.grown H5.out.2.1 (by simp)
 clear H3 H4 H5 hd hob HS
 have m0:=HD0.out.mb.cells.1
 have f0:=HD0.out.mb.free 0
 obtain ⟨x0,x1,x2⟩:=HX.out W5 HD0.out.gr
 go_upto_region 9 with fail
 have HD1:Hid (DS w (W5.setCell ⟨X,0,none⟩ (.int .i64 1)) X d ob ao' cap (k0 :: c0 :: s0 :: M) 3 true (.slice none 0 0) (.slice none 0 0) ⟨1,(c0.toNat:Int),zeroC,zeroR⟩):=HD0.out.store (grown_setCell _ _ _ _) (Blk.store HD0.out.mb 0 _) (opsOwn_nil _ _) (Own.nil _ _)
 generalize W5.setCell ⟨X,0,none⟩ (.int .i64 1)=w6 at HD1 ⊢
 clear HD0 m0 f0 x0 x1 x2
 have m2:=HD1.out.mb.cells.2.2.1
 have f2:=HD1.out.mb.free 2
 obtain ⟨x0,x1,x2⟩:=HX.out w6 HD1.out.gr
 go_upto_region 10 with fail
 have HD2:Hid (DS w (w6.setCell ⟨X,2,none⟩ (.int .i64 (s0.toNat:Int))) X d ob ao' cap (k0 :: c0 :: s0 :: M) 3 true (.slice none 0 0) (.slice none 0 0) (beginM 1 (c0.toNat:Int) (s0.toNat:Int))):=HD1.out.store (grown_setCell _ _ _ _) (Blk.store HD1.out.mb 2 _) (opsOwn_nil _ _) (Own.nil _ _)
 generalize w6.setCell ⟨X,2,none⟩ (.int .i64 (s0.toNat:Int))=w7 at HD2 ⊢
 clear HD1 m2 f2 x0 x1 x2
 have HI2:Hid (Inv (beginM 1 (c0.toNat:Int) (s0.toNat:Int)) M (fld (beginM 1 (c0.toNat:Int) (s0.toNat:Int))) (beginM 1 (c0.toNat:Int) (s0.toNat:Int)) ((k0 :: c0 :: s0 :: M).drop 3) true):=inv_start _ _
 have m2:=HD2.out.mb.cells.2.2.1
 unfold beginM at m2
 simp only [if_pos] at m2
 obtain ⟨ss,hss⟩:∃y:Int,(s0.toNat:Int)=y:=⟨_,rfl⟩
 rw [hss] at m2 HD2 HI2
 go_upto_block 0 with fail
 go_cut [7] (fun x wc=>∃(op b:Bool) (k:Nat) (uo:Option Addr) (un uc:Nat) (vo:Option Addr) (vn vc:Nat) (r:PMsg),x=.bool op/\DS w wc X d ob ao' cap (k0 :: c0 :: s0 :: M) k b (.slice uo un uc) (.slice vo vn vc) r/\Rel (k0 :: c0 :: s0 :: M) r k b op/\r.tell.answer.length<=140737488355328)
 case first =>
  by_cases q1:ss=1
  ·have HSS:Hid ((s0.toNat:Int)=1):=hss.trans q1
   subst q1
   clear hss
   have HI0:Hid (Inv (beginM 1 (c0.toNat:Int) 1) M [(3,1)] (beginM 1 (c0.toNat:Int) 1) ((k0 :: c0 :: s0 :: M).drop 3) true):=HI2.out
   clear HI2
   go_wp2_with fail
   refine (next41 d ob ao' cap (k0 :: c0 :: s0 :: M) 3 true w7 HD2.out.rk).mono ?_
   rintro e y0 ⟨nq0,kq0,bq0,rfl,hn0,hdk0,hst0⟩
   have HE0:Hid (DS w y0 X d ob ao' cap (k0 :: c0 :: s0 :: M) kq0 bq0 (.slice none 0 0) (.slice none 0 0) (beginM 1 (c0.toNat:Int) 1)):=HD2.out.next hdk0
   have HJ0:Hid (Inv (beginM 1 (c0.toNat:Int) 1) M [] (setV (beginM 1 (c0.toNat:Int) 1) 3 nq0) ((k0 :: c0 :: s0 :: M).drop kq0) bq0):=HI0.out.step hst0
   clear hdk0 hst0
   have sq0:=HE0.out.mb.at (show isOff 3 by unfold isOff;omega)
   have zq0:=HE0.out.mb.free 3
   go_wp2_with fail
   have HF0:Hid (DS w (y0.setCell ⟨X,3,none⟩ (.int .i64 (nq0:Int))) X d ob ao' cap (k0 :: c0 :: s0 :: M) kq0 bq0 (.slice none 0 0) (.slice none 0 0) (setV (beginM 1 (c0.toNat:Int) 1) 3 nq0)):=HE0.out.num (by unfold isOff;omega) _
   generalize y0.setCell ⟨X,3,none⟩ (.int .i64 (nq0:Int))=v0 at HF0 ⊢
   clear HE0 sq0 zq0
   go_meet
   case rel=>exact ⟨false,bq0,kq0,none,0,0,none,0,0,(setV (beginM 1 (c0.toNat:Int) 1) 3 nq0),rfl,HF0.out,rel_plain (by rw [HK.out,HSS.out];rfl) (by rw [HK.out,HSS.out];rfl) (by rw [HK.out,HSS.out];exact HJ0.out),by simp [beginM,setV]⟩
  by_cases q3:ss=3
  ·have HSS:Hid ((s0.toNat:Int)=3):=hss.trans q3
   subst q3
   clear hss
   have HI0:Hid (Inv (beginM 1 (c0.toNat:Int) 3) M [(4,1)] (beginM 1 (c0.toNat:Int) 3) ((k0 :: c0 :: s0 :: M).drop 3) true):=HI2.out
   clear HI2
   go_wp2_with fail
   refine (next41 d ob ao' cap (k0 :: c0 :: s0 :: M) 3 true w7 HD2.out.rk).mono ?_
   rintro e y0 ⟨nq0,kq0,bq0,rfl,hn0,hdk0,hst0⟩
   have HE0:Hid (DS w y0 X d ob ao' cap (k0 :: c0 :: s0 :: M) kq0 bq0 (.slice none 0 0) (.slice none 0 0) (beginM 1 (c0.toNat:Int) 3)):=HD2.out.next hdk0
   have HJ0:Hid (Inv (beginM 1 (c0.toNat:Int) 3) M [] (setV (beginM 1 (c0.toNat:Int) 3) 4 nq0) ((k0 :: c0 :: s0 :: M).drop kq0) bq0):=HI0.out.step hst0
   clear hdk0 hst0
   have sq0:=HE0.out.mb.at (show isOff 4 by unfold isOff;omega)
   have zq0:=HE0.out.mb.free 4
   go_wp2_with fail
   have HF0:Hid (DS w (y0.setCell ⟨X,4,none⟩ (.int .i64 (nq0:Int))) X d ob ao' cap (k0 :: c0 :: s0 :: M) kq0 bq0 (.slice none 0 0) (.slice none 0 0) (setV (beginM 1 (c0.toNat:Int) 3) 4 nq0)):=HE0.out.num (by unfold isOff;omega) _
   generalize y0.setCell ⟨X,4,none⟩ (.int .i64 (nq0:Int))=v0 at HF0 ⊢
   clear HE0 sq0 zq0
   go_meet
   case rel=>exact ⟨false,bq0,kq0,none,0,0,none,0,0,(setV (beginM 1 (c0.toNat:Int) 3) 4 nq0),rfl,HF0.out,rel_plain (by rw [HK.out,HSS.out];rfl) (by rw [HK.out,HSS.out];rfl) (by rw [HK.out,HSS.out];exact HJ0.out),by simp [beginM,setV]⟩
  by_cases q2:ss=2
  ·have HSS:Hid ((s0.toNat:Int)=2):=hss.trans q2
   subst q2
   clear hss
   have HI0:Hid (Inv (beginM 1 (c0.toNat:Int) 2) M [(4,1),(5,1),(6,0)] (beginM 1 (c0.toNat:Int) 2) ((k0 :: c0 :: s0 :: M).drop 3) true):=HI2.out
   clear HI2
   go_wp2_with fail
   refine (next41 d ob ao' cap (k0 :: c0 :: s0 :: M) 3 true w7 HD2.out.rk).mono ?_
   rintro e y0 ⟨nq0,kq0,bq0,rfl,hn0,hdk0,hst0⟩
   have HE0:Hid (DS w y0 X d ob ao' cap (k0 :: c0 :: s0 :: M) kq0 bq0 (.slice none 0 0) (.slice none 0 0) (beginM 1 (c0.toNat:Int) 2)):=HD2.out.next hdk0
   have HJ0:Hid (Inv (beginM 1 (c0.toNat:Int) 2) M [(5,1),(6,0)] (setV (beginM 1 (c0.toNat:Int) 2) 4 nq0) ((k0 :: c0 :: s0 :: M).drop kq0) bq0):=HI0.out.step hst0
   clear hdk0 hst0
   have sq0:=HE0.out.mb.at (show isOff 4 by unfold isOff;omega)
   have zq0:=HE0.out.mb.free 4
   go_wp2_with fail
   have HF0:Hid (DS w (y0.setCell ⟨X,4,none⟩ (.int .i64 (nq0:Int))) X d ob ao' cap (k0 :: c0 :: s0 :: M) kq0 bq0 (.slice none 0 0) (.slice none 0 0) (setV (beginM 1 (c0.toNat:Int) 2) 4 nq0)):=HE0.out.num (by unfold isOff;omega) _
   generalize y0.setCell ⟨X,4,none⟩ (.int .i64 (nq0:Int))=v0 at HF0 ⊢
   clear HE0 sq0 zq0
   refine (next41 d ob ao' cap (k0 :: c0 :: s0 :: M) kq0 bq0 v0 HF0.out.rk).mono ?_
   rintro e y1 ⟨nq1,kq1,bq1,rfl,hn1,hdk1,hst1⟩
   have HE1:Hid (DS w y1 X d ob ao' cap (k0 :: c0 :: s0 :: M) kq1 bq1 (.slice none 0 0) (.slice none 0 0) (setV (beginM 1 (c0.toNat:Int) 2) 4 nq0)):=HF0.out.next hdk1
   have HJ1:Hid (Inv (beginM 1 (c0.toNat:Int) 2) M [(6,0)] (setV (setV (beginM 1 (c0.toNat:Int) 2) 4 nq0) 5 nq1) ((k0 :: c0 :: s0 :: M).drop kq1) bq1):=HJ0.out.step hst1
   clear hdk1 hst1
   have sq1:=HE1.out.mb.at (show isOff 5 by unfold isOff;omega)
   have zq1:=HE1.out.mb.free 5
   go_wp2_with fail
   have HF1:Hid (DS w (y1.setCell ⟨X,5,none⟩ (.int .i64 (nq1:Int))) X d ob ao' cap (k0 :: c0 :: s0 :: M) kq1 bq1 (.slice none 0 0) (.slice none 0 0) (setV (setV (beginM 1 (c0.toNat:Int) 2) 4 nq0) 5 nq1)):=HE1.out.num (by unfold isOff;omega) _
   generalize y1.setCell ⟨X,5,none⟩ (.int .i64 (nq1:Int))=v1 at HF1 ⊢
   clear HE1 sq1 zq1
   refine (next41 d ob ao' cap (k0 :: c0 :: s0 :: M) kq1 bq1 v1 HF1.out.rk).mono ?_
   rintro e y2 ⟨nq2,kq2,bq2,rfl,hn2,hdk2,hst2⟩
   have HE2:Hid (DS w y2 X d ob ao' cap (k0 :: c0 :: s0 :: M) kq2 bq2 (.slice none 0 0) (.slice none 0 0) (setV (setV (beginM 1 (c0.toNat:Int) 2) 4 nq0) 5 nq1)):=HF1.out.next hdk2
   have HJ2:Hid (Inv (beginM 1 (c0.toNat:Int) 2) M [] (setV (setV (setV (beginM 1 (c0.toNat:Int) 2) 4 nq0) 5 nq1) 6 nq2) ((k0 :: c0 :: s0 :: M).drop kq2) bq2):=HJ1.out.step hst2
   clear hdk2 hst2
   have sq2:=HE2.out.mb.at (show isOff 6 by unfold isOff;omega)
   have zq2:=HE2.out.mb.free 6
   go_upto_region 19 with fail
   have HF2:Hid (DS w (y2.setCell ⟨X,6,none⟩ (.int .i64 (nq2:Int))) X d ob ao' cap (k0 :: c0 :: s0 :: M) kq2 bq2 (.slice none 0 0) (.slice none 0 0) (setV (setV (setV (beginM 1 (c0.toNat:Int) 2) 4 nq0) 5 nq1) 6 nq2)):=HE2.out.num (by unfold isOff;omega) _
   generalize y2.setCell ⟨X,6,none⟩ (.int .i64 (nq2:Int))=v2 at HF2 ⊢
   clear HE2 sq2 zq2
   have HKL:Hid (kq2<=ln):=by have:=HF2.out.rk.le;rw [HLN.out.1] at this;exact this
   obtain ⟨so,sn,sc,hsv⟩:∃so sn sc,sliced ao' kq2 ln cap 1=.slice so sn sc:=⟨_,_,_,rfl⟩
   have hsl:∀wk,(Instr.slice 30 (.slice ao' ln cap) (some (.int .i64 (kq2:Int))) none none).run Tryz.prog wk=.ok (.slice so sn sc) wk:=fun wk=>by rw [<-hsv];exact run_rest30 ao' ln cap kq2 HKL.out wk
   have HSG:Hid (Seg v2 (.slice so sn sc) ((k0 :: c0 :: s0 :: M).drop kq2)):=by
    have h:=HF2.out.rk.seg
    rw [HLN.out.1] at h
    have h2:=seg_rest HLN.out.1 kq2 (by rw [HLN.out.1];exact HKL.out) h
    rw [hsv] at h2
    exact h2
   clear hsv
   obtain ⟨t0,t1,t2,t3⟩:=HF2.out.cells
   rw [HLN.out.1] at t0
   go_wp2_with fail
   refine (read23 (.slice so sn sc) ((k0 :: c0 :: s0 :: M).drop kq2) v2 HSG.out (by have:=HLN.out;rw [List.length_drop];omega)).mono ?_
   rintro e y9 ⟨u,rfl,hu,hg9⟩
   obtain ⟨uo,un,uc,rfl,hun⟩:=hu.slice
   have HG9:Hid (DS w y9 X d ob ao' cap (k0 :: c0 :: s0 :: M) kq2 bq2 (.slice none 0 0) (.slice none 0 0) (setV (setV (setV (beginM 1 (c0.toNat:Int) 2) 4 nq0) 5 nq1) 6 nq2)/\OpsOwn y9 w.heap.size (.slice uo un uc) (readC ((k0 :: c0 :: s0 :: M).drop kq2)).1):=⟨HF2.out.grown hg9,hu.mono HF2.out.gr.size⟩
   obtain ⟨er,her⟩:∃y,(readC ((k0 :: c0 :: s0 :: M).drop kq2)).2=y:=⟨_,rfl⟩
   have HER:Hid ((readC ((k0 :: c0 :: s0 :: M).drop kq2)).2=er):=her
   rw [her]
   clear hu hun hg9 her t0 t1 t2 t3 HSG hsl
   go_upto_region 20 with fail
   obtain ⟨W8,hW8,H8⟩:=al1' y9 #[.slice uo un uc] 26
   rw [hW8]
   obtain ⟨q8,hq8⟩:∃y,y9.heap.size=y:=⟨_,rfl⟩
   rw [hq8] at H8 ⊢
   clear hW8 hq8
   have HGA:Hid (DS w W8 X d ob ao' cap (k0 :: c0 :: s0 :: M) kq2 bq2 (.slice none 0 0) (.slice none 0 0) (setV (setV (setV (beginM 1 (c0.toNat:Int) 2) 4 nq0) 5 nq1) 6 nq2)/\OpsOwn W8 w.heap.size (.slice uo un uc) (readC ((k0 :: c0 :: s0 :: M).drop kq2)).1):=⟨HG9.out.1.grown H8.out.2.1,HG9.out.2.grown H8.out.2.1⟩
   have t0:=H8.out.1.cell 0
   simp at t0
   have t1:=HGA.out.1.mb.cells.2.2.2.2.2.2.2.1
   have t2:=HGA.out.1.mb.free 7
   go_upto_region 21 with fail
   have HGB:Hid (DS w (W8.setCell ⟨X,7,none⟩ (.slice uo un uc)) X d ob ao' cap (k0 :: c0 :: s0 :: M) kq2 bq2 (.slice uo un uc) (.slice none 0 0) (setOps (setV (setV (setV (beginM 1 (c0.toNat:Int) 2) 4 nq0) 5 nq1) 6 nq2) (readC ((k0 :: c0 :: s0 :: M).drop kq2)).1)):=HGA.out.1.setO HGA.out.2
   generalize W8.setCell ⟨X,7,none⟩ (.slice uo un uc)=y10 at HGB ⊢
   clear HGA HG9 H8 t0 t1 t2
   obtain ⟨t0,t1,t2,t3⟩:=HGB.out.cells
   have HRC:Hid (Rel (k0 :: c0 :: s0 :: M) (setOps (setV (setV (setV (beginM 1 (c0.toNat:Int) 2) 4 nq0) 5 nq1) 6 nq2) (readC ((k0 :: c0 :: s0 :: M).drop kq2)).1) kq2 (bq2 && (er==0)) true):=by rw [<-HER.out];exact rel_call (by rw [HK.out,HSS.out];rfl) (by rw [HK.out,HSS.out];exact HJ2.out)
   have HAA:Hid ((setOps (setV (setV (setV (beginM 1 (c0.toNat:Int) 2) 4 nq0) 5 nq1) 6 nq2) (readC ((k0 :: c0 :: s0 :: M).drop kq2)).1).tell.answer.length<=140737488355328):=by simp [Hid,beginM,setV,setOps]
   generalize setOps (setV (setV (setV (beginM 1 (c0.toNat:Int) 2) 4 nq0) 5 nq1) 6 nq2) (readC ((k0 :: c0 :: s0 :: M).drop kq2)).1=rr at HGB HRC HAA
   clear HF2 HJ2 HER
   cases bq2
   ·go_wp2_with fail
    go_meet
    case rel=>exact ⟨true,false,kq2,uo,un,uc,none,0,0,rr,rfl,HGB.out.say false,by simpa using HRC.out,HAA.out⟩
   ·by_cases he0:er=0
    ·subst he0
     go_wp2_with fail
     go_meet
     case rel=>exact ⟨true,true,kq2,uo,un,uc,none,0,0,rr,rfl,HGB.out.say true,by simpa using HRC.out,HAA.out⟩
    ·have q0:(er==0)=false:=by simp [he0]
     rw [q0] at HRC
     clear he0
     go_wp2_with fail
     go_meet
     case rel=>exact ⟨true,false,kq2,uo,un,uc,none,0,0,rr,rfl,HGB.out.say false,by simpa using HRC.out,HAA.out⟩
  have p1:(ss==1)=false:=by simp [q1]
  have p3:(ss==3)=false:=by simp [q3]
  have p2:(ss==2)=false:=by simp [q2]
  have HIE:Hid (fld (beginM 1 (c0.toNat:Int) ss)=[]):=by simp [Hid,fld,beginM,fldA,q1,q3,q2]
  have HI0:Hid (Inv (beginM 1 (c0.toNat:Int) ss) M [] (beginM 1 (c0.toNat:Int) ss) ((k0 :: c0 :: s0 :: M).drop 3) true):=by have h:=HI2.out;rw [HIE.out] at h;exact h
  have HSS:Hid ((s0.toNat:Int)=ss):=hss
  have HCB:Hid (callsB (beginM 1 (c0.toNat:Int) ss)=false/\answersB (beginM 1 (c0.toNat:Int) ss)=false):=by simp [Hid,callsB,answersB,beginM,q2]
  clear hss q1 q3 q2
  go_wp2_with fail
  go_meet
  case rel=>exact ⟨false,true,3,none,0,0,none,0,0,(beginM 1 (c0.toNat:Int) ss),rfl,HD2.out,rel_plain (by rw [HK.out,HSS.out];exact HCB.out.1) (by rw [HK.out,HSS.out];exact HCB.out.2) (by rw [HK.out,HSS.out];exact HI0.out),by simp [beginM]⟩
 case rest =>
  obtain ⟨op,b,k,ao,n,ca,bo,p,cb,r,rfl,hds,hrl,han⟩:=hcut
  obtain ⟨wt,hwt⟩:∃y:World,y=wc:=⟨_,rfl⟩
  subst hwt
  have HDB:Hid (DS w wt X d ob ao' cap (k0 :: c0 :: s0 :: M) k b (.slice ao n ca) (.slice bo p cb) r):=hds
  have HRL:Hid (Rel (k0 :: c0 :: s0 :: M) r k b op):=hrl
  have HAN:Hid (r.tell.answer.length<=140737488355328):=han
  clear hds hrl han HD2 HI2 m2 hss
  obtain ⟨x0,x1,x2⟩:=HX.out wt HDB.out.gr
  go_upto_region 43 with fail
  clear x0 x1 x2
  obtain ⟨t0,t1,t2,t3⟩:=HDB.out.cells
  cases b
  ·have HE:Hid (readM (k0 :: c0 :: s0 :: M)=(zeroM,4)):=by have h:=HRL.out;unfold Rel at h;rw [if_neg (fun h=>by cases h.1)] at h;exact h
   clear HRL
   obtain ⟨r0,r1,r2,r3,r4,r5,r6,r7,r8,r9,r10,r11,r12,u0,u1,u2,u3,u4,u5,u6,u7,u8,u9,u10,u11,u12⟩:=HDB.out.room.cells
   obtain ⟨z0,z1,z2,z3,z4,z5,z6,z7,z8,z9,z10,z11,z12⟩:=HDB.out.room.frees
   go_wp2_with fail
   obtain ⟨W6,hW6,H6⟩:=setM HDB.out.room (.slice none 0 0) (.slice none 0 0) zeroM
   unfold zeroM zeroC zeroR at hW6
   dsimp only at hW6
   rw [hW6]
   clear hW6
   refine bodyPost_ret (v:=_) (results_row_tmp rfl _ _ w.heap.size _ rfl (loadM H6.out.1 isSl_nil isSl_nil)) rfl ?_
   exact ⟨(.slice none 0 0),(.slice none 0 0),by rw [HE.out];rfl,by rw [HE.out];exact opsOwn_nil _ _,by rw [HE.out];exact Own.nil _ _,grown_new HDB.out.gr H6.out.2 (by intro x hx;simp at hx;omega)⟩
  have HR0:Hid ((op=true\/(k0 :: c0 :: s0 :: M).drop k=[])->okM r=true->readM (k0 :: c0 :: s0 :: M)=(r,0)):=by intro h1 h2;have h:=HRL.out;unfold Rel at h;rw [if_pos ⟨rfl,h1,h2⟩] at h;exact h
  have HN0:Hid (okM r=false->readM (k0 :: c0 :: s0 :: M)=(zeroM,4)):=by intro h2;have h:=HRL.out;unfold Rel at h;rw [if_neg (fun h=>by rw [h2] at h;cases h.2.2)] at h;exact h
  have HL0:Hid (op=false->(k0 :: c0 :: s0 :: M).drop k≠[]->readM (k0 :: c0 :: s0 :: M)=(zeroM,4)):=by intro h1 h2;have h:=HRL.out;unfold Rel at h;rw [if_neg (fun h=>by rw [h1] at h;exact h2 (h.2.1.resolve_left (by decide)))] at h;exact h
  clear HRL
  have HAZ:Hid (r.tell.answer.length<=140737488355328):=HAN
  cases op
  ·go_wp2_with fail
   refine (Wire.left22 d ao' cap k (k0 :: c0 :: s0 :: M) wt HDB.out.rk.rf HDB.out.rk.le (by have:=HDB.out.rk.zz;omega)).mono ?_
   rintro e w8 ⟨rfl,q8,hq8⟩
   have HD:Hid (DS w w8 X d ob ao' cap (k0 :: c0 :: s0 :: M) k true (.slice ao n ca) (.slice bo p cb) r):=by rw [hq8];exact HDB.out.grown (grown_drewN _ _ _)
   clear hq8 HDB t0 t1 t2 t3
   obtain ⟨wt,hwt⟩:∃y:World,y=w8:=⟨_,rfl⟩
   subst hwt
   obtain ⟨lf,hlf⟩:∃y,(k0 :: c0 :: s0 :: M).length-k=y:=⟨_,rfl⟩
   rw [hlf]
   by_cases hl0:lf=0
   ·have HR:Hid (okM r=true->readM (k0 :: c0 :: s0 :: M)=(r,0)):=HR0.out (.inr (List.drop_of_length_le (by omega)))
    have HN:=HN0
    subst hl0
    clear hlf HR0 HN0 HL0
    obtain ⟨m0,m1,m2,m3,m4,m5,m6,m7,m8,m9,m10,m11,m12⟩:=HD.out.mb.cells
    go_wp2_with fail
    refine (may13 (.slice ao n ca) (.slice bo p cb) r wt (OpsOwn.ops HD.out.ops) HD.out.ans.seg HAZ.out).mono ?_
    rintro e w9 ⟨rfl,g9⟩
    have H9:Hid (DS w w9 X d ob ao' cap (k0 :: c0 :: s0 :: M) k true (.slice ao n ca) (.slice bo p cb) r):=HD.out.grown g9
    clear g9 HD m0 m1 m2 m3 m4 m5 m6 m7 m8 m9 m10 m11 m12
    cases hok:okM r
    ·have HE:Hid (readM (k0 :: c0 :: s0 :: M)=(zeroM,4)):=HN.out hok
     clear hok HN HR
     obtain ⟨r0,r1,r2,r3,r4,r5,r6,r7,r8,r9,r10,r11,r12,u0,u1,u2,u3,u4,u5,u6,u7,u8,u9,u10,u11,u12⟩:=H9.out.room.cells
     obtain ⟨z0,z1,z2,z3,z4,z5,z6,z7,z8,z9,z10,z11,z12⟩:=H9.out.room.frees
     go_wp2_with fail
     obtain ⟨W6,hW6,H6⟩:=setM H9.out.room (.slice none 0 0) (.slice none 0 0) zeroM
     unfold zeroM zeroC zeroR at hW6
     dsimp only at hW6
     rw [hW6]
     clear hW6
     refine bodyPost_ret (v:=_) (results_row_tmp rfl _ _ w.heap.size _ rfl (loadM H6.out.1 isSl_nil isSl_nil)) rfl ?_
     exact ⟨(.slice none 0 0),(.slice none 0 0),by rw [HE.out];rfl,by rw [HE.out];exact opsOwn_nil _ _,by rw [HE.out];exact Own.nil _ _,grown_new H9.out.gr H6.out.2 (by intro x hx;simp at hx;omega)⟩
    ·have HE:Hid (readM (k0 :: c0 :: s0 :: M)=(r,0)):=HR.out hok
     clear hok HN HR
     obtain ⟨m0,m1,m2,m3,m4,m5,m6,m7,m8,m9,m10,m11,m12⟩:=H9.out.mb.cells
     obtain ⟨r0,r1,r2,r3,r4,r5,r6,r7,r8,r9,r10,r11,r12,u0,u1,u2,u3,u4,u5,u6,u7,u8,u9,u10,u11,u12⟩:=H9.out.room.cells
     obtain ⟨z0,z1,z2,z3,z4,z5,z6,z7,z8,z9,z10,z11,z12⟩:=H9.out.room.frees
     go_wp2_with fail
     obtain ⟨W6,hW6,H6⟩:=setM H9.out.room (.slice ao n ca) (.slice bo p cb) r
     rw [hW6]
     clear hW6
     refine bodyPost_ret (v:=_) (results_row_tmp rfl _ _ w.heap.size _ rfl (loadM H6.out.1 ⟨_,_,_,rfl⟩ ⟨_,_,_,rfl⟩)) rfl ?_
     obtain ⟨kk0,kk1,kk2,kk3,kk4,kk5,kk6,kk7,kk8,kk9,kk10,kk11,kk12,HRB⟩:=H9.out.room
     exact ⟨(.slice ao n ca),(.slice bo p cb),by rw [HE.out];rfl,by rw [HE.out];exact H9.out.ops.set HRB (by decide) (by decide) H6.out.2,by rw [HE.out];exact own_set H9.out.ans HRB (by decide) H6.out.2,grown_new H9.out.gr H6.out.2 (by intro x hx;simp at hx;omega)⟩
   ·have HE:Hid (readM (k0 :: c0 :: s0 :: M)=(zeroM,4)):=HL0.out (by first | rfl | trivial) (fun h=>by have:=congrArg List.length h;rw [List.length_drop] at this;simp only [List.length_nil] at this;omega)
    have i1:((lf:Int) > 0)=True:=eq_true (by omega)
    have i2:((0:Int)<(lf:Int))=True:=eq_true (by omega)
    have i3:(0<lf)=True:=eq_true (by omega)
    have i4:(lf=0)=False:=eq_false hl0
    clear hlf hl0 HR0 HN0 HL0
    obtain ⟨r0,r1,r2,r3,r4,r5,r6,r7,r8,r9,r10,r11,r12,u0,u1,u2,u3,u4,u5,u6,u7,u8,u9,u10,u11,u12⟩:=HD.out.room.cells
    obtain ⟨z0,z1,z2,z3,z4,z5,z6,z7,z8,z9,z10,z11,z12⟩:=HD.out.room.frees
    go_wp2_with fail
    obtain ⟨W6,hW6,H6⟩:=setM HD.out.room (.slice none 0 0) (.slice none 0 0) zeroM
    unfold zeroM zeroC zeroR at hW6
    dsimp only at hW6
    rw [hW6]
    clear hW6
    refine bodyPost_ret (v:=_) (results_row_tmp rfl _ _ w.heap.size _ rfl (loadM H6.out.1 isSl_nil isSl_nil)) rfl ?_
    exact ⟨(.slice none 0 0),(.slice none 0 0),by rw [HE.out];rfl,by rw [HE.out];exact opsOwn_nil _ _,by rw [HE.out];exact Own.nil _ _,grown_new HD.out.gr H6.out.2 (by intro x hx;simp at hx;omega)⟩
  ·have HR:Hid (okM r=true->readM (k0 :: c0 :: s0 :: M)=(r,0)):=HR0.out (.inl rfl)
   have HN:=HN0
   have HD:=HDB
   clear HR0 HN0 HL0 HDB
   obtain ⟨m0,m1,m2,m3,m4,m5,m6,m7,m8,m9,m10,m11,m12⟩:=HD.out.mb.cells
   go_wp2_with fail
   refine (may13 (.slice ao n ca) (.slice bo p cb) r wt (OpsOwn.ops HD.out.ops) HD.out.ans.seg HAZ.out).mono ?_
   rintro e w9 ⟨rfl,g9⟩
   have H9:Hid (DS w w9 X d ob ao' cap (k0 :: c0 :: s0 :: M) k true (.slice ao n ca) (.slice bo p cb) r):=HD.out.grown g9
   clear g9 HD m0 m1 m2 m3 m4 m5 m6 m7 m8 m9 m10 m11 m12
   cases hok:okM r
   ·have HE:Hid (readM (k0 :: c0 :: s0 :: M)=(zeroM,4)):=HN.out hok
    clear hok HN HR
    obtain ⟨r0,r1,r2,r3,r4,r5,r6,r7,r8,r9,r10,r11,r12,u0,u1,u2,u3,u4,u5,u6,u7,u8,u9,u10,u11,u12⟩:=H9.out.room.cells
    obtain ⟨z0,z1,z2,z3,z4,z5,z6,z7,z8,z9,z10,z11,z12⟩:=H9.out.room.frees
    go_wp2_with fail
    obtain ⟨W6,hW6,H6⟩:=setM H9.out.room (.slice none 0 0) (.slice none 0 0) zeroM
    unfold zeroM zeroC zeroR at hW6
    dsimp only at hW6
    rw [hW6]
    clear hW6
    refine bodyPost_ret (v:=_) (results_row_tmp rfl _ _ w.heap.size _ rfl (loadM H6.out.1 isSl_nil isSl_nil)) rfl ?_
    exact ⟨(.slice none 0 0),(.slice none 0 0),by rw [HE.out];rfl,by rw [HE.out];exact opsOwn_nil _ _,by rw [HE.out];exact Own.nil _ _,grown_new H9.out.gr H6.out.2 (by intro x hx;simp at hx;omega)⟩
   ·have HE:Hid (readM (k0 :: c0 :: s0 :: M)=(r,0)):=HR.out hok
    clear hok HN HR
    obtain ⟨m0,m1,m2,m3,m4,m5,m6,m7,m8,m9,m10,m11,m12⟩:=H9.out.mb.cells
    obtain ⟨r0,r1,r2,r3,r4,r5,r6,r7,r8,r9,r10,r11,r12,u0,u1,u2,u3,u4,u5,u6,u7,u8,u9,u10,u11,u12⟩:=H9.out.room.cells
    obtain ⟨z0,z1,z2,z3,z4,z5,z6,z7,z8,z9,z10,z11,z12⟩:=H9.out.room.frees
    go_wp2_with fail
    obtain ⟨W6,hW6,H6⟩:=setM H9.out.room (.slice ao n ca) (.slice bo p cb) r
    rw [hW6]
    clear hW6
    refine bodyPost_ret (v:=_) (results_row_tmp rfl _ _ w.heap.size _ rfl (loadM H6.out.1 ⟨_,_,_,rfl⟩ ⟨_,_,_,rfl⟩)) rfl ?_
    obtain ⟨kk0,kk1,kk2,kk3,kk4,kk5,kk6,kk7,kk8,kk9,kk10,kk11,kk12,HRB⟩:=H9.out.room
    exact ⟨(.slice ao n ca),(.slice bo p cb),by rw [HE.out];rfl,by rw [HE.out];exact H9.out.ops.set HRB (by decide) (by decide) H6.out.2,by rw [HE.out];exact own_set H9.out.ans HRB (by decide) H6.out.2,grown_new H9.out.gr H6.out.2 (by intro x hx;simp at hx;omega)⟩
theorem read20_tell (v:Value)(k0 c0 s0:UInt8)(M:Bs)(w:World)(hs:Seg w v (k0 :: c0 :: s0 :: M))(hz:(k0 :: c0 :: s0 :: M).length<=140737488354304)(hk:(k0.toNat:Int)=2):Calls Tryz.prog 20 #[v] w (ReadMP (k0 :: c0 :: s0 :: M) w):=by
 have HS:Hid (Seg w v (k0 :: c0 :: s0 :: M)):=hs
 obtain ⟨lo,lc,rfl,_,_,_,hcs⟩:=hs
 obtain ⟨lb,off,rfl,x0⟩:=hcs 0 (by simp)
 obtain ⟨_,_,e1,x1⟩:=hcs 1 (by simp)
 obtain ⟨_,_,e2,x2⟩:=hcs 2 (by simp)
 simp only [Option.some.injEq,Addr.mk.injEq] at e1 e2
 obtain ⟨rfl,rfl,_⟩:=e1
 obtain ⟨rfl,rfl,_⟩:=e2
 simp only [List.getElem_cons_zero,List.getElem_cons_succ,Nat.add_zero] at x0 x1 x2
 have hk256:=k0.toNat_lt
 have hc256:=c0.toNat_lt
 have hs256:=s0.toNat_lt
 have wc0:IntKind.i64.wrap (c0.toNat:Int)=(c0.toNat:Int):=by rw [IntKind.wrap_i64];omega
 have ws0:IntKind.i64.wrap (s0.toNat:Int)=(s0.toNat:Int):=by rw [IntKind.wrap_i64];omega
 obtain ⟨ln,hln⟩:∃y,(k0 :: c0 :: s0 :: M).length=y:=⟨_,rfl⟩
 have HLN:Hid ((k0 :: c0 :: s0 :: M).length=ln/\ln<=140737488354304):=⟨hln,by omega⟩
 have l3:3<=ln:=by rw [<-hln];simp
 have l1:((ln:Int)<3)=False:=eq_false (by omega)
 have l2:(ln<3)=False:=eq_false (by omega)
 have HX:Hid (∀y,w.grownBy y none->y.cell? ⟨lb,off,none⟩=some (.int .u8 (k0.toNat:Int))/\y.cell? ⟨lb,off+1,none⟩=some (.int .u8 (c0.toNat:Int))/\y.cell? ⟨lb,off+2,none⟩=some (.int .u8 (s0.toNat:Int))):=fun y hy=>⟨hy.cell x0 (by simp),hy.cell x1 (by simp),hy.cell x2 (by simp)⟩
 clear hcs hz x0 x1 x2
 rw [hk] at HX
 have HK:Hid ((k0.toNat:Int)=2):=hk
 clear hk hk256
 rw [hln] at HS ⊢
 clear hln
 go_enter Tryz.func20,Tryz.ntmps20
 go_upto_region 3 with fail
 obtain ⟨W1,hW1,H1⟩:=al1' w #[.int .i64 0,.int .i64 0,.int .i64 0,.int .i64 0,.int .i64 0,.int .i64 0,.int .i64 0,.slice none 0 0,.int .i64 0,.int .i64 0,.int .i64 0,.int .i64 0,.slice none 0 0] 34
 rw [hW1]
 clear hW1
 obtain ⟨x0,x1,x2⟩:=HX.out W1 H1.out.2.1
 go_upto_region 4 with fail
 obtain ⟨W2,hW2,H2⟩:=al1' W1 #[.int .i64 0,.int .i64 (c0.toNat:Int),.int .i64 0,.int .i64 0,.int .i64 0,.int .i64 0,.int .i64 0,.slice none 0 0,.int .i64 0,.int .i64 0,.int .i64 0,.int .i64 0,.slice none 0 0] 34
 rw [hW2]
 obtain ⟨X,hX⟩:∃y,W1.heap.size=y:=⟨_,rfl⟩
 rw [hX] at H2 ⊢
 have H2':Hid (Room W2 w.heap.size/\MB W2 X (.slice none 0 0) (.slice none 0 0) ⟨0,(c0.toNat:Int),zeroC,zeroR⟩/\w.grownBy W2 none/\w.heap.size<X):=⟨(room_lit H1.out.1).grown H2.out.2.1,H2.out.1,grown_trans H1.out.2.1 H2.out.2.1,by have:=H1.out.2.2;omega⟩
 clear hW2 hX x0 x1 x2 H1 H2
 have HSG:Hid (Seg W2 (.slice (some ⟨lb,off,none⟩) ln lc) (k0 :: c0 :: s0 :: M)):=HS.out.grown H2'.out.2.2.1
 go_wp2_with (at_builtin;refine app22 W2 rfl _ _ rfl W2.heap.size _ [] _ (k0 :: c0 :: s0 :: M) rfl rfl (Own.nil _ _) HSG.out ?c0 (Nat.le_refl _) ?_)
 case c0=>have:=HLN.out;simp at this ⊢;omega
 intro v3 w3 hv hg _
 try rw [List.nil_append] at hv
 obtain ⟨ao',cap,hvs⟩:=hv.seg.shape
 rw [HLN.out.1] at hvs
 subst hvs
 have hg3:W2.grownBy w3 none:=hg
 have H3:Hid (Room w3 w.heap.size/\MB w3 X (.slice none 0 0) (.slice none 0 0) ⟨0,(c0.toNat:Int),zeroC,zeroR⟩/\w.grownBy w3 none/\w.heap.size<X/\Own w3 W2.heap.size (.slice ao' ln cap) (k0 :: c0 :: s0 :: M)):=⟨H2'.out.1.grown hg3,H2'.out.2.1.grown hg3,grown_trans H2'.out.2.2.1 hg3,H2'.out.2.2.2,hv⟩
 clear hv hg hg3 H2' HSG
 go_upto_region 5 with fail
 obtain ⟨W4,hW4,H4⟩:=al1' w3 #[.slice ao' ln cap,.int .i64 3] 79
 rw [hW4]
 obtain ⟨d,hd⟩:∃y,w3.heap.size=y:=⟨_,rfl⟩
 rw [hd] at H4 ⊢
 clear hW4
 go_upto_region 7 with fail
 obtain ⟨W5,hW5,H5⟩:=al1' W4 #[.bool true] 4
 rw [hW5]
 obtain ⟨ob,hob⟩:∃y,W4.heap.size=y:=⟨_,rfl⟩
 rw [hob] at H5 ⊢
 clear hW5
 have HD0:Hid (DS w W5 X d ob ao' cap (k0 :: c0 :: s0 :: M) 3 true (.slice none 0 0) (.slice none 0 0) ⟨0,(c0.toNat:Int),zeroC,zeroR⟩):=by
  have g:=grown_trans H4.out.2.1 H5.out.2.1
  have s1:=H3.out.2.2.1.size
  have s2:=H4.out.2.1.size
  refine ⟨H3.out.1.grown g,H3.out.2.1.grown g,opsOwn_nil _ _,Own.nil _ _,⟨?_,?_,H5.out.1,by simp,by have:=HLN.out;omega⟩,grown_trans H3.out.2.2.1 g,H3.out.2.2.2.1,by omega,by omega⟩
  ·rw [HLN.out.1];exact (H3.out.2.2.2.2.grown g).seg
  ·rw [HLN.out.1];exact H4.out.1.grown H5.out.2.1 (by simp)
 clear H3 H4 H5 hd hob HS
 have m0:=HD0.out.mb.cells.1
 have f0:=HD0.out.mb.free 0
 obtain ⟨x0,x1,x2⟩:=HX.out W5 HD0.out.gr
 go_upto_region 25 with fail
 have HD1:Hid (DS w (W5.setCell ⟨X,0,none⟩ (.int .i64 2)) X d ob ao' cap (k0 :: c0 :: s0 :: M) 3 true (.slice none 0 0) (.slice none 0 0) ⟨2,(c0.toNat:Int),zeroC,zeroR⟩):=HD0.out.store (grown_setCell _ _ _ _) (Blk.store HD0.out.mb 0 _) (opsOwn_nil _ _) (Own.nil _ _)
 generalize W5.setCell ⟨X,0,none⟩ (.int .i64 2)=w6 at HD1 ⊢
 clear HD0 m0 f0 x0 x1 x2
 have m2:=HD1.out.mb.cells.2.2.2.2.2.2.2.2.1
 have f2:=HD1.out.mb.free 8
 obtain ⟨x0,x1,x2⟩:=HX.out w6 HD1.out.gr
 go_upto_region 26 with fail
 have HD2:Hid (DS w (w6.setCell ⟨X,8,none⟩ (.int .i64 (s0.toNat:Int))) X d ob ao' cap (k0 :: c0 :: s0 :: M) 3 true (.slice none 0 0) (.slice none 0 0) (beginM 2 (c0.toNat:Int) (s0.toNat:Int))):=HD1.out.store (grown_setCell _ _ _ _) (Blk.store HD1.out.mb 8 _) (opsOwn_nil _ _) (Own.nil _ _)
 generalize w6.setCell ⟨X,8,none⟩ (.int .i64 (s0.toNat:Int))=w7 at HD2 ⊢
 clear HD1 m2 f2 x0 x1 x2
 have HI2:Hid (Inv (beginM 2 (c0.toNat:Int) (s0.toNat:Int)) M (fld (beginM 2 (c0.toNat:Int) (s0.toNat:Int))) (beginM 2 (c0.toNat:Int) (s0.toNat:Int)) ((k0 :: c0 :: s0 :: M).drop 3) true):=inv_start _ _
 have m2:=HD2.out.mb.cells.2.2.2.2.2.2.2.2.1
 unfold beginM at m2
 simp only [if_pos] at m2
 obtain ⟨ss,hss⟩:∃y:Int,(s0.toNat:Int)=y:=⟨_,rfl⟩
 rw [hss] at m2 HD2 HI2
 go_upto_block 1 with fail
 go_cut [7] (fun x wc=>∃(op b:Bool) (k:Nat) (uo:Option Addr) (un uc:Nat) (vo:Option Addr) (vn vc:Nat) (r:PMsg),x=.bool op/\DS w wc X d ob ao' cap (k0 :: c0 :: s0 :: M) k b (.slice uo un uc) (.slice vo vn vc) r/\Rel (k0 :: c0 :: s0 :: M) r k b op/\r.tell.answer.length<=140737488355328)
 case first =>
  by_cases q2:ss=2
  ·have HSS:Hid ((s0.toNat:Int)=2):=hss.trans q2
   subst q2
   clear hss
   have HI0:Hid (Inv (beginM 2 (c0.toNat:Int) 2) M [(9,1)] (beginM 2 (c0.toNat:Int) 2) ((k0 :: c0 :: s0 :: M).drop 3) true):=HI2.out
   clear HI2
   go_wp2_with fail
   refine (next41 d ob ao' cap (k0 :: c0 :: s0 :: M) 3 true w7 HD2.out.rk).mono ?_
   rintro e y0 ⟨nq0,kq0,bq0,rfl,hn0,hdk0,hst0⟩
   have HE0:Hid (DS w y0 X d ob ao' cap (k0 :: c0 :: s0 :: M) kq0 bq0 (.slice none 0 0) (.slice none 0 0) (beginM 2 (c0.toNat:Int) 2)):=HD2.out.next hdk0
   have HJ0:Hid (Inv (beginM 2 (c0.toNat:Int) 2) M [] (setV (beginM 2 (c0.toNat:Int) 2) 9 nq0) ((k0 :: c0 :: s0 :: M).drop kq0) bq0):=HI0.out.step hst0
   clear hdk0 hst0
   have sq0:=HE0.out.mb.at (show isOff 9 by unfold isOff;omega)
   have zq0:=HE0.out.mb.free 9
   go_wp2_with fail
   have HF0:Hid (DS w (y0.setCell ⟨X,9,none⟩ (.int .i64 (nq0:Int))) X d ob ao' cap (k0 :: c0 :: s0 :: M) kq0 bq0 (.slice none 0 0) (.slice none 0 0) (setV (beginM 2 (c0.toNat:Int) 2) 9 nq0)):=HE0.out.num (by unfold isOff;omega) _
   generalize y0.setCell ⟨X,9,none⟩ (.int .i64 (nq0:Int))=v0 at HF0 ⊢
   clear HE0 sq0 zq0
   go_meet
   case rel=>exact ⟨false,bq0,kq0,none,0,0,none,0,0,(setV (beginM 2 (c0.toNat:Int) 2) 9 nq0),rfl,HF0.out,rel_plain (by rw [HK.out,HSS.out];rfl) (by rw [HK.out,HSS.out];rfl) (by rw [HK.out,HSS.out];exact HJ0.out),by simp [beginM,setV]⟩
  by_cases q1:ss=1
  ·have HSS:Hid ((s0.toNat:Int)=1):=hss.trans q1
   subst q1
   clear hss
   have HI0:Hid (Inv (beginM 2 (c0.toNat:Int) 1) M [(9,1),(10,1)] (beginM 2 (c0.toNat:Int) 1) ((k0 :: c0 :: s0 :: M).drop 3) true):=HI2.out
   clear HI2
   go_wp2_with fail
   refine (next41 d ob ao' cap (k0 :: c0 :: s0 :: M) 3 true w7 HD2.out.rk).mono ?_
   rintro e y0 ⟨nq0,kq0,bq0,rfl,hn0,hdk0,hst0⟩
   have HE0:Hid (DS w y0 X d ob ao' cap (k0 :: c0 :: s0 :: M) kq0 bq0 (.slice none 0 0) (.slice none 0 0) (beginM 2 (c0.toNat:Int) 1)):=HD2.out.next hdk0
   have HJ0:Hid (Inv (beginM 2 (c0.toNat:Int) 1) M [(10,1)] (setV (beginM 2 (c0.toNat:Int) 1) 9 nq0) ((k0 :: c0 :: s0 :: M).drop kq0) bq0):=HI0.out.step hst0
   clear hdk0 hst0
   have sq0:=HE0.out.mb.at (show isOff 9 by unfold isOff;omega)
   have zq0:=HE0.out.mb.free 9
   go_wp2_with fail
   have HF0:Hid (DS w (y0.setCell ⟨X,9,none⟩ (.int .i64 (nq0:Int))) X d ob ao' cap (k0 :: c0 :: s0 :: M) kq0 bq0 (.slice none 0 0) (.slice none 0 0) (setV (beginM 2 (c0.toNat:Int) 1) 9 nq0)):=HE0.out.num (by unfold isOff;omega) _
   generalize y0.setCell ⟨X,9,none⟩ (.int .i64 (nq0:Int))=v0 at HF0 ⊢
   clear HE0 sq0 zq0
   refine (next41 d ob ao' cap (k0 :: c0 :: s0 :: M) kq0 bq0 v0 HF0.out.rk).mono ?_
   rintro e y1 ⟨nq1,kq1,bq1,rfl,hn1,hdk1,hst1⟩
   have HE1:Hid (DS w y1 X d ob ao' cap (k0 :: c0 :: s0 :: M) kq1 bq1 (.slice none 0 0) (.slice none 0 0) (setV (beginM 2 (c0.toNat:Int) 1) 9 nq0)):=HF0.out.next hdk1
   have HJ1:Hid (Inv (beginM 2 (c0.toNat:Int) 1) M [] (setV (setV (beginM 2 (c0.toNat:Int) 1) 9 nq0) 10 nq1) ((k0 :: c0 :: s0 :: M).drop kq1) bq1):=HJ0.out.step hst1
   clear hdk1 hst1
   have sq1:=HE1.out.mb.at (show isOff 10 by unfold isOff;omega)
   have zq1:=HE1.out.mb.free 10
   go_wp2_with fail
   have HF1:Hid (DS w (y1.setCell ⟨X,10,none⟩ (.int .i64 (nq1:Int))) X d ob ao' cap (k0 :: c0 :: s0 :: M) kq1 bq1 (.slice none 0 0) (.slice none 0 0) (setV (setV (beginM 2 (c0.toNat:Int) 1) 9 nq0) 10 nq1)):=HE1.out.num (by unfold isOff;omega) _
   generalize y1.setCell ⟨X,10,none⟩ (.int .i64 (nq1:Int))=v1 at HF1 ⊢
   clear HE1 sq1 zq1
   go_meet
   case rel=>exact ⟨false,bq1,kq1,none,0,0,none,0,0,(setV (setV (beginM 2 (c0.toNat:Int) 1) 9 nq0) 10 nq1),rfl,HF1.out,rel_plain (by rw [HK.out,HSS.out];rfl) (by rw [HK.out,HSS.out];rfl) (by rw [HK.out,HSS.out];exact HJ1.out),by simp [beginM,setV]⟩
  by_cases q7:ss=7
  ·have HSS:Hid ((s0.toNat:Int)=7):=hss.trans q7
   subst q7
   clear hss
   have HI0:Hid (Inv (beginM 2 (c0.toNat:Int) 7) M [(10,1)] (beginM 2 (c0.toNat:Int) 7) ((k0 :: c0 :: s0 :: M).drop 3) true):=HI2.out
   clear HI2
   go_wp2_with fail
   refine (next41 d ob ao' cap (k0 :: c0 :: s0 :: M) 3 true w7 HD2.out.rk).mono ?_
   rintro e y0 ⟨nq0,kq0,bq0,rfl,hn0,hdk0,hst0⟩
   have HE0:Hid (DS w y0 X d ob ao' cap (k0 :: c0 :: s0 :: M) kq0 bq0 (.slice none 0 0) (.slice none 0 0) (beginM 2 (c0.toNat:Int) 7)):=HD2.out.next hdk0
   have HJ0:Hid (Inv (beginM 2 (c0.toNat:Int) 7) M [] (setV (beginM 2 (c0.toNat:Int) 7) 10 nq0) ((k0 :: c0 :: s0 :: M).drop kq0) bq0):=HI0.out.step hst0
   clear hdk0 hst0
   have sq0:=HE0.out.mb.at (show isOff 10 by unfold isOff;omega)
   have zq0:=HE0.out.mb.free 10
   go_wp2_with fail
   have HF0:Hid (DS w (y0.setCell ⟨X,10,none⟩ (.int .i64 (nq0:Int))) X d ob ao' cap (k0 :: c0 :: s0 :: M) kq0 bq0 (.slice none 0 0) (.slice none 0 0) (setV (beginM 2 (c0.toNat:Int) 7) 10 nq0)):=HE0.out.num (by unfold isOff;omega) _
   generalize y0.setCell ⟨X,10,none⟩ (.int .i64 (nq0:Int))=v0 at HF0 ⊢
   clear HE0 sq0 zq0
   go_meet
   case rel=>exact ⟨false,bq0,kq0,none,0,0,none,0,0,(setV (beginM 2 (c0.toNat:Int) 7) 10 nq0),rfl,HF0.out,rel_plain (by rw [HK.out,HSS.out];rfl) (by rw [HK.out,HSS.out];rfl) (by rw [HK.out,HSS.out];exact HJ0.out),by simp [beginM,setV]⟩
  by_cases q3:ss=3
  ·have HSS:Hid ((s0.toNat:Int)=3):=hss.trans q3
   subst q3
   clear hss
   have HI0:Hid (Inv (beginM 2 (c0.toNat:Int) 3) M [(10,1),(11,1)] (beginM 2 (c0.toNat:Int) 3) ((k0 :: c0 :: s0 :: M).drop 3) true):=HI2.out
   clear HI2
   go_wp2_with fail
   refine (next41 d ob ao' cap (k0 :: c0 :: s0 :: M) 3 true w7 HD2.out.rk).mono ?_
   rintro e y0 ⟨nq0,kq0,bq0,rfl,hn0,hdk0,hst0⟩
   have HE0:Hid (DS w y0 X d ob ao' cap (k0 :: c0 :: s0 :: M) kq0 bq0 (.slice none 0 0) (.slice none 0 0) (beginM 2 (c0.toNat:Int) 3)):=HD2.out.next hdk0
   have HJ0:Hid (Inv (beginM 2 (c0.toNat:Int) 3) M [(11,1)] (setV (beginM 2 (c0.toNat:Int) 3) 10 nq0) ((k0 :: c0 :: s0 :: M).drop kq0) bq0):=HI0.out.step hst0
   clear hdk0 hst0
   have sq0:=HE0.out.mb.at (show isOff 10 by unfold isOff;omega)
   have zq0:=HE0.out.mb.free 10
   go_wp2_with fail
   have HF0:Hid (DS w (y0.setCell ⟨X,10,none⟩ (.int .i64 (nq0:Int))) X d ob ao' cap (k0 :: c0 :: s0 :: M) kq0 bq0 (.slice none 0 0) (.slice none 0 0) (setV (beginM 2 (c0.toNat:Int) 3) 10 nq0)):=HE0.out.num (by unfold isOff;omega) _
   generalize y0.setCell ⟨X,10,none⟩ (.int .i64 (nq0:Int))=v0 at HF0 ⊢
   clear HE0 sq0 zq0
   refine (next41 d ob ao' cap (k0 :: c0 :: s0 :: M) kq0 bq0 v0 HF0.out.rk).mono ?_
   rintro e y1 ⟨nq1,kq1,bq1,rfl,hn1,hdk1,hst1⟩
   have HE1:Hid (DS w y1 X d ob ao' cap (k0 :: c0 :: s0 :: M) kq1 bq1 (.slice none 0 0) (.slice none 0 0) (setV (beginM 2 (c0.toNat:Int) 3) 10 nq0)):=HF0.out.next hdk1
   have HJ1:Hid (Inv (beginM 2 (c0.toNat:Int) 3) M [] (setV (setV (beginM 2 (c0.toNat:Int) 3) 10 nq0) 11 nq1) ((k0 :: c0 :: s0 :: M).drop kq1) bq1):=HJ0.out.step hst1
   clear hdk1 hst1
   have sq1:=HE1.out.mb.at (show isOff 11 by unfold isOff;omega)
   have zq1:=HE1.out.mb.free 11
   go_upto_region 40 with fail
   have HF1:Hid (DS w (y1.setCell ⟨X,11,none⟩ (.int .i64 (nq1:Int))) X d ob ao' cap (k0 :: c0 :: s0 :: M) kq1 bq1 (.slice none 0 0) (.slice none 0 0) (setV (setV (beginM 2 (c0.toNat:Int) 3) 10 nq0) 11 nq1)):=HE1.out.num (by unfold isOff;omega) _
   generalize y1.setCell ⟨X,11,none⟩ (.int .i64 (nq1:Int))=v1 at HF1 ⊢
   clear HE1 sq1 zq1
   have HKL:Hid (kq1<=ln):=by have:=HF1.out.rk.le;rw [HLN.out.1] at this;exact this
   obtain ⟨so,sn,sc,hsv⟩:∃so sn sc,sliced ao' kq1 ln cap 1=.slice so sn sc:=⟨_,_,_,rfl⟩
   have hsl:∀wk,(Instr.slice 30 (.slice ao' ln cap) (some (.int .i64 (kq1:Int))) none none).run Tryz.prog wk=.ok (.slice so sn sc) wk:=fun wk=>by rw [<-hsv];exact run_rest30 ao' ln cap kq1 HKL.out wk
   have HSG:Hid (Seg v1 (.slice so sn sc) ((k0 :: c0 :: s0 :: M).drop kq1)):=by
    have h:=HF1.out.rk.seg
    rw [HLN.out.1] at h
    have h2:=seg_rest HLN.out.1 kq1 (by rw [HLN.out.1];exact HKL.out) h
    rw [hsv] at h2
    exact h2
   clear hsv
   obtain ⟨t0,t1,t2,t3⟩:=HF1.out.cells
   rw [HLN.out.1] at t0
   have t4:v1.cell? ⟨X,8,none⟩=some (.int .i64 3):=HF1.out.mb.cells.2.2.2.2.2.2.2.2.1
   have t5:=HF1.out.mb.cells.2.2.2.2.2.2.2.2.2.2.2.2
   have t6:=HF1.out.mb.free 12
   go_wp2_with (at_builtin;refine app22 v1 rfl _ _ rfl v1.heap.size _ [] _ ((k0 :: c0 :: s0 :: M).drop kq1) rfl rfl (Own.nil _ _) HSG.out ?c0 (Nat.le_refl _) ?_)
   case c0=>have:=HLN.out;rw [List.length_drop];simp only [List.length_nil];omega
   intro v8 y9 hv hg _
   try rw [List.nil_append] at hv
   obtain ⟨vo,vn,vc,hvs⟩:=isSl_on hv
   subst hvs
   have hg9:v1.grownBy y9 none:=hg
   have HGA:Hid (DS w y9 X d ob ao' cap (k0 :: c0 :: s0 :: M) kq1 bq1 (.slice none 0 0) (.slice none 0 0) (setV (setV (beginM 2 (c0.toNat:Int) 3) 10 nq0) 11 nq1)/\Own y9 w.heap.size (.slice vo vn vc) ((k0 :: c0 :: s0 :: M).drop kq1)):=⟨HF1.out.grown hg9,hv.mono HF1.out.gr.size⟩
   clear hv hg hg9 t0 t1 t2 t3 t4 t5 t6 HSG hsl
   have t5:=HGA.out.1.mb.cells.2.2.2.2.2.2.2.2.2.2.2.2
   have t6:=HGA.out.1.mb.free 12
   go_wp2_with fail
   have HGB:Hid (DS w (y9.setCell ⟨X,12,none⟩ (.slice vo vn vc)) X d ob ao' cap (k0 :: c0 :: s0 :: M) kq1 bq1 (.slice none 0 0) (.slice vo vn vc) (setAns (setV (setV (beginM 2 (c0.toNat:Int) 3) 10 nq0) 11 nq1) ((k0 :: c0 :: s0 :: M).drop kq1))):=HGA.out.1.setA HGA.out.2
   generalize y9.setCell ⟨X,12,none⟩ (.slice vo vn vc)=y10 at HGB ⊢
   go_meet
   case rel=>exact ⟨true,bq1,kq1,none,0,0,vo,vn,vc,setAns (setV (setV (beginM 2 (c0.toNat:Int) 3) 10 nq0) 11 nq1) ((k0 :: c0 :: s0 :: M).drop kq1),rfl,HGB.out,rel_ans (by rw [HK.out,HSS.out];rfl) (by rw [HK.out,HSS.out];rfl) (by rw [HK.out,HSS.out];exact HJ1.out),by show ((k0 :: c0 :: s0 :: M).drop kq1).length<=_;have:=HLN.out;rw [List.length_drop];omega⟩
  by_cases q4:ss=4
  ·have HSS:Hid ((s0.toNat:Int)=4):=hss.trans q4
   subst q4
   clear hss
   have HI0:Hid (Inv (beginM 2 (c0.toNat:Int) 4) M [(10,1),(11,0)] (beginM 2 (c0.toNat:Int) 4) ((k0 :: c0 :: s0 :: M).drop 3) true):=HI2.out
   clear HI2
   go_wp2_with fail
   refine (next41 d ob ao' cap (k0 :: c0 :: s0 :: M) 3 true w7 HD2.out.rk).mono ?_
   rintro e y0 ⟨nq0,kq0,bq0,rfl,hn0,hdk0,hst0⟩
   have HE0:Hid (DS w y0 X d ob ao' cap (k0 :: c0 :: s0 :: M) kq0 bq0 (.slice none 0 0) (.slice none 0 0) (beginM 2 (c0.toNat:Int) 4)):=HD2.out.next hdk0
   have HJ0:Hid (Inv (beginM 2 (c0.toNat:Int) 4) M [(11,0)] (setV (beginM 2 (c0.toNat:Int) 4) 10 nq0) ((k0 :: c0 :: s0 :: M).drop kq0) bq0):=HI0.out.step hst0
   clear hdk0 hst0
   have sq0:=HE0.out.mb.at (show isOff 10 by unfold isOff;omega)
   have zq0:=HE0.out.mb.free 10
   go_wp2_with fail
   have HF0:Hid (DS w (y0.setCell ⟨X,10,none⟩ (.int .i64 (nq0:Int))) X d ob ao' cap (k0 :: c0 :: s0 :: M) kq0 bq0 (.slice none 0 0) (.slice none 0 0) (setV (beginM 2 (c0.toNat:Int) 4) 10 nq0)):=HE0.out.num (by unfold isOff;omega) _
   generalize y0.setCell ⟨X,10,none⟩ (.int .i64 (nq0:Int))=v0 at HF0 ⊢
   clear HE0 sq0 zq0
   refine (next41 d ob ao' cap (k0 :: c0 :: s0 :: M) kq0 bq0 v0 HF0.out.rk).mono ?_
   rintro e y1 ⟨nq1,kq1,bq1,rfl,hn1,hdk1,hst1⟩
   have HE1:Hid (DS w y1 X d ob ao' cap (k0 :: c0 :: s0 :: M) kq1 bq1 (.slice none 0 0) (.slice none 0 0) (setV (beginM 2 (c0.toNat:Int) 4) 10 nq0)):=HF0.out.next hdk1
   have HJ1:Hid (Inv (beginM 2 (c0.toNat:Int) 4) M [] (setV (setV (beginM 2 (c0.toNat:Int) 4) 10 nq0) 11 nq1) ((k0 :: c0 :: s0 :: M).drop kq1) bq1):=HJ0.out.step hst1
   clear hdk1 hst1
   have sq1:=HE1.out.mb.at (show isOff 11 by unfold isOff;omega)
   have zq1:=HE1.out.mb.free 11
   go_upto_region 40 with fail
   have HF1:Hid (DS w (y1.setCell ⟨X,11,none⟩ (.int .i64 (nq1:Int))) X d ob ao' cap (k0 :: c0 :: s0 :: M) kq1 bq1 (.slice none 0 0) (.slice none 0 0) (setV (setV (beginM 2 (c0.toNat:Int) 4) 10 nq0) 11 nq1)):=HE1.out.num (by unfold isOff;omega) _
   generalize y1.setCell ⟨X,11,none⟩ (.int .i64 (nq1:Int))=v1 at HF1 ⊢
   clear HE1 sq1 zq1
   have t4:v1.cell? ⟨X,8,none⟩=some (.int .i64 4):=HF1.out.mb.cells.2.2.2.2.2.2.2.2.1
   go_wp2_with fail
   go_meet
   case rel=>exact ⟨false,bq1,kq1,none,0,0,none,0,0,(setV (setV (beginM 2 (c0.toNat:Int) 4) 10 nq0) 11 nq1),rfl,HF1.out,rel_plain (by rw [HK.out,HSS.out];rfl) (by rw [HK.out,HSS.out];rfl) (by rw [HK.out,HSS.out];exact HJ1.out),by simp [beginM,setV]⟩
  by_cases q5:ss=5
  ·have HSS:Hid ((s0.toNat:Int)=5):=hss.trans q5
   subst q5
   clear hss
   have HI0:Hid (Inv (beginM 2 (c0.toNat:Int) 5) M [(10,1),(11,1)] (beginM 2 (c0.toNat:Int) 5) ((k0 :: c0 :: s0 :: M).drop 3) true):=HI2.out
   clear HI2
   go_wp2_with fail
   refine (next41 d ob ao' cap (k0 :: c0 :: s0 :: M) 3 true w7 HD2.out.rk).mono ?_
   rintro e y0 ⟨nq0,kq0,bq0,rfl,hn0,hdk0,hst0⟩
   have HE0:Hid (DS w y0 X d ob ao' cap (k0 :: c0 :: s0 :: M) kq0 bq0 (.slice none 0 0) (.slice none 0 0) (beginM 2 (c0.toNat:Int) 5)):=HD2.out.next hdk0
   have HJ0:Hid (Inv (beginM 2 (c0.toNat:Int) 5) M [(11,1)] (setV (beginM 2 (c0.toNat:Int) 5) 10 nq0) ((k0 :: c0 :: s0 :: M).drop kq0) bq0):=HI0.out.step hst0
   clear hdk0 hst0
   have sq0:=HE0.out.mb.at (show isOff 10 by unfold isOff;omega)
   have zq0:=HE0.out.mb.free 10
   go_wp2_with fail
   have HF0:Hid (DS w (y0.setCell ⟨X,10,none⟩ (.int .i64 (nq0:Int))) X d ob ao' cap (k0 :: c0 :: s0 :: M) kq0 bq0 (.slice none 0 0) (.slice none 0 0) (setV (beginM 2 (c0.toNat:Int) 5) 10 nq0)):=HE0.out.num (by unfold isOff;omega) _
   generalize y0.setCell ⟨X,10,none⟩ (.int .i64 (nq0:Int))=v0 at HF0 ⊢
   clear HE0 sq0 zq0
   refine (next41 d ob ao' cap (k0 :: c0 :: s0 :: M) kq0 bq0 v0 HF0.out.rk).mono ?_
   rintro e y1 ⟨nq1,kq1,bq1,rfl,hn1,hdk1,hst1⟩
   have HE1:Hid (DS w y1 X d ob ao' cap (k0 :: c0 :: s0 :: M) kq1 bq1 (.slice none 0 0) (.slice none 0 0) (setV (beginM 2 (c0.toNat:Int) 5) 10 nq0)):=HF0.out.next hdk1
   have HJ1:Hid (Inv (beginM 2 (c0.toNat:Int) 5) M [] (setV (setV (beginM 2 (c0.toNat:Int) 5) 10 nq0) 11 nq1) ((k0 :: c0 :: s0 :: M).drop kq1) bq1):=HJ0.out.step hst1
   clear hdk1 hst1
   have sq1:=HE1.out.mb.at (show isOff 11 by unfold isOff;omega)
   have zq1:=HE1.out.mb.free 11
   go_upto_region 40 with fail
   have HF1:Hid (DS w (y1.setCell ⟨X,11,none⟩ (.int .i64 (nq1:Int))) X d ob ao' cap (k0 :: c0 :: s0 :: M) kq1 bq1 (.slice none 0 0) (.slice none 0 0) (setV (setV (beginM 2 (c0.toNat:Int) 5) 10 nq0) 11 nq1)):=HE1.out.num (by unfold isOff;omega) _
   generalize y1.setCell ⟨X,11,none⟩ (.int .i64 (nq1:Int))=v1 at HF1 ⊢
   clear HE1 sq1 zq1
   have t4:v1.cell? ⟨X,8,none⟩=some (.int .i64 5):=HF1.out.mb.cells.2.2.2.2.2.2.2.2.1
   go_wp2_with fail
   go_meet
   case rel=>exact ⟨false,bq1,kq1,none,0,0,none,0,0,(setV (setV (beginM 2 (c0.toNat:Int) 5) 10 nq0) 11 nq1),rfl,HF1.out,rel_plain (by rw [HK.out,HSS.out];rfl) (by rw [HK.out,HSS.out];rfl) (by rw [HK.out,HSS.out];exact HJ1.out),by simp [beginM,setV]⟩
  by_cases q6:ss=6
  ·have HSS:Hid ((s0.toNat:Int)=6):=hss.trans q6
   subst q6
   clear hss
   have HI0:Hid (Inv (beginM 2 (c0.toNat:Int) 6) M [(10,1),(11,1)] (beginM 2 (c0.toNat:Int) 6) ((k0 :: c0 :: s0 :: M).drop 3) true):=HI2.out
   clear HI2
   go_wp2_with fail
   refine (next41 d ob ao' cap (k0 :: c0 :: s0 :: M) 3 true w7 HD2.out.rk).mono ?_
   rintro e y0 ⟨nq0,kq0,bq0,rfl,hn0,hdk0,hst0⟩
   have HE0:Hid (DS w y0 X d ob ao' cap (k0 :: c0 :: s0 :: M) kq0 bq0 (.slice none 0 0) (.slice none 0 0) (beginM 2 (c0.toNat:Int) 6)):=HD2.out.next hdk0
   have HJ0:Hid (Inv (beginM 2 (c0.toNat:Int) 6) M [(11,1)] (setV (beginM 2 (c0.toNat:Int) 6) 10 nq0) ((k0 :: c0 :: s0 :: M).drop kq0) bq0):=HI0.out.step hst0
   clear hdk0 hst0
   have sq0:=HE0.out.mb.at (show isOff 10 by unfold isOff;omega)
   have zq0:=HE0.out.mb.free 10
   go_wp2_with fail
   have HF0:Hid (DS w (y0.setCell ⟨X,10,none⟩ (.int .i64 (nq0:Int))) X d ob ao' cap (k0 :: c0 :: s0 :: M) kq0 bq0 (.slice none 0 0) (.slice none 0 0) (setV (beginM 2 (c0.toNat:Int) 6) 10 nq0)):=HE0.out.num (by unfold isOff;omega) _
   generalize y0.setCell ⟨X,10,none⟩ (.int .i64 (nq0:Int))=v0 at HF0 ⊢
   clear HE0 sq0 zq0
   refine (next41 d ob ao' cap (k0 :: c0 :: s0 :: M) kq0 bq0 v0 HF0.out.rk).mono ?_
   rintro e y1 ⟨nq1,kq1,bq1,rfl,hn1,hdk1,hst1⟩
   have HE1:Hid (DS w y1 X d ob ao' cap (k0 :: c0 :: s0 :: M) kq1 bq1 (.slice none 0 0) (.slice none 0 0) (setV (beginM 2 (c0.toNat:Int) 6) 10 nq0)):=HF0.out.next hdk1
   have HJ1:Hid (Inv (beginM 2 (c0.toNat:Int) 6) M [] (setV (setV (beginM 2 (c0.toNat:Int) 6) 10 nq0) 11 nq1) ((k0 :: c0 :: s0 :: M).drop kq1) bq1):=HJ0.out.step hst1
   clear hdk1 hst1
   have sq1:=HE1.out.mb.at (show isOff 11 by unfold isOff;omega)
   have zq1:=HE1.out.mb.free 11
   go_upto_region 40 with fail
   have HF1:Hid (DS w (y1.setCell ⟨X,11,none⟩ (.int .i64 (nq1:Int))) X d ob ao' cap (k0 :: c0 :: s0 :: M) kq1 bq1 (.slice none 0 0) (.slice none 0 0) (setV (setV (beginM 2 (c0.toNat:Int) 6) 10 nq0) 11 nq1)):=HE1.out.num (by unfold isOff;omega) _
   generalize y1.setCell ⟨X,11,none⟩ (.int .i64 (nq1:Int))=v1 at HF1 ⊢
   clear HE1 sq1 zq1
   have t4:v1.cell? ⟨X,8,none⟩=some (.int .i64 6):=HF1.out.mb.cells.2.2.2.2.2.2.2.2.1
   go_wp2_with fail
   go_meet
   case rel=>exact ⟨false,bq1,kq1,none,0,0,none,0,0,(setV (setV (beginM 2 (c0.toNat:Int) 6) 10 nq0) 11 nq1),rfl,HF1.out,rel_plain (by rw [HK.out,HSS.out];rfl) (by rw [HK.out,HSS.out];rfl) (by rw [HK.out,HSS.out];exact HJ1.out),by simp [beginM,setV]⟩
  have p2:(ss==2)=false:=by simp [q2]
  have p1:(ss==1)=false:=by simp [q1]
  have p7:(ss==7)=false:=by simp [q7]
  have p3:(ss==3)=false:=by simp [q3]
  have p4:(ss==4)=false:=by simp [q4]
  have p5:(ss==5)=false:=by simp [q5]
  have p6:(ss==6)=false:=by simp [q6]
  have HIE:Hid (fld (beginM 2 (c0.toNat:Int) ss)=[]):=by simp [Hid,fld,beginM,fldT,q2,q1,q7,q3,q4,q5,q6]
  have HI0:Hid (Inv (beginM 2 (c0.toNat:Int) ss) M [] (beginM 2 (c0.toNat:Int) ss) ((k0 :: c0 :: s0 :: M).drop 3) true):=by have h:=HI2.out;rw [HIE.out] at h;exact h
  have HSS:Hid ((s0.toNat:Int)=ss):=hss
  have HCB:Hid (callsB (beginM 2 (c0.toNat:Int) ss)=false/\answersB (beginM 2 (c0.toNat:Int) ss)=false):=by simp [Hid,callsB,answersB,beginM,q3]
  clear hss q2 q1 q7 q3 q4 q5 q6
  go_wp2_with fail
  go_meet
  case rel=>exact ⟨false,true,3,none,0,0,none,0,0,(beginM 2 (c0.toNat:Int) ss),rfl,HD2.out,rel_plain (by rw [HK.out,HSS.out];exact HCB.out.1) (by rw [HK.out,HSS.out];exact HCB.out.2) (by rw [HK.out,HSS.out];exact HI0.out),by simp [beginM]⟩
 case rest =>
  obtain ⟨op,b,k,ao,n,ca,bo,p,cb,r,rfl,hds,hrl,han⟩:=hcut
  obtain ⟨wt,hwt⟩:∃y:World,y=wc:=⟨_,rfl⟩
  subst hwt
  have HDB:Hid (DS w wt X d ob ao' cap (k0 :: c0 :: s0 :: M) k b (.slice ao n ca) (.slice bo p cb) r):=hds
  have HRL:Hid (Rel (k0 :: c0 :: s0 :: M) r k b op):=hrl
  have HAN:Hid (r.tell.answer.length<=140737488355328):=han
  clear hds hrl han HD2 HI2 m2 hss
  obtain ⟨x0,x1,x2⟩:=HX.out wt HDB.out.gr
  go_upto_region 43 with fail
  clear x0 x1 x2
  obtain ⟨t0,t1,t2,t3⟩:=HDB.out.cells
  cases b
  ·have HE:Hid (readM (k0 :: c0 :: s0 :: M)=(zeroM,4)):=by have h:=HRL.out;unfold Rel at h;rw [if_neg (fun h=>by cases h.1)] at h;exact h
   clear HRL
   obtain ⟨r0,r1,r2,r3,r4,r5,r6,r7,r8,r9,r10,r11,r12,u0,u1,u2,u3,u4,u5,u6,u7,u8,u9,u10,u11,u12⟩:=HDB.out.room.cells
   obtain ⟨z0,z1,z2,z3,z4,z5,z6,z7,z8,z9,z10,z11,z12⟩:=HDB.out.room.frees
   go_wp2_with fail
   obtain ⟨W6,hW6,H6⟩:=setM HDB.out.room (.slice none 0 0) (.slice none 0 0) zeroM
   unfold zeroM zeroC zeroR at hW6
   dsimp only at hW6
   rw [hW6]
   clear hW6
   refine bodyPost_ret (v:=_) (results_row_tmp rfl _ _ w.heap.size _ rfl (loadM H6.out.1 isSl_nil isSl_nil)) rfl ?_
   exact ⟨(.slice none 0 0),(.slice none 0 0),by rw [HE.out];rfl,by rw [HE.out];exact opsOwn_nil _ _,by rw [HE.out];exact Own.nil _ _,grown_new HDB.out.gr H6.out.2 (by intro x hx;simp at hx;omega)⟩
  have HR0:Hid ((op=true\/(k0 :: c0 :: s0 :: M).drop k=[])->okM r=true->readM (k0 :: c0 :: s0 :: M)=(r,0)):=by intro h1 h2;have h:=HRL.out;unfold Rel at h;rw [if_pos ⟨rfl,h1,h2⟩] at h;exact h
  have HN0:Hid (okM r=false->readM (k0 :: c0 :: s0 :: M)=(zeroM,4)):=by intro h2;have h:=HRL.out;unfold Rel at h;rw [if_neg (fun h=>by rw [h2] at h;cases h.2.2)] at h;exact h
  have HL0:Hid (op=false->(k0 :: c0 :: s0 :: M).drop k≠[]->readM (k0 :: c0 :: s0 :: M)=(zeroM,4)):=by intro h1 h2;have h:=HRL.out;unfold Rel at h;rw [if_neg (fun h=>by rw [h1] at h;exact h2 (h.2.1.resolve_left (by decide)))] at h;exact h
  clear HRL
  have HAZ:Hid (r.tell.answer.length<=140737488355328):=HAN
  cases op
  ·go_wp2_with fail
   refine (Wire.left22 d ao' cap k (k0 :: c0 :: s0 :: M) wt HDB.out.rk.rf HDB.out.rk.le (by have:=HDB.out.rk.zz;omega)).mono ?_
   rintro e w8 ⟨rfl,q8,hq8⟩
   have HD:Hid (DS w w8 X d ob ao' cap (k0 :: c0 :: s0 :: M) k true (.slice ao n ca) (.slice bo p cb) r):=by rw [hq8];exact HDB.out.grown (grown_drewN _ _ _)
   clear hq8 HDB t0 t1 t2 t3
   obtain ⟨wt,hwt⟩:∃y:World,y=w8:=⟨_,rfl⟩
   subst hwt
   obtain ⟨lf,hlf⟩:∃y,(k0 :: c0 :: s0 :: M).length-k=y:=⟨_,rfl⟩
   rw [hlf]
   by_cases hl0:lf=0
   ·have HR:Hid (okM r=true->readM (k0 :: c0 :: s0 :: M)=(r,0)):=HR0.out (.inr (List.drop_of_length_le (by omega)))
    have HN:=HN0
    subst hl0
    clear hlf HR0 HN0 HL0
    obtain ⟨m0,m1,m2,m3,m4,m5,m6,m7,m8,m9,m10,m11,m12⟩:=HD.out.mb.cells
    go_wp2_with fail
    refine (may13 (.slice ao n ca) (.slice bo p cb) r wt (OpsOwn.ops HD.out.ops) HD.out.ans.seg HAZ.out).mono ?_
    rintro e w9 ⟨rfl,g9⟩
    have H9:Hid (DS w w9 X d ob ao' cap (k0 :: c0 :: s0 :: M) k true (.slice ao n ca) (.slice bo p cb) r):=HD.out.grown g9
    clear g9 HD m0 m1 m2 m3 m4 m5 m6 m7 m8 m9 m10 m11 m12
    cases hok:okM r
    ·have HE:Hid (readM (k0 :: c0 :: s0 :: M)=(zeroM,4)):=HN.out hok
     clear hok HN HR
     obtain ⟨r0,r1,r2,r3,r4,r5,r6,r7,r8,r9,r10,r11,r12,u0,u1,u2,u3,u4,u5,u6,u7,u8,u9,u10,u11,u12⟩:=H9.out.room.cells
     obtain ⟨z0,z1,z2,z3,z4,z5,z6,z7,z8,z9,z10,z11,z12⟩:=H9.out.room.frees
     go_wp2_with fail
     obtain ⟨W6,hW6,H6⟩:=setM H9.out.room (.slice none 0 0) (.slice none 0 0) zeroM
     unfold zeroM zeroC zeroR at hW6
     dsimp only at hW6
     rw [hW6]
     clear hW6
     refine bodyPost_ret (v:=_) (results_row_tmp rfl _ _ w.heap.size _ rfl (loadM H6.out.1 isSl_nil isSl_nil)) rfl ?_
     exact ⟨(.slice none 0 0),(.slice none 0 0),by rw [HE.out];rfl,by rw [HE.out];exact opsOwn_nil _ _,by rw [HE.out];exact Own.nil _ _,grown_new H9.out.gr H6.out.2 (by intro x hx;simp at hx;omega)⟩
    ·have HE:Hid (readM (k0 :: c0 :: s0 :: M)=(r,0)):=HR.out hok
     clear hok HN HR
     obtain ⟨m0,m1,m2,m3,m4,m5,m6,m7,m8,m9,m10,m11,m12⟩:=H9.out.mb.cells
     obtain ⟨r0,r1,r2,r3,r4,r5,r6,r7,r8,r9,r10,r11,r12,u0,u1,u2,u3,u4,u5,u6,u7,u8,u9,u10,u11,u12⟩:=H9.out.room.cells
     obtain ⟨z0,z1,z2,z3,z4,z5,z6,z7,z8,z9,z10,z11,z12⟩:=H9.out.room.frees
     go_wp2_with fail
     obtain ⟨W6,hW6,H6⟩:=setM H9.out.room (.slice ao n ca) (.slice bo p cb) r
     rw [hW6]
     clear hW6
     refine bodyPost_ret (v:=_) (results_row_tmp rfl _ _ w.heap.size _ rfl (loadM H6.out.1 ⟨_,_,_,rfl⟩ ⟨_,_,_,rfl⟩)) rfl ?_
     obtain ⟨kk0,kk1,kk2,kk3,kk4,kk5,kk6,kk7,kk8,kk9,kk10,kk11,kk12,HRB⟩:=H9.out.room
     exact ⟨(.slice ao n ca),(.slice bo p cb),by rw [HE.out];rfl,by rw [HE.out];exact H9.out.ops.set HRB (by decide) (by decide) H6.out.2,by rw [HE.out];exact own_set H9.out.ans HRB (by decide) H6.out.2,grown_new H9.out.gr H6.out.2 (by intro x hx;simp at hx;omega)⟩
   ·have HE:Hid (readM (k0 :: c0 :: s0 :: M)=(zeroM,4)):=HL0.out (by first | rfl | trivial) (fun h=>by have:=congrArg List.length h;rw [List.length_drop] at this;simp only [List.length_nil] at this;omega)
    have i1:((lf:Int) > 0)=True:=eq_true (by omega)
    have i2:((0:Int)<(lf:Int))=True:=eq_true (by omega)
    have i3:(0<lf)=True:=eq_true (by omega)
    have i4:(lf=0)=False:=eq_false hl0
    clear hlf hl0 HR0 HN0 HL0
    obtain ⟨r0,r1,r2,r3,r4,r5,r6,r7,r8,r9,r10,r11,r12,u0,u1,u2,u3,u4,u5,u6,u7,u8,u9,u10,u11,u12⟩:=HD.out.room.cells
    obtain ⟨z0,z1,z2,z3,z4,z5,z6,z7,z8,z9,z10,z11,z12⟩:=HD.out.room.frees
    go_wp2_with fail
    obtain ⟨W6,hW6,H6⟩:=setM HD.out.room (.slice none 0 0) (.slice none 0 0) zeroM
    unfold zeroM zeroC zeroR at hW6
    dsimp only at hW6
    rw [hW6]
    clear hW6
    refine bodyPost_ret (v:=_) (results_row_tmp rfl _ _ w.heap.size _ rfl (loadM H6.out.1 isSl_nil isSl_nil)) rfl ?_
    exact ⟨(.slice none 0 0),(.slice none 0 0),by rw [HE.out];rfl,by rw [HE.out];exact opsOwn_nil _ _,by rw [HE.out];exact Own.nil _ _,grown_new HD.out.gr H6.out.2 (by intro x hx;simp at hx;omega)⟩
  ·have HR:Hid (okM r=true->readM (k0 :: c0 :: s0 :: M)=(r,0)):=HR0.out (.inl rfl)
   have HN:=HN0
   have HD:=HDB
   clear HR0 HN0 HL0 HDB
   obtain ⟨m0,m1,m2,m3,m4,m5,m6,m7,m8,m9,m10,m11,m12⟩:=HD.out.mb.cells
   go_wp2_with fail
   refine (may13 (.slice ao n ca) (.slice bo p cb) r wt (OpsOwn.ops HD.out.ops) HD.out.ans.seg HAZ.out).mono ?_
   rintro e w9 ⟨rfl,g9⟩
   have H9:Hid (DS w w9 X d ob ao' cap (k0 :: c0 :: s0 :: M) k true (.slice ao n ca) (.slice bo p cb) r):=HD.out.grown g9
   clear g9 HD m0 m1 m2 m3 m4 m5 m6 m7 m8 m9 m10 m11 m12
   cases hok:okM r
   ·have HE:Hid (readM (k0 :: c0 :: s0 :: M)=(zeroM,4)):=HN.out hok
    clear hok HN HR
    obtain ⟨r0,r1,r2,r3,r4,r5,r6,r7,r8,r9,r10,r11,r12,u0,u1,u2,u3,u4,u5,u6,u7,u8,u9,u10,u11,u12⟩:=H9.out.room.cells
    obtain ⟨z0,z1,z2,z3,z4,z5,z6,z7,z8,z9,z10,z11,z12⟩:=H9.out.room.frees
    go_wp2_with fail
    obtain ⟨W6,hW6,H6⟩:=setM H9.out.room (.slice none 0 0) (.slice none 0 0) zeroM
    unfold zeroM zeroC zeroR at hW6
    dsimp only at hW6
    rw [hW6]
    clear hW6
    refine bodyPost_ret (v:=_) (results_row_tmp rfl _ _ w.heap.size _ rfl (loadM H6.out.1 isSl_nil isSl_nil)) rfl ?_
    exact ⟨(.slice none 0 0),(.slice none 0 0),by rw [HE.out];rfl,by rw [HE.out];exact opsOwn_nil _ _,by rw [HE.out];exact Own.nil _ _,grown_new H9.out.gr H6.out.2 (by intro x hx;simp at hx;omega)⟩
   ·have HE:Hid (readM (k0 :: c0 :: s0 :: M)=(r,0)):=HR.out hok
    clear hok HN HR
    obtain ⟨m0,m1,m2,m3,m4,m5,m6,m7,m8,m9,m10,m11,m12⟩:=H9.out.mb.cells
    obtain ⟨r0,r1,r2,r3,r4,r5,r6,r7,r8,r9,r10,r11,r12,u0,u1,u2,u3,u4,u5,u6,u7,u8,u9,u10,u11,u12⟩:=H9.out.room.cells
    obtain ⟨z0,z1,z2,z3,z4,z5,z6,z7,z8,z9,z10,z11,z12⟩:=H9.out.room.frees
    go_wp2_with fail
    obtain ⟨W6,hW6,H6⟩:=setM H9.out.room (.slice ao n ca) (.slice bo p cb) r
    rw [hW6]
    clear hW6
    refine bodyPost_ret (v:=_) (results_row_tmp rfl _ _ w.heap.size _ rfl (loadM H6.out.1 ⟨_,_,_,rfl⟩ ⟨_,_,_,rfl⟩)) rfl ?_
    obtain ⟨kk0,kk1,kk2,kk3,kk4,kk5,kk6,kk7,kk8,kk9,kk10,kk11,kk12,HRB⟩:=H9.out.room
    exact ⟨(.slice ao n ca),(.slice bo p cb),by rw [HE.out];rfl,by rw [HE.out];exact H9.out.ops.set HRB (by decide) (by decide) H6.out.2,by rw [HE.out];exact own_set H9.out.ans HRB (by decide) H6.out.2,grown_new H9.out.gr H6.out.2 (by intro x hx;simp at hx;omega)⟩
end Go.Proofs.YtncbdhdfemidlaaGreat
