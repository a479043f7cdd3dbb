import Derived.Test.YtncbdhdfemidlaaGreatMi
set_option maxHeartbeats 4000000
set_option maxRecDepth 100000
namespace Go.Proofs.YtncbdhdfemidlaaGreat
open Go.RowKit Disk
open _root_.Go.Proofs.YtncbdhdfemidlaaGreat.Calls _root_.Go.Proofs.YtncbdhdfemidlaaGreat.Command
theorem own_set {w w':World}{B x t:Nat}{v:Value}{L:Bs}{c:Array Value}(h:Own w B v L)(hx:Blk w x t c)(ht:t≠5)(hg:w.grownBy w' (some x)):Own w' B v L :=
 h.same fun k hk=>hg.block k (h.lt k hk).2 (fun e=>h.other hx ht (by rw [hk,e]))
theorem opsOwn_nil (w:World)(B:Nat):OpsOwn w B (.slice none 0 0) []:=⟨lrow_nil _ _,by simp⟩
def LastP (x:Nat)(m:PMsg)(M:Bs)(w:World)(e:Ending)(w':World):Prop:=∃er ov av r,e=.returned (.int .i64 er)/\w.grownBy w' (some x)/\MB w' x ov av r/\OpsOwn w' w.heap.size ov r.ask.ops/\Own w' w.heap.size av r.tell.answer/\((er=0/\lastOf m M=some r)\/((er==0)=false/\lastOf m M=none))
theorem readC_err (M:Bs):(readC M).2=0\/((readC M).2==0)=false:=by
 by_cases h:(readC M).2=0
 ·exact .inl h
 ·exact .inr (by simp [h])
theorem last63 (x b:Nat)(lo:Option Addr)(ln lc:Nat)(m:PMsg)(L M:Bs)(w:World)(hm:MB w x (.slice none 0 0) (.slice none 0 0) m)(h1:m.ask.ops=[])(h2:m.tell.answer=[])(hr:RR w b M)(hs:Seg w (.slice lo ln lc) L)(hln:L.length=ln)(hM:M.length<=L.length)(hd:L.drop (L.length-M.length)=M)(hz:L.length<=140737488355328):Calls Tryz.prog 63 #[.agg #[.pointer (some ⟨b,0,none⟩),.slice lo ln lc],.pointer (some ⟨x,0,none⟩)] w (LastP x m M w):=by
 obtain ⟨mn,hmn⟩:∃y,M.length=y:=⟨_,rfl⟩
 obtain ⟨so,sn,sc,hsv⟩:∃so sn sc,sliced lo (ln-mn) ln lc 1=.slice so sn sc:=⟨_,_,_,rfl⟩
 have HSS:Hid (Seg w (.slice so sn sc) M):=by
  have h:=seg_rest hln (ln-mn) (by omega) hs
  rw [hsv,<-hln,<-hmn,hd] at h
  exact h
 have hsl:∀wk,(Instr.slice 30 (.slice lo ln lc) (some (.int .i64 ((ln-mn:Nat):Int))) none none).run Tryz.prog wk=.ok (.slice so sn sc) wk:=fun wk=>by rw [<-hsv];exact run_rest30 lo ln lc (ln-mn) (by omega) wk
 have wsb:IntKind.i64.wrap ((ln:Int)-(mn:Int))=((ln-mn:Nat):Int):=by rw [IntKind.wrap_i64];omega
 have H0:Hid (MB w x (.slice none 0 0) (.slice none 0 0) m/\RR w b M/\m.ask.ops=[]/\m.tell.answer=[]/\M.length<=140737488355328/\x<w.heap.size):=⟨hm,hr,h1,h2,by omega,hm.lt⟩
 have HLF:Hid (∀y,w.grownBy y none->Calls Tryz.prog 82 #[.pointer (some ⟨b,0,none⟩)] y fun e w'=>e=.returned (.int .i64 (mn:Int))/\w'=y):=by
  intro y hy
  obtain ⟨s,q1,q2,_⟩:=hr.grown hy
  rw [<-hmn]
  exact Wire.left21 b M y ⟨s,q1,q2⟩
 obtain ⟨kk,hkk⟩:∃y,ln-mn=y:=⟨_,rfl⟩
 rw [hkk] at hsl wsb
 clear hm hr h1 h2 hs hln hM hd hz hsv hmn hkk
 go_enter Tryz.func63,Tryz.ntmps63
 go_upto_region 1 with fail
 obtain ⟨W,hW,HW⟩:=al1' w #[.pointer (some ⟨b,0,none⟩),.slice lo ln lc] 109
 rw [hW]
 clear hW
 refine wp_region_noPanic ?_
 refine wp_region_hold 1000 (fun y=>W.grownBy y none) (by kernel_rfl) ?_
 have G0:Hid (W.grownBy W.drew none):=grown_drew _ _
 generalize W.drew=wd at G0 ⊢
 have J:Idx [0,1,2,3,4,5,6]:=trivial
 iterate 7 (refine tK J (G0.out) rfl rfl (fun wk hk=>by have d0:=(HW.out.1.grown hk (by simp)).cell 0;have d1:=(HW.out.1.grown hk (by simp)).cell 1;simp at d0 d1;go_simp;try rfl) ?_;replace J:=J.tl;try simp only [pN])
 clear J
 refine wpHold_one (i:=7) rfl (by kernel_rfl) (by rfl) (fun K hK=>?_)
 go_wp2_with fail
 refine (HLF.out wd (grown_trans HW.out.2.1 G0.out)).mono ?_
 rintro e wy ⟨rfl,hwy⟩
 rw [hwy]
 clear hwy
 go_wp2_with fail
 refine hK.out _ _ (fun _=>G0.out) ?_
 clear hK K
 try simp only [pN]
 have J:Idx [8,9,10]:=trivial
 iterate 3 (refine tK J (G0.out) rfl rfl (fun wk hk=>by have d0:=(HW.out.1.grown hk (by simp)).cell 0;have d1:=(HW.out.1.grown hk (by simp)).cell 1;simp at d0 d1;go_simp;try rfl) ?_;replace J:=J.tl;try simp only [pN])
 clear J
 refine wpHold_done (by kernel_rfl) ?_
 refine (‹∀(a:Act) (w:World),Code.wp Tryz.prog _ _ a w->_› _ _ ?_)
 have H1:Hid (MB wd x (.slice none 0 0) (.slice none 0 0) m/\w.grownBy wd none/\Seg wd (.slice so sn sc) M/\Blk wd w.heap.size 109 #[.pointer (some ⟨b,0,none⟩),.slice lo ln lc]):=⟨H0.out.1.grown (grown_trans HW.out.2.1 G0.out),grown_trans HW.out.2.1 G0.out,HSS.out.grown (grown_trans HW.out.2.1 G0.out),HW.out.1.grown G0.out (by simp)⟩
 clear G0 HW HSS hsl wsb HLF
 obtain ⟨c0,c1,c2,c3,c4,c5,c6,c7,c8,c9,c10,c11,c12⟩:=H1.out.1.cells
 go_wp2_with fail
 refine (calling46 (.slice none 0 0) (.slice none 0 0) m wd isSl_nil isSl_nil).mono ?_
 rintro e w2 ⟨rfl,g2'⟩
 have H2:Hid (MB w2 x (.slice none 0 0) (.slice none 0 0) m/\w.grownBy w2 none/\Seg w2 (.slice so sn sc) M/\Blk w2 w.heap.size 109 #[.pointer (some ⟨b,0,none⟩),.slice lo ln lc]):=⟨H1.out.1.grown g2',grown_trans H1.out.2.1 g2',H1.out.2.2.1.grown g2',H1.out.2.2.2.grown g2' (by simp)⟩
 clear g2' H1 c0 c1 c2 c3 c4 c5 c6 c7 c8 c9 c10 c11 c12
 cases hcb:callsB m
 rotate_left
 ·have HB:Hid (lastOf m M=if (readC M).2=0 then some (setOps m (readC M).1) else none):=by unfold lastOf Hid;rw [if_pos hcb]
  clear hcb
  go_wp2_with fail
  refine (read22 (.slice so sn sc) M w2 H0.out.2.2.2.2.1 H2.out.2.2.1).mono ?_
  rintro e w3 ⟨u,rfl,hu,hg⟩
  obtain ⟨uo,un,uc,rfl,hun⟩:=hu.slice
  have H3:Hid (MB w3 x (.slice none 0 0) (.slice none 0 0) m/\w.grownBy w3 none/\OpsOwn w3 w.heap.size (.slice uo un uc) (readC M).1):=⟨H2.out.1.grown hg,grown_trans H2.out.2.1 hg,hu.mono H2.out.2.1.size⟩
  clear hg hu hun H2
  have s7:=H3.out.1.cells.2.2.2.2.2.2.2.1
  have z7:=H3.out.1.free 7
  go_wp2_with fail
  go_ret
  have s:=grown_setCell w3 x 7 (.slice uo un uc)
  refine ⟨(readC M).2,.slice uo un uc,(.slice none 0 0),setOps m (readC M).1,rfl,grown_trans (grown_weak H3.out.2.1 _) s,Blk.store H3.out.1 7 _,H3.out.2.2.set H3.out.1 (by decide) (by decide) s,by rw [show (setOps m (readC M).1).tell.answer=[] from H0.out.2.2.2.1];exact Own.nil _ _,?_⟩
  rw [HB.out]
  rcases readC_err M with h | h
  ·exact .inl ⟨h,if_pos h⟩
  ·exact .inr ⟨h,if_neg (by simpa using h)⟩
 obtain ⟨c0,c1,c2,c3,c4,c5,c6,c7,c8,c9,c10,c11,c12⟩:=H2.out.1.cells
 go_wp2_with fail
 refine (answering49 (.slice none 0 0) (.slice none 0 0) m w2 isSl_nil isSl_nil).mono ?_
 rintro e w3 ⟨rfl,g3⟩
 have H3:Hid (MB w3 x (.slice none 0 0) (.slice none 0 0) m/\w.grownBy w3 none/\Seg w3 (.slice so sn sc) M/\Blk w3 w.heap.size 109 #[.pointer (some ⟨b,0,none⟩),.slice lo ln lc]):=⟨H2.out.1.grown g3,grown_trans H2.out.2.1 g3,H2.out.2.2.1.grown g3,H2.out.2.2.2.grown g3 (by simp)⟩
 clear g3 H2 c0 c1 c2 c3 c4 c5 c6 c7 c8 c9 c10 c11 c12
 cases han:answersB m
 rotate_left
 ·have HB:Hid (lastOf m M=some (setAns m M)):=by unfold lastOf Hid;rw [if_neg (by rw [hcb];decide),if_pos han]
  clear hcb han
  go_wp2_with fail
  refine (clone25 (.slice so sn sc) M w3 H3.out.2.2.1 H0.out.2.2.2.2.1).mono ?_
  rintro e w4 ⟨u,rfl,hu,hg⟩
  obtain ⟨uo,un,uc,hus⟩:=isSl_seg hu.seg
  subst hus
  have H4:Hid (MB w4 x (.slice none 0 0) (.slice none 0 0) m/\w.grownBy w4 none/\Own w4 w.heap.size (.slice uo un uc) M):=⟨H3.out.1.grown hg,grown_trans H3.out.2.1 hg,hu.mono H3.out.2.1.size⟩
  clear hg hu H3
  have s7:=H4.out.1.cells.2.2.2.2.2.2.2.2.2.2.2.2
  have z7:=H4.out.1.free 12
  go_wp2_with fail
  go_ret
  have s:=grown_setCell w4 x 12 (.slice uo un uc)
  exact ⟨0,(.slice none 0 0),.slice uo un uc,setAns m M,rfl,grown_trans (grown_weak H4.out.2.1 _) s,Blk.store H4.out.1 12 _,by rw [show (setAns m M).ask.ops=[] from H0.out.2.2.1];exact opsOwn_nil _ _,own_set H4.out.2.2 H4.out.1 (by decide) s,.inl ⟨rfl,HB.out⟩⟩
 have HB:Hid (lastOf m M=if M=[] then some m else none):=by unfold lastOf Hid;rw [if_neg (by rw [hcb];decide),if_neg (by rw [han];decide)]
 clear hcb han
 have d0:=H3.out.2.2.2.cell 0
 simp at d0
 go_wp2_with fail
 refine (end87 b M w3 (H0.out.2.1.grown H3.out.2.1)).mono ?_
 rintro e w4 ⟨rfl,hw4⟩
 rw [hw4]
 clear hw4
 by_cases h:M=[]
 ·rw [if_pos h]
  have HE:Hid (lastOf m M=some m):=by rw [HB.out,if_pos h];rfl
  clear h
  go_wp2_with fail
  go_ret
  exact ⟨0,(.slice none 0 0),(.slice none 0 0),m,rfl,grown_weak H3.out.2.1 _,H3.out.1,by rw [H0.out.2.2.1];exact opsOwn_nil _ _,by rw [H0.out.2.2.2.1];exact Own.nil _ _,.inl ⟨rfl,HE.out⟩⟩
 ·rw [if_neg h]
  have HE:Hid (lastOf m M=none):=by rw [HB.out,if_neg h];rfl
  clear h
  go_wp2_with fail
  go_ret
  exact ⟨4,(.slice none 0 0),(.slice none 0 0),m,rfl,grown_weak H3.out.2.1 _,H3.out.1,by rw [H0.out.2.2.1];exact opsOwn_nil _ _,by rw [H0.out.2.2.2.1];exact Own.nil _ _,.inr ⟨rfl,HE.out⟩⟩
end Go.Proofs.YtncbdhdfemidlaaGreat
