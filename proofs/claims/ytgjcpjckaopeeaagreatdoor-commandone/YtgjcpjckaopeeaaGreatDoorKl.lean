import Derived.Test.YtgjcpjckaopeeaaGreatDoorKk
set_option maxHeartbeats 16000000
set_option maxRecDepth 100000
namespace Go.Proofs.YtgjcpjckaopeeaaGreatDoor
open Go.RowKit Disk
open _root_.Go.Proofs.YtgjcpjckaopeeaaGreatDoor.Calls
theorem fillP_in {k:Int}{L M:Bs}{c:PCmd}(h:fillP k L=some (c,M))(h0:-9223372036854775808<=k)(h1:k<=9223372036854775807):InC c:=by
 unfold fillP at h
 split at h
 ·cases hs:pSgn L with
  | none=>rw [hs] at h;cases h
  | some t =>
   rw [hs] at h;simp at h;obtain ⟨rfl,rfl⟩:=h
   have b:=pSgn_in (n:=t.1) (M:=t.2) hs
   constructor <;> first | exact b.1 | exact b.2 | (dsimp only;omega)
 ·split at h
  ·cases hs:pSgn L with
   | none=>rw [hs] at h;cases h
   | some s =>
    rw [hs] at h;simp only [Option.bind_some] at h
    cases hn:pSgn s.2 with
    | none=>rw [hn] at h;cases h
    | some n =>
     rw [hn] at h;simp only [Option.bind_some] at h
     cases hm:pSgn n.2 with
     | none=>rw [hm] at h;cases h
     | some m =>
      rw [hm] at h;simp at h;obtain ⟨rfl,rfl⟩:=h
      have b:=pSgn_in (n:=s.1) (M:=s.2) hs
      have b2:=pSgn_in (n:=n.1) (M:=n.2) hn
      have b3:=pSgn_in (n:=m.1) (M:=m.2) hm
      constructor <;> first | exact b.1 | exact b.2 | exact b2.1 | exact b2.2 | exact b3.1 | exact b3.2 | (dsimp only;omega)
  ·split at h
   ·cases hs:pSgn L with
    | none=>rw [hs] at h;cases h
    | some s =>
     rw [hs] at h;simp at h;obtain ⟨rfl,rfl⟩:=h
     have b:=pSgn_in (n:=s.1) (M:=s.2) hs
     constructor <;> first | exact b.1 | exact b.2 | (dsimp only;omega)
   ·simp at h;obtain ⟨rfl,rfl⟩:=h
    constructor <;> (dsimp only;omega)
theorem rawP_in {L M:Bs}{c:PCmd}(h:rawP L=some (c,M)):InC c:=by
 unfold rawP at h
 cases hk:pNum 4 L with
 | none=>rw [hk] at h;cases h
 | some k =>
  rw [hk] at h
  have hk4:=(pNum_inv (n:=k.1) (M:=k.2) hk).2
  simp only [Option.bind_some] at h
  cases hf:fillP k.1 k.2 with
  | none=>rw [hf] at h;cases h
  | some f =>
   rw [hf] at h
   have hi:=fillP_in (c:=f.1) (M:=f.2) hf (by omega) (by omega)
   simp only [Option.bind_some] at h
   split at h
   ·cases hb:pBytes 4096 f.2 with
    | none=>rw [hb] at h;cases h
    | some b =>
     rw [hb] at h;simp only [Option.bind_some] at h
     cases hl:pCall b.1 with
     | none=>rw [hl] at h;cases h
     | some l =>
      rw [hl] at h;simp at h;obtain ⟨rfl,rfl⟩:=h
      constructor <;> first | exact hi.s0 | exact hi.s1 | exact hi.n0 | exact hi.n1 | exact hi.m0 | exact hi.m1 | (dsimp only;omega)
   ·simp at h;rw [h] at hi;exact hi
def CmdPost (w:World)(r:PCmd × Int)(e:Ending)(w':World):Prop:=∃ov,e=.returned (.tuple #[cmdV ov r.1,.int .i64 r.2])/\OpsOwn w' w.heap.size ov r.1.ops/\w.grownBy w' none
theorem read19 (v:Value)(L:Bs)(w:World)(hs:Seg w v L)(hz:L.length<=140737488355328):Calls Tryz.prog 19 #[v] w (CmdPost w (readM L)):=by
 have HV:Hid (Seg w v L/\L.length<=140737488355328):=⟨hs,hz⟩
 clear hs hz
 go_enter Tryz.func19,Tryz.ntmps19
 go_wp2_with fail
 obtain ⟨W,hW,HW⟩:=al1 w #[.int .i64 0,.int .i64 0,.int .i64 0,.int .i64 0,.int .i64 0,.slice none 0 0] 27
 rw [hW]
 clear hW
 refine (open86 v L W (HV.out.1.grown HW.out.2.1) HV.out.2).mono ?_
 rintro e w1 ⟨b,rfl,hb,hR,g1⟩
 have H1:Hid (RR w1 b L/\Blk w1 w.heap.size 27 #[.int .i64 0,.int .i64 0,.int .i64 0,.int .i64 0,.int .i64 0,.slice none 0 0]/\w.grownBy w1 none/\w.heap.size<b):=⟨hR,HW.out.1.grown g1 (by simp),grown_trans HW.out.2.1 g1,by have:=HW.out.2.2;omega⟩
 clear hb hR g1 HW
 go_wp2_with fail
 refine (read48 b L w1 H1.out.1 HV.out.2).mono ?_
 intro e w2 h
 rcases h with ⟨c,M,ov,hr,rfl,ho,hR2,fr⟩ | ⟨hr,c,ov,er,her,rfl,⟨x,n,y,rfl⟩,fr⟩
 rotate_left
 ·have hbz:Blk w2 w.heap.size 27 #[.int .i64 0,.int .i64 0,.int .i64 0,.int .i64 0,.int .i64 0,.slice none 0 0]:=H1.out.2.1.same (fr.block _ H1.out.2.1.lt (by have:=H1.out.2.2.2;omega))
  have H2:Hid (Blk w2 w.heap.size 27 #[.int .i64 0,.int .i64 0,.int .i64 0,.int .i64 0,.int .i64 0,.slice none 0 0]/\w.grownBy w2 none/\readM L=(zeroC,4)):=⟨hbz,(fr_t (fr_none H1.out.2.2.1) fr).grown (fun k hk=>by rw [hk];have:=H1.out.2.2.2;omega),by unfold readM;rw [pCmd_raw,hr];rfl⟩
  have qer:(er=0)=False:=by simp at her;simp [her]
  clear hbz fr H1 hr
  unfold cmdV
  go_upto_region 4 with fail
  obtain ⟨w3,hw3,H3⟩:=al1 w2 #[.int .i64 c.kind,.int .i64 c.token,.int .i64 c.session,.int .i64 c.number,.int .i64 c.mark,.slice x n y] 27
  rw [hw3]
  clear hw3
  have H4:Hid (Blk w3 w.heap.size 27 #[.int .i64 0,.int .i64 0,.int .i64 0,.int .i64 0,.int .i64 0,.slice none 0 0]/\w.grownBy w3 none):=⟨H2.out.1.grown H3.out.2.1 (by simp),grown_trans H2.out.2.1 H3.out.2.1⟩
  clear H3
  have r0:=H4.out.1.cell 0
  have r1:=H4.out.1.cell 1
  have r2:=H4.out.1.cell 2
  have r3:=H4.out.1.cell 3
  have r4:=H4.out.1.cell 4
  have r5:=H4.out.1.cell 5
  have z0:=H4.out.1.free 0
  have z1:=H4.out.1.free 1
  have z2:=H4.out.1.free 2
  have z3:=H4.out.1.free 3
  have z4:=H4.out.1.free 4
  have z5:=H4.out.1.free 5
  simp at r0 r1 r2 r3 r4 r5
  go_wp2_with fail
  obtain ⟨W6,hW6,H6⟩:=set6 H4.out.1 (.int .i64 0) (.int .i64 0) (.int .i64 0) (.int .i64 0) (.int .i64 0) (.slice none 0 0)
  rw [hW6]
  clear hW6
  have y0:=H6.out.1.cell 0
  have y1:=H6.out.1.cell 1
  have y2:=H6.out.1.cell 2
  have y3:=H6.out.1.cell 3
  have y4:=H6.out.1.cell 4
  have y5:=H6.out.1.cell 5
  simp at y0 y1 y2 y3 y4 y5
  have hgr:w.grownBy W6 none:=grown_new H4.out.2 H6.out.2 (fun x hx=>by simp at hx;omega)
  exact bodyPost_ret (v:=.tuple #[.agg #[.int .i64 0,.int .i64 0,.int .i64 0,.int .i64 0,.int .i64 0,.slice none 0 0],.int .i64 4]) (by simp [results,Tryz.results19,go_sem,y0,y1,y2,y3,y4,y5]) rfl (by rw [H2.out.2.2];exact ⟨.slice none 0 0,rfl,⟨lrow_nil _ _,by simp [zeroC]⟩,hgr⟩)
 obtain ⟨x,n,y,rfl⟩:∃a n b,ov=.slice a n b:=by obtain ⟨a,n,b,e,_⟩:=ops_open ho.ops;exact ⟨a,n,b,e⟩
 have hbz:Blk w2 w.heap.size 27 #[.int .i64 0,.int .i64 0,.int .i64 0,.int .i64 0,.int .i64 0,.slice none 0 0]:=H1.out.2.1.same (fr.block _ H1.out.2.1.lt (by have:=H1.out.2.2.2;omega))
 have H2:Hid (Blk w2 w.heap.size 27 #[.int .i64 0,.int .i64 0,.int .i64 0,.int .i64 0,.int .i64 0,.slice none 0 0]/\w.grownBy w2 none/\RR w2 b M/\OpsOwn w2 w1.heap.size (.slice x n y) c.ops/\readM L=(match finC c M with | some c=>(c,0) | none=>(zeroC,4))/\InC c/\w.heap.size<=w1.heap.size):=⟨hbz,(fr_t (fr_none H1.out.2.2.1) fr).grown (fun k hk=>by rw [hk];have:=H1.out.2.2.2;omega),hR2,ho,by unfold readM;rw [pCmd_raw,hr];rfl,rawP_in hr,H1.out.2.2.1.size⟩
 clear hbz fr H1 hr ho hR2
 unfold cmdV
 go_upto_region 3 with fail
 obtain ⟨w3,hw3,H3⟩:=al1 w2 #[.int .i64 c.kind,.int .i64 c.token,.int .i64 c.session,.int .i64 c.number,.int .i64 c.mark,.slice x n y] 27
 rw [hw3]
 clear hw3
 have H4:Hid (Blk w3 w.heap.size 27 #[.int .i64 0,.int .i64 0,.int .i64 0,.int .i64 0,.int .i64 0,.slice none 0 0]/\w.grownBy w3 none/\RR w3 b M/\OpsOwn w3 w.heap.size (.slice x n y) c.ops/\Blk w3 w2.heap.size 27 #[.int .i64 c.kind,.int .i64 c.token,.int .i64 c.session,.int .i64 c.number,.int .i64 c.mark,.slice x n y]):=⟨H2.out.1.grown H3.out.2.1 (by simp),grown_trans H2.out.2.1 H3.out.2.1,H2.out.2.2.1.grown H3.out.2.1,(H2.out.2.2.2.1.grown H3.out.2.1).mono H2.out.2.2.2.2.2.2,H3.out.1⟩
 clear H3
 by_cases hM:M=[]
 rotate_left
 ·have HN:Hid (readM L=(zeroC,4)):=by rw [Hid,H2.out.2.2.2.2.1,finC,if_neg (fun h=>hM h.1)]
  go_wp2_with fail
  refine (end87 b M _ H4.out.2.2.1).mono ?_
  rintro e wx ⟨rfl,hx⟩
  rw [hx,if_neg hM]
  clear hx
  have r0:=H4.out.1.cell 0
  have r1:=H4.out.1.cell 1
  have r2:=H4.out.1.cell 2
  have r3:=H4.out.1.cell 3
  have r4:=H4.out.1.cell 4
  have r5:=H4.out.1.cell 5
  have z0:=H4.out.1.free 0
  have z1:=H4.out.1.free 1
  have z2:=H4.out.1.free 2
  have z3:=H4.out.1.free 3
  have z4:=H4.out.1.free 4
  have z5:=H4.out.1.free 5
  simp at r0 r1 r2 r3 r4 r5
  go_wp2_with fail
  obtain ⟨W6,hW6,H6⟩:=set6 H4.out.1 (.int .i64 0) (.int .i64 0) (.int .i64 0) (.int .i64 0) (.int .i64 0) (.slice none 0 0)
  rw [hW6]
  clear hW6
  have y0:=H6.out.1.cell 0
  have y1:=H6.out.1.cell 1
  have y2:=H6.out.1.cell 2
  have y3:=H6.out.1.cell 3
  have y4:=H6.out.1.cell 4
  have y5:=H6.out.1.cell 5
  simp at y0 y1 y2 y3 y4 y5
  have hgr:w.grownBy W6 none:=grown_new H4.out.2.1 H6.out.2 (fun x hx=>by simp at hx;omega)
  exact bodyPost_ret (v:=.tuple #[.agg #[.int .i64 0,.int .i64 0,.int .i64 0,.int .i64 0,.int .i64 0,.slice none 0 0],.int .i64 4]) (by simp [results,Tryz.results19,go_sem,y0,y1,y2,y3,y4,y5]) rfl (by rw [HN.out];exact ⟨.slice none 0 0,rfl,⟨lrow_nil _ _,by simp [zeroC]⟩,hgr⟩)
 have d0:=H4.out.2.2.2.2.cell 0
 have d1:=H4.out.2.2.2.2.cell 1
 have d2:=H4.out.2.2.2.2.cell 2
 have d3:=H4.out.2.2.2.2.cell 3
 have d4:=H4.out.2.2.2.2.cell 4
 have d5:=H4.out.2.2.2.2.cell 5
 simp at d0 d1 d2 d3 d4 d5
 go_wp2_with (go_at_call 49;refine (end87 b M _ H4.out.2.2.1).mono ?_;rintro e wx ⟨rfl,hx⟩;rw [hx,if_pos hM];clear hx)
 refine (check13 (.slice x n y) c w3 H4.out.2.2.2.1.ops H2.out.2.2.2.2.2.1).mono ?_
 rintro e w4 ⟨rfl,g4⟩
 have H5:Hid (Blk w4 w.heap.size 27 #[.int .i64 0,.int .i64 0,.int .i64 0,.int .i64 0,.int .i64 0,.slice none 0 0]/\w.grownBy w4 none/\OpsOwn w4 w.heap.size (.slice x n y) c.ops/\Blk w4 w2.heap.size 27 #[.int .i64 c.kind,.int .i64 c.token,.int .i64 c.session,.int .i64 c.number,.int .i64 c.mark,.slice x n y]):=⟨H4.out.1.grown g4 (by simp),grown_trans H4.out.2.1 g4,H4.out.2.2.2.1.grown g4,H4.out.2.2.2.2.grown g4 (by simp)⟩
 clear g4 d0 d1 d2 d3 d4 d5
 by_cases hk:okC c=true
 rotate_left
 ·have HN:Hid (readM L=(zeroC,4)):=by rw [Hid,H2.out.2.2.2.2.1,finC,if_neg (fun h=>hk h.2)]
  rw [show chkC c=2 by rw [chkC,if_neg hk]]
  clear hk H4 H2
  have r0:=H5.out.1.cell 0
  have r1:=H5.out.1.cell 1
  have r2:=H5.out.1.cell 2
  have r3:=H5.out.1.cell 3
  have r4:=H5.out.1.cell 4
  have r5:=H5.out.1.cell 5
  have z0:=H5.out.1.free 0
  have z1:=H5.out.1.free 1
  have z2:=H5.out.1.free 2
  have z3:=H5.out.1.free 3
  have z4:=H5.out.1.free 4
  have z5:=H5.out.1.free 5
  simp at r0 r1 r2 r3 r4 r5
  go_wp2_with fail
  obtain ⟨W6,hW6,H6⟩:=set6 H5.out.1 (.int .i64 0) (.int .i64 0) (.int .i64 0) (.int .i64 0) (.int .i64 0) (.slice none 0 0)
  rw [hW6]
  clear hW6
  have y0:=H6.out.1.cell 0
  have y1:=H6.out.1.cell 1
  have y2:=H6.out.1.cell 2
  have y3:=H6.out.1.cell 3
  have y4:=H6.out.1.cell 4
  have y5:=H6.out.1.cell 5
  simp at y0 y1 y2 y3 y4 y5
  have hgr:w.grownBy W6 none:=grown_new H5.out.2.1 H6.out.2 (fun x hx=>by simp at hx;omega)
  exact bodyPost_ret (v:=.tuple #[.agg #[.int .i64 0,.int .i64 0,.int .i64 0,.int .i64 0,.int .i64 0,.slice none 0 0],.int .i64 4]) (by simp [results,Tryz.results19,go_sem,y0,y1,y2,y3,y4,y5]) rfl (by rw [HN.out];exact ⟨.slice none 0 0,rfl,⟨lrow_nil _ _,by simp [zeroC]⟩,hgr⟩)
 have HN:Hid (readM L=(c,0)):=by rw [Hid,H2.out.2.2.2.2.1,finC,if_pos ⟨hM,hk⟩]
 rw [show chkC c=0 by rw [chkC,if_pos hk]]
 clear hk H4 H2
 have d0:=H5.out.2.2.2.cell 0
 have d1:=H5.out.2.2.2.cell 1
 have d2:=H5.out.2.2.2.cell 2
 have d3:=H5.out.2.2.2.cell 3
 have d4:=H5.out.2.2.2.cell 4
 have d5:=H5.out.2.2.2.cell 5
 simp at d0 d1 d2 d3 d4 d5
 have r0:=H5.out.1.cell 0
 have r1:=H5.out.1.cell 1
 have r2:=H5.out.1.cell 2
 have r3:=H5.out.1.cell 3
 have r4:=H5.out.1.cell 4
 have r5:=H5.out.1.cell 5
 have z0:=H5.out.1.free 0
 have z1:=H5.out.1.free 1
 have z2:=H5.out.1.free 2
 have z3:=H5.out.1.free 3
 have z4:=H5.out.1.free 4
 have z5:=H5.out.1.free 5
 simp at r0 r1 r2 r3 r4 r5
 go_wp2_with fail
 obtain ⟨W6,hW6,H6⟩:=set6 H5.out.1 (.int .i64 c.kind) (.int .i64 c.token) (.int .i64 c.session) (.int .i64 c.number) (.int .i64 c.mark) (.slice x n y)
 rw [hW6]
 clear hW6
 have y0:=H6.out.1.cell 0
 have y1:=H6.out.1.cell 1
 have y2:=H6.out.1.cell 2
 have y3:=H6.out.1.cell 3
 have y4:=H6.out.1.cell 4
 have y5:=H6.out.1.cell 5
 simp at y0 y1 y2 y3 y4 y5
 have hgr:w.grownBy W6 none:=grown_new H5.out.2.1 H6.out.2 (fun x hx=>by simp at hx;omega)
 exact bodyPost_ret (v:=.tuple #[.agg #[.int .i64 c.kind,.int .i64 c.token,.int .i64 c.session,.int .i64 c.number,.int .i64 c.mark,.slice x n y],.int .i64 0]) (by simp [results,Tryz.results19,go_sem,y0,y1,y2,y3,y4,y5]) rfl (by rw [HN.out];exact ⟨.slice x n y,rfl,H5.out.2.2.1.set H5.out.1 (by decide) (by decide) H6.out.2,hgr⟩)
end Go.Proofs.YtgjcpjckaopeeaaGreatDoor
