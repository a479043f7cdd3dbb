import Derived.Test.YtgjcpjckaopeeaaGreatDoorKn
import Derived.Test.YtgjcpjckaopeeaaGreatDoorKl
set_option maxHeartbeats 16000000
set_option maxRecDepth 100000
namespace Go.Proofs.YtgjcpjckaopeeaaGreatDoor
open Go.RowKit Disk
open _root_.Go.Proofs.YtgjcpjckaopeeaaGreatDoor.Calls
open Names (Str)
def rawW (L:List Bs):Option (PCmd × List Bs):=(fillV (kindOf (wNx L).1) (wNx L).2).bind fun f=>if kindOf (wNx L).1=2 then (if (parseC (wNx f.2).1).2=0 then some (⟨2,0,f.1.session,f.1.number,f.1.mark,(parseC (wNx f.2).1).1⟩,(wNx f.2).2) else none) else some f
theorem kindOf_in (x:Bs):0<=kindOf x/\kindOf x<=4:=by
 unfold kindOf
 split
 ·decide
 ·split
  ·decide
  ·split
   ·decide
   ·split <;> decide
theorem pWords_raw (L:List Bs):pWords L=(rawW L).bind fun x=>finW x.1 x.2:=by
 unfold pWords rawW
 have hk:=kindOf_in (wNx L).1
 generalize kindOf (wNx L).1=a at hk ⊢
 generalize (wNx L).2=M
 rcases (show a=0\/a=1\/a=2\/a=3\/a=4 by omega) with rfl | rfl | rfl | rfl | rfl
 ·simp [fillV,finW]
  intro _
  decide
 ·simp [fillV,Option.bind_assoc]
 ·simp only [fillV]
  simp [Option.bind_assoc]
  cases h1:numW M with
  | none=>rfl
  | some s =>
   simp only [Option.bind_some]
   cases h2:numW s.2 with
   | none=>rfl
   | some n =>
    simp only [Option.bind_some]
    cases h3:numW n.2 with
    | none=>rfl
    | some m =>
     simp only [Option.bind_some]
     unfold callW
     split <;> simp [*]
 ·simp [fillV,Option.bind_assoc]
 ·simp [fillV,Option.bind_assoc]
theorem fillV_kind {k:Int}{L M:List Bs}{c:PCmd}(h:fillV k L=some (c,M))(h0:-9223372036854775808<=k)(h1:k<=9223372036854775807):c.kind=k/\c.ops=[]/\(k=2->c.token=0)/\InC c:=by
 unfold fillV at h
 split at h
 ·rename_i e
  cases hs:numW L with
  | none=>rw [hs] at h;cases h
  | some t =>
   rw [hs] at h;simp at h;obtain ⟨rfl,rfl⟩:=h
   have b:=(numW_inv hs).2
   exact ⟨e.symm,rfl,fun e2=>by omega,by constructor <;> first | exact b.1 | exact b.2 | (dsimp only;omega)⟩
 ·split at h
  ·rename_i e1 e
   cases hs:numW L with
   | none=>rw [hs] at h;cases h
   | some s =>
    rw [hs] at h;simp only [Option.bind_some] at h
    cases hn:numW s.2 with
    | none=>rw [hn] at h;cases h
    | some n =>
     rw [hn] at h;simp only [Option.bind_some] at h
     cases hm:numW n.2 with
     | none=>rw [hm] at h;cases h
     | some m =>
      rw [hm] at h;simp at h;obtain ⟨rfl,rfl⟩:=h
      have b:=(numW_inv hs).2
      have b2:=(numW_inv hn).2
      have b3:=(numW_inv hm).2
      exact ⟨e.symm,rfl,fun _=>rfl,by constructor <;> first | exact b.1 | exact b.2 | exact b2.1 | exact b2.2 | exact b3.1 | exact b3.2 | (dsimp only;omega)⟩
  ·split at h
   ·rename_i e1 e2 e
    cases hs:numW L with
    | none=>rw [hs] at h;cases h
    | some s =>
     rw [hs] at h;simp at h;obtain ⟨rfl,rfl⟩:=h
     have b:=(numW_inv hs).2
     exact ⟨rfl,rfl,fun _=>rfl,by constructor <;> first | exact b.1 | exact b.2 | (dsimp only;omega)⟩
   ·simp at h;obtain ⟨rfl,rfl⟩:=h
    exact ⟨rfl,rfl,fun _=>rfl,by constructor <;> (dsimp only;omega)⟩
theorem rawW_in {L M:List Bs}{c:PCmd}(h:rawW L=some (c,M)):InC c:=by
 unfold rawW at h
 have hk:=kindOf_in (wNx L).1
 cases hf:fillV (kindOf (wNx L).1) (wNx L).2 with
 | none=>rw [hf] at h;cases h
 | some f =>
  rw [hf] at h
  have hi:=(fillV_kind (c:=f.1) (M:=f.2) hf (by omega) (by omega)).2.2.2
  simp only [Option.bind_some] at h
  split at h
  ·split at h
   ·simp at h;obtain ⟨rfl,rfl⟩:=h
    constructor <;> first | exact hi.s0 | exact hi.s1 | exact hi.n0 | exact hi.n1 | exact hi.m0 | exact hi.m1 | (dsimp only;omega)
   ·cases h
  ·simp at h;rw [h] at hi;exact hi
def RawW (b:Nat)(L:List Bs)(w:World)(e:Ending)(w':World):Prop:=(∃c M ov,rawW L=some (c,M)/\e=.returned (.tuple #[cmdV ov c,.int .i64 0])/\OpsOwn w' w.heap.size ov c.ops/\WM w' b M/\Fr w w' (fun i=>i=b))\/(rawW L=none/\∃c ov er,((er==0)=false)/\e=.returned (.tuple #[cmdV ov c,.int .i64 er])/\(∃x n y,ov=.slice x n y)/\Fr w w' (fun i=>i=b))
theorem command55 (b:Nat)(L:List Bs)(w:World)(hr:WM w b L)(hb10:10<=b)(hE:EnvC w):Calls Tryz.prog 55 #[.pointer (some ⟨b,0,none⟩)] w (RawW b L w):=by
 have HR:Hid (WM w b L/\EnvC w/\b<w.heap.size):=⟨hr,hE,by obtain ⟨s,hs⟩:=hr.blk;exact hs.lt⟩
 clear hr hE
 go_enter Tryz.func55,Tryz.ntmps55
 go_wp2_with fail
 obtain ⟨W,hW,HW⟩:=al1 w #[.int .i64 0,.int .i64 0,.int .i64 0,.int .i64 0,.int .i64 0,.slice none 0 0] 27
 rw [hW]
 clear hW
 refine (kind87 b L W (HR.out.1.grown HW.out.2.1) hb10 (HR.out.2.1.grown HW.out.2.1)).mono ?_
 rintro e w1 ⟨rfl,hR1,g1⟩
 have H1:Hid (WM w1 b (wNx L).2/\Blk w1 w.heap.size 27 #[.int .i64 0,.int .i64 0,.int .i64 0,.int .i64 0,.int .i64 0,.slice none 0 0]/\Fr w w1 (fun i=>i=b)/\w.heap.size<w1.heap.size/\EnvC w1):=⟨hR1,HW.out.1.grown g1 (fun e=>by simp at e;have:=HR.out.2.2;omega),fr_t (fr_none HW.out.2.1) (fr_b g1),by have:=g1.size;have:=HW.out.2.2;omega,(HR.out.2.1.grown HW.out.2.1).set g1 hb10⟩
 clear hR1 g1 HW
 obtain ⟨n,hn⟩:∃n,kindOf (wNx L).1=n:=⟨_,rfl⟩
 have hn4:=kindOf_in (wNx L).1
 rw [hn] at hn4 ⊢
 obtain ⟨N,hN⟩:∃N,(wNx L).2=N:=⟨_,rfl⟩
 rw [hN] at H1
 have HP:Hid (rawW L=(fillV n N).bind fun f=>if n=2 then (if (parseC (wNx f.2).1).2=0 then some (⟨2,0,f.1.session,f.1.number,f.1.mark,(parseC (wNx f.2).1).1⟩,(wNx f.2).2) else none) else some f):=by unfold rawW Hid;rw [hn,hN]
 clear hn hN
 go_wp2_with fail
 obtain ⟨w2,hw2,H2⟩:=al1 w1 #[.int .i64 n,.int .i64 0,.int .i64 0,.int .i64 0,.int .i64 0,.slice none 0 0] 27
 rw [hw2]
 clear hw2
 refine (fillw b w1.heap.size n N w2 (H1.out.1.grown H2.out.2.1) H2.out.1 hb10 (by have:=H1.out.2.2.2.1;have:=HR.out.2.2;omega) (H1.out.2.2.2.2.grown H2.out.2.1)).mono ?_
 rintro e w3 (⟨c,M,hf,rfl,hR3,hc3,fr3⟩ | ⟨hf,rfl,⟨c,hc3⟩,fr3⟩)
 rotate_left
 ·have HN:Hid (rawW L=none):=by rw [Hid,HP.out,hf];rfl
  have hbz:Blk w3 w.heap.size 27 #[.int .i64 0,.int .i64 0,.int .i64 0,.int .i64 0,.int .i64 0,.slice none 0 0]:=(H1.out.2.1.grown H2.out.2.1 (by simp)).same (fr3.block _ (by have:=H1.out.2.2.2.1;have:=H2.out.2.2;omega) (by have:=HR.out.2.2;have:=H1.out.2.2.2.1;omega))
  have H3:Hid (Blk w3 w.heap.size 27 #[.int .i64 0,.int .i64 0,.int .i64 0,.int .i64 0,.int .i64 0,.slice none 0 0]/\Blk w3 w1.heap.size 27 (cmdA nil0 c)/\Fr w w3 (fun i=>i=b)):=⟨hbz,hc3,fr_cut (fr_t H1.out.2.2.1 (fr_none H2.out.2.1)) fr3 (by have:=H1.out.2.2.2.1;omega)⟩
  clear hf hbz hc3 fr3 H2 H1
  unfold cmdA nil0 at H3
  have c0:=H3.out.2.1.cell 0
  have c1:=H3.out.2.1.cell 1
  have c2:=H3.out.2.1.cell 2
  have c3:=H3.out.2.1.cell 3
  have c4:=H3.out.2.1.cell 4
  have c5:=H3.out.2.1.cell 5
  simp at c0 c1 c2 c3 c4 c5
  have r0:=H3.out.1.cell 0
  have r1:=H3.out.1.cell 1
  have r2:=H3.out.1.cell 2
  have r3:=H3.out.1.cell 3
  have r4:=H3.out.1.cell 4
  have r5:=H3.out.1.cell 5
  have z0:=H3.out.1.free 0
  have z1:=H3.out.1.free 1
  have z2:=H3.out.1.free 2
  have z3:=H3.out.1.free 3
  have z4:=H3.out.1.free 4
  have z5:=H3.out.1.free 5
  simp at r0 r1 r2 r3 r4 r5
  go_wp2_with fail
  obtain ⟨W6,hW6,H6⟩:=set6 H3.out.1 (.int .i64 c.kind) (.int .i64 c.token) (.int .i64 c.session) (.int .i64 c.number) (.int .i64 c.mark) (.slice none 0 0)
  rw [hW6]
  clear hW6
  have y0:=H6.out.1.cell 0
  have y1:=H6.out.1.cell 1
  have y2:=H6.out.1.cell 2
  have y3:=H6.out.1.cell 3
  have y4:=H6.out.1.cell 4
  have y5:=H6.out.1.cell 5
  simp at y0 y1 y2 y3 y4 y5
  have hfr:Fr w W6 (fun i=>i=b):=H3.out.2.2.trans (Fr.of H6.out.2 (F:=fun i=>i=w.heap.size) (fun k hk=>by simp at hk;exact hk.symm)) (fun i hi=>.inr (by rw [hi];exact Nat.le_refl _))
  exact bodyPost_ret (v:=.tuple #[.agg #[.int .i64 c.kind,.int .i64 c.token,.int .i64 c.session,.int .i64 c.number,.int .i64 c.mark,.slice none 0 0],.int .i64 4]) (by simp [results,Tryz.results55,go_sem,y0,y1,y2,y3,y4,y5]) rfl (.inr ⟨HN.out,c,.slice none 0 0,4,rfl,rfl,⟨_,_,_,rfl⟩,hfr⟩)
 obtain ⟨k1,k2,k3,_⟩:=fillV_kind hf (by omega) (by omega)
 have hbz:Blk w3 w.heap.size 27 #[.int .i64 0,.int .i64 0,.int .i64 0,.int .i64 0,.int .i64 0,.slice none 0 0]:=(H1.out.2.1.grown H2.out.2.1 (by simp)).same (fr3.block _ (by have:=H1.out.2.2.2.1;have:=H2.out.2.2;omega) (by have:=HR.out.2.2;have:=H1.out.2.2.2.1;omega))
 have hE3:EnvC w3:=by
  have hfr:=fr_cut (fr_t H1.out.2.2.1 (fr_none H2.out.2.1)) fr3 (by have:=H1.out.2.2.2.1;omega)
  have hl:∀k,k<10->w3.heap[k]? = w.heap[k]?:=fun k hk=>hfr.block k (by have:=HR.out.2.2;omega) (by omega)
  have up:∀{j v},w.cell? ⟨0,j,none⟩=some v->w3.cell? ⟨0,j,none⟩=some v:=fun hc=>by rw [World.cell?_of_block (w:=w) (by exact hl 0 (by omega))];exact hc
  exact ⟨HR.out.2.1.env.low hfr.size hl,up HR.out.2.1.k0,up HR.out.2.1.k1,up HR.out.2.1.k2,up HR.out.2.1.k3,up HR.out.2.1.k4⟩
 have H3:Hid (Blk w3 w.heap.size 27 #[.int .i64 0,.int .i64 0,.int .i64 0,.int .i64 0,.int .i64 0,.slice none 0 0]/\Blk w3 w1.heap.size 27 (cmdA nil0 c)/\Fr w w3 (fun i=>i=b)/\WM w3 b M/\fillV n N=some (c,M)/\c.ops=[]/\EnvC w3/\w.heap.size<w1.heap.size):=⟨hbz,hc3,fr_cut (fr_t H1.out.2.2.1 (fr_none H2.out.2.1)) fr3 (by have:=H1.out.2.2.2.1;omega),hR3,hf,k2,hE3,H1.out.2.2.2.1⟩
 clear hf hbz hc3 fr3 H2 H1 hR3 k2 hE3
 unfold cmdA nil0 at H3
 have c0:=H3.out.2.1.cell 0
 have c1:=H3.out.2.1.cell 1
 have c2:=H3.out.2.1.cell 2
 have c3:=H3.out.2.1.cell 3
 have c4:=H3.out.2.1.cell 4
 have c5:=H3.out.2.1.cell 5
 simp at c0 c1 c2 c3 c4 c5
 by_cases hn2:n=2
 rotate_left
 ·have HN:Hid (rawW L=some (c,M)):=by rw [Hid,HP.out,H3.out.2.2.2.2.1];simp [hn2]
  have q2:(c.kind==2)=false:=by rw [k1];simp;omega
  clear hn2 k1 k3
  have r0:=H3.out.1.cell 0
  have r1:=H3.out.1.cell 1
  have r2:=H3.out.1.cell 2
  have r3:=H3.out.1.cell 3
  have r4:=H3.out.1.cell 4
  have r5:=H3.out.1.cell 5
  have z0:=H3.out.1.free 0
  have z1:=H3.out.1.free 1
  have z2:=H3.out.1.free 2
  have z3:=H3.out.1.free 3
  have z4:=H3.out.1.free 4
  have z5:=H3.out.1.free 5
  simp at r0 r1 r2 r3 r4 r5
  go_wp2_with fail
  obtain ⟨W6,hW6,H6⟩:=set6 H3.out.1 (.int .i64 c.kind) (.int .i64 c.token) (.int .i64 c.session) (.int .i64 c.number) (.int .i64 c.mark) (.slice none 0 0)
  rw [hW6]
  clear hW6
  have y0:=H6.out.1.cell 0
  have y1:=H6.out.1.cell 1
  have y2:=H6.out.1.cell 2
  have y3:=H6.out.1.cell 3
  have y4:=H6.out.1.cell 4
  have y5:=H6.out.1.cell 5
  simp at y0 y1 y2 y3 y4 y5
  have hfr:Fr w W6 (fun i=>i=b):=H3.out.2.2.1.trans (Fr.of H6.out.2 (F:=fun i=>i=w.heap.size) (fun k hk=>by simp at hk;exact hk.symm)) (fun i hi=>.inr (by rw [hi];exact Nat.le_refl _))
  exact bodyPost_ret (v:=.tuple #[.agg #[.int .i64 c.kind,.int .i64 c.token,.int .i64 c.session,.int .i64 c.number,.int .i64 c.mark,.slice none 0 0],.int .i64 0]) (by simp [results,Tryz.results55,go_sem,y0,y1,y2,y3,y4,y5]) rfl (.inl ⟨c,M,.slice none 0 0,HN.out,rfl,by rw [H3.out.2.2.2.2.2.1];exact ⟨lrow_nil _ _,by simp⟩,H3.out.2.2.2.1.set H3.out.1 (by decide) (by decide) H6.out.2,hfr⟩)
 subst hn2
 have k3':=k3 rfl
 rw [k1] at c0
 rw [k3'] at c1
 have HK:Hid (c.kind=2/\c.token=0):=⟨k1,k3'⟩
 clear k1 k3 k3'
 go_wp2_with fail
 refine (next90 b M w3 H3.out.2.2.2.1).mono ?_
 rintro e w4 ⟨rfl,hR4,g4⟩
 have ne1:∀{x c'},Blk w3 x 27 c'->Blk w4 x 27 c':=fun {x c'} hx=>hx.grown g4 (fun e=>by simp at e;exact H3.out.2.2.2.1.ne hx (by decide) e.symm)
 have H4:Hid (Blk w4 w.heap.size 27 #[.int .i64 0,.int .i64 0,.int .i64 0,.int .i64 0,.int .i64 0,.slice none 0 0]/\Blk w4 w1.heap.size 27 #[.int .i64 c.kind,.int .i64 c.token,.int .i64 c.session,.int .i64 c.number,.int .i64 c.mark,.slice none 0 0]/\Fr w w4 (fun i=>i=b)/\WM w4 b (wNx M).2/\EnvC w4/\w.heap.size<w1.heap.size/\fillV 2 N=some (c,M)/\(wNx M).1.length<=20000):=⟨ne1 H3.out.1,ne1 H3.out.2.1,fr_t H3.out.2.2.1 (fr_b g4),hR4,H3.out.2.2.2.2.2.2.1.set g4 hb10,H3.out.2.2.2.2.2.2.2,H3.out.2.2.2.2.1,H3.out.2.2.2.1.first⟩
 clear ne1 g4 H3 hR4 c0 c1 c2 c3 c4 c5
 unfold Str
 go_wp2_with fail
 refine (parse25 (wNx M).1 w4 H4.out.2.2.2.2.2.2.2 H4.out.2.2.2.2.1.env).mono ?_
 rintro e w5 ⟨u,rfl,hu,g5⟩
 obtain ⟨ux,un,uy,rfl⟩:∃a n b,u=.slice a n b:=by obtain ⟨a,n,b,e,_⟩:=ops_open hu.ops;exact ⟨a,n,b,e⟩
 have H5:Hid (Blk w5 w.heap.size 27 #[.int .i64 0,.int .i64 0,.int .i64 0,.int .i64 0,.int .i64 0,.slice none 0 0]/\Blk w5 w1.heap.size 27 #[.int .i64 c.kind,.int .i64 c.token,.int .i64 c.session,.int .i64 c.number,.int .i64 c.mark,.slice none 0 0]/\Fr w w5 (fun i=>i=b)/\WM w5 b (wNx M).2/\OpsOwn w5 w4.heap.size (.slice ux un uy) (parseC (wNx M).1).1/\w.heap.size<w1.heap.size/\w.heap.size<=w4.heap.size):=⟨H4.out.1.grown g5 (by simp),H4.out.2.1.grown g5 (by simp),fr_t H4.out.2.2.1 (fr_none g5),H4.out.2.2.2.1.grown g5,hu,H4.out.2.2.2.2.2.1,H4.out.2.2.1.size⟩
 clear g5 hu
 have c5:=H5.out.2.1.cell 5
 have z5:=H5.out.2.1.free 5
 simp at c5
 obtain ⟨er,her⟩:∃er,(parseC (wNx M).1).2=er:=⟨_,rfl⟩
 rw [her]
 have HE:Hid ((parseC (wNx M).1).2=er):=her
 clear her
 go_upto_region 7 with fail
 have HS:Hid (Blk (w5.setCell ⟨w1.heap.size,5,none⟩ (.slice ux un uy)) w.heap.size 27 #[.int .i64 0,.int .i64 0,.int .i64 0,.int .i64 0,.int .i64 0,.slice none 0 0]/\Blk (w5.setCell ⟨w1.heap.size,5,none⟩ (.slice ux un uy)) w1.heap.size 27 #[.int .i64 c.kind,.int .i64 c.token,.int .i64 c.session,.int .i64 c.number,.int .i64 c.mark,.slice ux un uy]/\Fr w (w5.setCell ⟨w1.heap.size,5,none⟩ (.slice ux un uy)) (fun i=>i=b)/\WM (w5.setCell ⟨w1.heap.size,5,none⟩ (.slice ux un uy)) b (wNx M).2/\OpsOwn (w5.setCell ⟨w1.heap.size,5,none⟩ (.slice ux un uy)) w.heap.size (.slice ux un uy) (parseC (wNx M).1).1):=by
  have hg:=grown_setCell w5 w1.heap.size 5 (.slice ux un uy)
  exact ⟨H5.out.1.grown hg (by simp;have:=H5.out.2.2.2.2.2.1;omega),H5.out.2.1.store 5 _,H5.out.2.2.1.trans (Fr.of hg (F:=fun i=>i=w1.heap.size) (fun k hk=>by simp at hk;exact hk.symm)) (fun i hi=>.inr (by rw [hi];have:=H5.out.2.2.2.2.2.1;omega)),H5.out.2.2.2.1.set H5.out.2.1 (by decide) (by decide) hg,(H5.out.2.2.2.2.1.set H5.out.2.1 (by decide) (by decide) hg).mono H5.out.2.2.2.2.2.2⟩
 generalize w5.setCell ⟨w1.heap.size,5,none⟩ (.slice ux un uy)=w6 at HS ⊢
 clear H5 c5 z5
 have c0:=HS.out.2.1.cell 0
 have c1:=HS.out.2.1.cell 1
 have c2:=HS.out.2.1.cell 2
 have c3:=HS.out.2.1.cell 3
 have c4:=HS.out.2.1.cell 4
 have c5:=HS.out.2.1.cell 5
 simp at c0 c1 c2 c3 c4 c5
 have r0:=HS.out.1.cell 0
 have r1:=HS.out.1.cell 1
 have r2:=HS.out.1.cell 2
 have r3:=HS.out.1.cell 3
 have r4:=HS.out.1.cell 4
 have r5:=HS.out.1.cell 5
 have z0:=HS.out.1.free 0
 have z1:=HS.out.1.free 1
 have z2:=HS.out.1.free 2
 have z3:=HS.out.1.free 3
 have z4:=HS.out.1.free 4
 have z5:=HS.out.1.free 5
 simp at r0 r1 r2 r3 r4 r5
 go_wp2_with fail
 obtain ⟨W6,hW6,H6⟩:=set6 HS.out.1 (.int .i64 c.kind) (.int .i64 c.token) (.int .i64 c.session) (.int .i64 c.number) (.int .i64 c.mark) (.slice ux un uy)
 rw [hW6]
 clear hW6
 have y0:=H6.out.1.cell 0
 have y1:=H6.out.1.cell 1
 have y2:=H6.out.1.cell 2
 have y3:=H6.out.1.cell 3
 have y4:=H6.out.1.cell 4
 have y5:=H6.out.1.cell 5
 simp at y0 y1 y2 y3 y4 y5
 have hfr:Fr w W6 (fun i=>i=b):=HS.out.2.2.1.trans (Fr.of H6.out.2 (F:=fun i=>i=w.heap.size) (fun k hk=>by simp at hk;exact hk.symm)) (fun i hi=>.inr (by rw [hi];exact Nat.le_refl _))
 exact bodyPost_ret (v:=.tuple #[.agg #[.int .i64 c.kind,.int .i64 c.token,.int .i64 c.session,.int .i64 c.number,.int .i64 c.mark,.slice ux un uy],.int .i64 er]) (by simp [results,Tryz.results55,go_sem,y0,y1,y2,y3,y4,y5]) rfl (by
  have hop:=HS.out.2.2.2.2.set HS.out.1 (by decide) (by decide) H6.out.2
  have hrr:=HS.out.2.2.2.1.set HS.out.1 (by decide) (by decide) H6.out.2
  have e1:=HE.out
  by_cases h0:er=0
  ·refine .inl ⟨⟨2,0,c.session,c.number,c.mark,(parseC (wNx M).1).1⟩,(wNx M).2,.slice ux un uy,by rw [HP.out,H4.out.2.2.2.2.2.2.1];simp [e1,h0],?_,hop,hrr,hfr⟩
   rw [h0,HK.out.1,HK.out.2]
   rfl
  ·refine .inr ⟨by rw [HP.out,H4.out.2.2.2.2.2.2.1];simp [e1,h0],c,.slice ux un uy,er,by simp [h0],rfl,⟨_,_,_,rfl⟩,hfr⟩)
theorem split54 (s:Bs)(w:World)(hs:s.length<=20000)(hE:EnvF w) :
  Calls Tryz.prog 54 #[.string ⟨s.toArray⟩,.string ⟨#[32]⟩,.int .i64 5] w fun e w'=>∃n cap,n=(cutN s).length/\n<=cap/\cap<=5/\e=.returned (.slice (some ⟨w.heap.size,0,none⟩) n cap)/\∃cur,w'=w.alloc (.cells cur 9)/\∀j (hj:j<(cutN s).length),cur[j]? = some (.string ⟨(cutN s)[j].toArray⟩):=by
 obtain ⟨m,hm⟩:=hE.maxl
 have e1:(⟨s.toArray⟩:ByteArray).size=s.length:=by simp [ByteArray.size]
 refine (Tryz.strings_SplitN ⟨s.toArray⟩ ⟨#[32]⟩ 5 m w (by omega) hm (by decide) (by decide) (by decide)).mono ?_
 rintro e w' ⟨rfl,rfl⟩
 rw [e1]
 have hd:=Lib.splitB_data ⟨#[32]⟩ 0 (min 5 (s.length+1)-1) ⟨s.toArray⟩
 have hl:=Lib.splitB_length_le ⟨#[32]⟩ 0 (min 5 (s.length+1)-1) ⟨s.toArray⟩
 have hd2:(Lib.splitB ⟨#[32]⟩ 0 (min 5 (s.length+1)-1) ⟨s.toArray⟩).map (·.data.toList)=cutN s:=hd
 have e3:(cutN s).length=(Lib.splitB ⟨#[32]⟩ 0 (min 5 (s.length+1)-1) ⟨s.toArray⟩).length:=by rw [<-hd2,List.length_map]
 refine ⟨_,_,e3.symm,by omega,by omega,rfl,_,rfl,fun j hj=>?_⟩
 have hj':j<(Lib.splitB ⟨#[32]⟩ 0 (min 5 (s.length+1)-1) ⟨s.toArray⟩).length:=by omega
 unfold Lib.cellsOf
 simp only [List.getElem?_toArray]
 rw [List.getElem?_append_left (by simpa using hj'),List.getElem?_map,List.getElem?_eq_getElem hj']
 simp only [Option.map_some,Option.some.injEq,Value.string.injEq]
 have:(cutN s)[j]=((Lib.splitB ⟨#[32]⟩ 0 (min 5 (s.length+1)-1) ⟨s.toArray⟩)[j]).data.toList:=by simp only [<-hd2,List.getElem_map]
 rw [this]
theorem cutN_le (s:Bs):∀x ∈ cutN s,x.length<=s.length:=splitK_le [32] _ s
theorem parse22 (s:Bs)(w:World)(hz:s.length<=20000)(hE:EnvC w):Calls Tryz.prog 22 #[.string ⟨s.toArray⟩] w (CmdPost w (parseM s)):=by
 have HV:Hid (EnvC w/\s.length<=20000):=⟨hE,hz⟩
 clear hE hz
 go_enter Tryz.func22,Tryz.ntmps22
 go_wp2_with fail
 obtain ⟨W,hW,HW⟩:=al1 w #[.int .i64 0,.int .i64 0,.int .i64 0,.int .i64 0,.int .i64 0,.slice none 0 0] 27
 rw [hW]
 clear hW
 refine (split54 s W HV.out.2 (HV.out.1.grown HW.out.2.1).env).mono ?_
 rintro e w0 ⟨n,cap,hn,hnc,hc5,rfl,cur,hw0,hcur⟩
 have H0:Hid (Blk w0 W.heap.size 9 cur/\Blk w0 w.heap.size 27 #[.int .i64 0,.int .i64 0,.int .i64 0,.int .i64 0,.int .i64 0,.slice none 0 0]/\w.grownBy w0 none/\n=(cutN s).length/\n<=cap/\cap<=5/\∀j (hj:j<(cutN s).length),cur[j]? = some (.string ⟨(cutN s)[j].toArray⟩)):=by
  have hg:W.grownBy w0 none:=by rw [hw0];exact World.grownBy_alloc _ _ _
  exact ⟨by rw [hw0];exact heap_alloc_new _ _,HW.out.1.grown hg (by simp),grown_trans HW.out.2.1 hg,hn,hnc,hc5,hcur⟩
 clear hw0 hn hnc hc5 hcur HW
 go_wp2_with fail
 obtain ⟨w1,hw1,HA⟩:=al1 w0 #[.slice (some ⟨W.heap.size,0,none⟩) n cap] 96
 rw [hw1]
 clear hw1
 have H1:Hid (WM w1 w0.heap.size (cutN s)/\Blk w1 w.heap.size 27 #[.int .i64 0,.int .i64 0,.int .i64 0,.int .i64 0,.int .i64 0,.slice none 0 0]/\w.grownBy w1 none/\w.heap.size<w0.heap.size/\EnvC w1/\10<=w0.heap.size):=by
  have hg:=HA.out.2.1
  have hb0:=HA.out.1
  have e0:=H0.out.2.2.2.1
  refine ⟨⟨some ⟨W.heap.size,0,none⟩,cap,by rw [<-e0];exact hb0,by have:=H0.out.2.2.2.2.1;omega,by have:=H0.out.2.2.2.2.2.1;omega,fun x hx=>Nat.le_trans (cutN_le s x hx) HV.out.2,fun j hj=>⟨W.heap.size,0,cur,rfl,?_,H0.out.1.grown hg (by simp)⟩⟩,H0.out.2.1.grown hg (by simp),grown_trans H0.out.2.2.1 hg,H0.out.2.1.lt,HV.out.1.grown (grown_trans H0.out.2.2.1 hg),by have:=HV.out.1.env.sz;have:=H0.out.2.2.1.size;omega⟩
  rw [(H0.out.1.grown hg (by simp)).cell,Nat.zero_add]
  exact H0.out.2.2.2.2.2.2 j hj
 clear HA H0
 refine (command55 w0.heap.size (cutN s) w1 H1.out.1 H1.out.2.2.2.2.2 H1.out.2.2.2.2.1).mono ?_
 intro e w2 h
 rcases h with ⟨c,M,ov,hr,rfl,ho,hR2,fr⟩ | ⟨hr,c,ov,er,her,rfl,⟨x,n,y,rfl⟩,fr⟩
 rotate_left
 ·have hbz:Blk w2 w.heap.size 27 #[.int .i64 0,.int .i64 0,.int .i64 0,.int .i64 0,.int .i64 0,.slice none 0 0]:=H1.out.2.1.same (fr.block _ H1.out.2.1.lt (by have:=H1.out.2.2.2.1;omega))
  have H2:Hid (Blk w2 w.heap.size 27 #[.int .i64 0,.int .i64 0,.int .i64 0,.int .i64 0,.int .i64 0,.slice none 0 0]/\w.grownBy w2 none/\parseM s=(zeroC,4)):=⟨hbz,(fr_t (fr_none H1.out.2.2.1) fr).grown (fun k hk=>by rw [hk];have:=H1.out.2.2.2.1;omega),by unfold parseM pTxt;rw [pWords_raw,hr];rfl⟩
  have qer:(er=0)=False:=by simp at her;simp [her]
  clear hbz fr H1 hr
  unfold cmdV
  go_upto_region 4 with fail
  obtain ⟨w3,hw3,H3⟩:=al1 w2 #[.int .i64 c.kind,.int .i64 c.token,.int .i64 c.session,.int .i64 c.number,.int .i64 c.mark,.slice x n y] 27
  rw [hw3]
  clear hw3
  have H4:Hid (Blk w3 w.heap.size 27 #[.int .i64 0,.int .i64 0,.int .i64 0,.int .i64 0,.int .i64 0,.slice none 0 0]/\w.grownBy w3 none):=⟨H2.out.1.grown H3.out.2.1 (by simp),grown_trans H2.out.2.1 H3.out.2.1⟩
  clear H3
  have r0:=H4.out.1.cell 0
  have r1:=H4.out.1.cell 1
  have r2:=H4.out.1.cell 2
  have r3:=H4.out.1.cell 3
  have r4:=H4.out.1.cell 4
  have r5:=H4.out.1.cell 5
  have z0:=H4.out.1.free 0
  have z1:=H4.out.1.free 1
  have z2:=H4.out.1.free 2
  have z3:=H4.out.1.free 3
  have z4:=H4.out.1.free 4
  have z5:=H4.out.1.free 5
  simp at r0 r1 r2 r3 r4 r5
  go_wp2_with fail
  obtain ⟨W6,hW6,H6⟩:=set6 H4.out.1 (.int .i64 0) (.int .i64 0) (.int .i64 0) (.int .i64 0) (.int .i64 0) (.slice none 0 0)
  rw [hW6]
  clear hW6
  have y0:=H6.out.1.cell 0
  have y1:=H6.out.1.cell 1
  have y2:=H6.out.1.cell 2
  have y3:=H6.out.1.cell 3
  have y4:=H6.out.1.cell 4
  have y5:=H6.out.1.cell 5
  simp at y0 y1 y2 y3 y4 y5
  have hgr:w.grownBy W6 none:=grown_new H4.out.2 H6.out.2 (fun x hx=>by simp at hx;omega)
  exact bodyPost_ret (v:=.tuple #[.agg #[.int .i64 0,.int .i64 0,.int .i64 0,.int .i64 0,.int .i64 0,.slice none 0 0],.int .i64 4]) (by simp [results,Tryz.results22,go_sem,y0,y1,y2,y3,y4,y5]) rfl (by rw [H2.out.2.2];exact ⟨.slice none 0 0,rfl,⟨lrow_nil _ _,by simp [zeroC]⟩,hgr⟩)
 obtain ⟨x,n,y,rfl⟩:∃a n b,ov=.slice a n b:=by obtain ⟨a,n,b,e,_⟩:=ops_open ho.ops;exact ⟨a,n,b,e⟩
 have hbz:Blk w2 w.heap.size 27 #[.int .i64 0,.int .i64 0,.int .i64 0,.int .i64 0,.int .i64 0,.slice none 0 0]:=H1.out.2.1.same (fr.block _ H1.out.2.1.lt (by have:=H1.out.2.2.2.1;omega))
 have H2:Hid (Blk w2 w.heap.size 27 #[.int .i64 0,.int .i64 0,.int .i64 0,.int .i64 0,.int .i64 0,.slice none 0 0]/\w.grownBy w2 none/\WM w2 w0.heap.size M/\OpsOwn w2 w1.heap.size (.slice x n y) c.ops/\parseM s=(match finW c M with | some c=>(c,0) | none=>(zeroC,4))/\InC c/\w.heap.size<=w1.heap.size):=⟨hbz,(fr_t (fr_none H1.out.2.2.1) fr).grown (fun k hk=>by rw [hk];have:=H1.out.2.2.2.1;omega),hR2,ho,by unfold parseM pTxt;rw [pWords_raw,hr];rfl,rawW_in hr,H1.out.2.2.1.size⟩
 clear hbz fr H1 hr ho hR2
 unfold cmdV
 go_upto_region 3 with fail
 obtain ⟨w3,hw3,H3⟩:=al1 w2 #[.int .i64 c.kind,.int .i64 c.token,.int .i64 c.session,.int .i64 c.number,.int .i64 c.mark,.slice x n y] 27
 rw [hw3]
 clear hw3
 have H4:Hid (Blk w3 w.heap.size 27 #[.int .i64 0,.int .i64 0,.int .i64 0,.int .i64 0,.int .i64 0,.slice none 0 0]/\w.grownBy w3 none/\WM w3 w0.heap.size M/\OpsOwn w3 w.heap.size (.slice x n y) c.ops/\Blk w3 w2.heap.size 27 #[.int .i64 c.kind,.int .i64 c.token,.int .i64 c.session,.int .i64 c.number,.int .i64 c.mark,.slice x n y]):=⟨H2.out.1.grown H3.out.2.1 (by simp),grown_trans H2.out.2.1 H3.out.2.1,H2.out.2.2.1.grown H3.out.2.1,(H2.out.2.2.2.1.grown H3.out.2.1).mono H2.out.2.2.2.2.2.2,H3.out.1⟩
 clear H3
 obtain ⟨ao,cp,hbw,_⟩:=H4.out.2.2.1
 obtain ⟨nm,hnm⟩:∃n,M.length=n:=⟨_,rfl⟩
 rw [hnm] at hbw
 have wc:=hbw.cell 0
 simp at wc
 clear hbw
 by_cases hM:M=[]
 rotate_left
 ·have HN:Hid (parseM s=(zeroC,4)):=by rw [Hid,H2.out.2.2.2.2.1,finW,if_neg (fun h=>hM h.1)]
  have hnm0:0<nm:=by rw [<-hnm];exact List.length_pos_iff.2 hM
  have qm:((0:Int)<(nm:Int))=True:=by simp;omega
  have qm1:(0<nm)=True:=by simp;omega
  have qm2:(nm=0)=False:=by simp;omega
  clear hnm hM hnm0
  have r0:=H4.out.1.cell 0
  have r1:=H4.out.1.cell 1
  have r2:=H4.out.1.cell 2
  have r3:=H4.out.1.cell 3
  have r4:=H4.out.1.cell 4
  have r5:=H4.out.1.cell 5
  have z0:=H4.out.1.free 0
  have z1:=H4.out.1.free 1
  have z2:=H4.out.1.free 2
  have z3:=H4.out.1.free 3
  have z4:=H4.out.1.free 4
  have z5:=H4.out.1.free 5
  simp at r0 r1 r2 r3 r4 r5
  go_wp2_with fail
  obtain ⟨W6,hW6,H6⟩:=set6 H4.out.1 (.int .i64 0) (.int .i64 0) (.int .i64 0) (.int .i64 0) (.int .i64 0) (.slice none 0 0)
  rw [hW6]
  clear hW6
  have y0:=H6.out.1.cell 0
  have y1:=H6.out.1.cell 1
  have y2:=H6.out.1.cell 2
  have y3:=H6.out.1.cell 3
  have y4:=H6.out.1.cell 4
  have y5:=H6.out.1.cell 5
  simp at y0 y1 y2 y3 y4 y5
  have hgr:w.grownBy W6 none:=grown_new H4.out.2.1 H6.out.2 (fun x hx=>by simp at hx;omega)
  exact bodyPost_ret (v:=.tuple #[.agg #[.int .i64 0,.int .i64 0,.int .i64 0,.int .i64 0,.int .i64 0,.slice none 0 0],.int .i64 4]) (by simp [results,Tryz.results22,go_sem,y0,y1,y2,y3,y4,y5]) rfl (by rw [HN.out];exact ⟨.slice none 0 0,rfl,⟨lrow_nil _ _,by simp [zeroC]⟩,hgr⟩)
 have hnm0:nm=0:=by rw [<-hnm,hM];rfl
 subst hnm0
 have HM:Hid (M=[]):=hM
 clear hnm hM
 have d0:=H4.out.2.2.2.2.cell 0
 have d1:=H4.out.2.2.2.2.cell 1
 have d2:=H4.out.2.2.2.2.cell 2
 have d3:=H4.out.2.2.2.2.cell 3
 have d4:=H4.out.2.2.2.2.cell 4
 have d5:=H4.out.2.2.2.2.cell 5
 simp at d0 d1 d2 d3 d4 d5
 go_wp2_with fail
 refine (check13 (.slice x n y) c w3 H4.out.2.2.2.1.ops H2.out.2.2.2.2.2.1).mono ?_
 rintro e w4 ⟨rfl,g4⟩
 have H5:Hid (Blk w4 w.heap.size 27 #[.int .i64 0,.int .i64 0,.int .i64 0,.int .i64 0,.int .i64 0,.slice none 0 0]/\w.grownBy w4 none/\OpsOwn w4 w.heap.size (.slice x n y) c.ops/\Blk w4 w2.heap.size 27 #[.int .i64 c.kind,.int .i64 c.token,.int .i64 c.session,.int .i64 c.number,.int .i64 c.mark,.slice x n y]):=⟨H4.out.1.grown g4 (by simp),grown_trans H4.out.2.1 g4,H4.out.2.2.2.1.grown g4,H4.out.2.2.2.2.grown g4 (by simp)⟩
 clear g4 d0 d1 d2 d3 d4 d5 wc
 by_cases hk:okC c=true
 rotate_left
 ·have HN:Hid (parseM s=(zeroC,4)):=by rw [Hid,H2.out.2.2.2.2.1,finW,if_neg (fun h=>hk h.2)]
  rw [show chkC c=2 by rw [chkC,if_neg hk]]
  clear hk H4 H2
  have r0:=H5.out.1.cell 0
  have r1:=H5.out.1.cell 1
  have r2:=H5.out.1.cell 2
  have r3:=H5.out.1.cell 3
  have r4:=H5.out.1.cell 4
  have r5:=H5.out.1.cell 5
  have z0:=H5.out.1.free 0
  have z1:=H5.out.1.free 1
  have z2:=H5.out.1.free 2
  have z3:=H5.out.1.free 3
  have z4:=H5.out.1.free 4
  have z5:=H5.out.1.free 5
  simp at r0 r1 r2 r3 r4 r5
  go_wp2_with fail
  obtain ⟨W6,hW6,H6⟩:=set6 H5.out.1 (.int .i64 0) (.int .i64 0) (.int .i64 0) (.int .i64 0) (.int .i64 0) (.slice none 0 0)
  rw [hW6]
  clear hW6
  have y0:=H6.out.1.cell 0
  have y1:=H6.out.1.cell 1
  have y2:=H6.out.1.cell 2
  have y3:=H6.out.1.cell 3
  have y4:=H6.out.1.cell 4
  have y5:=H6.out.1.cell 5
  simp at y0 y1 y2 y3 y4 y5
  have hgr:w.grownBy W6 none:=grown_new H5.out.2.1 H6.out.2 (fun x hx=>by simp at hx;omega)
  exact bodyPost_ret (v:=.tuple #[.agg #[.int .i64 0,.int .i64 0,.int .i64 0,.int .i64 0,.int .i64 0,.slice none 0 0],.int .i64 4]) (by simp [results,Tryz.results22,go_sem,y0,y1,y2,y3,y4,y5]) rfl (by rw [HN.out];exact ⟨.slice none 0 0,rfl,⟨lrow_nil _ _,by simp [zeroC]⟩,hgr⟩)
 have HN:Hid (parseM s=(c,0)):=by rw [Hid,H2.out.2.2.2.2.1,finW,if_pos ⟨HM.out,hk⟩]
 rw [show chkC c=0 by rw [chkC,if_pos hk]]
 clear hk H4 H2
 have d0:=H5.out.2.2.2.cell 0
 have d1:=H5.out.2.2.2.cell 1
 have d2:=H5.out.2.2.2.cell 2
 have d3:=H5.out.2.2.2.cell 3
 have d4:=H5.out.2.2.2.cell 4
 have d5:=H5.out.2.2.2.cell 5
 simp at d0 d1 d2 d3 d4 d5
 have r0:=H5.out.1.cell 0
 have r1:=H5.out.1.cell 1
 have r2:=H5.out.1.cell 2
 have r3:=H5.out.1.cell 3
 have r4:=H5.out.1.cell 4
 have r5:=H5.out.1.cell 5
 have z0:=H5.out.1.free 0
 have z1:=H5.out.1.free 1
 have z2:=H5.out.1.free 2
 have z3:=H5.out.1.free 3
 have z4:=H5.out.1.free 4
 have z5:=H5.out.1.free 5
 simp at r0 r1 r2 r3 r4 r5
 go_wp2_with fail
 obtain ⟨W6,hW6,H6⟩:=set6 H5.out.1 (.int .i64 c.kind) (.int .i64 c.token) (.int .i64 c.session) (.int .i64 c.number) (.int .i64 c.mark) (.slice x n y)
 rw [hW6]
 clear hW6
 have y0:=H6.out.1.cell 0
 have y1:=H6.out.1.cell 1
 have y2:=H6.out.1.cell 2
 have y3:=H6.out.1.cell 3
 have y4:=H6.out.1.cell 4
 have y5:=H6.out.1.cell 5
 simp at y0 y1 y2 y3 y4 y5
 have hgr:w.grownBy W6 none:=grown_new H5.out.2.1 H6.out.2 (fun x hx=>by simp at hx;omega)
 exact bodyPost_ret (v:=.tuple #[.agg #[.int .i64 c.kind,.int .i64 c.token,.int .i64 c.session,.int .i64 c.number,.int .i64 c.mark,.slice x n y],.int .i64 0]) (by simp [results,Tryz.results22,go_sem,y0,y1,y2,y3,y4,y5]) rfl (by rw [HN.out];exact ⟨.slice x n y,rfl,H5.out.2.2.1.set H5.out.1 (by decide) (by decide) H6.out.2,hgr⟩)
end Go.Proofs.YtgjcpjckaopeeaaGreatDoor
