import Derived.Test.YtgjcpjckaopeeaaGreatDoorKj
set_option maxHeartbeats 16000000
set_option maxRecDepth 100000
namespace Go.Proofs.YtgjcpjckaopeeaaGreatDoor
open Go.RowKit Disk
open _root_.Go.Proofs.YtgjcpjckaopeeaaGreatDoor.Calls
def rawP (L:Bs):Option (PCmd × Bs):=(pNum 4 L).bind fun k=>(fillP k.1 k.2).bind fun f=>if k.1=2 then (pBytes 4096 f.2).bind fun b=>(pCall b.1).bind fun l=>some (⟨2,0,f.1.session,f.1.number,f.1.mark,l⟩,b.2) else some f
theorem pCmd_raw (L:Bs):pCmd L=(rawP L).bind fun x=>finC x.1 x.2:=by
 unfold pCmd rawP
 cases hk:pNum 4 L with
 | none=>rfl
 | some k =>
  have hk4:=(pNum_inv (n:=k.1) (M:=k.2) hk).2
  obtain ⟨a,M⟩:=k
  simp only at hk4
  rcases (show a=0\/a=1\/a=2\/a=3\/a=4 by omega) with rfl | rfl | rfl | rfl | rfl
  ·simp [fillP,finC]
   intro _
   decide
  ·simp [fillP,Option.bind_assoc]
  ·simp [fillP,Option.bind_assoc]
  ·simp [fillP,Option.bind_assoc]
  ·simp [fillP,Option.bind_assoc]
def BytesPost' (b:Nat)(L:Bs)(w:World)(e:Ending)(w':World):Prop:=(∃x M v,pBytes 4096 L=some (x,M)/\e=.returned (.tuple #[v,.int .i64 0])/\Own w' w.heap.size v x/\RR w' b M/\w.grownBy w' (some b))\/(pBytes 4096 L=none/\∃er v,((er==0)=false)/\e=.returned (.tuple #[v,.int .i64 er])/\Own w' w.heap.size v []/\w.grownBy w' (some b))
theorem bytesR (b:Nat)(L:Bs)(w:World)(hr:RR w b L)(hz:L.length<=140737488355328):Calls Tryz.prog 79 #[.pointer (some ⟨b,0,none⟩),.int .i64 4096] w (BytesPost' b L w):=by
 obtain ⟨g,h1,h2⟩:=rr_of hr
 refine (Wire.bytes27_g b g L 4096 w h1 (by decide) hz).mono ?_
 rintro e w' ⟨v,rfl,ho,h3,h4⟩
 rcases scan_sgn L with ⟨hs,_,_,hp⟩ | ⟨n,k,hs,_,_,_,hp⟩
 ·have hn:pBytes 4096 L=none:=by unfold pBytes;rw [hp]
  rw [Wire.rdBytes_none (by decide) hs] at ho ⊢
  exact .inr ⟨hn,_,_,rfl,rfl,ho,h4⟩
 ·by_cases hl:(4096:Int)<(n:Int)
  ·have hn:pBytes 4096 L=none:=by unfold pBytes;rw [hp,if_neg (by omega)]
   rw [Wire.rdBytes_long (by decide) hs hl] at ho ⊢
   exact .inr ⟨hn,_,_,rfl,rfl,ho,h4⟩
  ·by_cases hf:(L.drop k).length<n
   ·have hn:pBytes 4096 L=none:=by unfold pBytes;rw [hp,if_pos (by omega)];simp only;rw [if_neg (by omega)]
    rw [Wire.rdBytes_few (by decide) hs hl hf] at ho ⊢
    exact .inr ⟨hn,_,_,rfl,rfl,ho,h4⟩
   ·have hn:pBytes 4096 L=some ((L.drop k).take n,(L.drop k).drop n):=by unfold pBytes;rw [hp,if_pos (by omega)];simp only;rw [if_pos (by omega)]
    rw [Wire.rdBytes_ok (by decide) hs hl hf] at ho h3 ⊢
    exact .inl ⟨_,_,_,hn,rfl,ho,h2 _ _ h3 h4 (fun e=>by subst e;simp),h4⟩
theorem fr_cut {w a c:World}{b cb:Nat}(h:Fr w a (fun i=>i=b))(k:Fr a c (fun i=>i=b\/i=cb))(hc:w.heap.size<=cb):Fr w c (fun i=>i=b):=h.trans k (by rintro i (rfl | rfl);exact .inl rfl;exact .inr hc)
theorem fr_b {w w':World}{b:Nat}(h:w.grownBy w' (some b)):Fr w w' (fun i=>i=b):=Fr.of h (fun k hk=>by simp at hk;exact hk.symm)
theorem fr_t {a b c:World}{F:Nat->Prop}(h:Fr a b F)(k:Fr b c F):Fr a c F:=h.trans k (fun _ hi=>.inl hi)
theorem fillP_kind {k:Int}{L M:Bs}{c:PCmd}(h:fillP k L=some (c,M)):c.kind=k/\c.ops=[]/\(k=2->c.token=0)/\M.length<=L.length:=by
 have hl:∀{L M:Bs} {v:Int},pSgn L=some (v,M)->M.length<=L.length:=fun h=>by rw [pSgn_inv h,List.length_append];omega
 unfold fillP at h
 split at h
 ·rename_i e
  cases hs:pSgn L with
  | none=>rw [hs] at h;cases h
  | some t =>
   rw [hs] at h;simp at h;obtain ⟨rfl,rfl⟩:=h
   exact ⟨e.symm,rfl,fun e2=>by omega,hl (v:=t.1) (M:=t.2) hs⟩
 ·split at h
  ·rename_i e1 e
   cases hs:pSgn L with
   | none=>rw [hs] at h;cases h
   | some s =>
    rw [hs] at h;simp only [Option.bind_some] at h
    cases hn:pSgn s.2 with
    | none=>rw [hn] at h;cases h
    | some n =>
     rw [hn] at h;simp only [Option.bind_some] at h
     cases hm:pSgn n.2 with
     | none=>rw [hm] at h;cases h
     | some m =>
      rw [hm] at h;simp at h;obtain ⟨rfl,rfl⟩:=h
      have a1:=hl (v:=s.1) (M:=s.2) hs
      have a2:=hl (v:=n.1) (M:=n.2) hn
      have a3:=hl (v:=m.1) (M:=m.2) hm
      exact ⟨e.symm,rfl,fun _=>rfl,by omega⟩
  ·split at h
   ·rename_i e1 e2 e
    cases hs:pSgn L with
    | none=>rw [hs] at h;cases h
    | some s =>
     rw [hs] at h;simp at h;obtain ⟨rfl,rfl⟩:=h
     exact ⟨rfl,rfl,fun _=>rfl,hl (v:=s.1) (M:=s.2) hs⟩
   ·simp at h;obtain ⟨rfl,rfl⟩:=h
    exact ⟨rfl,rfl,fun _=>rfl,by omega⟩
def RawPost (b:Nat)(L:Bs)(w:World)(e:Ending)(w':World):Prop:=(∃c M ov,rawP L=some (c,M)/\e=.returned (.tuple #[cmdV ov c,.int .i64 0])/\OpsOwn w' w.heap.size ov c.ops/\RR w' b M/\Fr w w' (fun i=>i=b))\/(rawP L=none/\∃c ov er,((er==0)=false)/\e=.returned (.tuple #[cmdV ov c,.int .i64 er])/\(∃x n y,ov=.slice x n y)/\Fr w w' (fun i=>i=b))
theorem read48 (b:Nat)(L:Bs)(w:World)(hr:RR w b L)(hz:L.length<=140737488355328):Calls Tryz.prog 48 #[.pointer (some ⟨b,0,none⟩)] w (RawPost b L w):=by
 have HR:Hid (RR w b L/\L.length<=140737488355328/\b<w.heap.size):=⟨hr,hz,by obtain ⟨s,hs⟩:=hr.blk;exact hs.lt⟩
 clear hr hz
 go_enter Tryz.func48,Tryz.ntmps48
 go_wp2_with fail
 obtain ⟨W,hW,HW⟩:=al1 w #[.int .i64 0,.int .i64 0,.int .i64 0,.int .i64 0,.int .i64 0,.slice none 0 0] 27
 rw [hW]
 clear hW
 refine (num76 b L W (HR.out.1.grown HW.out.2.1)).mono ?_
 rintro e w1 ⟨rfl,hR1,g1⟩
 have H1:Hid (RR w1 b (Wire.rdNum L).2.2/\Blk w1 w.heap.size 27 #[.int .i64 0,.int .i64 0,.int .i64 0,.int .i64 0,.int .i64 0,.slice none 0 0]/\Fr w w1 (fun i=>i=b)/\w.heap.size<w1.heap.size):=⟨hR1,HW.out.1.grown g1 (fun e=>by simp at e;have:=HR.out.2.2;omega),fr_t (fr_none HW.out.2.1) (fr_b g1),by have:=g1.size;have:=HW.out.2.2;omega⟩
 clear hR1 g1 HW
 rcases scan_sgn L with ⟨_,e0,_,hp⟩ | ⟨n,k,_,hn64,e0,_,hp⟩
 ·rw [e0] at H1 ⊢
  have HN:Hid (rawP L=none):=by unfold rawP Hid;rw [hp];rfl
  clear e0 hp
  simp only at H1 ⊢
  have r0:=H1.out.2.1.cell 0
  have r1:=H1.out.2.1.cell 1
  have r2:=H1.out.2.1.cell 2
  have r3:=H1.out.2.1.cell 3
  have r4:=H1.out.2.1.cell 4
  have r5:=H1.out.2.1.cell 5
  have z0:=H1.out.2.1.free 0
  have z1:=H1.out.2.1.free 1
  have z2:=H1.out.2.1.free 2
  have z3:=H1.out.2.1.free 3
  have z4:=H1.out.2.1.free 4
  have z5:=H1.out.2.1.free 5
  simp at r0 r1 r2 r3 r4 r5
  go_wp2_with fail
  obtain ⟨W6,hW6,H6⟩:=set6 H1.out.2.1 (.int .i64 0) (.int .i64 0) (.int .i64 0) (.int .i64 0) (.int .i64 0) (.slice none 0 0)
  rw [hW6]
  clear hW6
  have y0:=H6.out.1.cell 0
  have y1:=H6.out.1.cell 1
  have y2:=H6.out.1.cell 2
  have y3:=H6.out.1.cell 3
  have y4:=H6.out.1.cell 4
  have y5:=H6.out.1.cell 5
  simp at y0 y1 y2 y3 y4 y5
  have hfr:Fr w W6 (fun i=>i=b):=H1.out.2.2.1.trans (Fr.of H6.out.2 (F:=fun i=>i=w.heap.size) (fun k hk=>by simp at hk;exact hk.symm)) (fun i hi=>.inr (by rw [hi];exact Nat.le_refl _))
  exact bodyPost_ret (v:=.tuple #[.agg #[.int .i64 0,.int .i64 0,.int .i64 0,.int .i64 0,.int .i64 0,.slice none 0 0],.int .i64 4]) (by simp [results,Tryz.results48,go_sem,y0,y1,y2,y3,y4,y5]) rfl (.inr ⟨HN.out,zeroC,.slice none 0 0,4,rfl,rfl,⟨_,_,_,rfl⟩,hfr⟩)
 rw [e0] at H1 ⊢
 simp only at H1 ⊢
 by_cases h4:4<n
 ·have HN:Hid (rawP L=none):=by unfold rawP Hid;rw [hp,if_neg (by omega)];rfl
  have q4:((4:Int)<(n:Int))=True:=by simp;omega
  clear e0 hp h4
  have r0:=H1.out.2.1.cell 0
  have r1:=H1.out.2.1.cell 1
  have r2:=H1.out.2.1.cell 2
  have r3:=H1.out.2.1.cell 3
  have r4:=H1.out.2.1.cell 4
  have r5:=H1.out.2.1.cell 5
  have z0:=H1.out.2.1.free 0
  have z1:=H1.out.2.1.free 1
  have z2:=H1.out.2.1.free 2
  have z3:=H1.out.2.1.free 3
  have z4:=H1.out.2.1.free 4
  have z5:=H1.out.2.1.free 5
  simp at r0 r1 r2 r3 r4 r5
  go_wp2_with fail
  obtain ⟨W6,hW6,H6⟩:=set6 H1.out.2.1 (.int .i64 0) (.int .i64 0) (.int .i64 0) (.int .i64 0) (.int .i64 0) (.slice none 0 0)
  rw [hW6]
  clear hW6
  have y0:=H6.out.1.cell 0
  have y1:=H6.out.1.cell 1
  have y2:=H6.out.1.cell 2
  have y3:=H6.out.1.cell 3
  have y4:=H6.out.1.cell 4
  have y5:=H6.out.1.cell 5
  simp at y0 y1 y2 y3 y4 y5
  have hfr:Fr w W6 (fun i=>i=b):=H1.out.2.2.1.trans (Fr.of H6.out.2 (F:=fun i=>i=w.heap.size) (fun k hk=>by simp at hk;exact hk.symm)) (fun i hi=>.inr (by rw [hi];exact Nat.le_refl _))
  exact bodyPost_ret (v:=.tuple #[.agg #[.int .i64 0,.int .i64 0,.int .i64 0,.int .i64 0,.int .i64 0,.slice none 0 0],.int .i64 4]) (by simp [results,Tryz.results48,go_sem,y0,y1,y2,y3,y4,y5]) rfl (.inr ⟨HN.out,zeroC,.slice none 0 0,4,rfl,rfl,⟨_,_,_,rfl⟩,hfr⟩)
 have hpn:pNum 4 L=some (n,L.drop k):=by rw [hp,if_pos (by omega)]
 have q4:((4:Int)<(n:Int))=False:=by simp;omega
 have wn:IntKind.i64.wrap (n:Int)=(n:Int):=by rw [IntKind.wrap_i64];omega
 have HP:Hid (rawP L=(fillP n (L.drop k)).bind fun f=>if n=2 then (pBytes 4096 f.2).bind fun b=>(pCall b.1).bind fun l=>some (⟨2,0,f.1.session,f.1.number,f.1.mark,l⟩,b.2) else some f):=by unfold rawP Hid;rw [hpn];rfl
 have hn4:n<=4:=by omega
 clear e0 hp hpn h4
 go_wp2_with fail
 obtain ⟨w2,hw2,H2⟩:=al1 w1 #[.int .i64 n,.int .i64 0,.int .i64 0,.int .i64 0,.int .i64 0,.slice none 0 0] 27
 rw [hw2]
 clear hw2
 refine (fill77 b w1.heap.size n (L.drop k) w2 (H1.out.1.grown H2.out.2.1) H2.out.1).mono ?_
 rintro e w3 (⟨c,M,hf,rfl,hR3,hc3,fr3⟩ | ⟨hf,rfl,⟨c,hc3⟩,fr3⟩)
 rotate_left
 ·have HN:Hid (rawP L=none):=by rw [Hid,HP.out,hf];rfl
  have hbz:Blk w3 w.heap.size 27 #[.int .i64 0,.int .i64 0,.int .i64 0,.int .i64 0,.int .i64 0,.slice none 0 0]:=(H1.out.2.1.grown H2.out.2.1 (by simp)).same (fr3.block _ (by have:=H1.out.2.2.2;have:=H2.out.2.2;omega) (by have:=HR.out.2.2;have:=H1.out.2.2.2;omega))
  have H3:Hid (Blk w3 w.heap.size 27 #[.int .i64 0,.int .i64 0,.int .i64 0,.int .i64 0,.int .i64 0,.slice none 0 0]/\Blk w3 w1.heap.size 27 (cmdA nil0 c)/\Fr w w3 (fun i=>i=b)):=⟨hbz,hc3,fr_cut (fr_t H1.out.2.2.1 (fr_none H2.out.2.1)) fr3 (by have:=H1.out.2.2.2;omega)⟩
  clear hf hbz hc3 fr3 H2 H1
  unfold cmdA nil0 at H3
  have c0:=H3.out.2.1.cell 0
  have c1:=H3.out.2.1.cell 1
  have c2:=H3.out.2.1.cell 2
  have c3:=H3.out.2.1.cell 3
  have c4:=H3.out.2.1.cell 4
  have c5:=H3.out.2.1.cell 5
  simp at c0 c1 c2 c3 c4 c5
  have r0:=H3.out.1.cell 0
  have r1:=H3.out.1.cell 1
  have r2:=H3.out.1.cell 2
  have r3:=H3.out.1.cell 3
  have r4:=H3.out.1.cell 4
  have r5:=H3.out.1.cell 5
  have z0:=H3.out.1.free 0
  have z1:=H3.out.1.free 1
  have z2:=H3.out.1.free 2
  have z3:=H3.out.1.free 3
  have z4:=H3.out.1.free 4
  have z5:=H3.out.1.free 5
  simp at r0 r1 r2 r3 r4 r5
  go_wp2_with fail
  obtain ⟨W6,hW6,H6⟩:=set6 H3.out.1 (.int .i64 c.kind) (.int .i64 c.token) (.int .i64 c.session) (.int .i64 c.number) (.int .i64 c.mark) (.slice none 0 0)
  rw [hW6]
  clear hW6
  have y0:=H6.out.1.cell 0
  have y1:=H6.out.1.cell 1
  have y2:=H6.out.1.cell 2
  have y3:=H6.out.1.cell 3
  have y4:=H6.out.1.cell 4
  have y5:=H6.out.1.cell 5
  simp at y0 y1 y2 y3 y4 y5
  have hfr:Fr w W6 (fun i=>i=b):=H3.out.2.2.trans (Fr.of H6.out.2 (F:=fun i=>i=w.heap.size) (fun k hk=>by simp at hk;exact hk.symm)) (fun i hi=>.inr (by rw [hi];exact Nat.le_refl _))
  exact bodyPost_ret (v:=.tuple #[.agg #[.int .i64 c.kind,.int .i64 c.token,.int .i64 c.session,.int .i64 c.number,.int .i64 c.mark,.slice none 0 0],.int .i64 4]) (by simp [results,Tryz.results48,go_sem,y0,y1,y2,y3,y4,y5]) rfl (.inr ⟨HN.out,c,.slice none 0 0,4,rfl,rfl,⟨_,_,_,rfl⟩,hfr⟩)
 obtain ⟨k1,k2,k3,k4⟩:=fillP_kind hf
 have hbz:Blk w3 w.heap.size 27 #[.int .i64 0,.int .i64 0,.int .i64 0,.int .i64 0,.int .i64 0,.slice none 0 0]:=(H1.out.2.1.grown H2.out.2.1 (by simp)).same (fr3.block _ (by have:=H1.out.2.2.2;have:=H2.out.2.2;omega) (by have:=HR.out.2.2;have:=H1.out.2.2.2;omega))
 have H3:Hid (Blk w3 w.heap.size 27 #[.int .i64 0,.int .i64 0,.int .i64 0,.int .i64 0,.int .i64 0,.slice none 0 0]/\Blk w3 w1.heap.size 27 (cmdA nil0 c)/\Fr w w3 (fun i=>i=b)/\RR w3 b M/\fillP n (L.drop k)=some (c,M)/\c.ops=[]/\M.length<=L.length/\w.heap.size<w1.heap.size):=⟨hbz,hc3,fr_cut (fr_t H1.out.2.2.1 (fr_none H2.out.2.1)) fr3 (by have:=H1.out.2.2.2;omega),hR3,hf,k2,by rw [List.length_drop] at k4;omega,H1.out.2.2.2⟩
 clear hf hbz hc3 fr3 H2 H1 hR3 k2 k4
 unfold cmdA nil0 at H3
 have c0:=H3.out.2.1.cell 0
 have c1:=H3.out.2.1.cell 1
 have c2:=H3.out.2.1.cell 2
 have c3:=H3.out.2.1.cell 3
 have c4:=H3.out.2.1.cell 4
 have c5:=H3.out.2.1.cell 5
 simp at c0 c1 c2 c3 c4 c5
 by_cases hn2:n=2
 rotate_left
 ·have HN:Hid (rawP L=some (c,M)):=by rw [Hid,HP.out,H3.out.2.2.2.2.1];simp [hn2]
  have q2:(c.kind==2)=false:=by rw [k1];simp;omega
  clear hn2 k1 k3
  have r0:=H3.out.1.cell 0
  have r1:=H3.out.1.cell 1
  have r2:=H3.out.1.cell 2
  have r3:=H3.out.1.cell 3
  have r4:=H3.out.1.cell 4
  have r5:=H3.out.1.cell 5
  have z0:=H3.out.1.free 0
  have z1:=H3.out.1.free 1
  have z2:=H3.out.1.free 2
  have z3:=H3.out.1.free 3
  have z4:=H3.out.1.free 4
  have z5:=H3.out.1.free 5
  simp at r0 r1 r2 r3 r4 r5
  go_wp2_with fail
  obtain ⟨W6,hW6,H6⟩:=set6 H3.out.1 (.int .i64 c.kind) (.int .i64 c.token) (.int .i64 c.session) (.int .i64 c.number) (.int .i64 c.mark) (.slice none 0 0)
  rw [hW6]
  clear hW6
  have y0:=H6.out.1.cell 0
  have y1:=H6.out.1.cell 1
  have y2:=H6.out.1.cell 2
  have y3:=H6.out.1.cell 3
  have y4:=H6.out.1.cell 4
  have y5:=H6.out.1.cell 5
  simp at y0 y1 y2 y3 y4 y5
  have hfr:Fr w W6 (fun i=>i=b):=H3.out.2.2.1.trans (Fr.of H6.out.2 (F:=fun i=>i=w.heap.size) (fun k hk=>by simp at hk;exact hk.symm)) (fun i hi=>.inr (by rw [hi];exact Nat.le_refl _))
  exact bodyPost_ret (v:=.tuple #[.agg #[.int .i64 c.kind,.int .i64 c.token,.int .i64 c.session,.int .i64 c.number,.int .i64 c.mark,.slice none 0 0],.int .i64 0]) (by simp [results,Tryz.results48,go_sem,y0,y1,y2,y3,y4,y5]) rfl (.inl ⟨c,M,.slice none 0 0,HN.out,rfl,by rw [H3.out.2.2.2.2.2.1];exact ⟨lrow_nil _ _,by simp⟩,H3.out.2.2.2.1.set H3.out.1 H6.out.2 (by decide) (by decide),hfr⟩)
 subst hn2
 have k1':c.kind=2:=by rw [k1];rfl
 have k3':=k3 rfl
 rw [k1'] at c0
 rw [k3'] at c1
 have HK:Hid (c.kind=2/\c.token=0):=⟨k1',k3'⟩
 clear k1 k3 k1' k3'
 go_wp2_with fail
 refine (bytesR b M w3 H3.out.2.2.2.1 (by have:=HR.out.2.1;have:=H3.out.2.2.2.2.2.2.1;omega)).mono ?_
 intro e w4 h
 rcases h with ⟨x,M2,v,hb,rfl,hov,hR4,g4⟩ | ⟨hb,er,v,her,rfl,hov,g4⟩
 rotate_left
 ·have HN:Hid (rawP L=none):=by rw [Hid,HP.out,H3.out.2.2.2.2.1];simp [hb]
  obtain ⟨sx,sn,sy,rfl⟩:=slice_of hov
  have ne1:∀{x c'},Blk w3 x 27 c'->Blk w4 x 27 c':=fun {x c'} hx=>hx.grown g4 (fun e=>by simp at e;exact H3.out.2.2.2.1.ne hx (by decide) e.symm)
  have H4:Hid (Blk w4 w.heap.size 27 #[.int .i64 0,.int .i64 0,.int .i64 0,.int .i64 0,.int .i64 0,.slice none 0 0]/\Blk w4 w1.heap.size 27 #[.int .i64 c.kind,.int .i64 c.token,.int .i64 c.session,.int .i64 c.number,.int .i64 c.mark,.slice none 0 0]/\Fr w w4 (fun i=>i=b)):=⟨ne1 H3.out.1,ne1 H3.out.2.1,fr_t H3.out.2.2.1 (fr_b g4)⟩
  have qer:(er=0)=False:=by simp at her;simp [her]
  clear ne1 hov g4 H3 hb c0 c1 c2 c3 c4 c5
  have c0:=H4.out.2.1.cell 0
  have c1:=H4.out.2.1.cell 1
  have c2:=H4.out.2.1.cell 2
  have c3:=H4.out.2.1.cell 3
  have c4:=H4.out.2.1.cell 4
  have c5:=H4.out.2.1.cell 5
  simp at c0 c1 c2 c3 c4 c5
  have r0:=H4.out.1.cell 0
  have r1:=H4.out.1.cell 1
  have r2:=H4.out.1.cell 2
  have r3:=H4.out.1.cell 3
  have r4:=H4.out.1.cell 4
  have r5:=H4.out.1.cell 5
  have z0:=H4.out.1.free 0
  have z1:=H4.out.1.free 1
  have z2:=H4.out.1.free 2
  have z3:=H4.out.1.free 3
  have z4:=H4.out.1.free 4
  have z5:=H4.out.1.free 5
  simp at r0 r1 r2 r3 r4 r5
  go_wp2_with fail
  obtain ⟨W6,hW6,H6⟩:=set6 H4.out.1 (.int .i64 c.kind) (.int .i64 c.token) (.int .i64 c.session) (.int .i64 c.number) (.int .i64 c.mark) (.slice none 0 0)
  rw [hW6]
  clear hW6
  have y0:=H6.out.1.cell 0
  have y1:=H6.out.1.cell 1
  have y2:=H6.out.1.cell 2
  have y3:=H6.out.1.cell 3
  have y4:=H6.out.1.cell 4
  have y5:=H6.out.1.cell 5
  simp at y0 y1 y2 y3 y4 y5
  have hfr:Fr w W6 (fun i=>i=b):=H4.out.2.2.trans (Fr.of H6.out.2 (F:=fun i=>i=w.heap.size) (fun k hk=>by simp at hk;exact hk.symm)) (fun i hi=>.inr (by rw [hi];exact Nat.le_refl _))
  exact bodyPost_ret (v:=.tuple #[.agg #[.int .i64 c.kind,.int .i64 c.token,.int .i64 c.session,.int .i64 c.number,.int .i64 c.mark,.slice none 0 0],.int .i64 er]) (by simp [results,Tryz.results48,go_sem,y0,y1,y2,y3,y4,y5]) rfl (.inr ⟨HN.out,c,.slice none 0 0,er,her,rfl,⟨_,_,_,rfl⟩,hfr⟩)
 obtain ⟨sx,sn,sy,rfl⟩:=slice_of hov
 have ne1:∀{x c'},Blk w3 x 27 c'->Blk w4 x 27 c':=fun {x c'} hx=>hx.grown g4 (fun e=>by simp at e;exact H3.out.2.2.2.1.ne hx (by decide) e.symm)
 have H4:Hid (Blk w4 w.heap.size 27 #[.int .i64 0,.int .i64 0,.int .i64 0,.int .i64 0,.int .i64 0,.slice none 0 0]/\Blk w4 w1.heap.size 27 #[.int .i64 c.kind,.int .i64 c.token,.int .i64 c.session,.int .i64 c.number,.int .i64 c.mark,.slice none 0 0]/\Fr w w4 (fun i=>i=b)/\RR w4 b M2/\Seg w4 (.slice sx sn sy) x/\w.heap.size<w1.heap.size/\fillP ((2:Nat):Int) (L.drop k)=some (c,M)/\pBytes 4096 M=some (x,M2)):=⟨ne1 H3.out.1,ne1 H3.out.2.1,fr_t H3.out.2.2.1 (fr_b g4),hR4,hov.seg,H3.out.2.2.2.2.2.2.2,H3.out.2.2.2.2.1,hb⟩
 have hx4:=(pBytes_inv hb).2
 clear ne1 hov g4 H3 hb hR4 c0 c1 c2 c3 c4 c5
 go_wp2_with fail
 refine (read22 (.slice sx sn sy) x w4 (by omega) H4.out.2.2.2.2.1).mono ?_
 rintro e w5 ⟨u,rfl,hu,g5⟩
 obtain ⟨ux,un,uy,rfl⟩:∃a n b,u=.slice a n b:=by obtain ⟨a,n,b,e,_⟩:=ops_open hu.ops;exact ⟨a,n,b,e⟩
 have H5:Hid (Blk w5 w.heap.size 27 #[.int .i64 0,.int .i64 0,.int .i64 0,.int .i64 0,.int .i64 0,.slice none 0 0]/\Blk w5 w1.heap.size 27 #[.int .i64 c.kind,.int .i64 c.token,.int .i64 c.session,.int .i64 c.number,.int .i64 c.mark,.slice none 0 0]/\Fr w w5 (fun i=>i=b)/\RR w5 b M2/\OpsOwn w5 w4.heap.size (.slice ux un uy) (readC x).1/\w.heap.size<w1.heap.size/\w.heap.size<=w4.heap.size):=⟨H4.out.1.grown g5 (by simp),H4.out.2.1.grown g5 (by simp),fr_t H4.out.2.2.1 (fr_none g5),H4.out.2.2.2.1.grown g5,hu,H4.out.2.2.2.2.2.1,H4.out.2.2.1.size⟩
 clear g5 hu
 have c5:=H5.out.2.1.cell 5
 have z5:=H5.out.2.1.free 5
 simp at c5
 have hrd:readC x=match pCall x with | some l=>(l,0) | none=>([],4):=by unfold readC;rw [if_pos hx4];cases pCall x <;> rfl
 obtain ⟨er,her⟩:∃er,(readC x).2=er:=⟨_,rfl⟩
 rw [her]
 have HE:Hid ((readC x).2=er/\readC x=match pCall x with | some l=>(l,0) | none=>([],4)):=⟨her,hrd⟩
 clear her hrd
 go_upto_region 12 with fail
 have HS:Hid (Blk (w5.setCell ⟨w1.heap.size,5,none⟩ (.slice ux un uy)) w.heap.size 27 #[.int .i64 0,.int .i64 0,.int .i64 0,.int .i64 0,.int .i64 0,.slice none 0 0]/\Blk (w5.setCell ⟨w1.heap.size,5,none⟩ (.slice ux un uy)) w1.heap.size 27 #[.int .i64 c.kind,.int .i64 c.token,.int .i64 c.session,.int .i64 c.number,.int .i64 c.mark,.slice ux un uy]/\Fr w (w5.setCell ⟨w1.heap.size,5,none⟩ (.slice ux un uy)) (fun i=>i=b)/\RR (w5.setCell ⟨w1.heap.size,5,none⟩ (.slice ux un uy)) b M2/\OpsOwn (w5.setCell ⟨w1.heap.size,5,none⟩ (.slice ux un uy)) w.heap.size (.slice ux un uy) (readC x).1):=by
  have hg:=grown_setCell w5 w1.heap.size 5 (.slice ux un uy)
  exact ⟨H5.out.1.grown hg (by simp;have:=H5.out.2.2.2.2.2.1;omega),H5.out.2.1.store 5 _,H5.out.2.2.1.trans (Fr.of hg (F:=fun i=>i=w1.heap.size) (fun k hk=>by simp at hk;exact hk.symm)) (fun i hi=>.inr (by rw [hi];have:=H5.out.2.2.2.2.2.1;omega)),H5.out.2.2.2.1.set H5.out.2.1 hg (by decide) (by decide),(H5.out.2.2.2.2.1.set H5.out.2.1 (by decide) (by decide) hg).mono H5.out.2.2.2.2.2.2⟩
 generalize w5.setCell ⟨w1.heap.size,5,none⟩ (.slice ux un uy)=w6 at HS ⊢
 clear H5 c5 z5
 have c0:=HS.out.2.1.cell 0
 have c1:=HS.out.2.1.cell 1
 have c2:=HS.out.2.1.cell 2
 have c3:=HS.out.2.1.cell 3
 have c4:=HS.out.2.1.cell 4
 have c5:=HS.out.2.1.cell 5
 simp at c0 c1 c2 c3 c4 c5
 have r0:=HS.out.1.cell 0
 have r1:=HS.out.1.cell 1
 have r2:=HS.out.1.cell 2
 have r3:=HS.out.1.cell 3
 have r4:=HS.out.1.cell 4
 have r5:=HS.out.1.cell 5
 have z0:=HS.out.1.free 0
 have z1:=HS.out.1.free 1
 have z2:=HS.out.1.free 2
 have z3:=HS.out.1.free 3
 have z4:=HS.out.1.free 4
 have z5:=HS.out.1.free 5
 simp at r0 r1 r2 r3 r4 r5
 go_wp2_with fail
 obtain ⟨W6,hW6,H6⟩:=set6 HS.out.1 (.int .i64 c.kind) (.int .i64 c.token) (.int .i64 c.session) (.int .i64 c.number) (.int .i64 c.mark) (.slice ux un uy)
 rw [hW6]
 clear hW6
 have y0:=H6.out.1.cell 0
 have y1:=H6.out.1.cell 1
 have y2:=H6.out.1.cell 2
 have y3:=H6.out.1.cell 3
 have y4:=H6.out.1.cell 4
 have y5:=H6.out.1.cell 5
 simp at y0 y1 y2 y3 y4 y5
 have hfr:Fr w W6 (fun i=>i=b):=HS.out.2.2.1.trans (Fr.of H6.out.2 (F:=fun i=>i=w.heap.size) (fun k hk=>by simp at hk;exact hk.symm)) (fun i hi=>.inr (by rw [hi];exact Nat.le_refl _))
 exact bodyPost_ret (v:=.tuple #[.agg #[.int .i64 c.kind,.int .i64 c.token,.int .i64 c.session,.int .i64 c.number,.int .i64 c.mark,.slice ux un uy],.int .i64 er]) (by simp [results,Tryz.results48,go_sem,y0,y1,y2,y3,y4,y5]) rfl (by
  have hop:=HS.out.2.2.2.2.set HS.out.1 (by decide) (by decide) H6.out.2
  have hrr:=HS.out.2.2.2.1.set HS.out.1 H6.out.2 (by decide) (by decide)
  have e1:=HE.out.1
  cases hl:pCall x with
  | none =>
   rw [HE.out.2,hl] at e1
   refine .inr ⟨by rw [HP.out,H4.out.2.2.2.2.2.2.1];simp [H4.out.2.2.2.2.2.2.2,hl],c,.slice ux un uy,er,by rw [<-e1];rfl,rfl,⟨_,_,_,rfl⟩,hfr⟩
  | some l =>
   rw [HE.out.2,hl] at e1
   rw [HE.out.2,hl] at hop
   refine .inl ⟨⟨2,0,c.session,c.number,c.mark,l⟩,M2,.slice ux un uy,by rw [HP.out,H4.out.2.2.2.2.2.2.1];simp [H4.out.2.2.2.2.2.2.2,hl],?_,hop,hrr,hfr⟩
   rw [<-e1,HK.out.1,HK.out.2]
   rfl)
end Go.Proofs.YtgjcpjckaopeeaaGreatDoor
