import Derived.Test.YtgjcpjckaopeeaaGreatDoorKm
import Derived.Test.YtgjcpjckaopeeaaGreatDoorKk
set_option maxHeartbeats 4000000
set_option maxRecDepth 100000
namespace Go.Proofs.YtgjcpjckaopeeaaGreatDoor
open Go.RowKit Disk
open _root_.Go.Proofs.YtgjcpjckaopeeaaGreatDoor.Calls
open Names (Str)
theorem WM.ne {w:World}{b x t:Nat}{c:Array Value}{L:List Bs}(h:WM w b L)(hx:Blk w x t c)(h1:t≠96):x≠b:=by
 obtain ⟨s,hs⟩:=h.blk
 rintro rfl
 exact h1 (blk_type hx hs)
def fillV (k:Int)(L:List Bs):Option (PCmd × List Bs) :=
 if k=1 then (numW L).bind fun t=>some (⟨1,t.1,0,0,0,[]⟩,t.2)
 else if k=2 then (numW L).bind fun s=>(numW s.2).bind fun n=>(numW n.2).bind fun m=>some (⟨2,0,s.1,n.1,m.1,[]⟩,m.2)
 else if k=3\/k=4 then (numW L).bind fun s=>some (⟨k,0,s.1,0,0,[]⟩,s.2)
 else some (⟨k,0,0,0,0,[]⟩,L)
def FillW (b cb:Nat)(r:Option (PCmd × List Bs))(w:World)(e:Ending)(w':World):Prop:=(∃c M,r=some (c,M)/\e=.returned (.int .i64 0)/\WM w' b M/\CB w' cb nil0 c/\Fr w w' (fun i=>i=b\/i=cb))\/(r=none/\e=.returned (.int .i64 4)/\(∃c,CB w' cb nil0 c)/\Fr w w' (fun i=>i=b\/i=cb))
theorem fillw_1 (b cb:Nat)(L:List Bs)(w:World)(hr:WM w b L)(hc:CB w cb nil0 (⟨1,0,0,0,0,[]⟩:PCmd))(hb:10<=b)(hcb:10<=cb)(hE:EnvC w):Calls Tryz.prog 77 #[.pointer (some ⟨cb,0,none⟩),.func (.func 88) #[.pointer (some ⟨b,0,none⟩)] #[]] w (FillW b cb (fillV 1 L) w):=by
 have HR:Hid (WM w b L/\Blk w cb 27 #[.int .i64 1,.int .i64 0,.int .i64 0,.int .i64 0,.int .i64 0,.slice none 0 0]/\EnvC w):=⟨hr,hc,hE⟩
 clear hr hc hE
 have i0:=ix0
 have i1:=ix1
 have i2:=ix2
 go_enter Tryz.func77,Tryz.ntmps77
 go_wp2_with fail
 refine (numbers30_1 cb nil0 (⟨1,0,0,0,0,[]⟩:PCmd) w HR.out.2.1 rfl).mono ?_
 rintro e w1 ⟨rfl,g1⟩
 have H:Hid (WM w1 b L/\Blk w1 cb 27 #[.int .i64 1,.int .i64 0,.int .i64 0,.int .i64 0,.int .i64 0,.slice none 0 0]/\Fr w w1 (fun i=>i=b\/i=cb)/\EnvC w1):=⟨HR.out.1.grown g1,HR.out.2.1.grown g1 (by simp),fr_none g1,HR.out.2.2.grown g1⟩
 clear g1 HR
 try unfold pt
 go_wp2_with fail
 refine wp_loop_rounds 4 ?_
 rw [rounds_succ]
 go_wp2_with fail
 refine (number88 b L w1 H.out.1 hb H.out.2.2.2).mono ?_
 rintro e p0 h
 rcases h with ⟨⟨v0,M0⟩,hs0,rfl,hR,hg⟩ | ⟨hs0,rfl,hg⟩
 rotate_left
 ·have hN:fillV 1 L=none:=by unfold fillV;rw [if_pos rfl];simp [hs0]
  have F:Hid (fillV 1 L=none/\CB p0 cb nil0 (⟨1,0,0,0,0,[]⟩:PCmd)/\Fr w p0 (fun i=>i=b\/i=cb)):=⟨hN,H.out.2.1.grown hg (fun e=>by simp at e;exact H.out.1.ne H.out.2.1 (by decide) e.symm),fr_tr H.out.2.2.1 (fr_one hg)⟩
  clear hN hg hs0
  go_wp2_with fail
  go_ret
  exact .inr ⟨F.out.1,rfl,⟨_,F.out.2.1⟩,F.out.2.2⟩
 have H2:Hid (WM p0 b M0/\Blk p0 cb 27 #[.int .i64 1,.int .i64 0,.int .i64 0,.int .i64 0,.int .i64 0,.slice none 0 0]/\Fr w p0 (fun i=>i=b\/i=cb)/\EnvC p0):=⟨hR,H.out.2.1.grown hg (fun e=>by simp at e;exact H.out.1.ne H.out.2.1 (by decide) e.symm),fr_tr H.out.2.2.1 (fr_one hg),H.out.2.2.2.set hg hb⟩
 have S0:Hid (numW L=some (v0,M0)):=hs0
 try simp only
 clear hR hg hs0 H
 have a0:=H2.out.2.1.cell 1
 have z0:=H2.out.2.1.free 1
 simp at a0
 go_wp2_with fail
 have H3:Hid (WM (p0.setCell ⟨cb,1,none⟩ (.int .i64 v0)) b M0/\Blk (p0.setCell ⟨cb,1,none⟩ (.int .i64 v0)) cb 27 #[.int .i64 1,.int .i64 v0,.int .i64 0,.int .i64 0,.int .i64 0,.slice none 0 0]/\Fr w (p0.setCell ⟨cb,1,none⟩ (.int .i64 v0)) (fun i=>i=b\/i=cb)/\EnvC (p0.setCell ⟨cb,1,none⟩ (.int .i64 v0))):=⟨H2.out.1.set H2.out.2.1 (by decide) (by decide) (grown_setCell _ _ _ _),H2.out.2.1.store 1 _,fr_tr H2.out.2.2.1 (fr_onec (grown_setCell _ _ _ _)),H2.out.2.2.2.set (grown_setCell _ _ _ _) hcb⟩
 generalize (p0.setCell ⟨cb,1,none⟩ (.int .i64 v0))=x0 at H3 ⊢
 clear H2 a0 z0
 have H:=H3
 clear H3
 rw [rounds_succ]
 go_wp2_with fail
 go_ret
 refine .inl ⟨(⟨1,v0,0,0,0,[]⟩:PCmd),M0,?_,rfl,H.out.1,H.out.2.1,H.out.2.2.1⟩
 unfold fillV
 rw [if_pos rfl]
 try simp [S0.out]
theorem fillw_2 (b cb:Nat)(L:List Bs)(w:World)(hr:WM w b L)(hc:CB w cb nil0 (⟨2,0,0,0,0,[]⟩:PCmd))(hb:10<=b)(hcb:10<=cb)(hE:EnvC w):Calls Tryz.prog 77 #[.pointer (some ⟨cb,0,none⟩),.func (.func 88) #[.pointer (some ⟨b,0,none⟩)] #[]] w (FillW b cb (fillV 2 L) w):=by
 have HR:Hid (WM w b L/\Blk w cb 27 #[.int .i64 2,.int .i64 0,.int .i64 0,.int .i64 0,.int .i64 0,.slice none 0 0]/\EnvC w):=⟨hr,hc,hE⟩
 clear hr hc hE
 have i0:=ix0
 have i1:=ix1
 have i2:=ix2
 go_enter Tryz.func77,Tryz.ntmps77
 go_wp2_with fail
 refine (numbers30_2 cb nil0 (⟨2,0,0,0,0,[]⟩:PCmd) w HR.out.2.1 rfl).mono ?_
 rintro e w1 ⟨rfl,g1⟩
 have H:Hid (WM w1 b L/\Blk w1 cb 27 #[.int .i64 2,.int .i64 0,.int .i64 0,.int .i64 0,.int .i64 0,.slice none 0 0]/\Fr w w1 (fun i=>i=b\/i=cb)/\EnvC w1):=⟨HR.out.1.grown g1,HR.out.2.1.grown g1 (by simp),fr_none g1,HR.out.2.2.grown g1⟩
 clear g1 HR
 try unfold pt
 go_wp2_with fail
 refine wp_loop_rounds 4 ?_
 rw [rounds_succ]
 go_wp2_with fail
 refine (number88 b L w1 H.out.1 hb H.out.2.2.2).mono ?_
 rintro e p0 h
 rcases h with ⟨⟨v0,M0⟩,hs0,rfl,hR,hg⟩ | ⟨hs0,rfl,hg⟩
 rotate_left
 ·have hN:fillV 2 L=none:=by unfold fillV;rw [if_neg (by decide),if_pos rfl];simp [hs0]
  have F:Hid (fillV 2 L=none/\CB p0 cb nil0 (⟨2,0,0,0,0,[]⟩:PCmd)/\Fr w p0 (fun i=>i=b\/i=cb)):=⟨hN,H.out.2.1.grown hg (fun e=>by simp at e;exact H.out.1.ne H.out.2.1 (by decide) e.symm),fr_tr H.out.2.2.1 (fr_one hg)⟩
  clear hN hg hs0
  go_wp2_with fail
  go_ret
  exact .inr ⟨F.out.1,rfl,⟨_,F.out.2.1⟩,F.out.2.2⟩
 have H2:Hid (WM p0 b M0/\Blk p0 cb 27 #[.int .i64 2,.int .i64 0,.int .i64 0,.int .i64 0,.int .i64 0,.slice none 0 0]/\Fr w p0 (fun i=>i=b\/i=cb)/\EnvC p0):=⟨hR,H.out.2.1.grown hg (fun e=>by simp at e;exact H.out.1.ne H.out.2.1 (by decide) e.symm),fr_tr H.out.2.2.1 (fr_one hg),H.out.2.2.2.set hg hb⟩
 have S0:Hid (numW L=some (v0,M0)):=hs0
 try simp only
 clear hR hg hs0 H
 have a0:=H2.out.2.1.cell 2
 have z0:=H2.out.2.1.free 2
 simp at a0
 go_wp2_with fail
 have H3:Hid (WM (p0.setCell ⟨cb,2,none⟩ (.int .i64 v0)) b M0/\Blk (p0.setCell ⟨cb,2,none⟩ (.int .i64 v0)) cb 27 #[.int .i64 2,.int .i64 0,.int .i64 v0,.int .i64 0,.int .i64 0,.slice none 0 0]/\Fr w (p0.setCell ⟨cb,2,none⟩ (.int .i64 v0)) (fun i=>i=b\/i=cb)/\EnvC (p0.setCell ⟨cb,2,none⟩ (.int .i64 v0))):=⟨H2.out.1.set H2.out.2.1 (by decide) (by decide) (grown_setCell _ _ _ _),H2.out.2.1.store 2 _,fr_tr H2.out.2.2.1 (fr_onec (grown_setCell _ _ _ _)),H2.out.2.2.2.set (grown_setCell _ _ _ _) hcb⟩
 generalize (p0.setCell ⟨cb,2,none⟩ (.int .i64 v0))=x0 at H3 ⊢
 clear H2 a0 z0
 have H:=H3
 clear H3
 rw [rounds_succ]
 go_wp2_with fail
 refine (number88 b M0 x0 H.out.1 hb H.out.2.2.2).mono ?_
 rintro e p1 h
 rcases h with ⟨⟨v1,M1⟩,hs1,rfl,hR,hg⟩ | ⟨hs1,rfl,hg⟩
 rotate_left
 ·have hN:fillV 2 L=none:=by unfold fillV;rw [if_neg (by decide),if_pos rfl];simp [S0.out,hs1]
  have F:Hid (fillV 2 L=none/\CB p1 cb nil0 (⟨2,0,v0,0,0,[]⟩:PCmd)/\Fr w p1 (fun i=>i=b\/i=cb)):=⟨hN,H.out.2.1.grown hg (fun e=>by simp at e;exact H.out.1.ne H.out.2.1 (by decide) e.symm),fr_tr H.out.2.2.1 (fr_one hg)⟩
  clear hN hg hs1
  go_wp2_with fail
  go_ret
  exact .inr ⟨F.out.1,rfl,⟨_,F.out.2.1⟩,F.out.2.2⟩
 have H2:Hid (WM p1 b M1/\Blk p1 cb 27 #[.int .i64 2,.int .i64 0,.int .i64 v0,.int .i64 0,.int .i64 0,.slice none 0 0]/\Fr w p1 (fun i=>i=b\/i=cb)/\EnvC p1):=⟨hR,H.out.2.1.grown hg (fun e=>by simp at e;exact H.out.1.ne H.out.2.1 (by decide) e.symm),fr_tr H.out.2.2.1 (fr_one hg),H.out.2.2.2.set hg hb⟩
 have S1:Hid (numW M0=some (v1,M1)):=hs1
 try simp only
 clear hR hg hs1 H
 have a1:=H2.out.2.1.cell 3
 have z1:=H2.out.2.1.free 3
 simp at a1
 go_wp2_with fail
 have H3:Hid (WM (p1.setCell ⟨cb,3,none⟩ (.int .i64 v1)) b M1/\Blk (p1.setCell ⟨cb,3,none⟩ (.int .i64 v1)) cb 27 #[.int .i64 2,.int .i64 0,.int .i64 v0,.int .i64 v1,.int .i64 0,.slice none 0 0]/\Fr w (p1.setCell ⟨cb,3,none⟩ (.int .i64 v1)) (fun i=>i=b\/i=cb)/\EnvC (p1.setCell ⟨cb,3,none⟩ (.int .i64 v1))):=⟨H2.out.1.set H2.out.2.1 (by decide) (by decide) (grown_setCell _ _ _ _),H2.out.2.1.store 3 _,fr_tr H2.out.2.2.1 (fr_onec (grown_setCell _ _ _ _)),H2.out.2.2.2.set (grown_setCell _ _ _ _) hcb⟩
 generalize (p1.setCell ⟨cb,3,none⟩ (.int .i64 v1))=x1 at H3 ⊢
 clear H2 a1 z1
 have H:=H3
 clear H3
 rw [rounds_succ]
 go_wp2_with fail
 refine (number88 b M1 x1 H.out.1 hb H.out.2.2.2).mono ?_
 rintro e p2 h
 rcases h with ⟨⟨v2,M2⟩,hs2,rfl,hR,hg⟩ | ⟨hs2,rfl,hg⟩
 rotate_left
 ·have hN:fillV 2 L=none:=by unfold fillV;rw [if_neg (by decide),if_pos rfl];simp [S0.out,S1.out,hs2]
  have F:Hid (fillV 2 L=none/\CB p2 cb nil0 (⟨2,0,v0,v1,0,[]⟩:PCmd)/\Fr w p2 (fun i=>i=b\/i=cb)):=⟨hN,H.out.2.1.grown hg (fun e=>by simp at e;exact H.out.1.ne H.out.2.1 (by decide) e.symm),fr_tr H.out.2.2.1 (fr_one hg)⟩
  clear hN hg hs2
  go_wp2_with fail
  go_ret
  exact .inr ⟨F.out.1,rfl,⟨_,F.out.2.1⟩,F.out.2.2⟩
 have H2:Hid (WM p2 b M2/\Blk p2 cb 27 #[.int .i64 2,.int .i64 0,.int .i64 v0,.int .i64 v1,.int .i64 0,.slice none 0 0]/\Fr w p2 (fun i=>i=b\/i=cb)/\EnvC p2):=⟨hR,H.out.2.1.grown hg (fun e=>by simp at e;exact H.out.1.ne H.out.2.1 (by decide) e.symm),fr_tr H.out.2.2.1 (fr_one hg),H.out.2.2.2.set hg hb⟩
 have S2:Hid (numW M1=some (v2,M2)):=hs2
 try simp only
 clear hR hg hs2 H
 have a2:=H2.out.2.1.cell 4
 have z2:=H2.out.2.1.free 4
 simp at a2
 go_wp2_with fail
 have H3:Hid (WM (p2.setCell ⟨cb,4,none⟩ (.int .i64 v2)) b M2/\Blk (p2.setCell ⟨cb,4,none⟩ (.int .i64 v2)) cb 27 #[.int .i64 2,.int .i64 0,.int .i64 v0,.int .i64 v1,.int .i64 v2,.slice none 0 0]/\Fr w (p2.setCell ⟨cb,4,none⟩ (.int .i64 v2)) (fun i=>i=b\/i=cb)/\EnvC (p2.setCell ⟨cb,4,none⟩ (.int .i64 v2))):=⟨H2.out.1.set H2.out.2.1 (by decide) (by decide) (grown_setCell _ _ _ _),H2.out.2.1.store 4 _,fr_tr H2.out.2.2.1 (fr_onec (grown_setCell _ _ _ _)),H2.out.2.2.2.set (grown_setCell _ _ _ _) hcb⟩
 generalize (p2.setCell ⟨cb,4,none⟩ (.int .i64 v2))=x2 at H3 ⊢
 clear H2 a2 z2
 have H:=H3
 clear H3
 rw [rounds_succ]
 go_wp2_with fail
 go_ret
 refine .inl ⟨(⟨2,0,v0,v1,v2,[]⟩:PCmd),M2,?_,rfl,H.out.1,H.out.2.1,H.out.2.2.1⟩
 unfold fillV
 rw [if_neg (by decide),if_pos rfl]
 try simp [S0.out,S1.out,S2.out]
theorem fillw_3 (b cb:Nat)(L:List Bs)(w:World)(hr:WM w b L)(hc:CB w cb nil0 (⟨3,0,0,0,0,[]⟩:PCmd))(hb:10<=b)(hcb:10<=cb)(hE:EnvC w):Calls Tryz.prog 77 #[.pointer (some ⟨cb,0,none⟩),.func (.func 88) #[.pointer (some ⟨b,0,none⟩)] #[]] w (FillW b cb (fillV 3 L) w):=by
 have HR:Hid (WM w b L/\Blk w cb 27 #[.int .i64 3,.int .i64 0,.int .i64 0,.int .i64 0,.int .i64 0,.slice none 0 0]/\EnvC w):=⟨hr,hc,hE⟩
 clear hr hc hE
 have i0:=ix0
 have i1:=ix1
 have i2:=ix2
 go_enter Tryz.func77,Tryz.ntmps77
 go_wp2_with fail
 refine (numbers30_3 cb nil0 (⟨3,0,0,0,0,[]⟩:PCmd) w HR.out.2.1 rfl).mono ?_
 rintro e w1 ⟨rfl,g1⟩
 have H:Hid (WM w1 b L/\Blk w1 cb 27 #[.int .i64 3,.int .i64 0,.int .i64 0,.int .i64 0,.int .i64 0,.slice none 0 0]/\Fr w w1 (fun i=>i=b\/i=cb)/\EnvC w1):=⟨HR.out.1.grown g1,HR.out.2.1.grown g1 (by simp),fr_none g1,HR.out.2.2.grown g1⟩
 clear g1 HR
 try unfold pt
 go_wp2_with fail
 refine wp_loop_rounds 4 ?_
 rw [rounds_succ]
 go_wp2_with fail
 refine (number88 b L w1 H.out.1 hb H.out.2.2.2).mono ?_
 rintro e p0 h
 rcases h with ⟨⟨v0,M0⟩,hs0,rfl,hR,hg⟩ | ⟨hs0,rfl,hg⟩
 rotate_left
 ·have hN:fillV 3 L=none:=by unfold fillV;rw [if_neg (by decide),if_neg (by decide),if_pos (by decide)];simp [hs0]
  have F:Hid (fillV 3 L=none/\CB p0 cb nil0 (⟨3,0,0,0,0,[]⟩:PCmd)/\Fr w p0 (fun i=>i=b\/i=cb)):=⟨hN,H.out.2.1.grown hg (fun e=>by simp at e;exact H.out.1.ne H.out.2.1 (by decide) e.symm),fr_tr H.out.2.2.1 (fr_one hg)⟩
  clear hN hg hs0
  go_wp2_with fail
  go_ret
  exact .inr ⟨F.out.1,rfl,⟨_,F.out.2.1⟩,F.out.2.2⟩
 have H2:Hid (WM p0 b M0/\Blk p0 cb 27 #[.int .i64 3,.int .i64 0,.int .i64 0,.int .i64 0,.int .i64 0,.slice none 0 0]/\Fr w p0 (fun i=>i=b\/i=cb)/\EnvC p0):=⟨hR,H.out.2.1.grown hg (fun e=>by simp at e;exact H.out.1.ne H.out.2.1 (by decide) e.symm),fr_tr H.out.2.2.1 (fr_one hg),H.out.2.2.2.set hg hb⟩
 have S0:Hid (numW L=some (v0,M0)):=hs0
 try simp only
 clear hR hg hs0 H
 have a0:=H2.out.2.1.cell 2
 have z0:=H2.out.2.1.free 2
 simp at a0
 go_wp2_with fail
 have H3:Hid (WM (p0.setCell ⟨cb,2,none⟩ (.int .i64 v0)) b M0/\Blk (p0.setCell ⟨cb,2,none⟩ (.int .i64 v0)) cb 27 #[.int .i64 3,.int .i64 0,.int .i64 v0,.int .i64 0,.int .i64 0,.slice none 0 0]/\Fr w (p0.setCell ⟨cb,2,none⟩ (.int .i64 v0)) (fun i=>i=b\/i=cb)/\EnvC (p0.setCell ⟨cb,2,none⟩ (.int .i64 v0))):=⟨H2.out.1.set H2.out.2.1 (by decide) (by decide) (grown_setCell _ _ _ _),H2.out.2.1.store 2 _,fr_tr H2.out.2.2.1 (fr_onec (grown_setCell _ _ _ _)),H2.out.2.2.2.set (grown_setCell _ _ _ _) hcb⟩
 generalize (p0.setCell ⟨cb,2,none⟩ (.int .i64 v0))=x0 at H3 ⊢
 clear H2 a0 z0
 have H:=H3
 clear H3
 rw [rounds_succ]
 go_wp2_with fail
 go_ret
 refine .inl ⟨(⟨3,0,v0,0,0,[]⟩:PCmd),M0,?_,rfl,H.out.1,H.out.2.1,H.out.2.2.1⟩
 unfold fillV
 rw [if_neg (by decide),if_neg (by decide),if_pos (by decide)]
 try simp [S0.out]
theorem fillw_4 (b cb:Nat)(L:List Bs)(w:World)(hr:WM w b L)(hc:CB w cb nil0 (⟨4,0,0,0,0,[]⟩:PCmd))(hb:10<=b)(hcb:10<=cb)(hE:EnvC w):Calls Tryz.prog 77 #[.pointer (some ⟨cb,0,none⟩),.func (.func 88) #[.pointer (some ⟨b,0,none⟩)] #[]] w (FillW b cb (fillV 4 L) w):=by
 have HR:Hid (WM w b L/\Blk w cb 27 #[.int .i64 4,.int .i64 0,.int .i64 0,.int .i64 0,.int .i64 0,.slice none 0 0]/\EnvC w):=⟨hr,hc,hE⟩
 clear hr hc hE
 have i0:=ix0
 have i1:=ix1
 have i2:=ix2
 go_enter Tryz.func77,Tryz.ntmps77
 go_wp2_with fail
 refine (numbers30_4 cb nil0 (⟨4,0,0,0,0,[]⟩:PCmd) w HR.out.2.1 rfl).mono ?_
 rintro e w1 ⟨rfl,g1⟩
 have H:Hid (WM w1 b L/\Blk w1 cb 27 #[.int .i64 4,.int .i64 0,.int .i64 0,.int .i64 0,.int .i64 0,.slice none 0 0]/\Fr w w1 (fun i=>i=b\/i=cb)/\EnvC w1):=⟨HR.out.1.grown g1,HR.out.2.1.grown g1 (by simp),fr_none g1,HR.out.2.2.grown g1⟩
 clear g1 HR
 try unfold pt
 go_wp2_with fail
 refine wp_loop_rounds 4 ?_
 rw [rounds_succ]
 go_wp2_with fail
 refine (number88 b L w1 H.out.1 hb H.out.2.2.2).mono ?_
 rintro e p0 h
 rcases h with ⟨⟨v0,M0⟩,hs0,rfl,hR,hg⟩ | ⟨hs0,rfl,hg⟩
 rotate_left
 ·have hN:fillV 4 L=none:=by unfold fillV;rw [if_neg (by decide),if_neg (by decide),if_pos (by decide)];simp [hs0]
  have F:Hid (fillV 4 L=none/\CB p0 cb nil0 (⟨4,0,0,0,0,[]⟩:PCmd)/\Fr w p0 (fun i=>i=b\/i=cb)):=⟨hN,H.out.2.1.grown hg (fun e=>by simp at e;exact H.out.1.ne H.out.2.1 (by decide) e.symm),fr_tr H.out.2.2.1 (fr_one hg)⟩
  clear hN hg hs0
  go_wp2_with fail
  go_ret
  exact .inr ⟨F.out.1,rfl,⟨_,F.out.2.1⟩,F.out.2.2⟩
 have H2:Hid (WM p0 b M0/\Blk p0 cb 27 #[.int .i64 4,.int .i64 0,.int .i64 0,.int .i64 0,.int .i64 0,.slice none 0 0]/\Fr w p0 (fun i=>i=b\/i=cb)/\EnvC p0):=⟨hR,H.out.2.1.grown hg (fun e=>by simp at e;exact H.out.1.ne H.out.2.1 (by decide) e.symm),fr_tr H.out.2.2.1 (fr_one hg),H.out.2.2.2.set hg hb⟩
 have S0:Hid (numW L=some (v0,M0)):=hs0
 try simp only
 clear hR hg hs0 H
 have a0:=H2.out.2.1.cell 2
 have z0:=H2.out.2.1.free 2
 simp at a0
 go_wp2_with fail
 have H3:Hid (WM (p0.setCell ⟨cb,2,none⟩ (.int .i64 v0)) b M0/\Blk (p0.setCell ⟨cb,2,none⟩ (.int .i64 v0)) cb 27 #[.int .i64 4,.int .i64 0,.int .i64 v0,.int .i64 0,.int .i64 0,.slice none 0 0]/\Fr w (p0.setCell ⟨cb,2,none⟩ (.int .i64 v0)) (fun i=>i=b\/i=cb)/\EnvC (p0.setCell ⟨cb,2,none⟩ (.int .i64 v0))):=⟨H2.out.1.set H2.out.2.1 (by decide) (by decide) (grown_setCell _ _ _ _),H2.out.2.1.store 2 _,fr_tr H2.out.2.2.1 (fr_onec (grown_setCell _ _ _ _)),H2.out.2.2.2.set (grown_setCell _ _ _ _) hcb⟩
 generalize (p0.setCell ⟨cb,2,none⟩ (.int .i64 v0))=x0 at H3 ⊢
 clear H2 a0 z0
 have H:=H3
 clear H3
 rw [rounds_succ]
 go_wp2_with fail
 go_ret
 refine .inl ⟨(⟨4,0,v0,0,0,[]⟩:PCmd),M0,?_,rfl,H.out.1,H.out.2.1,H.out.2.2.1⟩
 unfold fillV
 rw [if_neg (by decide),if_neg (by decide),if_pos (by decide)]
 try simp [S0.out]
theorem fillw_0 (b cb:Nat)(k:Int)(L:List Bs)(w:World)(hr:WM w b L)(hc:CB w cb nil0 (⟨k,0,0,0,0,[]⟩:PCmd))(_hb:10<=b)(_hcb:10<=cb)(hE:EnvC w)(h1:(k==1)=false)(h2:(k==2)=false)(h3:(k==3)=false)(h4:(k==4)=false):Calls Tryz.prog 77 #[.pointer (some ⟨cb,0,none⟩),.func (.func 88) #[.pointer (some ⟨b,0,none⟩)] #[]] w (FillW b cb (fillV k L) w):=by
 have HR:Hid (WM w b L/\Blk w cb 27 #[.int .i64 k,.int .i64 0,.int .i64 0,.int .i64 0,.int .i64 0,.slice none 0 0]/\EnvC w):=⟨hr,hc,hE⟩
 clear hr hc hE
 have i0:=ix0
 have i1:=ix1
 have i2:=ix2
 go_enter Tryz.func77,Tryz.ntmps77
 go_wp2_with fail
 refine (numbers30_0 cb nil0 (⟨k,0,0,0,0,[]⟩:PCmd) w HR.out.2.1 h1 h2 h3 h4).mono ?_
 rintro e w1 ⟨rfl,g1⟩
 have H:Hid (WM w1 b L/\Blk w1 cb 27 #[.int .i64 k,.int .i64 0,.int .i64 0,.int .i64 0,.int .i64 0,.slice none 0 0]/\Fr w w1 (fun i=>i=b\/i=cb)/\EnvC w1):=⟨HR.out.1.grown g1,HR.out.2.1.grown g1 (by simp),fr_none g1,HR.out.2.2.grown g1⟩
 clear g1 HR
 try unfold pt
 go_wp2_with fail
 refine wp_loop_rounds 4 ?_
 rw [rounds_succ]
 go_wp2_with fail
 go_ret
 refine .inl ⟨(⟨k,0,0,0,0,[]⟩:PCmd),L,?_,rfl,H.out.1,H.out.2.1,H.out.2.2.1⟩
 unfold fillV
 rw [if_neg (by simpa using h1),if_neg (by simpa using h2),if_neg (by have:=(by simpa using h3:¬k=3);have:=(by simpa using h4:¬k=4);omega)]
 try simp []
theorem fillw (b cb:Nat)(k:Int)(L:List Bs)(w:World)(hr:WM w b L)(hc:CB w cb nil0 ⟨k,0,0,0,0,[]⟩)(hb:10<=b)(hcb:10<=cb)(hE:EnvC w):Calls Tryz.prog 77 #[.pointer (some ⟨cb,0,none⟩),.func (.func 88) #[.pointer (some ⟨b,0,none⟩)] #[]] w (FillW b cb (fillV k L) w):=by
 by_cases h1:k=1
 ·subst h1;exact fillw_1 b cb L w hr hc hb hcb hE
 ·by_cases h2:k=2
  ·subst h2;exact fillw_2 b cb L w hr hc hb hcb hE
  ·by_cases h3:k=3
   ·subst h3;exact fillw_3 b cb L w hr hc hb hcb hE
   ·by_cases h4:k=4
    ·subst h4;exact fillw_4 b cb L w hr hc hb hcb hE
    ·exact fillw_0 b cb k L w hr hc hb hcb hE (by simp [h1]) (by simp [h2]) (by simp [h3]) (by simp [h4])
end Go.Proofs.YtgjcpjckaopeeaaGreatDoor
