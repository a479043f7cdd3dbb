import Derived.Test.YtgjcpjckaopeeaaGreatDoorKceAll
import Derived.Test.YtgjcpjckaopeeaaGreatDoorCnAll
set_option maxHeartbeats 16000000
set_option maxRecDepth 100000
namespace Go.Proofs.YtgjcpjckaopeeaaGreatDoor
open Go.RowKit Disk
open Go.Proofs.YtgjcpjckaopeeaaGreatDoor.Calls
theorem ez (L:Bs):(Wire.scan 0 0 L=none/\Wire.aU L=(0,4,L)/\pSgn L=none/\∀m,pNum m L=none)\/∃n k,Wire.scan 0 0 L=some (n,k)/\n<18446744073709551616/\Wire.aU L=(n,0,L.drop k)/\pSgn L=some (Wire.bC n,L.drop k)/\∀m,pNum m L=if n<=m then some (n,L.drop k) else none:=by
 cases h:Wire.scan 0 0 L with
 | none=>exact .inl ⟨rfl,Wire.dX h,by unfold pSgn pNum;rw [h];rfl,fun m=>by unfold pNum;rw [h]⟩
 | some x =>
  obtain ⟨n,k⟩:=x
  have hl:=Wire.gt L
  rw [Wire.di h] at hl
  refine .inr ⟨n,k,rfl,by simpa using hl,Wire.di h,?_,fun m=>by unfold pNum;rw [h]⟩
  unfold pSgn pNum
  rw [h]
  simp only at hl ⊢
  rw [if_pos (by omega)]
  rfl
theorem th (b:Nat)(L:Bs)(w:World)(hr:RR w b L):Calls Tryz.prog 76 #[.pointer (some ⟨b,0,none⟩)] w fun e w'=>e=.returned (.tuple #[.int .u64 (Wire.aU L).1,.int .i64 (Wire.aU L).2.1])/\RR w' b (Wire.aU L).2.2/\w.grownBy w' (some b):=by
 obtain ⟨g,h1,h2⟩:=jq hr
 refine (Wire.gc b g L w h1).mono ?_
 rintro e w' ⟨rfl,h3,h4⟩
 refine ⟨rfl,h2 _ _ h3 h4 (fun e=>?_),h4⟩
 subst e
 rcases ez [] with ⟨_,e,_⟩ | ⟨n,k,_,_,e,_⟩ <;> rw [e] <;> simp
theorem uI (b:Nat)(L:Bs)(w:World)(hr:RR w b L):Calls Tryz.prog 78 #[.pointer (some ⟨b,0,none⟩)] w fun e w'=>e=.returned (.tuple #[.int .i64 (Wire.bC (Wire.aU L).1),.int .i64 (Wire.aU L).2.1])/\RR w' b (Wire.aU L).2.2/\w.grownBy w' (some b) :=
 Wire.li b _ _ _ w (by have:=Wire.gt L;omega) (th b L w hr)
def su (b:Nat)(L:Bs)(w:World)(e:Ending)(w':World):Prop:=(∃v M,pSgn L=some (v,M)/\e=.returned (.tuple #[.int .i64 v,.int .i64 0])/\RR w' b M/\w.grownBy w' (some b))\/(pSgn L=none/\e=.returned (.tuple #[.int .i64 0,.int .i64 4])/\w.grownBy w' (some b))
theorem sgnR (b:Nat)(L:Bs)(w:World)(hr:RR w b L):Calls Tryz.prog 78 #[.pointer (some ⟨b,0,none⟩)] w (su b L w):=by
 refine (uI b L w hr).mono ?_
 rintro e w' ⟨rfl,h1,h2⟩
 rcases ez L with ⟨_,e,e2,_⟩ | ⟨n,k,_,_,e,e2,_⟩
 ·rw [e]
  exact .inr ⟨e2,by simp [Wire.bC],h2⟩
 ·rw [e] at h1 ⊢
  exact .inl ⟨_,_,e2,rfl,h1,h2⟩
def bg (k:Int)(L:Bs):Option (PCmd × Bs) :=
 if k=1 then (pSgn L).bind fun t=>some (⟨1,t.1,0,0,0,[]⟩,t.2)
 else if k=2 then (pSgn L).bind fun s=>(pSgn s.2).bind fun n=>(pSgn n.2).bind fun m=>some (⟨2,0,s.1,n.1,m.1,[]⟩,m.2)
 else if k=3\/k=4 then (pSgn L).bind fun s=>some (⟨k,0,s.1,0,0,[]⟩,s.2)
 else some (⟨k,0,0,0,0,[]⟩,L)
def nil0:Value:=.slice none 0 0
def eA (b cb:Nat)(r:Option (PCmd × Bs))(w:World)(e:Ending)(w':World):Prop:=(∃c M,r=some (c,M)/\e=.returned (.int .i64 0)/\RR w' b M/\CB w' cb nil0 c/\Fr w w' (fun i=>i=b\/i=cb))\/(r=none/\e=.returned (.int .i64 4)/\(∃c,CB w' cb nil0 c)/\Fr w w' (fun i=>i=b\/i=cb))
theorem bR {w w':World}{b cb:Nat}(h:w.grownBy w' (some b)):Fr w w' (fun i=>i=b\/i=cb):=Fr.of h (fun k hk=>by simp at hk;exact .inl hk.symm)
theorem de {w w':World}{b cb:Nat}(h:w.grownBy w' (some cb)):Fr w w' (fun i=>i=b\/i=cb):=Fr.of h (fun k hk=>by simp at hk;exact .inr hk.symm)
theorem bu {w w':World}{F:Nat->Prop}(h:w.grownBy w' none):Fr w w' F:=Fr.of h (fun k hk=>by cases hk)
theorem bF {a b c:World}{F:Nat->Prop}(h:Fr a b F)(k:Fr b c F):Fr a c F:=h.trans k (fun _ hi=>.inl hi)
theorem qH (b cb:Nat)(L:Bs)(w:World)(hr:RR w b L)(hc:CB w cb nil0 (⟨1,0,0,0,0,[]⟩:PCmd)):Calls Tryz.prog 77 #[.pointer (some ⟨cb,0,none⟩),.func (.func 78) #[.pointer (some ⟨b,0,none⟩)] #[]] w (eA b cb (bg 1 L) w):=by
 have HR:Hid (RR w b L/\Blk w cb 27 #[.int .i64 1,.int .i64 0,.int .i64 0,.int .i64 0,.int .i64 0,.slice none 0 0]):=⟨hr,hc⟩
 clear hr hc
 have i0:=ix0
 have i1:=ix1
 have i2:=ix2
 go_enter Tryz.func77,Tryz.ntmps77
 go_wp2_with fail
 refine (cN cb nil0 (⟨1,0,0,0,0,[]⟩:PCmd) w HR.out.2 rfl).mono ?_
 rintro e w1 ⟨rfl,g1⟩
 have H:Hid (RR w1 b L/\Blk w1 cb 27 #[.int .i64 1,.int .i64 0,.int .i64 0,.int .i64 0,.int .i64 0,.slice none 0 0]/\Fr w w1 (fun i=>i=b\/i=cb)):=⟨HR.out.1.grown g1,HR.out.2.grown g1 (by simp),bu g1⟩
 clear g1 HR
 try unfold pt
 go_wp2_with fail
 refine wp_loop_rounds 4 ?_
 rw [rounds_succ]
 go_wp2_with fail
 refine (sgnR b L w1 H.out.1).mono ?_
 rintro e p0 h
 rcases h with ⟨v0,M0,hs0,rfl,hR,hg⟩ | ⟨hs0,rfl,hg⟩
 rotate_left
 ·have hN:bg 1 L=none:=by unfold bg;rw [if_pos rfl];simp [hs0]
  have F:Hid (bg 1 L=none/\CB p0 cb nil0 (⟨1,0,0,0,0,[]⟩:PCmd)/\Fr w p0 (fun i=>i=b\/i=cb)):=⟨hN,H.out.2.1.grown hg (fun e=>by simp at e;exact H.out.1.ne H.out.2.1 (by decide) e.symm),bF H.out.2.2 (bR hg)⟩
  clear hN hg hs0
  go_wp2_with fail
  go_ret
  exact .inr ⟨F.out.1,rfl,⟨_,F.out.2.1⟩,F.out.2.2⟩
 have H2:Hid (RR p0 b M0/\Blk p0 cb 27 #[.int .i64 1,.int .i64 0,.int .i64 0,.int .i64 0,.int .i64 0,.slice none 0 0]/\Fr w p0 (fun i=>i=b\/i=cb)):=⟨hR,H.out.2.1.grown hg (fun e=>by simp at e;exact H.out.1.ne H.out.2.1 (by decide) e.symm),bF H.out.2.2 (bR hg)⟩
 have S0:Hid (pSgn L=some (v0,M0)):=hs0
 clear hR hg hs0 H
 have a0:=H2.out.2.1.cell 1
 have z0:=H2.out.2.1.free 1
 simp at a0
 go_wp2_with fail
 have H3:Hid (RR (p0.setCell ⟨cb,1,none⟩ (.int .i64 v0)) b M0/\Blk (p0.setCell ⟨cb,1,none⟩ (.int .i64 v0)) cb 27 #[.int .i64 1,.int .i64 v0,.int .i64 0,.int .i64 0,.int .i64 0,.slice none 0 0]/\Fr w (p0.setCell ⟨cb,1,none⟩ (.int .i64 v0)) (fun i=>i=b\/i=cb)):=⟨H2.out.1.set H2.out.2.1 (ab _ _ _ _) (by decide) (by decide),H2.out.2.1.store 1 _,bF H2.out.2.2 (de (ab _ _ _ _))⟩
 generalize (p0.setCell ⟨cb,1,none⟩ (.int .i64 v0))=x0 at H3 ⊢
 clear H2 a0 z0
 have H:=H3
 clear H3
 rw [rounds_succ]
 go_wp2_with fail
 go_ret
 refine .inl ⟨(⟨1,v0,0,0,0,[]⟩:PCmd),M0,?_,rfl,H.out.1,H.out.2.1,H.out.2.2⟩
 unfold bg
 rw [if_pos rfl]
 try simp [S0.out]
theorem qI (b cb:Nat)(L:Bs)(w:World)(hr:RR w b L)(hc:CB w cb nil0 (⟨2,0,0,0,0,[]⟩:PCmd)):Calls Tryz.prog 77 #[.pointer (some ⟨cb,0,none⟩),.func (.func 78) #[.pointer (some ⟨b,0,none⟩)] #[]] w (eA b cb (bg 2 L) w):=by
 have HR:Hid (RR w b L/\Blk w cb 27 #[.int .i64 2,.int .i64 0,.int .i64 0,.int .i64 0,.int .i64 0,.slice none 0 0]):=⟨hr,hc⟩
 clear hr hc
 have i0:=ix0
 have i1:=ix1
 have i2:=ix2
 go_enter Tryz.func77,Tryz.ntmps77
 go_wp2_with fail
 refine (cO cb nil0 (⟨2,0,0,0,0,[]⟩:PCmd) w HR.out.2 rfl).mono ?_
 rintro e w1 ⟨rfl,g1⟩
 have H:Hid (RR w1 b L/\Blk w1 cb 27 #[.int .i64 2,.int .i64 0,.int .i64 0,.int .i64 0,.int .i64 0,.slice none 0 0]/\Fr w w1 (fun i=>i=b\/i=cb)):=⟨HR.out.1.grown g1,HR.out.2.grown g1 (by simp),bu g1⟩
 clear g1 HR
 try unfold pt
 go_wp2_with fail
 refine wp_loop_rounds 4 ?_
 rw [rounds_succ]
 go_wp2_with fail
 refine (sgnR b L w1 H.out.1).mono ?_
 rintro e p0 h
 rcases h with ⟨v0,M0,hs0,rfl,hR,hg⟩ | ⟨hs0,rfl,hg⟩
 rotate_left
 ·have hN:bg 2 L=none:=by unfold bg;rw [if_neg (by decide),if_pos rfl];simp [hs0]
  have F:Hid (bg 2 L=none/\CB p0 cb nil0 (⟨2,0,0,0,0,[]⟩:PCmd)/\Fr w p0 (fun i=>i=b\/i=cb)):=⟨hN,H.out.2.1.grown hg (fun e=>by simp at e;exact H.out.1.ne H.out.2.1 (by decide) e.symm),bF H.out.2.2 (bR hg)⟩
  clear hN hg hs0
  go_wp2_with fail
  go_ret
  exact .inr ⟨F.out.1,rfl,⟨_,F.out.2.1⟩,F.out.2.2⟩
 have H2:Hid (RR p0 b M0/\Blk p0 cb 27 #[.int .i64 2,.int .i64 0,.int .i64 0,.int .i64 0,.int .i64 0,.slice none 0 0]/\Fr w p0 (fun i=>i=b\/i=cb)):=⟨hR,H.out.2.1.grown hg (fun e=>by simp at e;exact H.out.1.ne H.out.2.1 (by decide) e.symm),bF H.out.2.2 (bR hg)⟩
 have S0:Hid (pSgn L=some (v0,M0)):=hs0
 clear hR hg hs0 H
 have a0:=H2.out.2.1.cell 2
 have z0:=H2.out.2.1.free 2
 simp at a0
 go_wp2_with fail
 have H3:Hid (RR (p0.setCell ⟨cb,2,none⟩ (.int .i64 v0)) b M0/\Blk (p0.setCell ⟨cb,2,none⟩ (.int .i64 v0)) cb 27 #[.int .i64 2,.int .i64 0,.int .i64 v0,.int .i64 0,.int .i64 0,.slice none 0 0]/\Fr w (p0.setCell ⟨cb,2,none⟩ (.int .i64 v0)) (fun i=>i=b\/i=cb)):=⟨H2.out.1.set H2.out.2.1 (ab _ _ _ _) (by decide) (by decide),H2.out.2.1.store 2 _,bF H2.out.2.2 (de (ab _ _ _ _))⟩
 generalize (p0.setCell ⟨cb,2,none⟩ (.int .i64 v0))=x0 at H3 ⊢
 clear H2 a0 z0
 have H:=H3
 clear H3
 rw [rounds_succ]
 go_wp2_with fail
 refine (sgnR b M0 x0 H.out.1).mono ?_
 rintro e p1 h
 rcases h with ⟨v1,M1,hs1,rfl,hR,hg⟩ | ⟨hs1,rfl,hg⟩
 rotate_left
 ·have hN:bg 2 L=none:=by unfold bg;rw [if_neg (by decide),if_pos rfl];simp [S0.out,hs1]
  have F:Hid (bg 2 L=none/\CB p1 cb nil0 (⟨2,0,v0,0,0,[]⟩:PCmd)/\Fr w p1 (fun i=>i=b\/i=cb)):=⟨hN,H.out.2.1.grown hg (fun e=>by simp at e;exact H.out.1.ne H.out.2.1 (by decide) e.symm),bF H.out.2.2 (bR hg)⟩
  clear hN hg hs1
  go_wp2_with fail
  go_ret
  exact .inr ⟨F.out.1,rfl,⟨_,F.out.2.1⟩,F.out.2.2⟩
 have H2:Hid (RR p1 b M1/\Blk p1 cb 27 #[.int .i64 2,.int .i64 0,.int .i64 v0,.int .i64 0,.int .i64 0,.slice none 0 0]/\Fr w p1 (fun i=>i=b\/i=cb)):=⟨hR,H.out.2.1.grown hg (fun e=>by simp at e;exact H.out.1.ne H.out.2.1 (by decide) e.symm),bF H.out.2.2 (bR hg)⟩
 have S1:Hid (pSgn M0=some (v1,M1)):=hs1
 clear hR hg hs1 H
 have a1:=H2.out.2.1.cell 3
 have z1:=H2.out.2.1.free 3
 simp at a1
 go_wp2_with fail
 have H3:Hid (RR (p1.setCell ⟨cb,3,none⟩ (.int .i64 v1)) b M1/\Blk (p1.setCell ⟨cb,3,none⟩ (.int .i64 v1)) cb 27 #[.int .i64 2,.int .i64 0,.int .i64 v0,.int .i64 v1,.int .i64 0,.slice none 0 0]/\Fr w (p1.setCell ⟨cb,3,none⟩ (.int .i64 v1)) (fun i=>i=b\/i=cb)):=⟨H2.out.1.set H2.out.2.1 (ab _ _ _ _) (by decide) (by decide),H2.out.2.1.store 3 _,bF H2.out.2.2 (de (ab _ _ _ _))⟩
 generalize (p1.setCell ⟨cb,3,none⟩ (.int .i64 v1))=x1 at H3 ⊢
 clear H2 a1 z1
 have H:=H3
 clear H3
 rw [rounds_succ]
 go_wp2_with fail
 refine (sgnR b M1 x1 H.out.1).mono ?_
 rintro e p2 h
 rcases h with ⟨v2,M2,hs2,rfl,hR,hg⟩ | ⟨hs2,rfl,hg⟩
 rotate_left
 ·have hN:bg 2 L=none:=by unfold bg;rw [if_neg (by decide),if_pos rfl];simp [S0.out,S1.out,hs2]
  have F:Hid (bg 2 L=none/\CB p2 cb nil0 (⟨2,0,v0,v1,0,[]⟩:PCmd)/\Fr w p2 (fun i=>i=b\/i=cb)):=⟨hN,H.out.2.1.grown hg (fun e=>by simp at e;exact H.out.1.ne H.out.2.1 (by decide) e.symm),bF H.out.2.2 (bR hg)⟩
  clear hN hg hs2
  go_wp2_with fail
  go_ret
  exact .inr ⟨F.out.1,rfl,⟨_,F.out.2.1⟩,F.out.2.2⟩
 have H2:Hid (RR p2 b M2/\Blk p2 cb 27 #[.int .i64 2,.int .i64 0,.int .i64 v0,.int .i64 v1,.int .i64 0,.slice none 0 0]/\Fr w p2 (fun i=>i=b\/i=cb)):=⟨hR,H.out.2.1.grown hg (fun e=>by simp at e;exact H.out.1.ne H.out.2.1 (by decide) e.symm),bF H.out.2.2 (bR hg)⟩
 have S2:Hid (pSgn M1=some (v2,M2)):=hs2
 clear hR hg hs2 H
 have a2:=H2.out.2.1.cell 4
 have z2:=H2.out.2.1.free 4
 simp at a2
 go_wp2_with fail
 have H3:Hid (RR (p2.setCell ⟨cb,4,none⟩ (.int .i64 v2)) b M2/\Blk (p2.setCell ⟨cb,4,none⟩ (.int .i64 v2)) cb 27 #[.int .i64 2,.int .i64 0,.int .i64 v0,.int .i64 v1,.int .i64 v2,.slice none 0 0]/\Fr w (p2.setCell ⟨cb,4,none⟩ (.int .i64 v2)) (fun i=>i=b\/i=cb)):=⟨H2.out.1.set H2.out.2.1 (ab _ _ _ _) (by decide) (by decide),H2.out.2.1.store 4 _,bF H2.out.2.2 (de (ab _ _ _ _))⟩
 generalize (p2.setCell ⟨cb,4,none⟩ (.int .i64 v2))=x2 at H3 ⊢
 clear H2 a2 z2
 have H:=H3
 clear H3
 rw [rounds_succ]
 go_wp2_with fail
 go_ret
 refine .inl ⟨(⟨2,0,v0,v1,v2,[]⟩:PCmd),M2,?_,rfl,H.out.1,H.out.2.1,H.out.2.2⟩
 unfold bg
 rw [if_neg (by decide),if_pos rfl]
 try simp [S0.out,S1.out,S2.out]
theorem qJ (b cb:Nat)(L:Bs)(w:World)(hr:RR w b L)(hc:CB w cb nil0 (⟨3,0,0,0,0,[]⟩:PCmd)):Calls Tryz.prog 77 #[.pointer (some ⟨cb,0,none⟩),.func (.func 78) #[.pointer (some ⟨b,0,none⟩)] #[]] w (eA b cb (bg 3 L) w):=by
 have HR:Hid (RR w b L/\Blk w cb 27 #[.int .i64 3,.int .i64 0,.int .i64 0,.int .i64 0,.int .i64 0,.slice none 0 0]):=⟨hr,hc⟩
 clear hr hc
 have i0:=ix0
 have i1:=ix1
 have i2:=ix2
 go_enter Tryz.func77,Tryz.ntmps77
 go_wp2_with fail
 refine (dH cb nil0 (⟨3,0,0,0,0,[]⟩:PCmd) w HR.out.2 rfl).mono ?_
 rintro e w1 ⟨rfl,g1⟩
 have H:Hid (RR w1 b L/\Blk w1 cb 27 #[.int .i64 3,.int .i64 0,.int .i64 0,.int .i64 0,.int .i64 0,.slice none 0 0]/\Fr w w1 (fun i=>i=b\/i=cb)):=⟨HR.out.1.grown g1,HR.out.2.grown g1 (by simp),bu g1⟩
 clear g1 HR
 try unfold pt
 go_wp2_with fail
 refine wp_loop_rounds 4 ?_
 rw [rounds_succ]
 go_wp2_with fail
 refine (sgnR b L w1 H.out.1).mono ?_
 rintro e p0 h
 rcases h with ⟨v0,M0,hs0,rfl,hR,hg⟩ | ⟨hs0,rfl,hg⟩
 rotate_left
 ·have hN:bg 3 L=none:=by unfold bg;rw [if_neg (by decide),if_neg (by decide),if_pos (by decide)];simp [hs0]
  have F:Hid (bg 3 L=none/\CB p0 cb nil0 (⟨3,0,0,0,0,[]⟩:PCmd)/\Fr w p0 (fun i=>i=b\/i=cb)):=⟨hN,H.out.2.1.grown hg (fun e=>by simp at e;exact H.out.1.ne H.out.2.1 (by decide) e.symm),bF H.out.2.2 (bR hg)⟩
  clear hN hg hs0
  go_wp2_with fail
  go_ret
  exact .inr ⟨F.out.1,rfl,⟨_,F.out.2.1⟩,F.out.2.2⟩
 have H2:Hid (RR p0 b M0/\Blk p0 cb 27 #[.int .i64 3,.int .i64 0,.int .i64 0,.int .i64 0,.int .i64 0,.slice none 0 0]/\Fr w p0 (fun i=>i=b\/i=cb)):=⟨hR,H.out.2.1.grown hg (fun e=>by simp at e;exact H.out.1.ne H.out.2.1 (by decide) e.symm),bF H.out.2.2 (bR hg)⟩
 have S0:Hid (pSgn L=some (v0,M0)):=hs0
 clear hR hg hs0 H
 have a0:=H2.out.2.1.cell 2
 have z0:=H2.out.2.1.free 2
 simp at a0
 go_wp2_with fail
 have H3:Hid (RR (p0.setCell ⟨cb,2,none⟩ (.int .i64 v0)) b M0/\Blk (p0.setCell ⟨cb,2,none⟩ (.int .i64 v0)) cb 27 #[.int .i64 3,.int .i64 0,.int .i64 v0,.int .i64 0,.int .i64 0,.slice none 0 0]/\Fr w (p0.setCell ⟨cb,2,none⟩ (.int .i64 v0)) (fun i=>i=b\/i=cb)):=⟨H2.out.1.set H2.out.2.1 (ab _ _ _ _) (by decide) (by decide),H2.out.2.1.store 2 _,bF H2.out.2.2 (de (ab _ _ _ _))⟩
 generalize (p0.setCell ⟨cb,2,none⟩ (.int .i64 v0))=x0 at H3 ⊢
 clear H2 a0 z0
 have H:=H3
 clear H3
 rw [rounds_succ]
 go_wp2_with fail
 go_ret
 refine .inl ⟨(⟨3,0,v0,0,0,[]⟩:PCmd),M0,?_,rfl,H.out.1,H.out.2.1,H.out.2.2⟩
 unfold bg
 rw [if_neg (by decide),if_neg (by decide),if_pos (by decide)]
 try simp [S0.out]
theorem qK (b cb:Nat)(L:Bs)(w:World)(hr:RR w b L)(hc:CB w cb nil0 (⟨4,0,0,0,0,[]⟩:PCmd)):Calls Tryz.prog 77 #[.pointer (some ⟨cb,0,none⟩),.func (.func 78) #[.pointer (some ⟨b,0,none⟩)] #[]] w (eA b cb (bg 4 L) w):=by
 have HR:Hid (RR w b L/\Blk w cb 27 #[.int .i64 4,.int .i64 0,.int .i64 0,.int .i64 0,.int .i64 0,.slice none 0 0]):=⟨hr,hc⟩
 clear hr hc
 have i0:=ix0
 have i1:=ix1
 have i2:=ix2
 go_enter Tryz.func77,Tryz.ntmps77
 go_wp2_with fail
 refine (dI cb nil0 (⟨4,0,0,0,0,[]⟩:PCmd) w HR.out.2 rfl).mono ?_
 rintro e w1 ⟨rfl,g1⟩
 have H:Hid (RR w1 b L/\Blk w1 cb 27 #[.int .i64 4,.int .i64 0,.int .i64 0,.int .i64 0,.int .i64 0,.slice none 0 0]/\Fr w w1 (fun i=>i=b\/i=cb)):=⟨HR.out.1.grown g1,HR.out.2.grown g1 (by simp),bu g1⟩
 clear g1 HR
 try unfold pt
 go_wp2_with fail
 refine wp_loop_rounds 4 ?_
 rw [rounds_succ]
 go_wp2_with fail
 refine (sgnR b L w1 H.out.1).mono ?_
 rintro e p0 h
 rcases h with ⟨v0,M0,hs0,rfl,hR,hg⟩ | ⟨hs0,rfl,hg⟩
 rotate_left
 ·have hN:bg 4 L=none:=by unfold bg;rw [if_neg (by decide),if_neg (by decide),if_pos (by decide)];simp [hs0]
  have F:Hid (bg 4 L=none/\CB p0 cb nil0 (⟨4,0,0,0,0,[]⟩:PCmd)/\Fr w p0 (fun i=>i=b\/i=cb)):=⟨hN,H.out.2.1.grown hg (fun e=>by simp at e;exact H.out.1.ne H.out.2.1 (by decide) e.symm),bF H.out.2.2 (bR hg)⟩
  clear hN hg hs0
  go_wp2_with fail
  go_ret
  exact .inr ⟨F.out.1,rfl,⟨_,F.out.2.1⟩,F.out.2.2⟩
 have H2:Hid (RR p0 b M0/\Blk p0 cb 27 #[.int .i64 4,.int .i64 0,.int .i64 0,.int .i64 0,.int .i64 0,.slice none 0 0]/\Fr w p0 (fun i=>i=b\/i=cb)):=⟨hR,H.out.2.1.grown hg (fun e=>by simp at e;exact H.out.1.ne H.out.2.1 (by decide) e.symm),bF H.out.2.2 (bR hg)⟩
 have S0:Hid (pSgn L=some (v0,M0)):=hs0
 clear hR hg hs0 H
 have a0:=H2.out.2.1.cell 2
 have z0:=H2.out.2.1.free 2
 simp at a0
 go_wp2_with fail
 have H3:Hid (RR (p0.setCell ⟨cb,2,none⟩ (.int .i64 v0)) b M0/\Blk (p0.setCell ⟨cb,2,none⟩ (.int .i64 v0)) cb 27 #[.int .i64 4,.int .i64 0,.int .i64 v0,.int .i64 0,.int .i64 0,.slice none 0 0]/\Fr w (p0.setCell ⟨cb,2,none⟩ (.int .i64 v0)) (fun i=>i=b\/i=cb)):=⟨H2.out.1.set H2.out.2.1 (ab _ _ _ _) (by decide) (by decide),H2.out.2.1.store 2 _,bF H2.out.2.2 (de (ab _ _ _ _))⟩
 generalize (p0.setCell ⟨cb,2,none⟩ (.int .i64 v0))=x0 at H3 ⊢
 clear H2 a0 z0
 have H:=H3
 clear H3
 rw [rounds_succ]
 go_wp2_with fail
 go_ret
 refine .inl ⟨(⟨4,0,v0,0,0,[]⟩:PCmd),M0,?_,rfl,H.out.1,H.out.2.1,H.out.2.2⟩
 unfold bg
 rw [if_neg (by decide),if_neg (by decide),if_pos (by decide)]
 try simp [S0.out]
theorem qL (b cb:Nat)(k:Int)(L:Bs)(w:World)(hr:RR w b L)(hc:CB w cb nil0 (⟨k,0,0,0,0,[]⟩:PCmd))(h1:(k==1)=false)(h2:(k==2)=false)(h3:(k==3)=false)(h4:(k==4)=false):Calls Tryz.prog 77 #[.pointer (some ⟨cb,0,none⟩),.func (.func 78) #[.pointer (some ⟨b,0,none⟩)] #[]] w (eA b cb (bg k L) w):=by
 have HR:Hid (RR w b L/\Blk w cb 27 #[.int .i64 k,.int .i64 0,.int .i64 0,.int .i64 0,.int .i64 0,.slice none 0 0]):=⟨hr,hc⟩
 clear hr hc
 have i0:=ix0
 have i1:=ix1
 have i2:=ix2
 go_enter Tryz.func77,Tryz.ntmps77
 go_wp2_with fail
 refine (dJ cb nil0 (⟨k,0,0,0,0,[]⟩:PCmd) w HR.out.2 h1 h2 h3 h4).mono ?_
 rintro e w1 ⟨rfl,g1⟩
 have H:Hid (RR w1 b L/\Blk w1 cb 27 #[.int .i64 k,.int .i64 0,.int .i64 0,.int .i64 0,.int .i64 0,.slice none 0 0]/\Fr w w1 (fun i=>i=b\/i=cb)):=⟨HR.out.1.grown g1,HR.out.2.grown g1 (by simp),bu g1⟩
 clear g1 HR
 try unfold pt
 go_wp2_with fail
 refine wp_loop_rounds 4 ?_
 rw [rounds_succ]
 go_wp2_with fail
 go_ret
 refine .inl ⟨(⟨k,0,0,0,0,[]⟩:PCmd),L,?_,rfl,H.out.1,H.out.2.1,H.out.2.2⟩
 unfold bg
 rw [if_neg (by simpa using h1),if_neg (by simpa using h2),if_neg (by have:=(by simpa using h3:¬k=3);have:=(by simpa using h4:¬k=4);omega)]
 try simp []
theorem tY (b cb:Nat)(k:Int)(L:Bs)(w:World)(hr:RR w b L)(hc:CB w cb nil0 ⟨k,0,0,0,0,[]⟩):Calls Tryz.prog 77 #[.pointer (some ⟨cb,0,none⟩),.func (.func 78) #[.pointer (some ⟨b,0,none⟩)] #[]] w (eA b cb (bg k L) w):=by
 by_cases h1:k=1
 ·subst h1;exact qH b cb L w hr hc
 ·by_cases h2:k=2
  ·subst h2;exact qI b cb L w hr hc
  ·by_cases h3:k=3
   ·subst h3;exact qJ b cb L w hr hc
   ·by_cases h4:k=4
    ·subst h4;exact qK b cb L w hr hc
    ·exact qL b cb k L w hr hc (by simp [h1]) (by simp [h2]) (by simp [h3]) (by simp [h4])
def rawP (L:Bs):Option (PCmd × Bs):=(pNum 4 L).bind fun k=>(bg k.1 k.2).bind fun f=>if k.1=2 then (aK 4096 f.2).bind fun b=>(cI b.1).bind fun l=>some (⟨2,0,f.1.session,f.1.number,f.1.mark,l⟩,b.2) else some f
theorem kR (L:Bs):pCmd L=(rawP L).bind fun x=>finC x.1 x.2:=by
 unfold pCmd rawP
 cases hk:pNum 4 L with
 | none=>rfl
 | some k =>
  have hk4:=(cY (n:=k.1) (M:=k.2) hk).2
  obtain ⟨a,M⟩:=k
  simp only at hk4
  rcases (show a=0\/a=1\/a=2\/a=3\/a=4 by omega) with rfl | rfl | rfl | rfl | rfl
  ·simp [bg,finC]
   intro _
   decide
  ·simp [bg,Option.bind_assoc]
  ·simp [bg,Option.bind_assoc]
  ·simp [bg,Option.bind_assoc]
  ·simp [bg,Option.bind_assoc]
def mt (b:Nat)(L:Bs)(w:World)(e:Ending)(w':World):Prop:=(∃x M v,aK 4096 L=some (x,M)/\e=.returned (.tuple #[v,.int .i64 0])/\Own w' w.heap.size v x/\RR w' b M/\w.grownBy w' (some b))\/(aK 4096 L=none/\∃er v,((er==0)=false)/\e=.returned (.tuple #[v,.int .i64 er])/\Own w' w.heap.size v []/\w.grownBy w' (some b))
theorem tZ (b:Nat)(L:Bs)(w:World)(hr:RR w b L)(hz:L.length<=140737488355328):Calls Tryz.prog 79 #[.pointer (some ⟨b,0,none⟩),.int .i64 4096] w (mt b L w):=by
 obtain ⟨g,h1,h2⟩:=jq hr
 refine (Wire.jL b g L 4096 w h1 (by decide) hz).mono ?_
 rintro e w' ⟨v,rfl,ho,h3,h4⟩
 rcases ez L with ⟨hs,_,_,hp⟩ | ⟨n,k,hs,_,_,_,hp⟩
 ·have hn:aK 4096 L=none:=by unfold aK;rw [hp]
  rw [Wire.eU (by decide) hs] at ho ⊢
  exact .inr ⟨hn,_,_,rfl,rfl,ho,h4⟩
 ·by_cases hl:(4096:Int)<(n:Int)
  ·have hn:aK 4096 L=none:=by unfold aK;rw [hp,if_neg (by omega)]
   rw [Wire.eV (by decide) hs hl] at ho ⊢
   exact .inr ⟨hn,_,_,rfl,rfl,ho,h4⟩
  ·by_cases hf:(L.drop k).length<n
   ·have hn:aK 4096 L=none:=by unfold aK;rw [hp,if_pos (by omega)];simp only;rw [if_neg (by omega)]
    rw [Wire.fq (by decide) hs hl hf] at ho ⊢
    exact .inr ⟨hn,_,_,rfl,rfl,ho,h4⟩
   ·have hn:aK 4096 L=some ((L.drop k).take n,(L.drop k).drop n):=by unfold aK;rw [hp,if_pos (by omega)];simp only;rw [if_pos (by omega)]
    rw [Wire.f_ (by decide) hs hl hf] at ho h3 ⊢
    exact .inl ⟨_,_,_,hn,rfl,ho,h2 _ _ h3 h4 (fun e=>by subst e;simp),h4⟩
theorem iT {w a c:World}{b cb:Nat}(h:Fr w a (fun i=>i=b))(k:Fr a c (fun i=>i=b\/i=cb))(hc:w.heap.size<=cb):Fr w c (fun i=>i=b):=h.trans k (by rintro i (rfl | rfl);exact .inl rfl;exact .inr hc)
theorem fr_b {w w':World}{b:Nat}(h:w.grownBy w' (some b)):Fr w w' (fun i=>i=b):=Fr.of h (fun k hk=>by simp at hk;exact hk.symm)
theorem fr_t {a b c:World}{F:Nat->Prop}(h:Fr a b F)(k:Fr b c F):Fr a c F:=h.trans k (fun _ hi=>.inl hi)
theorem mu {k:Int}{L M:Bs}{c:PCmd}(h:bg k L=some (c,M)):c.kind=k/\c.ops=[]/\(k=2->c.token=0)/\M.length<=L.length:=by
 have hl:∀{L M:Bs} {v:Int},pSgn L=some (v,M)->M.length<=L.length:=fun h=>by rw [ex h,List.length_append];omega
 unfold bg at h
 split at h
 ·rename_i e
  cases hs:pSgn L with
  | none=>rw [hs] at h;cases h
  | some t =>
   rw [hs] at h;simp at h;obtain ⟨rfl,rfl⟩:=h
   exact ⟨e.symm,rfl,fun e2=>by omega,hl (v:=t.1) (M:=t.2) hs⟩
 ·split at h
  ·rename_i e1 e
   cases hs:pSgn L with
   | none=>rw [hs] at h;cases h
   | some s =>
    rw [hs] at h;simp only [Option.bind_some] at h
    cases hn:pSgn s.2 with
    | none=>rw [hn] at h;cases h
    | some n =>
     rw [hn] at h;simp only [Option.bind_some] at h
     cases hm:pSgn n.2 with
     | none=>rw [hm] at h;cases h
     | some m =>
      rw [hm] at h;simp at h;obtain ⟨rfl,rfl⟩:=h
      have a1:=hl (v:=s.1) (M:=s.2) hs
      have a2:=hl (v:=n.1) (M:=n.2) hn
      have a3:=hl (v:=m.1) (M:=m.2) hm
      exact ⟨e.symm,rfl,fun _=>rfl,by omega⟩
  ·split at h
   ·rename_i e1 e2 e
    cases hs:pSgn L with
    | none=>rw [hs] at h;cases h
    | some s =>
     rw [hs] at h;simp at h;obtain ⟨rfl,rfl⟩:=h
     exact ⟨rfl,rfl,fun _=>rfl,hl (v:=s.1) (M:=s.2) hs⟩
   ·simp at h;obtain ⟨rfl,rfl⟩:=h
    exact ⟨rfl,rfl,fun _=>rfl,by omega⟩
def sw (b:Nat)(L:Bs)(w:World)(e:Ending)(w':World):Prop:=(∃c M ov,rawP L=some (c,M)/\e=.returned (.tuple #[cmdV ov c,.int .i64 0])/\am w' w.heap.size ov c.ops/\RR w' b M/\Fr w w' (fun i=>i=b))\/(rawP L=none/\∃c ov er,((er==0)=false)/\e=.returned (.tuple #[cmdV ov c,.int .i64 er])/\(∃x n y,ov=.slice x n y)/\Fr w w' (fun i=>i=b))
theorem t8 (b:Nat)(L:Bs)(w:World)(hr:RR w b L)(hz:L.length<=140737488355328):Calls Tryz.prog 48 #[.pointer (some ⟨b,0,none⟩)] w (sw b L w):=by
 have HR:Hid (RR w b L/\L.length<=140737488355328/\b<w.heap.size):=⟨hr,hz,by obtain ⟨s,hs⟩:=hr.blk;exact hs.lt⟩
 clear hr hz
 go_enter Tryz.func48,Tryz.ntmps48
 go_wp2_with fail
 obtain ⟨W,hW,HW⟩:=al1 w #[.int .i64 0,.int .i64 0,.int .i64 0,.int .i64 0,.int .i64 0,.slice none 0 0] 27
 rw [hW]
 clear hW
 refine (th b L W (HR.out.1.grown HW.out.2.1)).mono ?_
 rintro e w1 ⟨rfl,hR1,g1⟩
 have H1:Hid (RR w1 b (Wire.aU L).2.2/\Blk w1 w.heap.size 27 #[.int .i64 0,.int .i64 0,.int .i64 0,.int .i64 0,.int .i64 0,.slice none 0 0]/\Fr w w1 (fun i=>i=b)/\w.heap.size<w1.heap.size):=⟨hR1,HW.out.1.grown g1 (fun e=>by simp at e;have:=HR.out.2.2;omega),fr_t (bu HW.out.2.1) (fr_b g1),by have:=g1.size;have:=HW.out.2.2;omega⟩
 clear hR1 g1 HW
 rcases ez L with ⟨_,e0,_,hp⟩ | ⟨n,k,_,hn64,e0,_,hp⟩
 ·rw [e0] at H1 ⊢
  have HN:Hid (rawP L=none):=by unfold rawP Hid;rw [hp];rfl
  clear e0 hp
  simp only at H1 ⊢
  have r0:=H1.out.2.1.cell 0
  have r1:=H1.out.2.1.cell 1
  have r2:=H1.out.2.1.cell 2
  have r3:=H1.out.2.1.cell 3
  have r4:=H1.out.2.1.cell 4
  have r5:=H1.out.2.1.cell 5
  have z0:=H1.out.2.1.free 0
  have z1:=H1.out.2.1.free 1
  have z2:=H1.out.2.1.free 2
  have z3:=H1.out.2.1.free 3
  have z4:=H1.out.2.1.free 4
  have z5:=H1.out.2.1.free 5
  simp at r0 r1 r2 r3 r4 r5
  go_wp2_with fail
  obtain ⟨W6,hW6,H6⟩:=set6 H1.out.2.1 (.int .i64 0) (.int .i64 0) (.int .i64 0) (.int .i64 0) (.int .i64 0) (.slice none 0 0)
  rw [hW6]
  clear hW6
  have y0:=H6.out.1.cell 0
  have y1:=H6.out.1.cell 1
  have y2:=H6.out.1.cell 2
  have y3:=H6.out.1.cell 3
  have y4:=H6.out.1.cell 4
  have y5:=H6.out.1.cell 5
  simp at y0 y1 y2 y3 y4 y5
  have hfr:Fr w W6 (fun i=>i=b):=H1.out.2.2.1.trans (Fr.of H6.out.2 (F:=fun i=>i=w.heap.size) (fun k hk=>by simp at hk;exact hk.symm)) (fun i hi=>.inr (by rw [hi];exact Nat.le_refl _))
  exact bodyPost_ret (v:=.tuple #[.agg #[.int .i64 0,.int .i64 0,.int .i64 0,.int .i64 0,.int .i64 0,.slice none 0 0],.int .i64 4]) (by simp [results,Tryz.results48,go_sem,y0,y1,y2,y3,y4,y5]) rfl (.inr ⟨HN.out,bj,.slice none 0 0,4,rfl,rfl,⟨_,_,_,rfl⟩,hfr⟩)
 rw [e0] at H1 ⊢
 simp only at H1 ⊢
 by_cases h4:4<n
 ·have HN:Hid (rawP L=none):=by unfold rawP Hid;rw [hp,if_neg (by omega)];rfl
  have q4:((4:Int)<(n:Int))=True:=by simp;omega
  clear e0 hp h4
  have r0:=H1.out.2.1.cell 0
  have r1:=H1.out.2.1.cell 1
  have r2:=H1.out.2.1.cell 2
  have r3:=H1.out.2.1.cell 3
  have r4:=H1.out.2.1.cell 4
  have r5:=H1.out.2.1.cell 5
  have z0:=H1.out.2.1.free 0
  have z1:=H1.out.2.1.free 1
  have z2:=H1.out.2.1.free 2
  have z3:=H1.out.2.1.free 3
  have z4:=H1.out.2.1.free 4
  have z5:=H1.out.2.1.free 5
  simp at r0 r1 r2 r3 r4 r5
  go_wp2_with fail
  obtain ⟨W6,hW6,H6⟩:=set6 H1.out.2.1 (.int .i64 0) (.int .i64 0) (.int .i64 0) (.int .i64 0) (.int .i64 0) (.slice none 0 0)
  rw [hW6]
  clear hW6
  have y0:=H6.out.1.cell 0
  have y1:=H6.out.1.cell 1
  have y2:=H6.out.1.cell 2
  have y3:=H6.out.1.cell 3
  have y4:=H6.out.1.cell 4
  have y5:=H6.out.1.cell 5
  simp at y0 y1 y2 y3 y4 y5
  have hfr:Fr w W6 (fun i=>i=b):=H1.out.2.2.1.trans (Fr.of H6.out.2 (F:=fun i=>i=w.heap.size) (fun k hk=>by simp at hk;exact hk.symm)) (fun i hi=>.inr (by rw [hi];exact Nat.le_refl _))
  exact bodyPost_ret (v:=.tuple #[.agg #[.int .i64 0,.int .i64 0,.int .i64 0,.int .i64 0,.int .i64 0,.slice none 0 0],.int .i64 4]) (by simp [results,Tryz.results48,go_sem,y0,y1,y2,y3,y4,y5]) rfl (.inr ⟨HN.out,bj,.slice none 0 0,4,rfl,rfl,⟨_,_,_,rfl⟩,hfr⟩)
 have hpn:pNum 4 L=some (n,L.drop k):=by rw [hp,if_pos (by omega)]
 have q4:((4:Int)<(n:Int))=False:=by simp;omega
 have wn:IntKind.i64.wrap (n:Int)=(n:Int):=by rw [IntKind.wrap_i64];omega
 have HP:Hid (rawP L=(bg n (L.drop k)).bind fun f=>if n=2 then (aK 4096 f.2).bind fun b=>(cI b.1).bind fun l=>some (⟨2,0,f.1.session,f.1.number,f.1.mark,l⟩,b.2) else some f):=by unfold rawP Hid;rw [hpn];rfl
 have hn4:n<=4:=by omega
 clear e0 hp hpn h4
 go_wp2_with fail
 obtain ⟨w2,hw2,H2⟩:=al1 w1 #[.int .i64 n,.int .i64 0,.int .i64 0,.int .i64 0,.int .i64 0,.slice none 0 0] 27
 rw [hw2]
 clear hw2
 refine (tY b w1.heap.size n (L.drop k) w2 (H1.out.1.grown H2.out.2.1) H2.out.1).mono ?_
 rintro e w3 (⟨c,M,hf,rfl,hR3,hc3,fr3⟩ | ⟨hf,rfl,⟨c,hc3⟩,fr3⟩)
 rotate_left
 ·have HN:Hid (rawP L=none):=by rw [Hid,HP.out,hf];rfl
  have hbz:Blk w3 w.heap.size 27 #[.int .i64 0,.int .i64 0,.int .i64 0,.int .i64 0,.int .i64 0,.slice none 0 0]:=(H1.out.2.1.grown H2.out.2.1 (by simp)).same (fr3.block _ (by have:=H1.out.2.2.2;have:=H2.out.2.2;omega) (by have:=HR.out.2.2;have:=H1.out.2.2.2;omega))
  have H3:Hid (Blk w3 w.heap.size 27 #[.int .i64 0,.int .i64 0,.int .i64 0,.int .i64 0,.int .i64 0,.slice none 0 0]/\Blk w3 w1.heap.size 27 (cmdA nil0 c)/\Fr w w3 (fun i=>i=b)):=⟨hbz,hc3,iT (fr_t H1.out.2.2.1 (bu H2.out.2.1)) fr3 (by have:=H1.out.2.2.2;omega)⟩
  clear hf hbz hc3 fr3 H2 H1
  unfold cmdA nil0 at H3
  have c0:=H3.out.2.1.cell 0
  have c1:=H3.out.2.1.cell 1
  have c2:=H3.out.2.1.cell 2
  have c3:=H3.out.2.1.cell 3
  have c4:=H3.out.2.1.cell 4
  have c5:=H3.out.2.1.cell 5
  simp at c0 c1 c2 c3 c4 c5
  have r0:=H3.out.1.cell 0
  have r1:=H3.out.1.cell 1
  have r2:=H3.out.1.cell 2
  have r3:=H3.out.1.cell 3
  have r4:=H3.out.1.cell 4
  have r5:=H3.out.1.cell 5
  have z0:=H3.out.1.free 0
  have z1:=H3.out.1.free 1
  have z2:=H3.out.1.free 2
  have z3:=H3.out.1.free 3
  have z4:=H3.out.1.free 4
  have z5:=H3.out.1.free 5
  simp at r0 r1 r2 r3 r4 r5
  go_wp2_with fail
  obtain ⟨W6,hW6,H6⟩:=set6 H3.out.1 (.int .i64 c.kind) (.int .i64 c.token) (.int .i64 c.session) (.int .i64 c.number) (.int .i64 c.mark) (.slice none 0 0)
  rw [hW6]
  clear hW6
  have y0:=H6.out.1.cell 0
  have y1:=H6.out.1.cell 1
  have y2:=H6.out.1.cell 2
  have y3:=H6.out.1.cell 3
  have y4:=H6.out.1.cell 4
  have y5:=H6.out.1.cell 5
  simp at y0 y1 y2 y3 y4 y5
  have hfr:Fr w W6 (fun i=>i=b):=H3.out.2.2.trans (Fr.of H6.out.2 (F:=fun i=>i=w.heap.size) (fun k hk=>by simp at hk;exact hk.symm)) (fun i hi=>.inr (by rw [hi];exact Nat.le_refl _))
  exact bodyPost_ret (v:=.tuple #[.agg #[.int .i64 c.kind,.int .i64 c.token,.int .i64 c.session,.int .i64 c.number,.int .i64 c.mark,.slice none 0 0],.int .i64 4]) (by simp [results,Tryz.results48,go_sem,y0,y1,y2,y3,y4,y5]) rfl (.inr ⟨HN.out,c,.slice none 0 0,4,rfl,rfl,⟨_,_,_,rfl⟩,hfr⟩)
 obtain ⟨k1,k2,k3,k4⟩:=mu hf
 have hbz:Blk w3 w.heap.size 27 #[.int .i64 0,.int .i64 0,.int .i64 0,.int .i64 0,.int .i64 0,.slice none 0 0]:=(H1.out.2.1.grown H2.out.2.1 (by simp)).same (fr3.block _ (by have:=H1.out.2.2.2;have:=H2.out.2.2;omega) (by have:=HR.out.2.2;have:=H1.out.2.2.2;omega))
 have H3:Hid (Blk w3 w.heap.size 27 #[.int .i64 0,.int .i64 0,.int .i64 0,.int .i64 0,.int .i64 0,.slice none 0 0]/\Blk w3 w1.heap.size 27 (cmdA nil0 c)/\Fr w w3 (fun i=>i=b)/\RR w3 b M/\bg n (L.drop k)=some (c,M)/\c.ops=[]/\M.length<=L.length/\w.heap.size<w1.heap.size):=⟨hbz,hc3,iT (fr_t H1.out.2.2.1 (bu H2.out.2.1)) fr3 (by have:=H1.out.2.2.2;omega),hR3,hf,k2,by rw [List.length_drop] at k4;omega,H1.out.2.2.2⟩
 clear hf hbz hc3 fr3 H2 H1 hR3 k2 k4
 unfold cmdA nil0 at H3
 have c0:=H3.out.2.1.cell 0
 have c1:=H3.out.2.1.cell 1
 have c2:=H3.out.2.1.cell 2
 have c3:=H3.out.2.1.cell 3
 have c4:=H3.out.2.1.cell 4
 have c5:=H3.out.2.1.cell 5
 simp at c0 c1 c2 c3 c4 c5
 by_cases hn2:n=2
 rotate_left
 ·have HN:Hid (rawP L=some (c,M)):=by rw [Hid,HP.out,H3.out.2.2.2.2.1];simp [hn2]
  have q2:(c.kind==2)=false:=by rw [k1];simp;omega
  clear hn2 k1 k3
  have r0:=H3.out.1.cell 0
  have r1:=H3.out.1.cell 1
  have r2:=H3.out.1.cell 2
  have r3:=H3.out.1.cell 3
  have r4:=H3.out.1.cell 4
  have r5:=H3.out.1.cell 5
  have z0:=H3.out.1.free 0
  have z1:=H3.out.1.free 1
  have z2:=H3.out.1.free 2
  have z3:=H3.out.1.free 3
  have z4:=H3.out.1.free 4
  have z5:=H3.out.1.free 5
  simp at r0 r1 r2 r3 r4 r5
  go_wp2_with fail
  obtain ⟨W6,hW6,H6⟩:=set6 H3.out.1 (.int .i64 c.kind) (.int .i64 c.token) (.int .i64 c.session) (.int .i64 c.number) (.int .i64 c.mark) (.slice none 0 0)
  rw [hW6]
  clear hW6
  have y0:=H6.out.1.cell 0
  have y1:=H6.out.1.cell 1
  have y2:=H6.out.1.cell 2
  have y3:=H6.out.1.cell 3
  have y4:=H6.out.1.cell 4
  have y5:=H6.out.1.cell 5
  simp at y0 y1 y2 y3 y4 y5
  have hfr:Fr w W6 (fun i=>i=b):=H3.out.2.2.1.trans (Fr.of H6.out.2 (F:=fun i=>i=w.heap.size) (fun k hk=>by simp at hk;exact hk.symm)) (fun i hi=>.inr (by rw [hi];exact Nat.le_refl _))
  exact bodyPost_ret (v:=.tuple #[.agg #[.int .i64 c.kind,.int .i64 c.token,.int .i64 c.session,.int .i64 c.number,.int .i64 c.mark,.slice none 0 0],.int .i64 0]) (by simp [results,Tryz.results48,go_sem,y0,y1,y2,y3,y4,y5]) rfl (.inl ⟨c,M,.slice none 0 0,HN.out,rfl,by rw [H3.out.2.2.2.2.2.1];exact ⟨aD _ _,by simp⟩,H3.out.2.2.2.1.set H3.out.1 H6.out.2 (by decide) (by decide),hfr⟩)
 subst hn2
 have k1':c.kind=2:=by rw [k1];rfl
 have k3':=k3 rfl
 rw [k1'] at c0
 rw [k3'] at c1
 have HK:Hid (c.kind=2/\c.token=0):=⟨k1',k3'⟩
 clear k1 k3 k1' k3'
 go_wp2_with fail
 refine (tZ b M w3 H3.out.2.2.2.1 (by have:=HR.out.2.1;have:=H3.out.2.2.2.2.2.2.1;omega)).mono ?_
 intro e w4 h
 rcases h with ⟨x,M2,v,hb,rfl,hov,hR4,g4⟩ | ⟨hb,er,v,her,rfl,hov,g4⟩
 rotate_left
 ·have HN:Hid (rawP L=none):=by rw [Hid,HP.out,H3.out.2.2.2.2.1];simp [hb]
  obtain ⟨sx,sn,sy,rfl⟩:=aq hov
  have ne1:∀{x c'},Blk w3 x 27 c'->Blk w4 x 27 c':=fun {x c'} hx=>hx.grown g4 (fun e=>by simp at e;exact H3.out.2.2.2.1.ne hx (by decide) e.symm)
  have H4:Hid (Blk w4 w.heap.size 27 #[.int .i64 0,.int .i64 0,.int .i64 0,.int .i64 0,.int .i64 0,.slice none 0 0]/\Blk w4 w1.heap.size 27 #[.int .i64 c.kind,.int .i64 c.token,.int .i64 c.session,.int .i64 c.number,.int .i64 c.mark,.slice none 0 0]/\Fr w w4 (fun i=>i=b)):=⟨ne1 H3.out.1,ne1 H3.out.2.1,fr_t H3.out.2.2.1 (fr_b g4)⟩
  have qer:(er=0)=False:=by simp at her;simp [her]
  clear ne1 hov g4 H3 hb c0 c1 c2 c3 c4 c5
  have c0:=H4.out.2.1.cell 0
  have c1:=H4.out.2.1.cell 1
  have c2:=H4.out.2.1.cell 2
  have c3:=H4.out.2.1.cell 3
  have c4:=H4.out.2.1.cell 4
  have c5:=H4.out.2.1.cell 5
  simp at c0 c1 c2 c3 c4 c5
  have r0:=H4.out.1.cell 0
  have r1:=H4.out.1.cell 1
  have r2:=H4.out.1.cell 2
  have r3:=H4.out.1.cell 3
  have r4:=H4.out.1.cell 4
  have r5:=H4.out.1.cell 5
  have z0:=H4.out.1.free 0
  have z1:=H4.out.1.free 1
  have z2:=H4.out.1.free 2
  have z3:=H4.out.1.free 3
  have z4:=H4.out.1.free 4
  have z5:=H4.out.1.free 5
  simp at r0 r1 r2 r3 r4 r5
  go_wp2_with fail
  obtain ⟨W6,hW6,H6⟩:=set6 H4.out.1 (.int .i64 c.kind) (.int .i64 c.token) (.int .i64 c.session) (.int .i64 c.number) (.int .i64 c.mark) (.slice none 0 0)
  rw [hW6]
  clear hW6
  have y0:=H6.out.1.cell 0
  have y1:=H6.out.1.cell 1
  have y2:=H6.out.1.cell 2
  have y3:=H6.out.1.cell 3
  have y4:=H6.out.1.cell 4
  have y5:=H6.out.1.cell 5
  simp at y0 y1 y2 y3 y4 y5
  have hfr:Fr w W6 (fun i=>i=b):=H4.out.2.2.trans (Fr.of H6.out.2 (F:=fun i=>i=w.heap.size) (fun k hk=>by simp at hk;exact hk.symm)) (fun i hi=>.inr (by rw [hi];exact Nat.le_refl _))
  exact bodyPost_ret (v:=.tuple #[.agg #[.int .i64 c.kind,.int .i64 c.token,.int .i64 c.session,.int .i64 c.number,.int .i64 c.mark,.slice none 0 0],.int .i64 er]) (by simp [results,Tryz.results48,go_sem,y0,y1,y2,y3,y4,y5]) rfl (.inr ⟨HN.out,c,.slice none 0 0,er,her,rfl,⟨_,_,_,rfl⟩,hfr⟩)
 obtain ⟨sx,sn,sy,rfl⟩:=aq hov
 have ne1:∀{x c'},Blk w3 x 27 c'->Blk w4 x 27 c':=fun {x c'} hx=>hx.grown g4 (fun e=>by simp at e;exact H3.out.2.2.2.1.ne hx (by decide) e.symm)
 have H4:Hid (Blk w4 w.heap.size 27 #[.int .i64 0,.int .i64 0,.int .i64 0,.int .i64 0,.int .i64 0,.slice none 0 0]/\Blk w4 w1.heap.size 27 #[.int .i64 c.kind,.int .i64 c.token,.int .i64 c.session,.int .i64 c.number,.int .i64 c.mark,.slice none 0 0]/\Fr w w4 (fun i=>i=b)/\RR w4 b M2/\Seg w4 (.slice sx sn sy) x/\w.heap.size<w1.heap.size/\bg ((2:Nat):Int) (L.drop k)=some (c,M)/\aK 4096 M=some (x,M2)):=⟨ne1 H3.out.1,ne1 H3.out.2.1,fr_t H3.out.2.2.1 (fr_b g4),hR4,hov.seg,H3.out.2.2.2.2.2.2.2,H3.out.2.2.2.2.1,hb⟩
 have hx4:=(bV hb).2
 clear ne1 hov g4 H3 hb hR4 c0 c1 c2 c3 c4 c5
 go_wp2_with fail
 refine (tO (.slice sx sn sy) x w4 (by omega) H4.out.2.2.2.2.1).mono ?_
 rintro e w5 ⟨u,rfl,hu,g5⟩
 obtain ⟨ux,un,uy,rfl⟩:∃a n b,u=.slice a n b:=by obtain ⟨a,n,b,e,_⟩:=aJ hu.ops;exact ⟨a,n,b,e⟩
 have H5:Hid (Blk w5 w.heap.size 27 #[.int .i64 0,.int .i64 0,.int .i64 0,.int .i64 0,.int .i64 0,.slice none 0 0]/\Blk w5 w1.heap.size 27 #[.int .i64 c.kind,.int .i64 c.token,.int .i64 c.session,.int .i64 c.number,.int .i64 c.mark,.slice none 0 0]/\Fr w w5 (fun i=>i=b)/\RR w5 b M2/\am w5 w4.heap.size (.slice ux un uy) (bN x).1/\w.heap.size<w1.heap.size/\w.heap.size<=w4.heap.size):=⟨H4.out.1.grown g5 (by simp),H4.out.2.1.grown g5 (by simp),fr_t H4.out.2.2.1 (bu g5),H4.out.2.2.2.1.grown g5,hu,H4.out.2.2.2.2.2.1,H4.out.2.2.1.size⟩
 clear g5 hu
 have c5:=H5.out.2.1.cell 5
 have z5:=H5.out.2.1.free 5
 simp at c5
 have hrd:bN x=match cI x with | some l=>(l,0) | none=>([],4):=by unfold bN;rw [if_pos hx4];cases cI x <;> rfl
 obtain ⟨er,her⟩:∃er,(bN x).2=er:=⟨_,rfl⟩
 rw [her]
 have HE:Hid ((bN x).2=er/\bN x=match cI x with | some l=>(l,0) | none=>([],4)):=⟨her,hrd⟩
 clear her hrd
 go_upto_region 12 with fail
 have HS:Hid (Blk (w5.setCell ⟨w1.heap.size,5,none⟩ (.slice ux un uy)) w.heap.size 27 #[.int .i64 0,.int .i64 0,.int .i64 0,.int .i64 0,.int .i64 0,.slice none 0 0]/\Blk (w5.setCell ⟨w1.heap.size,5,none⟩ (.slice ux un uy)) w1.heap.size 27 #[.int .i64 c.kind,.int .i64 c.token,.int .i64 c.session,.int .i64 c.number,.int .i64 c.mark,.slice ux un uy]/\Fr w (w5.setCell ⟨w1.heap.size,5,none⟩ (.slice ux un uy)) (fun i=>i=b)/\RR (w5.setCell ⟨w1.heap.size,5,none⟩ (.slice ux un uy)) b M2/\am (w5.setCell ⟨w1.heap.size,5,none⟩ (.slice ux un uy)) w.heap.size (.slice ux un uy) (bN x).1):=by
  have hg:=ab w5 w1.heap.size 5 (.slice ux un uy)
  exact ⟨H5.out.1.grown hg (by simp;have:=H5.out.2.2.2.2.2.1;omega),H5.out.2.1.store 5 _,H5.out.2.2.1.trans (Fr.of hg (F:=fun i=>i=w1.heap.size) (fun k hk=>by simp at hk;exact hk.symm)) (fun i hi=>.inr (by rw [hi];have:=H5.out.2.2.2.2.2.1;omega)),H5.out.2.2.2.1.set H5.out.2.1 hg (by decide) (by decide),(H5.out.2.2.2.2.1.set H5.out.2.1 (by decide) (by decide) hg).mono H5.out.2.2.2.2.2.2⟩
 generalize w5.setCell ⟨w1.heap.size,5,none⟩ (.slice ux un uy)=w6 at HS ⊢
 clear H5 c5 z5
 have c0:=HS.out.2.1.cell 0
 have c1:=HS.out.2.1.cell 1
 have c2:=HS.out.2.1.cell 2
 have c3:=HS.out.2.1.cell 3
 have c4:=HS.out.2.1.cell 4
 have c5:=HS.out.2.1.cell 5
 simp at c0 c1 c2 c3 c4 c5
 have r0:=HS.out.1.cell 0
 have r1:=HS.out.1.cell 1
 have r2:=HS.out.1.cell 2
 have r3:=HS.out.1.cell 3
 have r4:=HS.out.1.cell 4
 have r5:=HS.out.1.cell 5
 have z0:=HS.out.1.free 0
 have z1:=HS.out.1.free 1
 have z2:=HS.out.1.free 2
 have z3:=HS.out.1.free 3
 have z4:=HS.out.1.free 4
 have z5:=HS.out.1.free 5
 simp at r0 r1 r2 r3 r4 r5
 go_wp2_with fail
 obtain ⟨W6,hW6,H6⟩:=set6 HS.out.1 (.int .i64 c.kind) (.int .i64 c.token) (.int .i64 c.session) (.int .i64 c.number) (.int .i64 c.mark) (.slice ux un uy)
 rw [hW6]
 clear hW6
 have y0:=H6.out.1.cell 0
 have y1:=H6.out.1.cell 1
 have y2:=H6.out.1.cell 2
 have y3:=H6.out.1.cell 3
 have y4:=H6.out.1.cell 4
 have y5:=H6.out.1.cell 5
 simp at y0 y1 y2 y3 y4 y5
 have hfr:Fr w W6 (fun i=>i=b):=HS.out.2.2.1.trans (Fr.of H6.out.2 (F:=fun i=>i=w.heap.size) (fun k hk=>by simp at hk;exact hk.symm)) (fun i hi=>.inr (by rw [hi];exact Nat.le_refl _))
 exact bodyPost_ret (v:=.tuple #[.agg #[.int .i64 c.kind,.int .i64 c.token,.int .i64 c.session,.int .i64 c.number,.int .i64 c.mark,.slice ux un uy],.int .i64 er]) (by simp [results,Tryz.results48,go_sem,y0,y1,y2,y3,y4,y5]) rfl (by
  have hop:=HS.out.2.2.2.2.set HS.out.1 (by decide) (by decide) H6.out.2
  have hrr:=HS.out.2.2.2.1.set HS.out.1 H6.out.2 (by decide) (by decide)
  have e1:=HE.out.1
  cases hl:cI x with
  | none =>
   rw [HE.out.2,hl] at e1
   refine .inr ⟨by rw [HP.out,H4.out.2.2.2.2.2.2.1];simp [H4.out.2.2.2.2.2.2.2,hl],c,.slice ux un uy,er,by rw [<-e1];rfl,rfl,⟨_,_,_,rfl⟩,hfr⟩
  | some l =>
   rw [HE.out.2,hl] at e1
   rw [HE.out.2,hl] at hop
   refine .inl ⟨⟨2,0,c.session,c.number,c.mark,l⟩,M2,.slice ux un uy,by rw [HP.out,H4.out.2.2.2.2.2.2.1];simp [H4.out.2.2.2.2.2.2.2,hl],?_,hop,hrr,hfr⟩
   rw [<-e1,HK.out.1,HK.out.2]
   rfl)
theorem qM {k:Int}{L M:Bs}{c:PCmd}(h:bg k L=some (c,M))(h0:-9223372036854775808<=k)(h1:k<=9223372036854775807):InC c:=by
 unfold bg at h
 split at h
 ·cases hs:pSgn L with
  | none=>rw [hs] at h;cases h
  | some t =>
   rw [hs] at h;simp at h;obtain ⟨rfl,rfl⟩:=h
   have b:=dD (n:=t.1) (M:=t.2) hs
   constructor <;> first | exact b.1 | exact b.2 | (dsimp only;omega)
 ·split at h
  ·cases hs:pSgn L with
   | none=>rw [hs] at h;cases h
   | some s =>
    rw [hs] at h;simp only [Option.bind_some] at h
    cases hn:pSgn s.2 with
    | none=>rw [hn] at h;cases h
    | some n =>
     rw [hn] at h;simp only [Option.bind_some] at h
     cases hm:pSgn n.2 with
     | none=>rw [hm] at h;cases h
     | some m =>
      rw [hm] at h;simp at h;obtain ⟨rfl,rfl⟩:=h
      have b:=dD (n:=s.1) (M:=s.2) hs
      have b2:=dD (n:=n.1) (M:=n.2) hn
      have b3:=dD (n:=m.1) (M:=m.2) hm
      constructor <;> first | exact b.1 | exact b.2 | exact b2.1 | exact b2.2 | exact b3.1 | exact b3.2 | (dsimp only;omega)
  ·split at h
   ·cases hs:pSgn L with
    | none=>rw [hs] at h;cases h
    | some s =>
     rw [hs] at h;simp at h;obtain ⟨rfl,rfl⟩:=h
     have b:=dD (n:=s.1) (M:=s.2) hs
     constructor <;> first | exact b.1 | exact b.2 | (dsimp only;omega)
   ·simp at h;obtain ⟨rfl,rfl⟩:=h
    constructor <;> (dsimp only;omega)
theorem sA {L M:Bs}{c:PCmd}(h:rawP L=some (c,M)):InC c:=by
 unfold rawP at h
 cases hk:pNum 4 L with
 | none=>rw [hk] at h;cases h
 | some k =>
  rw [hk] at h
  have hk4:=(cY (n:=k.1) (M:=k.2) hk).2
  simp only [Option.bind_some] at h
  cases hf:bg k.1 k.2 with
  | none=>rw [hf] at h;cases h
  | some f =>
   rw [hf] at h
   have hi:=qM (c:=f.1) (M:=f.2) hf (by omega) (by omega)
   simp only [Option.bind_some] at h
   split at h
   ·cases hb:aK 4096 f.2 with
    | none=>rw [hb] at h;cases h
    | some b =>
     rw [hb] at h;simp only [Option.bind_some] at h
     cases hl:cI b.1 with
     | none=>rw [hl] at h;cases h
     | some l =>
      rw [hl] at h;simp at h;obtain ⟨rfl,rfl⟩:=h
      constructor <;> first | exact hi.s0 | exact hi.s1 | exact hi.n0 | exact hi.n1 | exact hi.m0 | exact hi.m1 | (dsimp only;omega)
   ·simp at h;rw [h] at hi;exact hi
def d9 (w:World)(r:PCmd × Int)(e:Ending)(w':World):Prop:=∃ov,e=.returned (.tuple #[cmdV ov r.1,.int .i64 r.2])/\am w' w.heap.size ov r.1.ops/\w.grownBy w' none
theorem mv (v:Value)(L:Bs)(w:World)(hs:Seg w v L)(hz:L.length<=140737488355328):Calls Tryz.prog 19 #[v] w (d9 w (cg L)):=by
 have HV:Hid (Seg w v L/\L.length<=140737488355328):=⟨hs,hz⟩
 clear hs hz
 go_enter Tryz.func19,Tryz.ntmps19
 go_wp2_with fail
 obtain ⟨W,hW,HW⟩:=al1 w #[.int .i64 0,.int .i64 0,.int .i64 0,.int .i64 0,.int .i64 0,.slice none 0 0] 27
 rw [hW]
 clear hW
 refine (pG v L W (HV.out.1.grown HW.out.2.1) HV.out.2).mono ?_
 rintro e w1 ⟨b,rfl,hb,hR,g1⟩
 have H1:Hid (RR w1 b L/\Blk w1 w.heap.size 27 #[.int .i64 0,.int .i64 0,.int .i64 0,.int .i64 0,.int .i64 0,.slice none 0 0]/\w.grownBy w1 none/\w.heap.size<b):=⟨hR,HW.out.1.grown g1 (by simp),aa HW.out.2.1 g1,by have:=HW.out.2.2;omega⟩
 clear hb hR g1 HW
 go_wp2_with fail
 refine (t8 b L w1 H1.out.1 HV.out.2).mono ?_
 intro e w2 h
 rcases h with ⟨c,M,ov,hr,rfl,ho,hR2,fr⟩ | ⟨hr,c,ov,er,her,rfl,⟨x,n,y,rfl⟩,fr⟩
 rotate_left
 ·have hbz:Blk w2 w.heap.size 27 #[.int .i64 0,.int .i64 0,.int .i64 0,.int .i64 0,.int .i64 0,.slice none 0 0]:=H1.out.2.1.same (fr.block _ H1.out.2.1.lt (by have:=H1.out.2.2.2;omega))
  have H2:Hid (Blk w2 w.heap.size 27 #[.int .i64 0,.int .i64 0,.int .i64 0,.int .i64 0,.int .i64 0,.slice none 0 0]/\w.grownBy w2 none/\cg L=(bj,4)):=⟨hbz,(fr_t (bu H1.out.2.2.1) fr).grown (fun k hk=>by rw [hk];have:=H1.out.2.2.2;omega),by unfold cg;rw [kR,hr];rfl⟩
  have qer:(er=0)=False:=by simp at her;simp [her]
  clear hbz fr H1 hr
  unfold cmdV
  go_upto_region 4 with fail
  obtain ⟨w3,hw3,H3⟩:=al1 w2 #[.int .i64 c.kind,.int .i64 c.token,.int .i64 c.session,.int .i64 c.number,.int .i64 c.mark,.slice x n y] 27
  rw [hw3]
  clear hw3
  have H4:Hid (Blk w3 w.heap.size 27 #[.int .i64 0,.int .i64 0,.int .i64 0,.int .i64 0,.int .i64 0,.slice none 0 0]/\w.grownBy w3 none):=⟨H2.out.1.grown H3.out.2.1 (by simp),aa H2.out.2.1 H3.out.2.1⟩
  clear H3
  have r0:=H4.out.1.cell 0
  have r1:=H4.out.1.cell 1
  have r2:=H4.out.1.cell 2
  have r3:=H4.out.1.cell 3
  have r4:=H4.out.1.cell 4
  have r5:=H4.out.1.cell 5
  have z0:=H4.out.1.free 0
  have z1:=H4.out.1.free 1
  have z2:=H4.out.1.free 2
  have z3:=H4.out.1.free 3
  have z4:=H4.out.1.free 4
  have z5:=H4.out.1.free 5
  simp at r0 r1 r2 r3 r4 r5
  go_wp2_with fail
  obtain ⟨W6,hW6,H6⟩:=set6 H4.out.1 (.int .i64 0) (.int .i64 0) (.int .i64 0) (.int .i64 0) (.int .i64 0) (.slice none 0 0)
  rw [hW6]
  clear hW6
  have y0:=H6.out.1.cell 0
  have y1:=H6.out.1.cell 1
  have y2:=H6.out.1.cell 2
  have y3:=H6.out.1.cell 3
  have y4:=H6.out.1.cell 4
  have y5:=H6.out.1.cell 5
  simp at y0 y1 y2 y3 y4 y5
  have hgr:w.grownBy W6 none:=ag H4.out.2 H6.out.2 (fun x hx=>by simp at hx;omega)
  exact bodyPost_ret (v:=.tuple #[.agg #[.int .i64 0,.int .i64 0,.int .i64 0,.int .i64 0,.int .i64 0,.slice none 0 0],.int .i64 4]) (by simp [results,Tryz.results19,go_sem,y0,y1,y2,y3,y4,y5]) rfl (by rw [H2.out.2.2];exact ⟨.slice none 0 0,rfl,⟨aD _ _,by simp [bj]⟩,hgr⟩)
 obtain ⟨x,n,y,rfl⟩:∃a n b,ov=.slice a n b:=by obtain ⟨a,n,b,e,_⟩:=aJ ho.ops;exact ⟨a,n,b,e⟩
 have hbz:Blk w2 w.heap.size 27 #[.int .i64 0,.int .i64 0,.int .i64 0,.int .i64 0,.int .i64 0,.slice none 0 0]:=H1.out.2.1.same (fr.block _ H1.out.2.1.lt (by have:=H1.out.2.2.2;omega))
 have H2:Hid (Blk w2 w.heap.size 27 #[.int .i64 0,.int .i64 0,.int .i64 0,.int .i64 0,.int .i64 0,.slice none 0 0]/\w.grownBy w2 none/\RR w2 b M/\am w2 w1.heap.size (.slice x n y) c.ops/\cg L=(match finC c M with | some c=>(c,0) | none=>(bj,4))/\InC c/\w.heap.size<=w1.heap.size):=⟨hbz,(fr_t (bu H1.out.2.2.1) fr).grown (fun k hk=>by rw [hk];have:=H1.out.2.2.2;omega),hR2,ho,by unfold cg;rw [kR,hr];rfl,sA hr,H1.out.2.2.1.size⟩
 clear hbz fr H1 hr ho hR2
 unfold cmdV
 go_upto_region 3 with fail
 obtain ⟨w3,hw3,H3⟩:=al1 w2 #[.int .i64 c.kind,.int .i64 c.token,.int .i64 c.session,.int .i64 c.number,.int .i64 c.mark,.slice x n y] 27
 rw [hw3]
 clear hw3
 have H4:Hid (Blk w3 w.heap.size 27 #[.int .i64 0,.int .i64 0,.int .i64 0,.int .i64 0,.int .i64 0,.slice none 0 0]/\w.grownBy w3 none/\RR w3 b M/\am w3 w.heap.size (.slice x n y) c.ops/\Blk w3 w2.heap.size 27 #[.int .i64 c.kind,.int .i64 c.token,.int .i64 c.session,.int .i64 c.number,.int .i64 c.mark,.slice x n y]):=⟨H2.out.1.grown H3.out.2.1 (by simp),aa H2.out.2.1 H3.out.2.1,H2.out.2.2.1.grown H3.out.2.1,(H2.out.2.2.2.1.grown H3.out.2.1).mono H2.out.2.2.2.2.2.2,H3.out.1⟩
 clear H3
 by_cases hM:M=[]
 rotate_left
 ·have HN:Hid (cg L=(bj,4)):=by rw [Hid,H2.out.2.2.2.2.1,finC,if_neg (fun h=>hM h.1)]
  go_wp2_with fail
  refine (mW b M _ H4.out.2.2.1).mono ?_
  rintro e wx ⟨rfl,hx⟩
  rw [hx,if_neg hM]
  clear hx
  have r0:=H4.out.1.cell 0
  have r1:=H4.out.1.cell 1
  have r2:=H4.out.1.cell 2
  have r3:=H4.out.1.cell 3
  have r4:=H4.out.1.cell 4
  have r5:=H4.out.1.cell 5
  have z0:=H4.out.1.free 0
  have z1:=H4.out.1.free 1
  have z2:=H4.out.1.free 2
  have z3:=H4.out.1.free 3
  have z4:=H4.out.1.free 4
  have z5:=H4.out.1.free 5
  simp at r0 r1 r2 r3 r4 r5
  go_wp2_with fail
  obtain ⟨W6,hW6,H6⟩:=set6 H4.out.1 (.int .i64 0) (.int .i64 0) (.int .i64 0) (.int .i64 0) (.int .i64 0) (.slice none 0 0)
  rw [hW6]
  clear hW6
  have y0:=H6.out.1.cell 0
  have y1:=H6.out.1.cell 1
  have y2:=H6.out.1.cell 2
  have y3:=H6.out.1.cell 3
  have y4:=H6.out.1.cell 4
  have y5:=H6.out.1.cell 5
  simp at y0 y1 y2 y3 y4 y5
  have hgr:w.grownBy W6 none:=ag H4.out.2.1 H6.out.2 (fun x hx=>by simp at hx;omega)
  exact bodyPost_ret (v:=.tuple #[.agg #[.int .i64 0,.int .i64 0,.int .i64 0,.int .i64 0,.int .i64 0,.slice none 0 0],.int .i64 4]) (by simp [results,Tryz.results19,go_sem,y0,y1,y2,y3,y4,y5]) rfl (by rw [HN.out];exact ⟨.slice none 0 0,rfl,⟨aD _ _,by simp [bj]⟩,hgr⟩)
 have d0:=H4.out.2.2.2.2.cell 0
 have d1:=H4.out.2.2.2.2.cell 1
 have d2:=H4.out.2.2.2.2.cell 2
 have d3:=H4.out.2.2.2.2.cell 3
 have d4:=H4.out.2.2.2.2.cell 4
 have d5:=H4.out.2.2.2.2.cell 5
 simp at d0 d1 d2 d3 d4 d5
 go_wp2_with (go_at_call 49;refine (mW b M _ H4.out.2.2.1).mono ?_;rintro e wx ⟨rfl,hx⟩;rw [hx,if_pos hM];clear hx)
 refine (d7 (.slice x n y) c w3 H4.out.2.2.2.1.ops H2.out.2.2.2.2.2.1).mono ?_
 rintro e w4 ⟨rfl,g4⟩
 have H5:Hid (Blk w4 w.heap.size 27 #[.int .i64 0,.int .i64 0,.int .i64 0,.int .i64 0,.int .i64 0,.slice none 0 0]/\w.grownBy w4 none/\am w4 w.heap.size (.slice x n y) c.ops/\Blk w4 w2.heap.size 27 #[.int .i64 c.kind,.int .i64 c.token,.int .i64 c.session,.int .i64 c.number,.int .i64 c.mark,.slice x n y]):=⟨H4.out.1.grown g4 (by simp),aa H4.out.2.1 g4,H4.out.2.2.2.1.grown g4,H4.out.2.2.2.2.grown g4 (by simp)⟩
 clear g4 d0 d1 d2 d3 d4 d5
 by_cases hk:okC c=true
 rotate_left
 ·have HN:Hid (cg L=(bj,4)):=by rw [Hid,H2.out.2.2.2.2.1,finC,if_neg (fun h=>hk h.2)]
  rw [show chkC c=2 by rw [chkC,if_neg hk]]
  clear hk H4 H2
  have r0:=H5.out.1.cell 0
  have r1:=H5.out.1.cell 1
  have r2:=H5.out.1.cell 2
  have r3:=H5.out.1.cell 3
  have r4:=H5.out.1.cell 4
  have r5:=H5.out.1.cell 5
  have z0:=H5.out.1.free 0
  have z1:=H5.out.1.free 1
  have z2:=H5.out.1.free 2
  have z3:=H5.out.1.free 3
  have z4:=H5.out.1.free 4
  have z5:=H5.out.1.free 5
  simp at r0 r1 r2 r3 r4 r5
  go_wp2_with fail
  obtain ⟨W6,hW6,H6⟩:=set6 H5.out.1 (.int .i64 0) (.int .i64 0) (.int .i64 0) (.int .i64 0) (.int .i64 0) (.slice none 0 0)
  rw [hW6]
  clear hW6
  have y0:=H6.out.1.cell 0
  have y1:=H6.out.1.cell 1
  have y2:=H6.out.1.cell 2
  have y3:=H6.out.1.cell 3
  have y4:=H6.out.1.cell 4
  have y5:=H6.out.1.cell 5
  simp at y0 y1 y2 y3 y4 y5
  have hgr:w.grownBy W6 none:=ag H5.out.2.1 H6.out.2 (fun x hx=>by simp at hx;omega)
  exact bodyPost_ret (v:=.tuple #[.agg #[.int .i64 0,.int .i64 0,.int .i64 0,.int .i64 0,.int .i64 0,.slice none 0 0],.int .i64 4]) (by simp [results,Tryz.results19,go_sem,y0,y1,y2,y3,y4,y5]) rfl (by rw [HN.out];exact ⟨.slice none 0 0,rfl,⟨aD _ _,by simp [bj]⟩,hgr⟩)
 have HN:Hid (cg L=(c,0)):=by rw [Hid,H2.out.2.2.2.2.1,finC,if_pos ⟨hM,hk⟩]
 rw [show chkC c=0 by rw [chkC,if_pos hk]]
 clear hk H4 H2
 have d0:=H5.out.2.2.2.cell 0
 have d1:=H5.out.2.2.2.cell 1
 have d2:=H5.out.2.2.2.cell 2
 have d3:=H5.out.2.2.2.cell 3
 have d4:=H5.out.2.2.2.cell 4
 have d5:=H5.out.2.2.2.cell 5
 simp at d0 d1 d2 d3 d4 d5
 have r0:=H5.out.1.cell 0
 have r1:=H5.out.1.cell 1
 have r2:=H5.out.1.cell 2
 have r3:=H5.out.1.cell 3
 have r4:=H5.out.1.cell 4
 have r5:=H5.out.1.cell 5
 have z0:=H5.out.1.free 0
 have z1:=H5.out.1.free 1
 have z2:=H5.out.1.free 2
 have z3:=H5.out.1.free 3
 have z4:=H5.out.1.free 4
 have z5:=H5.out.1.free 5
 simp at r0 r1 r2 r3 r4 r5
 go_wp2_with fail
 obtain ⟨W6,hW6,H6⟩:=set6 H5.out.1 (.int .i64 c.kind) (.int .i64 c.token) (.int .i64 c.session) (.int .i64 c.number) (.int .i64 c.mark) (.slice x n y)
 rw [hW6]
 clear hW6
 have y0:=H6.out.1.cell 0
 have y1:=H6.out.1.cell 1
 have y2:=H6.out.1.cell 2
 have y3:=H6.out.1.cell 3
 have y4:=H6.out.1.cell 4
 have y5:=H6.out.1.cell 5
 simp at y0 y1 y2 y3 y4 y5
 have hgr:w.grownBy W6 none:=ag H5.out.2.1 H6.out.2 (fun x hx=>by simp at hx;omega)
 exact bodyPost_ret (v:=.tuple #[.agg #[.int .i64 c.kind,.int .i64 c.token,.int .i64 c.session,.int .i64 c.number,.int .i64 c.mark,.slice x n y],.int .i64 0]) (by simp [results,Tryz.results19,go_sem,y0,y1,y2,y3,y4,y5]) rfl (by rw [HN.out];exact ⟨.slice x n y,rfl,H5.out.2.2.1.set H5.out.1 (by decide) (by decide) H6.out.2,hgr⟩)
end Go.Proofs.YtgjcpjckaopeeaaGreatDoor
