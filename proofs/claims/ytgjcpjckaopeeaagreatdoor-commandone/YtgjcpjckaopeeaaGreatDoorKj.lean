import Derived.Test.YtgjcpjckaopeeaaGreatDoorKceAll
import Derived.Test.YtgjcpjckaopeeaaGreatDoorCnAll
set_option maxHeartbeats 4000000
set_option maxRecDepth 100000
namespace Go.Proofs.YtgjcpjckaopeeaaGreatDoor
open Go.RowKit Disk
open _root_.Go.Proofs.YtgjcpjckaopeeaaGreatDoor.Calls
theorem scan_sgn (L:Bs):(Wire.scan 0 0 L=none/\Wire.rdNum L=(0,4,L)/\pSgn L=none/\∀m,pNum m L=none)\/∃n k,Wire.scan 0 0 L=some (n,k)/\n<18446744073709551616/\Wire.rdNum L=(n,0,L.drop k)/\pSgn L=some (Wire.unfoldZ n,L.drop k)/\∀m,pNum m L=if n<=m then some (n,L.drop k) else none:=by
 cases h:Wire.scan 0 0 L with
 | none=>exact .inl ⟨rfl,Wire.rdNum_none h,by unfold pSgn pNum;rw [h];rfl,fun m=>by unfold pNum;rw [h]⟩
 | some x =>
  obtain ⟨n,k⟩:=x
  have hl:=Wire.rdNum_lt L
  rw [Wire.rdNum_some h] at hl
  refine .inr ⟨n,k,rfl,by simpa using hl,Wire.rdNum_some h,?_,fun m=>by unfold pNum;rw [h]⟩
  unfold pSgn pNum
  rw [h]
  simp only at hl ⊢
  rw [if_pos (by omega)]
  rfl
theorem num76 (b:Nat)(L:Bs)(w:World)(hr:RR w b L):Calls Tryz.prog 76 #[.pointer (some ⟨b,0,none⟩)] w fun e w'=>e=.returned (.tuple #[.int .u64 (Wire.rdNum L).1,.int .i64 (Wire.rdNum L).2.1])/\RR w' b (Wire.rdNum L).2.2/\w.grownBy w' (some b):=by
 obtain ⟨g,h1,h2⟩:=rr_of hr
 refine (Wire.number25_g b g L w h1).mono ?_
 rintro e w' ⟨rfl,h3,h4⟩
 refine ⟨rfl,h2 _ _ h3 h4 (fun e=>?_),h4⟩
 subst e
 rcases scan_sgn [] with ⟨_,e,_⟩ | ⟨n,k,_,_,e,_⟩ <;> rw [e] <;> simp
theorem sgn78 (b:Nat)(L:Bs)(w:World)(hr:RR w b L):Calls Tryz.prog 78 #[.pointer (some ⟨b,0,none⟩)] w fun e w'=>e=.returned (.tuple #[.int .i64 (Wire.unfoldZ (Wire.rdNum L).1),.int .i64 (Wire.rdNum L).2.1])/\RR w' b (Wire.rdNum L).2.2/\w.grownBy w' (some b) :=
 Wire.signed26_of b _ _ _ w (by have:=Wire.rdNum_lt L;omega) (num76 b L w hr)
def SgnPost (b:Nat)(L:Bs)(w:World)(e:Ending)(w':World):Prop:=(∃v M,pSgn L=some (v,M)/\e=.returned (.tuple #[.int .i64 v,.int .i64 0])/\RR w' b M/\w.grownBy w' (some b))\/(pSgn L=none/\e=.returned (.tuple #[.int .i64 0,.int .i64 4])/\w.grownBy w' (some b))
theorem sgnR (b:Nat)(L:Bs)(w:World)(hr:RR w b L):Calls Tryz.prog 78 #[.pointer (some ⟨b,0,none⟩)] w (SgnPost b L w):=by
 refine (sgn78 b L w hr).mono ?_
 rintro e w' ⟨rfl,h1,h2⟩
 rcases scan_sgn L with ⟨_,e,e2,_⟩ | ⟨n,k,_,_,e,e2,_⟩
 ·rw [e]
  exact .inr ⟨e2,by simp [Wire.unfoldZ],h2⟩
 ·rw [e] at h1 ⊢
  exact .inl ⟨_,_,e2,rfl,h1,h2⟩
def fillP (k:Int)(L:Bs):Option (PCmd × Bs) :=
 if k=1 then (pSgn L).bind fun t=>some (⟨1,t.1,0,0,0,[]⟩,t.2)
 else if k=2 then (pSgn L).bind fun s=>(pSgn s.2).bind fun n=>(pSgn n.2).bind fun m=>some (⟨2,0,s.1,n.1,m.1,[]⟩,m.2)
 else if k=3\/k=4 then (pSgn L).bind fun s=>some (⟨k,0,s.1,0,0,[]⟩,s.2)
 else some (⟨k,0,0,0,0,[]⟩,L)
def nil0:Value:=.slice none 0 0
def FillPost (b cb:Nat)(r:Option (PCmd × Bs))(w:World)(e:Ending)(w':World):Prop:=(∃c M,r=some (c,M)/\e=.returned (.int .i64 0)/\RR w' b M/\CB w' cb nil0 c/\Fr w w' (fun i=>i=b\/i=cb))\/(r=none/\e=.returned (.int .i64 4)/\(∃c,CB w' cb nil0 c)/\Fr w w' (fun i=>i=b\/i=cb))
theorem fr_one {w w':World}{b cb:Nat}(h:w.grownBy w' (some b)):Fr w w' (fun i=>i=b\/i=cb):=Fr.of h (fun k hk=>by simp at hk;exact .inl hk.symm)
theorem fr_onec {w w':World}{b cb:Nat}(h:w.grownBy w' (some cb)):Fr w w' (fun i=>i=b\/i=cb):=Fr.of h (fun k hk=>by simp at hk;exact .inr hk.symm)
theorem fr_none {w w':World}{F:Nat->Prop}(h:w.grownBy w' none):Fr w w' F:=Fr.of h (fun k hk=>by cases hk)
theorem fr_tr {a b c:World}{F:Nat->Prop}(h:Fr a b F)(k:Fr b c F):Fr a c F:=h.trans k (fun _ hi=>.inl hi)
theorem fill77_1 (b cb:Nat)(L:Bs)(w:World)(hr:RR w b L)(hc:CB w cb nil0 (⟨1,0,0,0,0,[]⟩:PCmd)):Calls Tryz.prog 77 #[.pointer (some ⟨cb,0,none⟩),.func (.func 78) #[.pointer (some ⟨b,0,none⟩)] #[]] w (FillPost b cb (fillP 1 L) w):=by
 have HR:Hid (RR w b L/\Blk w cb 27 #[.int .i64 1,.int .i64 0,.int .i64 0,.int .i64 0,.int .i64 0,.slice none 0 0]):=⟨hr,hc⟩
 clear hr hc
 have i0:=ix0
 have i1:=ix1
 have i2:=ix2
 go_enter Tryz.func77,Tryz.ntmps77
 go_wp2_with fail
 refine (numbers30_1 cb nil0 (⟨1,0,0,0,0,[]⟩:PCmd) w HR.out.2 rfl).mono ?_
 rintro e w1 ⟨rfl,g1⟩
 have H:Hid (RR w1 b L/\Blk w1 cb 27 #[.int .i64 1,.int .i64 0,.int .i64 0,.int .i64 0,.int .i64 0,.slice none 0 0]/\Fr w w1 (fun i=>i=b\/i=cb)):=⟨HR.out.1.grown g1,HR.out.2.grown g1 (by simp),fr_none g1⟩
 clear g1 HR
 try unfold pt
 go_wp2_with fail
 refine wp_loop_rounds 4 ?_
 rw [rounds_succ]
 go_wp2_with fail
 refine (sgnR b L w1 H.out.1).mono ?_
 rintro e p0 h
 rcases h with ⟨v0,M0,hs0,rfl,hR,hg⟩ | ⟨hs0,rfl,hg⟩
 rotate_left
 ·have hN:fillP 1 L=none:=by unfold fillP;rw [if_pos rfl];simp [hs0]
  have F:Hid (fillP 1 L=none/\CB p0 cb nil0 (⟨1,0,0,0,0,[]⟩:PCmd)/\Fr w p0 (fun i=>i=b\/i=cb)):=⟨hN,H.out.2.1.grown hg (fun e=>by simp at e;exact H.out.1.ne H.out.2.1 (by decide) e.symm),fr_tr H.out.2.2 (fr_one hg)⟩
  clear hN hg hs0
  go_wp2_with fail
  go_ret
  exact .inr ⟨F.out.1,rfl,⟨_,F.out.2.1⟩,F.out.2.2⟩
 have H2:Hid (RR p0 b M0/\Blk p0 cb 27 #[.int .i64 1,.int .i64 0,.int .i64 0,.int .i64 0,.int .i64 0,.slice none 0 0]/\Fr w p0 (fun i=>i=b\/i=cb)):=⟨hR,H.out.2.1.grown hg (fun e=>by simp at e;exact H.out.1.ne H.out.2.1 (by decide) e.symm),fr_tr H.out.2.2 (fr_one hg)⟩
 have S0:Hid (pSgn L=some (v0,M0)):=hs0
 clear hR hg hs0 H
 have a0:=H2.out.2.1.cell 1
 have z0:=H2.out.2.1.free 1
 simp at a0
 go_wp2_with fail
 have H3:Hid (RR (p0.setCell ⟨cb,1,none⟩ (.int .i64 v0)) b M0/\Blk (p0.setCell ⟨cb,1,none⟩ (.int .i64 v0)) cb 27 #[.int .i64 1,.int .i64 v0,.int .i64 0,.int .i64 0,.int .i64 0,.slice none 0 0]/\Fr w (p0.setCell ⟨cb,1,none⟩ (.int .i64 v0)) (fun i=>i=b\/i=cb)):=⟨H2.out.1.set H2.out.2.1 (grown_setCell _ _ _ _) (by decide) (by decide),H2.out.2.1.store 1 _,fr_tr H2.out.2.2 (fr_onec (grown_setCell _ _ _ _))⟩
 generalize (p0.setCell ⟨cb,1,none⟩ (.int .i64 v0))=x0 at H3 ⊢
 clear H2 a0 z0
 have H:=H3
 clear H3
 rw [rounds_succ]
 go_wp2_with fail
 go_ret
 refine .inl ⟨(⟨1,v0,0,0,0,[]⟩:PCmd),M0,?_,rfl,H.out.1,H.out.2.1,H.out.2.2⟩
 unfold fillP
 rw [if_pos rfl]
 try simp [S0.out]
theorem fill77_2 (b cb:Nat)(L:Bs)(w:World)(hr:RR w b L)(hc:CB w cb nil0 (⟨2,0,0,0,0,[]⟩:PCmd)):Calls Tryz.prog 77 #[.pointer (some ⟨cb,0,none⟩),.func (.func 78) #[.pointer (some ⟨b,0,none⟩)] #[]] w (FillPost b cb (fillP 2 L) w):=by
 have HR:Hid (RR w b L/\Blk w cb 27 #[.int .i64 2,.int .i64 0,.int .i64 0,.int .i64 0,.int .i64 0,.slice none 0 0]):=⟨hr,hc⟩
 clear hr hc
 have i0:=ix0
 have i1:=ix1
 have i2:=ix2
 go_enter Tryz.func77,Tryz.ntmps77
 go_wp2_with fail
 refine (numbers30_2 cb nil0 (⟨2,0,0,0,0,[]⟩:PCmd) w HR.out.2 rfl).mono ?_
 rintro e w1 ⟨rfl,g1⟩
 have H:Hid (RR w1 b L/\Blk w1 cb 27 #[.int .i64 2,.int .i64 0,.int .i64 0,.int .i64 0,.int .i64 0,.slice none 0 0]/\Fr w w1 (fun i=>i=b\/i=cb)):=⟨HR.out.1.grown g1,HR.out.2.grown g1 (by simp),fr_none g1⟩
 clear g1 HR
 try unfold pt
 go_wp2_with fail
 refine wp_loop_rounds 4 ?_
 rw [rounds_succ]
 go_wp2_with fail
 refine (sgnR b L w1 H.out.1).mono ?_
 rintro e p0 h
 rcases h with ⟨v0,M0,hs0,rfl,hR,hg⟩ | ⟨hs0,rfl,hg⟩
 rotate_left
 ·have hN:fillP 2 L=none:=by unfold fillP;rw [if_neg (by decide),if_pos rfl];simp [hs0]
  have F:Hid (fillP 2 L=none/\CB p0 cb nil0 (⟨2,0,0,0,0,[]⟩:PCmd)/\Fr w p0 (fun i=>i=b\/i=cb)):=⟨hN,H.out.2.1.grown hg (fun e=>by simp at e;exact H.out.1.ne H.out.2.1 (by decide) e.symm),fr_tr H.out.2.2 (fr_one hg)⟩
  clear hN hg hs0
  go_wp2_with fail
  go_ret
  exact .inr ⟨F.out.1,rfl,⟨_,F.out.2.1⟩,F.out.2.2⟩
 have H2:Hid (RR p0 b M0/\Blk p0 cb 27 #[.int .i64 2,.int .i64 0,.int .i64 0,.int .i64 0,.int .i64 0,.slice none 0 0]/\Fr w p0 (fun i=>i=b\/i=cb)):=⟨hR,H.out.2.1.grown hg (fun e=>by simp at e;exact H.out.1.ne H.out.2.1 (by decide) e.symm),fr_tr H.out.2.2 (fr_one hg)⟩
 have S0:Hid (pSgn L=some (v0,M0)):=hs0
 clear hR hg hs0 H
 have a0:=H2.out.2.1.cell 2
 have z0:=H2.out.2.1.free 2
 simp at a0
 go_wp2_with fail
 have H3:Hid (RR (p0.setCell ⟨cb,2,none⟩ (.int .i64 v0)) b M0/\Blk (p0.setCell ⟨cb,2,none⟩ (.int .i64 v0)) cb 27 #[.int .i64 2,.int .i64 0,.int .i64 v0,.int .i64 0,.int .i64 0,.slice none 0 0]/\Fr w (p0.setCell ⟨cb,2,none⟩ (.int .i64 v0)) (fun i=>i=b\/i=cb)):=⟨H2.out.1.set H2.out.2.1 (grown_setCell _ _ _ _) (by decide) (by decide),H2.out.2.1.store 2 _,fr_tr H2.out.2.2 (fr_onec (grown_setCell _ _ _ _))⟩
 generalize (p0.setCell ⟨cb,2,none⟩ (.int .i64 v0))=x0 at H3 ⊢
 clear H2 a0 z0
 have H:=H3
 clear H3
 rw [rounds_succ]
 go_wp2_with fail
 refine (sgnR b M0 x0 H.out.1).mono ?_
 rintro e p1 h
 rcases h with ⟨v1,M1,hs1,rfl,hR,hg⟩ | ⟨hs1,rfl,hg⟩
 rotate_left
 ·have hN:fillP 2 L=none:=by unfold fillP;rw [if_neg (by decide),if_pos rfl];simp [S0.out,hs1]
  have F:Hid (fillP 2 L=none/\CB p1 cb nil0 (⟨2,0,v0,0,0,[]⟩:PCmd)/\Fr w p1 (fun i=>i=b\/i=cb)):=⟨hN,H.out.2.1.grown hg (fun e=>by simp at e;exact H.out.1.ne H.out.2.1 (by decide) e.symm),fr_tr H.out.2.2 (fr_one hg)⟩
  clear hN hg hs1
  go_wp2_with fail
  go_ret
  exact .inr ⟨F.out.1,rfl,⟨_,F.out.2.1⟩,F.out.2.2⟩
 have H2:Hid (RR p1 b M1/\Blk p1 cb 27 #[.int .i64 2,.int .i64 0,.int .i64 v0,.int .i64 0,.int .i64 0,.slice none 0 0]/\Fr w p1 (fun i=>i=b\/i=cb)):=⟨hR,H.out.2.1.grown hg (fun e=>by simp at e;exact H.out.1.ne H.out.2.1 (by decide) e.symm),fr_tr H.out.2.2 (fr_one hg)⟩
 have S1:Hid (pSgn M0=some (v1,M1)):=hs1
 clear hR hg hs1 H
 have a1:=H2.out.2.1.cell 3
 have z1:=H2.out.2.1.free 3
 simp at a1
 go_wp2_with fail
 have H3:Hid (RR (p1.setCell ⟨cb,3,none⟩ (.int .i64 v1)) b M1/\Blk (p1.setCell ⟨cb,3,none⟩ (.int .i64 v1)) cb 27 #[.int .i64 2,.int .i64 0,.int .i64 v0,.int .i64 v1,.int .i64 0,.slice none 0 0]/\Fr w (p1.setCell ⟨cb,3,none⟩ (.int .i64 v1)) (fun i=>i=b\/i=cb)):=⟨H2.out.1.set H2.out.2.1 (grown_setCell _ _ _ _) (by decide) (by decide),H2.out.2.1.store 3 _,fr_tr H2.out.2.2 (fr_onec (grown_setCell _ _ _ _))⟩
 generalize (p1.setCell ⟨cb,3,none⟩ (.int .i64 v1))=x1 at H3 ⊢
 clear H2 a1 z1
 have H:=H3
 clear H3
 rw [rounds_succ]
 go_wp2_with fail
 refine (sgnR b M1 x1 H.out.1).mono ?_
 rintro e p2 h
 rcases h with ⟨v2,M2,hs2,rfl,hR,hg⟩ | ⟨hs2,rfl,hg⟩
 rotate_left
 ·have hN:fillP 2 L=none:=by unfold fillP;rw [if_neg (by decide),if_pos rfl];simp [S0.out,S1.out,hs2]
  have F:Hid (fillP 2 L=none/\CB p2 cb nil0 (⟨2,0,v0,v1,0,[]⟩:PCmd)/\Fr w p2 (fun i=>i=b\/i=cb)):=⟨hN,H.out.2.1.grown hg (fun e=>by simp at e;exact H.out.1.ne H.out.2.1 (by decide) e.symm),fr_tr H.out.2.2 (fr_one hg)⟩
  clear hN hg hs2
  go_wp2_with fail
  go_ret
  exact .inr ⟨F.out.1,rfl,⟨_,F.out.2.1⟩,F.out.2.2⟩
 have H2:Hid (RR p2 b M2/\Blk p2 cb 27 #[.int .i64 2,.int .i64 0,.int .i64 v0,.int .i64 v1,.int .i64 0,.slice none 0 0]/\Fr w p2 (fun i=>i=b\/i=cb)):=⟨hR,H.out.2.1.grown hg (fun e=>by simp at e;exact H.out.1.ne H.out.2.1 (by decide) e.symm),fr_tr H.out.2.2 (fr_one hg)⟩
 have S2:Hid (pSgn M1=some (v2,M2)):=hs2
 clear hR hg hs2 H
 have a2:=H2.out.2.1.cell 4
 have z2:=H2.out.2.1.free 4
 simp at a2
 go_wp2_with fail
 have H3:Hid (RR (p2.setCell ⟨cb,4,none⟩ (.int .i64 v2)) b M2/\Blk (p2.setCell ⟨cb,4,none⟩ (.int .i64 v2)) cb 27 #[.int .i64 2,.int .i64 0,.int .i64 v0,.int .i64 v1,.int .i64 v2,.slice none 0 0]/\Fr w (p2.setCell ⟨cb,4,none⟩ (.int .i64 v2)) (fun i=>i=b\/i=cb)):=⟨H2.out.1.set H2.out.2.1 (grown_setCell _ _ _ _) (by decide) (by decide),H2.out.2.1.store 4 _,fr_tr H2.out.2.2 (fr_onec (grown_setCell _ _ _ _))⟩
 generalize (p2.setCell ⟨cb,4,none⟩ (.int .i64 v2))=x2 at H3 ⊢
 clear H2 a2 z2
 have H:=H3
 clear H3
 rw [rounds_succ]
 go_wp2_with fail
 go_ret
 refine .inl ⟨(⟨2,0,v0,v1,v2,[]⟩:PCmd),M2,?_,rfl,H.out.1,H.out.2.1,H.out.2.2⟩
 unfold fillP
 rw [if_neg (by decide),if_pos rfl]
 try simp [S0.out,S1.out,S2.out]
theorem fill77_3 (b cb:Nat)(L:Bs)(w:World)(hr:RR w b L)(hc:CB w cb nil0 (⟨3,0,0,0,0,[]⟩:PCmd)):Calls Tryz.prog 77 #[.pointer (some ⟨cb,0,none⟩),.func (.func 78) #[.pointer (some ⟨b,0,none⟩)] #[]] w (FillPost b cb (fillP 3 L) w):=by
 have HR:Hid (RR w b L/\Blk w cb 27 #[.int .i64 3,.int .i64 0,.int .i64 0,.int .i64 0,.int .i64 0,.slice none 0 0]):=⟨hr,hc⟩
 clear hr hc
 have i0:=ix0
 have i1:=ix1
 have i2:=ix2
 go_enter Tryz.func77,Tryz.ntmps77
 go_wp2_with fail
 refine (numbers30_3 cb nil0 (⟨3,0,0,0,0,[]⟩:PCmd) w HR.out.2 rfl).mono ?_
 rintro e w1 ⟨rfl,g1⟩
 have H:Hid (RR w1 b L/\Blk w1 cb 27 #[.int .i64 3,.int .i64 0,.int .i64 0,.int .i64 0,.int .i64 0,.slice none 0 0]/\Fr w w1 (fun i=>i=b\/i=cb)):=⟨HR.out.1.grown g1,HR.out.2.grown g1 (by simp),fr_none g1⟩
 clear g1 HR
 try unfold pt
 go_wp2_with fail
 refine wp_loop_rounds 4 ?_
 rw [rounds_succ]
 go_wp2_with fail
 refine (sgnR b L w1 H.out.1).mono ?_
 rintro e p0 h
 rcases h with ⟨v0,M0,hs0,rfl,hR,hg⟩ | ⟨hs0,rfl,hg⟩
 rotate_left
 ·have hN:fillP 3 L=none:=by unfold fillP;rw [if_neg (by decide),if_neg (by decide),if_pos (by decide)];simp [hs0]
  have F:Hid (fillP 3 L=none/\CB p0 cb nil0 (⟨3,0,0,0,0,[]⟩:PCmd)/\Fr w p0 (fun i=>i=b\/i=cb)):=⟨hN,H.out.2.1.grown hg (fun e=>by simp at e;exact H.out.1.ne H.out.2.1 (by decide) e.symm),fr_tr H.out.2.2 (fr_one hg)⟩
  clear hN hg hs0
  go_wp2_with fail
  go_ret
  exact .inr ⟨F.out.1,rfl,⟨_,F.out.2.1⟩,F.out.2.2⟩
 have H2:Hid (RR p0 b M0/\Blk p0 cb 27 #[.int .i64 3,.int .i64 0,.int .i64 0,.int .i64 0,.int .i64 0,.slice none 0 0]/\Fr w p0 (fun i=>i=b\/i=cb)):=⟨hR,H.out.2.1.grown hg (fun e=>by simp at e;exact H.out.1.ne H.out.2.1 (by decide) e.symm),fr_tr H.out.2.2 (fr_one hg)⟩
 have S0:Hid (pSgn L=some (v0,M0)):=hs0
 clear hR hg hs0 H
 have a0:=H2.out.2.1.cell 2
 have z0:=H2.out.2.1.free 2
 simp at a0
 go_wp2_with fail
 have H3:Hid (RR (p0.setCell ⟨cb,2,none⟩ (.int .i64 v0)) b M0/\Blk (p0.setCell ⟨cb,2,none⟩ (.int .i64 v0)) cb 27 #[.int .i64 3,.int .i64 0,.int .i64 v0,.int .i64 0,.int .i64 0,.slice none 0 0]/\Fr w (p0.setCell ⟨cb,2,none⟩ (.int .i64 v0)) (fun i=>i=b\/i=cb)):=⟨H2.out.1.set H2.out.2.1 (grown_setCell _ _ _ _) (by decide) (by decide),H2.out.2.1.store 2 _,fr_tr H2.out.2.2 (fr_onec (grown_setCell _ _ _ _))⟩
 generalize (p0.setCell ⟨cb,2,none⟩ (.int .i64 v0))=x0 at H3 ⊢
 clear H2 a0 z0
 have H:=H3
 clear H3
 rw [rounds_succ]
 go_wp2_with fail
 go_ret
 refine .inl ⟨(⟨3,0,v0,0,0,[]⟩:PCmd),M0,?_,rfl,H.out.1,H.out.2.1,H.out.2.2⟩
 unfold fillP
 rw [if_neg (by decide),if_neg (by decide),if_pos (by decide)]
 try simp [S0.out]
theorem fill77_4 (b cb:Nat)(L:Bs)(w:World)(hr:RR w b L)(hc:CB w cb nil0 (⟨4,0,0,0,0,[]⟩:PCmd)):Calls Tryz.prog 77 #[.pointer (some ⟨cb,0,none⟩),.func (.func 78) #[.pointer (some ⟨b,0,none⟩)] #[]] w (FillPost b cb (fillP 4 L) w):=by
 have HR:Hid (RR w b L/\Blk w cb 27 #[.int .i64 4,.int .i64 0,.int .i64 0,.int .i64 0,.int .i64 0,.slice none 0 0]):=⟨hr,hc⟩
 clear hr hc
 have i0:=ix0
 have i1:=ix1
 have i2:=ix2
 go_enter Tryz.func77,Tryz.ntmps77
 go_wp2_with fail
 refine (numbers30_4 cb nil0 (⟨4,0,0,0,0,[]⟩:PCmd) w HR.out.2 rfl).mono ?_
 rintro e w1 ⟨rfl,g1⟩
 have H:Hid (RR w1 b L/\Blk w1 cb 27 #[.int .i64 4,.int .i64 0,.int .i64 0,.int .i64 0,.int .i64 0,.slice none 0 0]/\Fr w w1 (fun i=>i=b\/i=cb)):=⟨HR.out.1.grown g1,HR.out.2.grown g1 (by simp),fr_none g1⟩
 clear g1 HR
 try unfold pt
 go_wp2_with fail
 refine wp_loop_rounds 4 ?_
 rw [rounds_succ]
 go_wp2_with fail
 refine (sgnR b L w1 H.out.1).mono ?_
 rintro e p0 h
 rcases h with ⟨v0,M0,hs0,rfl,hR,hg⟩ | ⟨hs0,rfl,hg⟩
 rotate_left
 ·have hN:fillP 4 L=none:=by unfold fillP;rw [if_neg (by decide),if_neg (by decide),if_pos (by decide)];simp [hs0]
  have F:Hid (fillP 4 L=none/\CB p0 cb nil0 (⟨4,0,0,0,0,[]⟩:PCmd)/\Fr w p0 (fun i=>i=b\/i=cb)):=⟨hN,H.out.2.1.grown hg (fun e=>by simp at e;exact H.out.1.ne H.out.2.1 (by decide) e.symm),fr_tr H.out.2.2 (fr_one hg)⟩
  clear hN hg hs0
  go_wp2_with fail
  go_ret
  exact .inr ⟨F.out.1,rfl,⟨_,F.out.2.1⟩,F.out.2.2⟩
 have H2:Hid (RR p0 b M0/\Blk p0 cb 27 #[.int .i64 4,.int .i64 0,.int .i64 0,.int .i64 0,.int .i64 0,.slice none 0 0]/\Fr w p0 (fun i=>i=b\/i=cb)):=⟨hR,H.out.2.1.grown hg (fun e=>by simp at e;exact H.out.1.ne H.out.2.1 (by decide) e.symm),fr_tr H.out.2.2 (fr_one hg)⟩
 have S0:Hid (pSgn L=some (v0,M0)):=hs0
 clear hR hg hs0 H
 have a0:=H2.out.2.1.cell 2
 have z0:=H2.out.2.1.free 2
 simp at a0
 go_wp2_with fail
 have H3:Hid (RR (p0.setCell ⟨cb,2,none⟩ (.int .i64 v0)) b M0/\Blk (p0.setCell ⟨cb,2,none⟩ (.int .i64 v0)) cb 27 #[.int .i64 4,.int .i64 0,.int .i64 v0,.int .i64 0,.int .i64 0,.slice none 0 0]/\Fr w (p0.setCell ⟨cb,2,none⟩ (.int .i64 v0)) (fun i=>i=b\/i=cb)):=⟨H2.out.1.set H2.out.2.1 (grown_setCell _ _ _ _) (by decide) (by decide),H2.out.2.1.store 2 _,fr_tr H2.out.2.2 (fr_onec (grown_setCell _ _ _ _))⟩
 generalize (p0.setCell ⟨cb,2,none⟩ (.int .i64 v0))=x0 at H3 ⊢
 clear H2 a0 z0
 have H:=H3
 clear H3
 rw [rounds_succ]
 go_wp2_with fail
 go_ret
 refine .inl ⟨(⟨4,0,v0,0,0,[]⟩:PCmd),M0,?_,rfl,H.out.1,H.out.2.1,H.out.2.2⟩
 unfold fillP
 rw [if_neg (by decide),if_neg (by decide),if_pos (by decide)]
 try simp [S0.out]
theorem fill77_0 (b cb:Nat)(k:Int)(L:Bs)(w:World)(hr:RR w b L)(hc:CB w cb nil0 (⟨k,0,0,0,0,[]⟩:PCmd))(h1:(k==1)=false)(h2:(k==2)=false)(h3:(k==3)=false)(h4:(k==4)=false):Calls Tryz.prog 77 #[.pointer (some ⟨cb,0,none⟩),.func (.func 78) #[.pointer (some ⟨b,0,none⟩)] #[]] w (FillPost b cb (fillP k L) w):=by
 have HR:Hid (RR w b L/\Blk w cb 27 #[.int .i64 k,.int .i64 0,.int .i64 0,.int .i64 0,.int .i64 0,.slice none 0 0]):=⟨hr,hc⟩
 clear hr hc
 have i0:=ix0
 have i1:=ix1
 have i2:=ix2
 go_enter Tryz.func77,Tryz.ntmps77
 go_wp2_with fail
 refine (numbers30_0 cb nil0 (⟨k,0,0,0,0,[]⟩:PCmd) w HR.out.2 h1 h2 h3 h4).mono ?_
 rintro e w1 ⟨rfl,g1⟩
 have H:Hid (RR w1 b L/\Blk w1 cb 27 #[.int .i64 k,.int .i64 0,.int .i64 0,.int .i64 0,.int .i64 0,.slice none 0 0]/\Fr w w1 (fun i=>i=b\/i=cb)):=⟨HR.out.1.grown g1,HR.out.2.grown g1 (by simp),fr_none g1⟩
 clear g1 HR
 try unfold pt
 go_wp2_with fail
 refine wp_loop_rounds 4 ?_
 rw [rounds_succ]
 go_wp2_with fail
 go_ret
 refine .inl ⟨(⟨k,0,0,0,0,[]⟩:PCmd),L,?_,rfl,H.out.1,H.out.2.1,H.out.2.2⟩
 unfold fillP
 rw [if_neg (by simpa using h1),if_neg (by simpa using h2),if_neg (by have:=(by simpa using h3:¬k=3);have:=(by simpa using h4:¬k=4);omega)]
 try simp []
theorem fill77 (b cb:Nat)(k:Int)(L:Bs)(w:World)(hr:RR w b L)(hc:CB w cb nil0 ⟨k,0,0,0,0,[]⟩):Calls Tryz.prog 77 #[.pointer (some ⟨cb,0,none⟩),.func (.func 78) #[.pointer (some ⟨b,0,none⟩)] #[]] w (FillPost b cb (fillP k L) w):=by
 by_cases h1:k=1
 ·subst h1;exact fill77_1 b cb L w hr hc
 ·by_cases h2:k=2
  ·subst h2;exact fill77_2 b cb L w hr hc
  ·by_cases h3:k=3
   ·subst h3;exact fill77_3 b cb L w hr hc
   ·by_cases h4:k=4
    ·subst h4;exact fill77_4 b cb L w hr hc
    ·exact fill77_0 b cb k L w hr hc (by simp [h1]) (by simp [h2]) (by simp [h3]) (by simp [h4])
end Go.Proofs.YtgjcpjckaopeeaaGreatDoor
