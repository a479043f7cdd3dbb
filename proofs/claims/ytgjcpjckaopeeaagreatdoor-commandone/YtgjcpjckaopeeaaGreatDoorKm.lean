import Derived.Test.YtgjcpjckaopeeaaGreatDoorKhiAll
set_option maxHeartbeats 4000000
set_option maxRecDepth 100000
namespace Go.Proofs.YtgjcpjckaopeeaaGreatDoor
open Go.RowKit Disk
open _root_.Go.Proofs.YtgjcpjckaopeeaaGreatDoor.Calls
open Names (Str)
def WM (w:World)(b:Nat)(L:List Bs):Prop:=∃ao cap,Blk w b 96 #[.slice ao L.length cap]/\L.length<=cap/\cap<=1099511627776/\(∀x ∈ L,x.length<=20000)/\∀j (hj:j<L.length),∃g off cur,ao=some ⟨g,off,none⟩/\w.cell? ⟨g,off+j,none⟩=some (.string ⟨L[j].toArray⟩)/\Blk w g 9 cur
theorem WM.blk {w:World}{b:Nat}{L:List Bs}(h:WM w b L):∃v,Blk w b 96 #[v]:=by obtain ⟨ao,cap,h,_⟩:=h;exact ⟨_,h⟩
theorem WM.grown {w w':World}{b:Nat}{L:List Bs}(h:WM w b L)(hg:w.grownBy w' none):WM w' b L:=by
 obtain ⟨ao,cap,h1,h2,h3,h4,h5⟩:=h
 refine ⟨ao,cap,h1.grown hg (by simp),h2,h3,h4,fun j hj=>?_⟩
 obtain ⟨g,off,cur,e,hc,hb⟩:=h5 j hj
 exact ⟨g,off,cur,e,grown_fun hg hc,hb.grown hg (by simp)⟩
theorem WM.set {w w':World}{b x t:Nat}{c:Array Value}{L:List Bs}(h:WM w b L)(hx:Blk w x t c)(h136:t≠96)(h9:t≠9)(hg:w.grownBy w' (some x)):WM w' b L:=by
 obtain ⟨ao,cap,h1,h2,h3,h4,h5⟩:=h
 refine ⟨ao,cap,h1.grown hg (fun e=>by simp at e;subst e;exact h136 (blk_type hx h1)),h2,h3,h4,fun j hj=>?_⟩
 obtain ⟨g,off,cur,e,hc,hb⟩:=h5 j hj
 have hne:some x≠some g:=fun e=>by simp at e;subst e;exact h9 (blk_type hx hb)
 exact ⟨g,off,cur,e,hg.cell hc (fun e=>hne e.symm),hb.grown hg hne⟩
theorem WM.tail {w:World}{b:Nat}{x:Bs}{r:List Bs}{ao:Option Addr}{cap:Nat}(h1:Blk w b 96 #[.slice ao (r.length+1) cap])(h2:r.length+1<=cap)(h3:cap<=1099511627776)(h4:∀y ∈ x :: r,y.length<=20000)
  (h5:∀j (hj:j<(x :: r).length),∃g off cur,ao=some ⟨g,off,none⟩/\w.cell? ⟨g,off+j,none⟩=some (.string ⟨(x :: r)[j].toArray⟩)/\Blk w g 9 cur) (v:Value)
  (hv:(r=[]/\∃a c,v=.slice a 0 c/\c<=cap)\/(∃g off,ao=some ⟨g,off,none⟩/\v=.slice (some ⟨g,off+1,none⟩) r.length (cap-1))):WM (w.setCell ⟨b,0,none⟩ v) b r:=by
 have hg:=grown_setCell w b 0 v
 have hb:=h1.store 0 v
 rcases hv with ⟨rfl,a,c,rfl,hc⟩ | ⟨g,off,rfl,rfl⟩
 ·exact ⟨a,c,hb,by simp,by omega,by simp,fun j hj=>absurd hj (by simp)⟩
 ·refine ⟨_,_,hb,by omega,by omega,fun y hy=>h4 y (by simp [hy]),fun j hj=>?_⟩
  obtain ⟨g',off',cur,e,hc,hb'⟩:=h5 (j+1) (by simpa using hj)
  simp at e
  obtain ⟨rfl,rfl⟩:=e
  have hne:some b≠some g:=fun e=>by simp at e;subst e;have:=blk_type h1 hb';omega
  refine ⟨g,off+1,cur,rfl,?_,hb'.grown hg hne⟩
  rw [show off+1+j=off+(j+1) by omega]
  refine hg.cell ?_ (fun e=>hne e.symm)
  simpa using hc
theorem next90 (b:Nat)(L:List Bs)(w:World)(h:WM w b L) :
  Calls Tryz.prog 90 #[.pointer (some ⟨b,0,none⟩)] w fun e w'=>e=.returned (Str (wNx L).1)/\WM w' b (wNx L).2/\w.grownBy w' (some b):=by
 have h':=h
 obtain ⟨ao,cap,h1,h2,h3,h4,h5⟩:=h
 have c0:=h1.cell 0
 have z0:=h1.free 0
 cases L with
 | nil =>
  have HW:Hid (WM w b []):=h'
  simp only [List.length_nil] at c0
  go_enter Tryz.func90,Tryz.ntmps90
  go_wp2_with fail
  go_ret
  exact ⟨rfl,HW.out,grown_refl _ _⟩
 | cons x r =>
  obtain ⟨g,off,cur,rfl,hc,hb⟩:=h5 0 (by simp)
  have hc0:w.cell? ⟨g,off,none⟩=some (.string ⟨x.toArray⟩):=by simpa using hc
  obtain ⟨n,hn⟩:∃n,n=r.length:=⟨_,rfl⟩
  have HT:Hid _:=fun v hv=>WM.tail (x:=x) (r:=r) (ao:=some ⟨g,off,none⟩) h1 h2 h3 h4 h5 v hv
  have HX:Hid (x.length<=20000/\n=r.length):=⟨h4 x (by simp),hn⟩
  simp only [List.length_cons] at c0 h2
  rw [<-hn] at c0 h2
  have i0:(0:Int)<((n:Int)+1):=by omega
  have i1:(0:Int)<(((n+1:Nat)):Int):=by omega
  have i2:¬((cap:Int)<1):=by omega
  have i3:¬(((n+1:Nat):Int)<1):=by omega
  have i4:(((n+1:Nat):Int)==0)=false:=by simp;omega
  have i5:((n:Int)+1==0)=false:=by simp;omega
  clear hc h1 h4 h5 hb hn h'
  by_cases hcap:cap=1
  ·have hn0:n=0:=by omega
   subst hcap hn0
   have hr:Hid (r=[]):=List.length_eq_zero_iff.1 HX.out.2.symm
   go_enter Tryz.func90,Tryz.ntmps90
   go_wp2_with fail
   all_goals go_ret
   all_goals (refine ⟨rfl,HT.out _ (.inl ⟨hr.out,_,_,rfl,?_⟩),grown_setCell _ _ _ _⟩;omega)
  ·go_enter Tryz.func90,Tryz.ntmps90
   go_wp2_with fail
   all_goals go_ret
   all_goals (first | (exfalso;omega) | (refine ⟨rfl,HT.out _ (.inr ⟨g,off,rfl,?_⟩),grown_setCell _ _ _ _⟩;first | (rw [<-HX.out.2];done) | (rw [<-HX.out.2];simp [Addr.add])))
theorem WM.all {w:World}{b:Nat}{L:List Bs}(h:WM w b L):∀x ∈ L,x.length<=20000:=by obtain ⟨ao,cap,_,_,_,h,_⟩:=h;exact h
theorem WM.first {w:World}{b:Nat}{L:List Bs}(h:WM w b L):(wNx L).1.length<=20000:=by
 cases L with
 | nil=>simp [wNx]
 | cons x r=>exact h.all x (by simp)
theorem kindOf_def (x:Bs):kindOf x=if x=[111,112,101,110] then 1 else if x=[99,97,108,108] then 2 else if x=[99,108,111,115,101] then 3 else if x=[101,120,112,105,114,101] then 4 else 0:=rfl
theorem kind87 (b:Nat)(L:List Bs)(w:World)(h:WM w b L)(hb0:10<=b)(hE:EnvC w) :
  Calls Tryz.prog 87 #[.pointer (some ⟨b,0,none⟩)] w fun e w'=>e=.returned (.int .i64 (kindOf (wNx L).1))/\WM w' b (wNx L).2/\w.grownBy w' (some b):=by
 have H:Hid (WM w b L/\EnvC w):=⟨h,hE⟩
 clear h hE
 go_enter Tryz.func87,Tryz.ntmps87
 go_wp2_with (go_at_call 90;refine (next90 b L _ H.out.1).mono ?_)
 rintro e w1 ⟨rfl,hW,hg⟩
 have F:Hid (WM w1 b (wNx L).2/\w.grownBy w1 (some b)):=⟨hW,hg⟩
 have E:=H.out.2.set hg hb0
 have k1:=E.k1
 have k2:=E.k2
 have k3:=E.k3
 have k4:=E.k4
 clear hW hg E
 obtain ⟨x,hx⟩:∃x,(wNx L).1=x:=⟨_,rfl⟩
 rw [hx]
 unfold Str
 go_wp2_with fail
 refine wp_loop_rounds 5 ?_
 rw [rounds_succ]
 by_cases e1:x=[111,112,101,110]
 ·have HK:Hid (kindOf (wNx L).1=1):=by rw [Hid,hx,kindOf_def,if_pos e1]
  skip
  clear hx
  subst e1
  go_wp2_with fail
  go_ret
  exact ⟨by rw [HK.out];rfl,F.out.1,F.out.2⟩
 have q1:([111,112,101,110]==x)=false:=by simp;exact fun h=>e1 h.symm
 go_wp2_with fail
 rw [rounds_succ]
 by_cases e2:x=[99,97,108,108]
 ·have HK:Hid (kindOf (wNx L).1=2):=by rw [Hid,hx,kindOf_def,if_neg e1,if_pos e2]
  clear e1
  clear hx
  subst e2
  go_wp2_with fail
  go_ret
  exact ⟨by rw [HK.out];rfl,F.out.1,F.out.2⟩
 have q2:([99,97,108,108]==x)=false:=by simp;exact fun h=>e2 h.symm
 go_wp2_with fail
 rw [rounds_succ]
 by_cases e3:x=[99,108,111,115,101]
 ·have HK:Hid (kindOf (wNx L).1=3):=by rw [Hid,hx,kindOf_def,if_neg e1,if_neg e2,if_pos e3]
  clear e1 e2
  clear hx
  subst e3
  go_wp2_with fail
  go_ret
  exact ⟨by rw [HK.out];rfl,F.out.1,F.out.2⟩
 have q3:([99,108,111,115,101]==x)=false:=by simp;exact fun h=>e3 h.symm
 go_wp2_with fail
 rw [rounds_succ]
 by_cases e4:x=[101,120,112,105,114,101]
 ·have HK:Hid (kindOf (wNx L).1=4):=by rw [Hid,hx,kindOf_def,if_neg e1,if_neg e2,if_neg e3,if_pos e4]
  clear e1 e2 e3
  clear hx
  subst e4
  go_wp2_with fail
  go_ret
  exact ⟨by rw [HK.out];rfl,F.out.1,F.out.2⟩
 have q4:([101,120,112,105,114,101]==x)=false:=by simp;exact fun h=>e4 h.symm
 go_wp2_with fail
 rw [rounds_succ]
 have HK:Hid (kindOf (wNx L).1=0):=by rw [Hid,hx,kindOf_def,if_neg e1,if_neg e2,if_neg e3,if_neg e4]
 clear e1 e2 e3 e4
 go_wp2_with fail
 go_ret
 exact ⟨by rw [HK.out];rfl,F.out.1,F.out.2⟩
def NumPost (b:Nat)(L:List Bs)(w:World)(e:Ending)(w':World):Prop:=(∃x,numW L=some x/\e=.returned (.tuple #[.int .i64 x.1,.int .i64 0])/\WM w' b x.2/\w.grownBy w' (some b))\/(numW L=none/\e=.returned (.tuple #[.int .i64 0,.int .i64 4])/\w.grownBy w' (some b))
theorem number88 (b:Nat)(L:List Bs)(w:World)(h:WM w b L)(hb9:10<=b)(hE:EnvC w) :
  Calls Tryz.prog 88 #[.pointer (some ⟨b,0,none⟩)] w (NumPost b L w):=by
 have hlen:=h.first
 have H:Hid (WM w b L/\EnvC w):=⟨h,hE⟩
 clear h hE
 go_enter Tryz.func88,Tryz.ntmps88
 go_wp2_with (go_at_call 90;refine (next90 b L _ H.out.1).mono ?_)
 rintro e w1 ⟨rfl,hW,hg⟩
 have F:Hid (WM w1 b (wNx L).2/\w.grownBy w1 (some b)/\EnvF w1):=⟨hW,hg,H.out.2.env.set hg hb9⟩
 clear hW hg
 obtain ⟨x,hx⟩:∃x,(wNx L).1=x:=⟨_,rfl⟩
 rw [hx] at hlen ⊢
 have HX:Hid (numW L=(pInt x).map fun v=>(v,(wNx L).2)):=by unfold numW Hid;rw [hx]
 clear hx
 unfold Str
 have hsz:(⟨x.toArray⟩:ByteArray).size<=20000:=by simpa [ByteArray.size] using hlen
 cases ha:Lib.parseIntB 64 x with
 | ok v =>
  have HA:Hid (Lib.parseIntB 64 x=.ok v):=ha
  have HB:=pi_in ha
  have HI:Hid (pInt x=if Lib.itoa v=x then some v else none):=by unfold pInt Hid;rw [ha]
  clear ha
  go_wp2_with (go_at_call 91;refine (Tryz.strconv_ParseInt_10_at64_ok ⟨x.toArray⟩ (by omega) v HA.out _).mono ?_)
  rintro e w2 ⟨rfl,hw2⟩
  have G:Hid (WM w2 b (wNx L).2/\w.grownBy w2 (some b)/\EnvF w2):=by
   rcases hw2 with rfl | ⟨t,rfl⟩
   ·exact ⟨F.out.1,F.out.2.1,F.out.2.2⟩
   ·exact ⟨F.out.1.grown (bytes_grown _ _),grown_trans F.out.2.1 (grown_weak (bytes_grown _ _) _),F.out.2.2.grown (bytes_grown _ _)⟩
  clear hw2
  go_wp2_with (go_at_call 35;refine (numtext35 v _ G.out.2.2 HB.1 HB.2).mono ?_)
  rintro e w3 ⟨rfl,hgr⟩
  have G3:Hid (WM w3 b (wNx L).2/\w.grownBy w3 (some b)):=⟨G.out.1.grown hgr,grown_trans G.out.2.1 (grown_weak hgr _)⟩
  clear hgr
  by_cases hi:Lib.itoa v=x
  ·have HO:Hid (numW L=some (v,(wNx L).2)):=by rw [Hid,HX.out,HI.out,if_pos hi];rfl
   have q:(Lib.itoa v==x)=true:=by simp [hi]
   clear hi
   go_wp2_with fail
   go_ret2
   exact .inl ⟨_,HO.out,rfl,G3.out.1,G3.out.2⟩
  ·have HO:Hid (numW L=none):=by rw [Hid,HX.out,HI.out,if_neg hi];rfl
   have q:(Lib.itoa v==x)=false:=by simp [hi]
   clear hi
   go_wp2_with fail
   go_ret2
   exact .inr ⟨HO.out,rfl,G3.out.2⟩
 | «syntax» =>
  have HA:Hid (Lib.parseIntB 64 x=.«syntax»):=ha
  have HO:Hid (numW L=none):=by rw [Hid,HX.out];unfold pInt;rw [ha];rfl
  clear ha
  obtain ⟨tp,p,hv⟩:=F.out.2.2.syn
  go_wp2_with (go_at_call 91;refine (Tryz.strconv_ParseInt_10_at64_syntax ⟨x.toArray⟩ (by omega) HA.out _ _ hv (.inr ⟨tp,p,rfl⟩)).mono ?_;rintro e w2 ⟨N,rfl,_,_,hbl⟩;have G:Hid (w.grownBy w2 (some b)):=grown_trans F.out.2.1 (grown_weak (below_grown hbl) _);clear hbl)
  go_ret2
  exact .inr ⟨HO.out,rfl,G.out⟩
 | range =>
  have HA:Hid (Lib.parseIntB 64 x=.range):=ha
  have HO:Hid (numW L=none):=by rw [Hid,HX.out];unfold pInt;rw [ha];rfl
  clear ha
  obtain ⟨tp,p,hv⟩:=F.out.2.2.rng
  go_wp2_with (go_at_call 91;refine (Tryz.strconv_ParseInt_10_at64_range ⟨x.toArray⟩ (by omega) HA.out _ _ hv (.inr ⟨tp,p,rfl⟩)).mono ?_;rintro e w2 ⟨N,rfl,_,_,hbl⟩;have G:Hid (w.grownBy w2 (some b)):=grown_trans F.out.2.1 (grown_weak (below_grown hbl) _);clear hbl)
  go_ret2
  exact .inr ⟨HO.out,rfl,G.out⟩
end Go.Proofs.YtgjcpjckaopeeaaGreatDoor
