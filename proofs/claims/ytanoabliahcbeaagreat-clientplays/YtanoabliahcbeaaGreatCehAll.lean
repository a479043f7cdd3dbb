import Derived.Test.YtanoabliahcbeaaGreatCadAll
import Derived.Shelf.Abstract
set_option maxHeartbeats 4000000
set_option maxRecDepth 100000
namespace Go.Proofs.YtanoabliahcbeaaGreat.Wn
open Go.RowKit Disk
variable {Q:Nat->Prop}
theorem eqlR:∀(w:World) (a:Option Addr) (n c n' c':Nat),(binOp .eql 140 (.slice a n c) (.slice none n' c')).run Tryz.prog w=.ok (.bool a.isNone) w:=fun w a n c n' c'=>Lib.run_eql_slice_nil w 140 142 a n c n' c' utR
def CloneP (xs:List Value)(w:World)(e:Ending)(w':World):Prop:=∃u,e=.returned u/\Row 142 w' w.heap.size u xs/\w.grownBy w' none
theorem clone_row (B g n cap:Nat)(xs:List Value)(w:World)(h:Row 142 w B (.slice (some ⟨g,0,none⟩) n cap) xs)(hl:xs.length<=64):Calls Tryz.prog 82 #[.slice (some ⟨g,0,none⟩) n cap] w (CloneP xs w):=by
 have e1:=eqlR
 have HQ:Hid (Row 142 w B (.slice (some ⟨g,0,none⟩) n cap) xs/\xs.length<=64):=⟨h,hl⟩
 clear h hl
 go_enter Tryz.func82,Tryz.ntmps82
 go_wp2_with (at_builtin;refine appR 140 142 8 _ rfl infoR rfl _ rfl _ _ rfl w.heap.size _ [] _ xs rfl rfl (row_made 142 w) (HQ.out.1.rd.grown (World.grownBy_alloc _ _ _)) HQ.out.1.one ?c0 ?c1 ?c2 ?_)
 case c0=>have:=HQ.out.2;simp;omega
 case c1=>have:=HQ.out.2;unfold maxLen;simp;omega
 case c2=>simp
 intro v' w1 hr hg hv
 have H1:Hid (Row 142 w1 w.heap.size v' xs/\w.grownBy w1 none):=by
  have g1:w.grownBy w1 none:=grown_new (World.grownBy_alloc w _ none) hg (by intro x hx;simp [Value.ownBlock] at hx;omega)
  exact ⟨hr,g1⟩
 clear hr hg hv
 go_wp2_with fail
 go_ret
 exact ⟨_,rfl,H1.out⟩
def CopyR (xs:List Value)(l m:Int)(w:World)(e:Ending)(w':World):Prop:=∃b v,e=.returned (.pointer (some ⟨b,0,none⟩))/\Blk w' b 144 #[v,.int .i64 l,.int .i64 m]/\Row 142 w' w.heap.size v xs/\w.heap.size<=b/\w.grownBy w' none
theorem copy_row (b B:Nat)(v:Value)(l m:Int)(xs:List Value)(w:World)(hb:Blk w b 144 #[v,.int .i64 l,.int .i64 m])(h:Row 142 w B v xs)(h1:1<=xs.length)(h2:xs.length<=64):Calls Tryz.prog 47 #[.pointer (some ⟨b,0,none⟩)] w (CopyR xs l m w):=by
 obtain ⟨g,cap,rfl⟩:∃g cap,v=.slice (some ⟨g,0,none⟩) xs.length cap:=by
  rcases h.shape with ⟨_,rfl⟩ | ⟨g,cap,C,rfl,_⟩
  ·simp at h1
  ·exact ⟨g,cap,rfl⟩
 obtain ⟨n,hn⟩:∃n,xs.length=n:=⟨_,rfl⟩
 rw [hn] at hb h h1 h2
 have HQ:Hid (Blk w b 144 #[.slice (some ⟨g,0,none⟩) n cap,.int .i64 l,.int .i64 m]/\Row 142 w B (.slice (some ⟨g,0,none⟩) n cap) xs/\xs.length=n/\1<=n/\n<=64):=⟨hb,h,hn,h1,h2⟩
 have c0:=hb.cell 0
 have c1:=hb.cell 1
 have c2:=hb.cell 2
 simp at c0 c1 c2
 clear hb h h1 h2 hn
 go_enter Tryz.func47,Tryz.ntmps47
 go_wp2_with fail
 refine (there_yes b g n cap _ _ w HQ.out.1 HQ.out.2.2.2.1).mono ?_
 rintro e w1 ⟨rfl,rfl⟩
 go_upto_region 3 with fail
 refine wp_region_noPanic ?_
 refine wp_region_hold 1000 (fun y=>w1.grownBy y none) (by kernel_rfl) ?_
 have HD:Hid (w1.grownBy w1.drew none):=grown_drew _ _
 generalize w1.drew=wd at HD ⊢
 have J:Idx [0,1,2,3,5,6,7,8,9,10,11,12]:=trivial
 iterate 12 (refine tK J (HD.out) rfl rfl (fun wk hk=>by have k0:=hk.cell c0 (by simp);have k1:=hk.cell c1 (by simp);have k2:=hk.cell c2 (by simp);go_simp;try rfl) ?_;replace J:=J.tl;try simp only [pN])
 clear J
 refine wpHold_one (i:=4) rfl (by kernel_rfl) (by rfl) (fun K hK=>?_)
 go_wp2_with fail
 refine (clone_row B g n cap xs wd (HQ.out.2.1.grown HD.out) (by have:=HQ.out;omega)).mono ?_
 rintro e w5 ⟨u,rfl,hr5,hg5⟩
 obtain ⟨uo,uc,rfl⟩:=hr5.sl
 rw [HQ.out.2.2.1] at hr5
 try rw [HQ.out.2.2.1]
 have H5:Hid (Row 142 w5 w1.heap.size (.slice uo n uc) xs/\w1.grownBy w5 none):=⟨hr5.mono HD.out.size,grown_trans HD.out hg5⟩
 clear hr5 hg5
 go_wp2_with fail
 refine hK.out _ _ (fun _=>H5.out.2) ?_
 clear hK K
 try simp only [pN]
 have J:Idx [13]:=trivial
 iterate 1 (refine tK J (H5.out.2) rfl rfl (fun wk hk=>by have k0:=hk.cell c0 (by simp);have k1:=hk.cell c1 (by simp);have k2:=hk.cell c2 (by simp);go_simp;try rfl) ?_;replace J:=J.tl;try simp only [pN])
 clear J
 refine wpHold_one (i:=14) rfl (by kernel_rfl) (by rfl) (fun K hK=>?_)
 obtain ⟨w6,hw6,H6⟩:=al1 w5 #[.slice uo n uc,.int .i64 l,.int .i64 m] 144
 obtain ⟨b2,hb2⟩:∃x,w5.heap.size=x:=⟨_,rfl⟩
 rw [hb2] at H6
 have HW6:Hid (w5.alloc (.cells #[.slice uo n uc,.int .i64 l,.int .i64 m] 144)=w6/\w5.heap.size=b2):=⟨hw6,hb2⟩
 clear hw6 hb2
 go_wp2_with fail
 rw [HW6.out.1,HW6.out.2]
 have H7:Hid (Blk w6 b2 144 #[.slice uo n uc,.int .i64 l,.int .i64 m]/\Row 142 w6 w1.heap.size (.slice uo n uc) xs/\w1.heap.size<=b2/\w1.grownBy w6 none):=⟨H6.out.1,H5.out.1.grown H6.out.2.1,by have:=HW6.out.2;have:=H5.out.2.size;omega,grown_trans H5.out.2 H6.out.2.1⟩
 clear HW6 H6
 refine hK.out _ _ (fun _=>H7.out.2.2.2) ?_
 clear hK K
 try simp only [pN]
 have J:Idx [15]:=trivial
 iterate 1 (refine tK J (H7.out.2.2.2) rfl rfl (fun wk hk=>by have k0:=hk.cell c0 (by simp);have k1:=hk.cell c1 (by simp);have k2:=hk.cell c2 (by simp);go_simp;try rfl) ?_;replace J:=J.tl;try simp only [pN])
 clear J
 refine wpHold_done (by kernel_rfl) ?_
 refine (‹∀(a:Act) (w:World),Code.wp Tryz.prog _ _ a w->_› _ _ ?_)
 clear c0 c1 c2
 go_wp2_with fail
 go_ret
 exact ⟨b2,_,rfl,H7.out.1,H7.out.2.1,H7.out.2.2.1,H7.out.2.2.2⟩
theorem copy_no (x:Value)(w:World)(h:NoWin w x):Calls Tryz.prog 47 #[x] w fun e w'=>e=.returned (.pointer none)/\w'=w:=by
 have HN:Hid (NoWin w x):=h
 clear h
 go_enter Tryz.func47,Tryz.ntmps47
 go_wp2_with fail
 refine (there_no x w HN.out).mono ?_
 rintro e w1 ⟨rfl,rfl⟩
 go_wp2_with fail
 go_ret
 exact ⟨rfl,rfl⟩
def CopyP (Q:Nat->Prop)(n:Nat)(L:List (Option Cr))(m:Nat)(w:World)(e:Ending)(w':World):Prop:=∃b v,e=.returned (.pointer (some ⟨b,0,none⟩))/\Win Q w' b v n L m/\w.grownBy w' none/\∀i,FN b v i->w.heap.size<=i
theorem copy_yes (b:Nat)(v:Value)(n:Nat)(L:List (Option Cr))(m:Nat)(w:World)(h:Win Q w b v n L m):Calls Tryz.prog 47 #[.pointer (some ⟨b,0,none⟩)] w (CopyP Q n L m w):=by
 obtain ⟨xs,h1,h2,h3⟩:=h.ring
 have hs:=h.size
 refine (copy_row b 0 v _ _ xs w h.blk h1 (by omega) (by omega)).mono ?_
 rintro e w' ⟨b',v',rfl,hb,hr,hbb,hg⟩
 refine ⟨b',v',rfl,⟨hb,⟨xs,hr.mono (Nat.zero_le _),h2,fun k hk hl=>let ⟨x,hx,hp⟩:=h3 k hk hl;⟨x,hx,hp.grown hg⟩⟩,h.low,h.room,h.size,h.top⟩,hg,?_⟩
 rintro i (rfl | hi)
 ·exact hbb
 ·exact (hr.lt i hi).1
theorem win_again {w0 W1 wr:World}{b B:Nat}{v:Value}{n:Nat}{L:List (Option Cr)}{m:Nat}{xs:List Value}(hb:Blk W1 b 144 #[v,.int .i64 (L.length:Nat),.int .i64 (m:Nat)])(hr:Row 142 W1 B v xs)(hn:xs.length=n)(hp:∀k,m<=k->∀(h:k<L.length),∃x,xs[(k+1) % n]? = some x/\Pl Q w0 x L[k])
  (hl:∀k,k<m->L[k]? = some none) (hrm:L.length<=m+n) (hs:1<=n/\n<=64) (ht:m<=L.length) (hg:w0.grownBy W1 none) (hk:∀i,(∃c,Blk w0 i 105 c)\/FN b v i->wr.heap[i]? = W1.heap[i]?):Win Q wr b v n L m:=by
 refine ⟨hb.same (hk b (.inr (.inl rfl))),⟨xs,(hr.mono (Nat.zero_le _)).same fun k hk'=>hk k (.inr (.inr hk')),hn,fun k h1 h2=>?_⟩,hl,hrm,hs,ht⟩
 obtain ⟨x,hx,hpp⟩:=hp k h1 h2
 refine ⟨x,hx,?_⟩
 cases ho:L[k] with
 | none=>rw [ho] at hpp;exact hpp
 | some t =>
  rw [ho] at hpp
  obtain ⟨p,h3,h4,h5⟩:=hpp
  exact ⟨p,h3,h4.same ((hk p (.inl ⟨_,h4⟩)).trans (hg.block p h4.lt (by simp))),h5⟩
end Go.Proofs.YtanoabliahcbeaaGreat.Wn
namespace Go.Proofs.YtanoabliahcbeaaGreat.Wn
open Go.RowKit Disk Table
variable {Q:Nat->Prop}
def Xo (L:List (Option Cr))(k k':Nat)(_ _:World)(xs:Array Value):Prop:=∃j t,k<=j/\L[j]? = some (some t)/\(∀i,k<=i->i<j->L[i]? = some none)/\k'=j+1/\xs=#[.int .i64 (j+1:Nat),.agg #[.int .i64 t.id,.slice t.o t.n t.c,.bool t.was,.int .i64 t.tm]]
def Fino (L:List (Option Cr))(k:Nat):Prop:=∀i,k<=i->i<L.length->L[i]? = some none
theorem all_any (a:Option Addr)(w:World):Calls Tryz.prog 64 #[.pointer a] w fun e w'=>e=.returned (.func (.func 91) #[] #[.pointer (some ⟨w.heap.size,0,none⟩)])/\Blk w' w.heap.size 82 #[.pointer a]/\w.grownBy w' none/\w'.heap.size=w.heap.size+1:=by
 go_enter Tryz.func64,Tryz.ntmps64
 go_upto_region 1 with fail
 obtain ⟨w1,hw1,H1⟩:=al1 w #[.pointer a] 82
 rw [hw1]
 clear hw1
 go_wp2_with fail
 go_ret
 exact ⟨rfl,H1.out⟩
theorem overS (Fw:Nat->Prop)(bx b:Nat)(v:Value)(n:Nat)(L:List (Option Cr))(m:Nat)(w0 w:World)(hb:Blk w bx 82 #[.pointer (some ⟨b,0,none⟩)])(hw:Win Q w0 b v n L m)(hg:w0.grownBy w none)(hF:∀i,Fw i->i<w.heap.size/\∀c,¬Blk w0 i 105 c)(hL:L.length<=1000000000000) :
  GivesS Tryz.prog 91 #[.pointer (some ⟨bx,0,none⟩)] 0 (Fino L) (Xo L) Fw w:=by
 intro lp J Jx W hgW hJ hJx hY h0
 obtain ⟨xs,hxr,hxl,hxp⟩:=hw.ring
 obtain ⟨ln,hln⟩:∃ln,L.length=ln:=⟨_,rfl⟩
 have HS:Hid (Win Q w0 b v n L m/\w0.grownBy W none/\w.grownBy W none/\(∀i,Fw i->i<w.heap.size/\∀c,¬Blk w0 i 105 c)/\L.length=ln/\ln<=1000000000000/\w0.grownBy w none):=⟨hw,grown_trans hg hgW,hgW,hF,hln,by omega,hg⟩
 have HX:Hid (Row 142 w0 0 v xs/\xs.length=n/\∀k,m<=k->∀(h:k<L.length),∃x,xs[(k+1) % n]? = some x/\Pl Q w0 x L[k]):=⟨hxr,hxl,hxp⟩
 have c0:=(hb.grown hgW (by simp)).cell 0
 simp at c0
 have HY:Hid _:=hY
 have HJT:Hid _:=hJ
 have HJ:Hid (J 0 (fun _=>False) W):=h0
 clear hb hw hg hgW hY h0 hJ hJx hF hln hL hxr hxl hxp
 show Calls Tryz.prog 91 #[.func (.yield lp) #[] #[],.pointer (some ⟨bx,0,none⟩)] W _
 go_enter Tryz.func91,Tryz.ntmps91
 go_wp2_with fail
 refine (copy_row b 0 v _ _ xs W (HS.out.1.blk.grown HS.out.2.1 (by simp)) (HX.out.1.grown HS.out.2.1) (by have:=HX.out.2.1;have:=HS.out.1.size;omega) (by have:=HX.out.2.1;have:=HS.out.1.size;omega)).mono ?_
 rintro e W1 ⟨b2,v2,rfl,hb2,hr2,hbb,hg2⟩
 have HC:Hid (Blk W1 b2 144 #[v2,.int .i64 (L.length:Nat),.int .i64 (m:Nat)]/\Row 142 W1 W.heap.size v2 xs/\W.heap.size<=b2/\W.grownBy W1 none/\w0.grownBy W1 none):=⟨hb2,hr2,hbb,hg2,grown_trans HS.out.2.1 hg2⟩
 clear hb2 hr2 hbb hg2 c0
 have HA:Hid (∀wr:World,(∀i,(∃c,Blk w0 i 105 c)\/FN b2 v2 i->wr.heap[i]? = W1.heap[i]?)->Win Q wr b2 v2 n L m):=fun wr hk=>win_again HC.out.1 HC.out.2.1 HX.out.2.1 HX.out.2.2 HS.out.1.low HS.out.1.room HS.out.1.size HS.out.1.top HC.out.2.2.2.2 hk
 go_wp2_with fail
 refine (mark_yes b2 v2 n L m W1 (HA.out W1 fun _ _=>rfl)).mono ?_
 rintro e W2 ⟨rfl,rfl⟩
 have d0:IntKind.i64.wrap ((m:Int)+1)=(m:Int)+1:=by have:=HS.out;have:=this.1.top;rw [IntKind.wrap_i64];omega
 go_wp2_with fail
 clear d0
 go_loopw [4] (fun p wr=>∃(k s:Nat) (G:Nat->Prop),m<=k/\k<=ln/\p=.int .i64 ((k:Int)+1)/\Hid (s<=k/\(∀i,s<=i->i<k->L[i]? = some none)/\J s G wr/\(∀i,G i->W2.heap.size<=i/\i<wr.heap.size)/\W2.heap.size<=wr.heap.size/\(∀i,(∃c,Blk w0 i 105 c)\/FN b2 v2 i->wr.heap[i]? = W2.heap[i]?))) (fun p _=>ln+1-(intOf p).toNat)
 case atStart=>exact ⟨m,0,fun _=>False,Nat.le_refl _,by have:=HS.out;have:=this.1.top;omega,rfl,Nat.zero_le _,fun i _ hi=>HS.out.1.low i hi,HJT.out _ _ _ _ HJ.out (Tx.of_grown HC.out.2.2.2.1),fun _ h=>h.elim,Nat.le_refl _,fun _ _=>rfl⟩
 case round =>
  obtain ⟨k,s,G,hmk,hk,rfl,HI⟩:=hrel
  have HW:=HA.out wr HI.out.2.2.2.2.2
  obtain ⟨g,cap,rfl,hcap⟩:=HW.sl
  have HW:Hid (Win Q wr b2 (.slice (some ⟨g,0,none⟩) n cap) n L m):=HW
  clear hcap
  go_wp2_with fail
  refine (last_yes b2 _ n L m wr HW.out).mono ?_
  rintro e w3 ⟨rfl,rfl⟩
  rw [HS.out.2.2.2.2.1]
  by_cases hlt:k<ln
  ·have i1:(k:Int)+1<=(ln:Int):=by omega
   have HK:Hid (m<=k/\k<ln/\k<L.length):=⟨hmk,hlt,by rw [HS.out.2.2.2.2.1];exact hlt⟩
   obtain ⟨x,hx,hp⟩:=HW.out.at k HK.out.1 HK.out.2.2
   obtain ⟨o,ho⟩:∃o,L[k]'HK.out.2.2=o:=⟨_,rfl⟩
   rw [ho] at hp
   have HO:Hid (L[k]? = some o):=by rw [Hid,List.getElem?_eq_getElem HK.out.2.2,ho]
   obtain ⟨j,hj⟩:∃j,(k+1) % n=j:=⟨_,rfl⟩
   have HJJ:Hid ((k+1) % n=j/\j<n):=⟨hj,by rw [<-hj];exact Nat.mod_lt _ (by have:=HS.out.1.size;omega)⟩
   rw [hj] at hx
   have j1:(j:Int)<(n:Int):=by have:=HJJ.out;omega
   have j2:(0:Int)<=(j:Int):=by omega
   have c0:=HW.out.blk.cell 0
   simp at c0
   clear hj ho
   go_upto_region 4 with fail
   refine wp_region_noPanic ?_
   refine wp_region_hold 1000 (fun y=>w3.grownBy y none) (by kernel_rfl) ?_
   have HD:Hid (w3.grownBy w3.drew none):=grown_drew _ _
   generalize w3.drew=wd at HD ⊢
   cases o with
   | none =>
    have hp':x=.pointer none:=hp
    subst hp'
    clear hp
    have J:Idx [0,1,2,3,4,5]:=trivial
    iterate 6 (refine tK J (HD.out) rfl rfl (fun wk hk=>by have k0:=hk.cell c0 (by simp);have k3:=hk.cell hx (by simp);go_simp;try rfl) ?_;replace J:=J.tl;try simp only [pN])
    clear J
    refine wpHold_one (i:=6) rfl (by kernel_rfl) (by rfl) (fun K hK=>?_)
    go_wp2_with fail
    refine (place_yes b2 g n n cap _ _ (k+1) j wd HJJ.out.1 (HW.out.blk.grown HD.out (by simp)) HS.out.1.size (by have:=HK.out;have:=HS.out.2.2.2.2.2.1;omega)).mono ?_
    rintro e w5 ⟨rfl,rfl⟩
    go_wp2_with fail
    refine hK.out _ _ (fun _=>HD.out) ?_
    clear hK K
    try simp only [pN]
    have J:Idx [7,8,9]:=trivial
    iterate 3 (refine tK J (HD.out) rfl rfl (fun wk hk=>by have k0:=hk.cell c0 (by simp);have k3:=hk.cell hx (by simp);go_simp;try rfl) ?_;replace J:=J.tl;try simp only [pN])
    clear J
    refine wpHold_done (by kernel_rfl) ?_
    refine (‹∀(a:Act) (w:World),Code.wp Tryz.prog _ _ a w->_› _ _ ?_)
    have HN2:Hid (s<=k+1/\(∀i,s<=i->i<k+1->L[i]? = some none)/\J s G w5/\(∀i,G i->W2.heap.size<=i/\i<w5.heap.size)/\W2.heap.size<=w5.heap.size/\(∀i,(∃c,Blk w0 i 105 c)\/FN b2 (.slice (some ⟨g,0,none⟩) n cap) i->w5.heap[i]? = W2.heap[i]?)):=by
     have s1:=HI.out
     have s2:=HD.out.size
     refine ⟨by omega,fun i h1 h2=>?_,HJT.out _ _ _ _ s1.2.2.1 (Tx.of_grown HD.out),fun i hi=>⟨(s1.2.2.2.1 i hi).1,by have:=(s1.2.2.2.1 i hi).2;omega⟩,by omega,fun i hi=>?_⟩
     ·by_cases e:i=k
      ·rw [e];exact HO.out
      ·exact s1.2.1 i h1 (by omega)
     ·rw [<-s1.2.2.2.2.2 i hi]
      refine HD.out.block i ?_ (by simp)
      rcases hi with ⟨c,hi⟩ | hi
      ·have:=HC.out.2.2.2.2.size
       have:=hi.lt
       have:=HI.out.2.2.2.2.1
       omega
      ·exact HW.out.lt i hi
    have wk1:IntKind.i64.wrap ((k:Int)+1+1)=(k:Int)+1+1:=by have:=HS.out.2.2.2.2.2.1;rw [IntKind.wrap_i64];omega
    clear c0 hx HI HW
    go_wp2_with fail
    go_roundw
    case rel=>exact ⟨k+1,s,G,by omega,by omega,by go_num,HN2.out⟩
    case measure=>simp [intOf];omega
   | some t =>
    obtain ⟨p,rfl,hpb,_⟩:=hp
    have HPB:Hid (Blk w3 p 105 #[.int .i64 t.id,.slice t.o t.n t.c,.bool t.was,.int .i64 t.tm]):=hpb
    clear hpb
    have J:Idx [0,1,2,3,4,5]:=trivial
    iterate 6 (refine tK J (HD.out) rfl rfl (fun wk hk=>by have k0:=hk.cell c0 (by simp);have k3:=hk.cell hx (by simp);go_simp;try rfl) ?_;replace J:=J.tl;try simp only [pN])
    clear J
    refine wpHold_one (i:=6) rfl (by kernel_rfl) (by rfl) (fun K hK=>?_)
    go_wp2_with fail
    refine (place_yes b2 g n n cap _ _ (k+1) j wd HJJ.out.1 (HW.out.blk.grown HD.out (by simp)) HS.out.1.size (by have:=HK.out;have:=HS.out.2.2.2.2.2.1;omega)).mono ?_
    rintro e w5 ⟨rfl,rfl⟩
    go_wp2_with fail
    refine hK.out _ _ (fun _=>HD.out) ?_
    clear hK K
    try simp only [pN]
    have J:Idx [7,8,9]:=trivial
    iterate 3 (refine tK J (HD.out) rfl rfl (fun wk hk=>by have k0:=hk.cell c0 (by simp);have k3:=hk.cell hx (by simp);go_simp;try rfl) ?_;replace J:=J.tl;try simp only [pN])
    clear J
    refine wpHold_done (by kernel_rfl) ?_
    refine (‹∀(a:Act) (w:World),Code.wp Tryz.prog _ _ a w->_› _ _ ?_)
    obtain ⟨q1,q2,q3,q4⟩:=cells4 (HPB.out.grown HD.out (by simp))
    clear c0 hx
    have HXX:Hid (Xo L s (k+1) w5 w5 #[.int .i64 ((k:Int)+1),.agg #[.int .i64 t.id,.slice t.o t.n t.c,.bool t.was,.int .i64 t.tm]]):=⟨k,t,HI.out.1,HO.out,HI.out.2.1,rfl,rfl⟩
    have HJ5:Hid (J s G w5/\W.heap.size<=w5.heap.size):=⟨HJT.out _ _ _ _ HI.out.2.2.1 (Tx.of_grown HD.out),by have:=HI.out.2.2.2.2.1;have:=HC.out.2.2.2.1.size;have:=HD.out.size;omega⟩
    go_upto_region 5 with fail
    refine (wpIn_wide (n:=0)).1 (wpIn_region_lit ?_)
    iterate 8
     refine wpListIn_step fun K1 hK1=>?_
     rw [if_pos (by rfl)]
     refine Table.oper_wide 0 ?_
     have HK1:Hid _:=hK1
     clear hK1
     go_wp2_with fail
     refine HK1.out _ _ ?_
     clear HK1 K1
    refine wpListIn_step fun K1 hK1=>?_
    rw [if_pos (by rfl)]
    refine Table.yield_wide (HY.out s (k+1) G w5 w5 _ HJ5.out.1 HJ5.out.2 (Tx.refl _ _) HXX.out) rfl rfl rfl rfl ?_
    clear q1 q2 q3 q4
    rintro e W' (⟨rfl,G',hnew,hJ',hkept⟩ | ⟨rfl,hxx,_⟩)
    ·refine ⟨_,rfl,hK1 _ _ ?_⟩
     clear hK1 K1
     simp only [Act.put,List.setIfInBounds_toArray,List.set_cons_zero,List.set_cons_succ]
     iterate 2
      refine wpListIn_step fun K1 hK1=>?_
      rw [if_pos (by rfl)]
      refine Table.oper_wide 0 ?_
      have HK1:Hid _:=hK1
      clear hK1
      go_wp2_with fail
      refine HK1.out _ _ ?_
      clear HK1 K1
     refine wpListIn_nil ?_
     refine (‹∀(a:Act) (w:World),Code.wp Tryz.prog _ (Exit.inBlock 1 _) a w->_› _ _ ?_)
     have HN2:Hid (J (k+1) G' W'/\(∀i,G' i->W2.heap.size<=i/\i<W'.heap.size)/\W2.heap.size<=W'.heap.size/\(∀i,(∃c,Blk w0 i 105 c)\/FN b2 (.slice (some ⟨g,0,none⟩) n cap) i->W'.heap[i]? = W2.heap[i]?)):=by
      have s1:=HI.out
      have s2:=HD.out.size
      have s3:=HC.out
      have s4:=s3.2.2.2.2.size
      have s5:=HS.out
      have s6:=s5.2.2.1.size
      have s7:=s5.2.2.2.2.2.2.size
      refine ⟨hJ',fun i hi=>⟨?_,(hnew i hi).2⟩,by have:=hkept.1;omega,fun i hi=>?_⟩
      ·rcases (hnew i hi).1 with h | h
       ·exact (s1.2.2.2.1 i h).1
       ·omega
      ·have hilt:i<W2.heap.size:=by
        rcases hi with ⟨c,hi⟩ | rfl | hi
        ·have:=hi.lt
         omega
        ·exact s3.1.lt
        ·exact (s3.2.1.lt i hi).2
       have hwhere:(i<w0.heap.size/\∃c,Blk w0 i 105 c)\/W.heap.size<=i:=by
        rcases hi with ⟨c,hi⟩ | rfl | hi
        ·exact .inl ⟨hi.lt,c,hi⟩
        ·exact .inr s3.2.2.1
        ·exact .inr (s3.2.1.lt i hi).1
       rw [hkept.2 i (by omega) (by rcases hwhere with h | h;exact .inl (by omega);exact .inr h) ?_ ?_ fun h=>by have:=s1.2.2.2.1 i h;omega]
       ·rw [HD.out.block i (by omega) (by simp)]
        exact s1.2.2.2.2.2 i hi
       ·intro hf
        have s8:=s5.2.2.2.1 i hf
        rcases hwhere with ⟨_,c,h⟩ | h
        ·exact s8.2 c h
        ·omega
       ·rintro (⟨y,hu,hbk⟩ | hc)
        ·simp at hu
         rcases hu with rfl | rfl
         ·simp [Value.ownBlock] at hbk
         ·simp [Value.ownBlock] at hbk
        ·exact hc
     clear hJ' hkept hnew
     have wk1:IntKind.i64.wrap ((k:Int)+1+1)=(k:Int)+1+1:=by have:=HS.out.2.2.2.2.2.1;rw [IntKind.wrap_i64];omega
     go_wp2_with fail
     go_roundw
     case rel=>exact ⟨k+1,k+1,G',by omega,by omega,by go_num,Nat.le_refl _,fun i h1 h2=>absurd h2 (by omega),HN2.out⟩
     case measure=>simp [intOf];omega
    ·refine ⟨_,rfl,hK1 _ _ ?_⟩
     clear hK1 K1
     simp only [Act.put,List.setIfInBounds_toArray,List.set_cons_zero,List.set_cons_succ]
     iterate 2
      refine wpListIn_step fun K1 hK1=>?_
      rw [if_pos (by rfl)]
      refine Table.oper_wide 0 ?_
      have HK1:Hid _:=hK1
      clear hK1
      go_wp2_with fail
      refine HK1.out _ _ ?_
      clear HK1 K1
     refine wpListIn_nil ?_
     refine (‹∀(a:Act) (w:World),Code.wp Tryz.prog _ (Exit.inBlock 1 _) a w->_› _ _ ?_)
     have HXE:Hid (Jx W'):=hxx
     clear hxx
     go_wp2_with fail
     exact ⟨rfl,_,results_none rfl _ _ _,⟨_,rfl⟩,.inr HXE.out⟩
  ·have i1:¬(k:Int)+1<=(ln:Int):=by omega
   go_wp2_with fail
   exact ⟨rfl,_,results_none rfl _ _ _,⟨_,rfl⟩,.inl ⟨s,G,fun i h1 h2=>HI.out.2.1 i h1 (by have:=HS.out.2.2.2.2.1;omega),HI.out.2.2.1⟩⟩
theorem overS_no (Fw:Nat->Prop)(bx:Nat)(x:Value)(w0 w:World)(hb:Blk w bx 82 #[x])(hw:NoWin w0 x)(hg:w0.grownBy w none) :
  GivesS Tryz.prog 91 #[.pointer (some ⟨bx,0,none⟩)] 0 (Fino []) (Xo []) Fw w:=by
 intro lp J Jx W hgW hJ hJx hY h0
 have HS:Hid (NoWin W x):=hw.grown (grown_trans hg hgW)
 have c0:=(hb.grown hgW (by simp)).cell 0
 simp at c0
 have HJ:Hid (J 0 (fun _=>False) W):=h0
 clear hb hw hg hgW hY h0 hJ hJx
 show Calls Tryz.prog 91 #[.func (.yield lp) #[] #[],.pointer (some ⟨bx,0,none⟩)] W _
 go_enter Tryz.func91,Tryz.ntmps91
 go_wp2_with fail
 refine (copy_no x W HS.out).mono ?_
 rintro e W1 ⟨rfl,rfl⟩
 go_wp2_with fail
 refine (mark_no (.pointer none) W1 (.inl rfl)).mono ?_
 rintro e W2 ⟨rfl,rfl⟩
 go_wp2_with fail
 refine wp_loop_rounds 1 ?_
 rw [rounds_succ]
 go_wp2_with fail
 refine (last_no (.pointer none) W2 (.inl rfl)).mono ?_
 rintro e W3 ⟨rfl,rfl⟩
 go_wp2_with fail
 exact ⟨rfl,_,results_none rfl _ _ _,⟨_,rfl⟩,.inl ⟨0,fun _=>False,fun i _ h2=>absurd h2 (by simp),HJ.out⟩⟩
variable {Q:Nat->Prop}
def Goes (a:Option Addr)(L:List (Option Cr))(w:World):Prop:=∀(bx:Nat) (w2:World),w.grownBy w2 none->Blk w2 bx 82 #[.pointer a]->∀Fw:Nat->Prop,(∀i,Fw i->i<w2.heap.size/\∀c,¬Blk w i 105 c)->GivesS Tryz.prog 91 #[.pointer (some ⟨bx,0,none⟩)] 0 (Fino L) (Xo L) Fw w2
theorem Win.goes {w:World}{b:Nat}{v:Value}{n:Nat}{L:List (Option Cr)}{m:Nat}(h:Win Q w b v n L m)(hL:L.length<=1000000000000):Goes (some ⟨b,0,none⟩) L w :=
 fun bx w2 hg hb Fw hF=>overS Fw bx b v n L m w w2 hb h hg hF hL
theorem NoWin.goes {w:World}{a:Option Addr}(h:NoWin w (.pointer a)):Goes a [] w :=
 fun bx w2 hg hb Fw _=>overS_no Fw bx (.pointer a) w w2 hb h hg
theorem len_of (a:Option Addr)(L:List (Option Cr))(w:World)(h:Goes a L w)(hL:L.length<=1000000000000):Calls Tryz.prog 57 #[.pointer a] w fun e w'=>e=.returned (.int .i64 (outN L L.length:Nat))/\w.grownBy w' none:=by
 have HN:Hid (Goes a L w/\L.length<=1000000000000):=⟨h,hL⟩
 clear h hL
 refine calls_marks Tryz.func57 rfl ?_
 simp only [Tryz.ntmps57,List.size_toArray,List.length_cons,List.length_nil,Nat.reduceAdd,Nat.reduceSub,Array.replicate_succ,Array.replicate_zero,List.push_toArray,List.append_toArray,List.nil_append,List.cons_append]
 go_upto_region 2 with fail
 obtain ⟨w1,hw1,H1⟩:=al1 w #[.int .i64 0] 3
 obtain ⟨z0,hz0⟩:∃x,w.heap.size=x:=⟨_,rfl⟩
 rw [hw1]
 rw [hz0] at H1 ⊢
 have HZ:Hid (w.heap.size=z0):=hz0
 clear hw1 hz0
 go_wp2_with fail
 refine (all_any a w1).mono ?_
 rintro e w2 ⟨rfl,hbk,hg2,hsz2⟩
 obtain ⟨bx,hbx⟩:∃x,w1.heap.size=x:=⟨_,rfl⟩
 rw [hbx] at hbk hsz2 ⊢
 have H2:Hid (Blk w2 bx 82 #[.pointer a]/\w.grownBy w2 none/\Blk w2 z0 3 #[.int .i64 0]/\w2.heap.size=bx+1/\z0<bx):=⟨hbk,grown_trans H1.out.2.1 hg2,H1.out.1.grown hg2 (by simp),hsz2,by have:=H1.out.2.2;have:=HZ.out;omega⟩
 clear hbk hg2 hsz2 hbx H1
 go_wp2_with fail
 obtain ⟨sz,hsz⟩:∃x,w2.heap.size=x:=⟨_,rfl⟩
 have HSZ:Hid (w2.heap.size=sz/\z0<sz):=⟨hsz,by have:=H2.out;omega⟩
 clear hsz
 have HGV:Hid (GivesS Tryz.prog 91 #[.pointer (some ⟨bx,0,none⟩)] 0 (Fino L) (Xo L) (fun i=>i=z0) w2):=HN.out.1 bx w2 H2.out.2.1 H2.out.1 _ fun i hi=>by
  have hz:=HZ.out
  have h2:=H2.out
  exact ⟨by omega,fun c hb=>by have:=hb.lt;omega⟩
 refine wp_rangeB (id:=0) (gf:=91) (lb:=#[.pointer (some ⟨bx,0,none⟩)]) rfl (enters_of Tryz.func91 (by kernel_rfl) rfl) HGV.out ?_
  (fun k G A=>Hid (w.grownBy A none/\Blk A z0 3 #[.int .i64 (outN L k:Nat)]/\sz<=A.heap.size/\(∀i,¬G i)))
  (fun _=>False) ?_ ?_ ?_ ?_
  (fun A=>Hid (w.grownBy A none/\Blk A z0 3 #[.int .i64 (outN L L.length:Nat)]/\sz<=A.heap.size)) ?_ ?_ ?_
 ·rintro k k' W0 W1 xs ⟨_,_,_,_,_,_,rfl⟩
  rfl
 ·rintro k G A B HB ht
  have hz:=HSZ.out
  have hz0:=HZ.out
  have h:=HB.out
  exact ⟨tx_grown ht h.1 (by omega),ht.blk h.2.1 (.inl (by decide)),Nat.le_trans h.2.2.1 ht.size,h.2.2.2⟩
 ·exact fun _ _ h _=>h
 ·exact ⟨H2.out.2.1,by rw [outN_zero];exact H2.out.2.2.1,Nat.le_of_eq HSZ.out.1.symm,fun _ h=>h⟩
 ·rintro l' k k' G W0 W1 xs HI hlt0 htn ⟨j,t,hkj,hj,hno,rfl,rfl⟩ ⟨rc,hrc⟩
  have HO:Hid (Tx (w2.heap.size+2) W0 W1/\w2.heap.size+1<W0.heap.size/\W1.heap[w2.heap.size+1]? = some (.loop rc)/\outN L (j+1)=outN L k+1/\j<L.length):=⟨htn,hlt0,hrc,outN_step hkj hno hj,(List.getElem?_eq_some_iff.1 hj).1⟩
  clear htn hlt0 hrc hkj hj hno
  simp only [List.zip_toArray,List.zip_cons_cons,List.zip_nil_right,List.foldl_toArray',List.size_toArray,List.foldl_cons,List.foldl_nil,List.setIfInBounds_toArray,List.set_cons_zero,List.set_cons_succ]
  refine wpIn_skip ?_
  refine ⟨grown_refl _ _,fun r=>?_⟩
  obtain ⟨W3,hW3⟩:∃W3,W1.putObj (w2.heap.size+1) (.loop r)=W3:=⟨_,rfl⟩
  have HT3:Hid (Tx (w2.heap.size+1) W0 W3/\W3.heap.size=W1.heap.size/\(∀i,i≠w2.heap.size+1->W3.heap[i]? = W1.heap[i]?)):=by
   have ht:Tx (w2.heap.size+1) W1 W3:=by rw [<-hW3];exact Tx.put _ HO.out.2.2.1 (Nat.le_refl _)
   exact ⟨(HO.out.1.mono (Nat.le_succ _)).trans ht,by rw [<-hW3];simp [World.putObj],fun i hi=>by rw [<-hW3,World.putObj_heap_other hi]⟩
  rw [hW3]
  clear hW3
  have HG3:Hid (w.grownBy W3 none/\Blk W3 z0 3 #[.int .i64 (outN L k:Nat)]):=by
   have h:=HI.out
   have hz:=HSZ.out
   have hz0:=HZ.out
   exact ⟨tx_grown HT3.out.1 h.1 (by omega),HT3.out.1.blk h.2.1 (.inl (by decide))⟩
  have m0:=HG3.out.2.cell 0
  have m1:=HG3.out.2.free 0
  simp at m0
  obtain ⟨c,hc⟩:∃c,outN L k=c:=⟨_,rfl⟩
  have HCC:Hid (outN L k=c/\c<=1000000000000):=⟨hc,by have:=HO.out;have:=outN_le L (j+1);have:=HN.out.2;omega⟩
  rw [hc] at m0
  have v2:IntKind.i64.wrap ((c:Int)+1)=(c:Int)+1:=by have:=HCC.out;rw [IntKind.wrap_i64];omega
  clear hc
  refine wpIn_block ?_
  refine region_round (by rintro ⟨_,_,h⟩;exact h) rfl ?_
  go_wp2_with fail
  have gs:=grown_setCell W3 z0 0 (.int .i64 ((c:Int)+1))
  have hb5:=HG3.out.2.store 0 (.int .i64 ((c:Int)+1))
  have hzs:(W3.setCell ⟨z0,0,none⟩ (.int .i64 ((c:Int)+1))).heap.size=W3.heap.size:=by simp
  generalize W3.setCell ⟨z0,0,none⟩ (.int .i64 ((c:Int)+1))=W5 at gs hb5 hzs ⊢
  have hz:=HSZ.out
  have hz0:=HZ.out
  have z2:=HT3.out
  have z3:=HO.out
  have hz3:=z3.1.size
  have hi:=HI.out
  have hcc:=HCC.out
  have keep:∀i,i≠z0->i<W3.heap.size->W5.heap[i]? = W3.heap[i]?:=fun i h1 h2=>gs.block i (by omega) (by simp;omega)
  refine ⟨⟨keep _ (by omega) (by omega),keep _ (by omega) (by omega)⟩,fun _=>False,fun _ h=>h.elim,⟨by omega,fun i h1 h2 h3 _ _=>?_⟩,grown_new HG3.out.1 gs (fun x hx=>by simp at hx;omega),?_,by omega,fun _ h=>h⟩
  ·rw [keep i h3 (by omega)]
   exact z2.2.2 i (by omega)
  ·rw [z3.2.2.2.1,hcc.1]
   simpa using hb5
 ·rintro A k G hfin HB
  have h:=HB.out
  rw [outN_fin hfin] at h
  exact ⟨h.1,h.2.1,h.2.2.1⟩
 ·exact fun _ h=>h.elim
 ·intro A HB hd
  refine (‹∀(a:Act) (w:World),Code.wp Tryz.prog _ _ a w->_› _ _ ?_)
  have v0:=HB.out.2.1.cell 0
  simp at v0
  have HD:Hid (A.heap[w2.heap.size]? = some (.deferred (some []))):=hd
  clear hd
  go_wp2_with fail
  refine ⟨by simp,.inl ⟨_,_,rfl,run_takeDeferred HD.out,?_⟩⟩
  have t1:=Tx.putD (n0:=w.heap.size) (.deferred none) HD.out (by have:=HSZ.out;have:=HZ.out;omega)
  exact ⟨_,by simp [results,Tryz.results57,go_sem],rfl,tx_grown t1 HB.out.1 (Nat.le_refl _)⟩
theorem len_yes (b:Nat)(v:Value)(n:Nat)(L:List (Option Cr))(m:Nat)(w:World)(h:Win Q w b v n L m)(hL:L.length<=1000000000000):Calls Tryz.prog 57 #[.pointer (some ⟨b,0,none⟩)] w fun e w'=>e=.returned (.int .i64 (outN L L.length:Nat))/\w.grownBy w' none :=
 len_of _ L w (h.goes hL) hL
theorem len_no (a:Option Addr)(w:World)(h:NoWin w (.pointer a)):Calls Tryz.prog 57 #[.pointer a] w fun e w'=>e=.returned (.int .i64 0)/\w.grownBy w' none :=
 len_of a [] w h.goes (by simp)
end Go.Proofs.YtanoabliahcbeaaGreat.Wn
namespace Go.Proofs.YtanoabliahcbeaaGreat.Wn
open Go.RowKit Disk
variable {Q:Nat->Prop}
structure Mine (Q:Nat->Prop)(w w':World)(b:Nat)(v:Value)(n:Nat)(L:List (Option Cr))(m:Nat):Prop where
 win:Win Q w' b v n L m
 gr:w.grownBy w' none
 new:∀i,FN b v i->w.heap.size<=i
theorem Mine.to {Q':Nat->Prop}{w w1 w2:World}{b:Nat}{v:Value}{n:Nat}{L L':List (Option Cr)}{m m':Nat}(h:Mine Q w w1 b v n L m)(hw:Win Q' w2 b v n L' m')(hf:Fr w1 w2 (FN b v)):Mine Q' w w2 b v n L' m' :=
 ⟨hw,Fr.grown ((Fr.of (F:=FN b v) h.gr (by simp)).trans hf fun i hi=>.inl hi) h.new,h.new⟩
theorem Mine.grown {w w1 w2:World}{b:Nat}{v:Value}{n:Nat}{L:List (Option Cr)}{m:Nat}(h:Mine Q w w1 b v n L m)(hg:w1.grownBy w2 none):Mine Q w w2 b v n L m:=⟨h.win.grown hg,grown_trans h.gr hg,h.new⟩
end Go.Proofs.YtanoabliahcbeaaGreat.Wn
