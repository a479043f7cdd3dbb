import Derived.Test.YtncbdhdfemidlaaGreatPf
import Derived.Test.YtncbdhdfemidlaaGreatQabAll
import Derived.Deep.RegionHeld3
set_option maxHeartbeats 8000000
set_option maxRecDepth 100000
namespace Go.Proofs.YtncbdhdfemidlaaGreat
open Go.RowKit Disk Table
open _root_.Go.Proofs.YtncbdhdfemidlaaGreat.Calls _root_.Go.Proofs.YtncbdhdfemidlaaGreat.Command
namespace L5
def cL:Code->Code | .seq a _=>a | c=>c
def cR:Code->Code | .seq _ b=>b | c=>c
noncomputable def b5:Code:=Tryz.f5.body.getD .skip
noncomputable def pA:Code:=cL (cR b5)
noncomputable def r9:Code:=cR (cR b5)
noncomputable def r17:Code:=cR (cR (cR r9))
noncomputable def r20:Code:=cR (cR r17)
noncomputable def r25:Code:=cR r20
theorem f5_eq:Tryz.f5.body=some (.seq (cL b5) (.seq pA r9)):=rfl
theorem r9_eq:r9=.seq (cL r9) (.seq (cL (cR r9)) (.seq (cL (cR (cR r9))) r17)):=rfl
theorem r17_eq:r17=.seq (cL r17) (.seq (cL (cR r17)) r20):=rfl
theorem r20_eq:r20=.seq (cL r20) r25:=rfl
def sl (t:Array Value)(k:Nat):Value:=t.getD k undef
theorem t161 (t:Array Value)(h:t.size=161):t=#[sl t 0,sl t 1,sl t 2,sl t 3,sl t 4,sl t 5,sl t 6,sl t 7,sl t 8,sl t 9,sl t 10,sl t 11,sl t 12,sl t 13,sl t 14,sl t 15,sl t 16,sl t 17,sl t 18,sl t 19,sl t 20,sl t 21,sl t 22,sl t 23,sl t 24,sl t 25,sl t 26,sl t 27,sl t 28,sl t 29,sl t 30,sl t 31,sl t 32,sl t 33,sl t 34,sl t 35,sl t 36,sl t 37,sl t 38,sl t 39,sl t 40,sl t 41,sl t 42,sl t 43,sl t 44,sl t 45,sl t 46,sl t 47,sl t 48,sl t 49,sl t 50,sl t 51,sl t 52,sl t 53,sl t 54,sl t 55,sl t 56,sl t 57,sl t 58,sl t 59,sl t 60,sl t 61,sl t 62,sl t 63,sl t 64,sl t 65,sl t 66,sl t 67,sl t 68,sl t 69,sl t 70,sl t 71,sl t 72,sl t 73,sl t 74,sl t 75,sl t 76,sl t 77,sl t 78,sl t 79,sl t 80,sl t 81,sl t 82,sl t 83,sl t 84,sl t 85,sl t 86,sl t 87,sl t 88,sl t 89,sl t 90,sl t 91,sl t 92,sl t 93,sl t 94,sl t 95,sl t 96,sl t 97,sl t 98,sl t 99,sl t 100,sl t 101,sl t 102,sl t 103,sl t 104,sl t 105,sl t 106,sl t 107,sl t 108,sl t 109,sl t 110,sl t 111,sl t 112,sl t 113,sl t 114,sl t 115,sl t 116,sl t 117,sl t 118,sl t 119,sl t 120,sl t 121,sl t 122,sl t 123,sl t 124,sl t 125,sl t 126,sl t 127,sl t 128,sl t 129,sl t 130,sl t 131,sl t 132,sl t 133,sl t 134,sl t 135,sl t 136,sl t 137,sl t 138,sl t 139,sl t 140,sl t 141,sl t 142,sl t 143,sl t 144,sl t 145,sl t 146,sl t 147,sl t 148,sl t 149,sl t 150,sl t 151,sl t 152,sl t 153,sl t 154,sl t 155,sl t 156,sl t 157,sl t 158,sl t 159,sl t 160]:=by
 have h1:t.toList=(List.range 161).map (sl t):=by
  apply List.ext_getElem
  ·simp [h]
  ·intro i h1 h2
   simp [sl] at h1 ⊢
   rw [Array.getElem?_eq_getElem h1]
   rfl
 have h2:(List.range 161).map (sl t)=[sl t 0,sl t 1,sl t 2,sl t 3,sl t 4,sl t 5,sl t 6,sl t 7,sl t 8,sl t 9,sl t 10,sl t 11,sl t 12,sl t 13,sl t 14,sl t 15,sl t 16,sl t 17,sl t 18,sl t 19,sl t 20,sl t 21,sl t 22,sl t 23,sl t 24,sl t 25,sl t 26,sl t 27,sl t 28,sl t 29,sl t 30,sl t 31,sl t 32,sl t 33,sl t 34,sl t 35,sl t 36,sl t 37,sl t 38,sl t 39,sl t 40,sl t 41,sl t 42,sl t 43,sl t 44,sl t 45,sl t 46,sl t 47,sl t 48,sl t 49,sl t 50,sl t 51,sl t 52,sl t 53,sl t 54,sl t 55,sl t 56,sl t 57,sl t 58,sl t 59,sl t 60,sl t 61,sl t 62,sl t 63,sl t 64,sl t 65,sl t 66,sl t 67,sl t 68,sl t 69,sl t 70,sl t 71,sl t 72,sl t 73,sl t 74,sl t 75,sl t 76,sl t 77,sl t 78,sl t 79,sl t 80,sl t 81,sl t 82,sl t 83,sl t 84,sl t 85,sl t 86,sl t 87,sl t 88,sl t 89,sl t 90,sl t 91,sl t 92,sl t 93,sl t 94,sl t 95,sl t 96,sl t 97,sl t 98,sl t 99,sl t 100,sl t 101,sl t 102,sl t 103,sl t 104,sl t 105,sl t 106,sl t 107,sl t 108,sl t 109,sl t 110,sl t 111,sl t 112,sl t 113,sl t 114,sl t 115,sl t 116,sl t 117,sl t 118,sl t 119,sl t 120,sl t 121,sl t 122,sl t 123,sl t 124,sl t 125,sl t 126,sl t 127,sl t 128,sl t 129,sl t 130,sl t 131,sl t 132,sl t 133,sl t 134,sl t 135,sl t 136,sl t 137,sl t 138,sl t 139,sl t 140,sl t 141,sl t 142,sl t 143,sl t 144,sl t 145,sl t 146,sl t 147,sl t 148,sl t 149,sl t 150,sl t 151,sl t 152,sl t 153,sl t 154,sl t 155,sl t 156,sl t 157,sl t 158,sl t 159,sl t 160]:=rfl
 rw [h2] at h1
 exact Array.toList_inj.1 h1
structure S5 (a:Act)(v2 v3 v4 v7 v8 v10:Value):Prop where
 size:a.tmps.size=161
 defers:a.defers=[]
 e2:sl a.tmps 2=v2
 e3:sl a.tmps 3=v3
 e4:sl a.tmps 4=v4
 e7:sl a.tmps 7=v7
 e8:sl a.tmps 8=v8
 e10:sl a.tmps 10=v10
theorem S5.eq {a:Act}{v2 v3 v4 v7 v8 v10:Value}(h:S5 a v2 v3 v4 v7 v8 v10):∃t:Array Value,a={ tmps:=#[sl t 0,sl t 1,v2,v3,v4,sl t 5,sl t 6,v7,v8,sl t 9,v10,sl t 11,sl t 12,sl t 13,sl t 14,sl t 15,sl t 16,sl t 17,sl t 18,sl t 19,sl t 20,sl t 21,sl t 22,sl t 23,sl t 24,sl t 25,sl t 26,sl t 27,sl t 28,sl t 29,sl t 30,sl t 31,sl t 32,sl t 33,sl t 34,sl t 35,sl t 36,sl t 37,sl t 38,sl t 39,sl t 40,sl t 41,sl t 42,sl t 43,sl t 44,sl t 45,sl t 46,sl t 47,sl t 48,sl t 49,sl t 50,sl t 51,sl t 52,sl t 53,sl t 54,sl t 55,sl t 56,sl t 57,sl t 58,sl t 59,sl t 60,sl t 61,sl t 62,sl t 63,sl t 64,sl t 65,sl t 66,sl t 67,sl t 68,sl t 69,sl t 70,sl t 71,sl t 72,sl t 73,sl t 74,sl t 75,sl t 76,sl t 77,sl t 78,sl t 79,sl t 80,sl t 81,sl t 82,sl t 83,sl t 84,sl t 85,sl t 86,sl t 87,sl t 88,sl t 89,sl t 90,sl t 91,sl t 92,sl t 93,sl t 94,sl t 95,sl t 96,sl t 97,sl t 98,sl t 99,sl t 100,sl t 101,sl t 102,sl t 103,sl t 104,sl t 105,sl t 106,sl t 107,sl t 108,sl t 109,sl t 110,sl t 111,sl t 112,sl t 113,sl t 114,sl t 115,sl t 116,sl t 117,sl t 118,sl t 119,sl t 120,sl t 121,sl t 122,sl t 123,sl t 124,sl t 125,sl t 126,sl t 127,sl t 128,sl t 129,sl t 130,sl t 131,sl t 132,sl t 133,sl t 134,sl t 135,sl t 136,sl t 137,sl t 138,sl t 139,sl t 140,sl t 141,sl t 142,sl t 143,sl t 144,sl t 145,sl t 146,sl t 147,sl t 148,sl t 149,sl t 150,sl t 151,sl t 152,sl t 153,sl t 154,sl t 155,sl t 156,sl t 157,sl t 158,sl t 159,sl t 160],defers:=[] }:=by
 obtain ⟨t,d⟩:=a
 obtain ⟨h1,h2,h3,h4,h5,h6,h7,h8⟩:=h
 dsimp only at h1 h2 h3 h4 h5 h6 h7 h8
 refine ⟨t,?_⟩
 rw [h2]
 have e:=t161 t h1
 rw [h3,h4,h5,h6,h7,h8] at e
 exact congrArg (fun x=>Act.mk x []) e
def At5 (P:Act->World->Prop):Exit->Act->World->Prop
 | .normal,a,w=>P a w
 | _,_,_=>False
structure Bx (w W:World)(x0:Nat)(v:Value)(q:Int)(l:List PMsg):Prop where
 b0:Blk W x0 54 #[v]
 b1:Blk W (x0+1) 3 #[.int .i64 q]
 b2:Blk W (x0+2) 4 #[.bool false]
 lo:w.heap.size=x0
 gr:w.grownBy W none
 big:x0+2<W.heap.size
 ms:Msgs w v l
 good:∀m ∈ l,GoodM m
theorem Bx.grown {w W W':World}{x0:Nat}{v:Value}{q:Int}{l:List PMsg}(h:Bx w W x0 v q l)(hg:W.grownBy W' none):Bx w W' x0 v q l:=⟨h.b0.grown hg (by simp),h.b1.grown hg (by simp),h.b2.grown hg (by simp),h.lo,grown_trans h.gr hg,by have h1:=hg.size;have h2:=h.big;omega,h.ms,h.good⟩
def AfterA (w W:World)(x0:Nat)(v:Value)(q:Int)(l:List PMsg)(a:Act)(W':World):Prop:=∃v7 v8 v10,S5 a (.pointer (some ⟨x0,0,none⟩)) (.pointer (some ⟨x0+1,0,none⟩)) (.pointer (some ⟨x0+2,0,none⟩)) v7 v8 v10/\Bx w W' x0 v q l/\W.grownBy W' none
end L5
end Go.Proofs.YtncbdhdfemidlaaGreat
namespace Go.Proofs.YtncbdhdfemidlaaGreat
open Go.RowKit Disk Table L5
open _root_.Go.Proofs.YtncbdhdfemidlaaGreat.Calls _root_.Go.Proofs.YtncbdhdfemidlaaGreat.Command
theorem partA (a:Act)(w W:World)(x0:Nat)(v:Value)(q:Int)(l:List PMsg)(v7 v8 v10:Value)
  (hS:S5 a (.pointer (some ⟨x0,0,none⟩)) (.pointer (some ⟨x0+1,0,none⟩)) (.pointer (some ⟨x0+2,0,none⟩)) v7 v8 v10) (hB:Bx w W x0 v q l) :
  pA.wp Tryz.prog (At5 (AfterA w W x0 v q l)) a W:=by
 have HB:Hid (Bx w W x0 v q l):=hB
 obtain ⟨ao,n,cap,rfl,hn,hn',_⟩:=msgs_open hB.ms
 have HS:Hid (Msgs w (.slice ao n cap) l/\(∀m ∈ l,GoodM m)/\True/\l.length=n):=⟨hB.ms,hB.good,trivial,hn⟩
 have HW:Hid (True/\Blk W x0 54 #[.slice ao n cap]/\True/\True/\w.grownBy W none/\True):=⟨trivial,hB.b0,trivial,trivial,hB.gr,trivial⟩
 obtain ⟨t,rfl⟩:=hS.eq
 obtain ⟨x1,hx1⟩:∃x,x0+1=x:=⟨_,rfl⟩
 obtain ⟨x2,hx2⟩:∃x,x0+2=x:=⟨_,rfl⟩
 have HX:Hid (x0+1=x1/\x0+2=x2):=⟨hx1,hx2⟩
 rw [hx1,hx2]
 clear hS hB hn hx1 hx2
 unfold pA b5
 dsimp only [Tryz.f5,Option.getD,cL,cR]
 go_wp2_with fail
 go_loopw [5] (fun p wr=>∃i:Nat,p=.int .i64 (i:Nat)/\i<=n/\Hid (W.grownBy wr none)) (fun p _=>n-(intOf p).toNat)
 case atStart=>exact ⟨0,rfl,Nat.zero_le _,grown_refl _ _⟩
 case round =>
  obtain ⟨i,rfl,hi,G1⟩:=hrel
  have c0:=(HW.out.2.1.grown G1.out (by simp)).cell 0
  simp at c0
  by_cases hlt:i<n
  ·have i1:(i:Int)<(n:Int):=by omega
   have i2:(0:Int)<=(i:Int):=by omega
   go_upto_region 5 with fail
   clear c0
   go_loopw [6] (fun p wr=>∃j:Nat,p=.int .i64 (j:Nat)/\j<=n/\Hid (W.grownBy wr none)) (fun p _=>n-(intOf p).toNat)
   case atStart=>exact ⟨0,rfl,Nat.zero_le _,G1⟩
   case round =>
    obtain ⟨j,rfl,hj,G2⟩:=hrel
    have c0:=(HW.out.2.1.grown G2.out (by simp)).cell 0
    simp at c0
    by_cases hlj:j<n/\j<12
    ·have j1:(j:Int)<(n:Int):=by omega
     have j2:(0:Int)<=(j:Int):=by omega
     have j3:(j:Int)<12:=by omega
     obtain ⟨b,off,o1,o2,o3,a1,a2,a3,e,q1,qo1,qa1⟩:=msgs_at HS.out.1 i (by rw [HS.out.2.2.2];exact hlt)
     obtain ⟨b',off',p1,p2,p3,d1,d2,d3,e',q2,qo2,qa2⟩:=msgs_at HS.out.1 j (by rw [HS.out.2.2.2];omega)
     subst e
     simp at e'
     obtain ⟨rfl,rfl⟩:=e'
     obtain ⟨A,hA⟩:∃m,l[i]'(by rw [HS.out.2.2.2];exact hlt)=m:=⟨_,rfl⟩
     obtain ⟨D,hD⟩:∃m,l[j]'(by rw [HS.out.2.2.2];omega)=m:=⟨_,rfl⟩
     rw [hA] at q1 qo1 qa1
     rw [hD] at q2 qo2 qa2
     have HM:Hid (Ops w (.slice o1 o2 o3) A.ask.ops/\Seg w (.slice a1 a2 a3) A.tell.answer/\Ops w (.slice p1 p2 p3) D.ask.ops/\Seg w (.slice d1 d2 d3) D.tell.answer):=⟨qo1,qa1,qo2,qa2⟩
     have HCC:Hid (∀wk,W.grownBy wk none->wk.cell? ⟨x0,0,none⟩=some (.slice (some ⟨b,off,none⟩) n cap)/\MsAt wk b (off+i*13) (.slice o1 o2 o3) (.slice a1 a2 a3) A/\MsAt wk b (off+j*13) (.slice p1 p2 p3) (.slice d1 d2 d3) D):=fun wk hk=>by
      have g:=grown_trans HW.out.2.2.2.2.1 hk
      have c:=(HW.out.2.1.grown hk (by simp)).cell 0
      simp at c
      exact ⟨c,q1.grown g,q2.grown g⟩
     clear qo1 qa1 qo2 qa2 q1 q2 hA hD
     go_upto_region 7 with fail
     clear c0
     refine wp_region_noPanic ?_
     refine wp_region_hold 1000 (fun y=>W.grownBy y none) (by kernel_rfl) ?_
     have G0:Hid (W.grownBy wr.drew none):=grown_trans G2.out (grown_drew _ _)
     generalize wr.drew=wd at G0 ⊢
     have J:Idx [0,1,2,3,4,5,6,7,9,10,11,12,13,14,15,16]:=trivial
     iterate 16 (refine tK J (G0.out) rfl rfl (fun wk hk=>by obtain ⟨m0,⟨k0,k1,k2,k3,k4,k5,k6,k7,k8,k9,k10,k11,k12⟩,⟨n0,n1,n2,n3,n4,n5,n6,n7,n8,n9,n10,n11,n12⟩⟩:=HCC.out wk hk;rw [Nat.add_zero] at k0 n0;go_simp;try rfl) ?_;replace J:=J.tl;try simp only [pN])
     clear J
     refine wpHold_one (i:=8) rfl (by kernel_rfl) (by rfl) (fun K hK=>?_)
     go_wp2_with fail
     refine (same15 (.slice o1 o2 o3) (.slice a1 a2 a3) (.slice p1 p2 p3) (.slice d1 d2 d3) A D wd (HM.out.1.grown (grown_trans HW.out.2.2.2.2.1 G0.out)) (HM.out.2.1.grown (grown_trans HW.out.2.2.2.2.1 G0.out)) (HM.out.2.2.1.grown (grown_trans HW.out.2.2.2.2.1 G0.out)) (HM.out.2.2.2.grown (grown_trans HW.out.2.2.2.2.1 G0.out))).mono ?_
     rintro e we ⟨rfl,ge⟩
     have G3:Hid (W.grownBy we none):=grown_trans G0.out ge
     clear ge G0
     go_wp2_with fail
     refine hK.out _ _ (fun _=>G3.out) ?_
     clear hK K
     try simp only [pN]
     refine wpHold_one (i:=17) rfl (by kernel_rfl) (by rfl) (fun K hK=>?_)
     go_wp2_with fail
     refine (same16m (.slice o1 o2 o3) (.slice a1 a2 a3) (.slice p1 p2 p3) (.slice d1 d2 d3) A D we (HM.out.1.grown (grown_trans HW.out.2.2.2.2.1 G3.out)) (HM.out.2.1.grown (grown_trans HW.out.2.2.2.2.1 G3.out)) (HM.out.2.2.1.grown (grown_trans HW.out.2.2.2.2.1 G3.out)) (HM.out.2.2.2.grown (grown_trans HW.out.2.2.2.2.1 G3.out))).mono ?_
     rintro e wf ⟨rfl,gf⟩
     have G4:Hid (W.grownBy wf none):=grown_trans G3.out gf
     clear gf G3
     go_wp2_with fail
     refine hK.out _ _ (fun _=>G4.out) ?_
     clear hK K
     try simp only [pN]
     have hne:(decide (A=D) != decide (A=D))=false:=by simp
     have J:Idx [18]:=trivial
     refine tK J (G4.out) rfl rfl (fun wk hk=>by go_simp;try rfl) ?_
     clear J
     try simp only [pN]
     refine wpHold_done (by kernel_rfl) (NoPanic.normal ?_)
     refine (‹∀(a:Act) (w:World),Code.wp Tryz.prog _ (Exit.inBlock 3 _) a w->_› _ _ ?_)
     go_wp2_with fail
     go_roundw
     case rel=>exact ⟨j+1,by go_num,by omega,G4⟩
     case measure=>simp [intOf];omega
    ·by_cases hjn:j<n
     ·have j1:(j:Int)<(n:Int):=by omega
      have j3:¬(j:Int)<12:=by omega
      go_wp2_with fail
      go_roundw
      case rel=>exact ⟨i+1,by go_num,by omega,G2⟩
      case measure=>simp [intOf];omega
     ·have j1:¬(j:Int)<(n:Int):=by omega
      go_wp2_with fail
      go_roundw
      case rel=>exact ⟨i+1,by go_num,by omega,G2⟩
      case measure=>simp [intOf];omega
  ·have i1:¬(i:Int)<(n:Int):=by omega
   go_wp2_with fail
   rw [<-HX.out.1,<-HX.out.2]
   exact ⟨_,_,_,⟨rfl,rfl,rfl,rfl,rfl,rfl,rfl,rfl⟩,HB.out.grown G1.out,G1.out⟩
end Go.Proofs.YtncbdhdfemidlaaGreat
