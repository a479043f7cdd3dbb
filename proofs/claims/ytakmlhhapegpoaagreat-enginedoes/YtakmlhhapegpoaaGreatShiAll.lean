import Derived.Test.YtakmlhhapegpoaaGreatSeAll
set_option maxHeartbeats 8000000
set_option maxRecDepth 100000
namespace Go.Proofs.YtakmlhhapegpoaaGreat
open Go.RowKit Disk Table
open Names (Str cmpL keyB valueB tabB)
open _root_.Go.Proofs.YtakmlhhapegpoaaGreat.Calls (POp POut PRes opV OpSeg mayOp Ops OpAt ops_at ops_open chk rds mayCall callForm opForm)
def Cls (w:World)(v:Value)(ls:List (List POp)):Prop:=∃ao cap,v=.slice ao ls.length cap/\ls.length<=cap/\cap<=9223372036854775807/\∀j (hj:j<ls.length),∃b off av n c,ao=some ⟨b,off,none⟩/\w.cell? ⟨b,off+j,none⟩=some (.slice av n c)/\n<=c/\c<=9223372036854775807/\Ops w (.slice av n c) ls[j]
theorem Cls.grown {w w':World}{v:Value}{ls:List (List POp)}(h:Cls w v ls)(hg:w.grownBy w' none):Cls w' v ls:=by
 obtain ⟨ao,cap,h1,h2,h3,h4⟩:=h
 refine ⟨ao,cap,h1,h2,h3,fun j hj=>?_⟩
 obtain ⟨b,off,av,n,c,e,hc,g1,g2,g3⟩:=h4 j hj
 exact ⟨b,off,av,n,c,e,hg.cell hc (by simp),g1,g2,g3.grown hg⟩
theorem cls_open {w:World}{v:Value}{ls:List (List POp)}(h:Cls w v ls):∃ao n cap,v=.slice ao n cap/\ls.length=n/\n<=cap/\cap<=9223372036854775807/\Hid (Cls w (.slice ao n cap) ls):=by
 have h':=h
 obtain ⟨ao,cap,rfl,h2,h3,_⟩:=h'
 exact ⟨ao,_,cap,rfl,rfl,h2,h3,h⟩
theorem cls_at {w:World}{ao:Option Addr}{n cap:Nat}{ls:List (List POp)}(h:Cls w (.slice ao n cap) ls)(j:Nat)(hj:j<ls.length):∃b off av m c,ao=some ⟨b,off,none⟩/\w.cell? ⟨b,off+j,none⟩=some (.slice av m c)/\m<=c/\c<=9223372036854775807/\Ops w (.slice av m c) ls[j]:=by
 obtain ⟨ao',cap',e,_,_,h4⟩:=h
 simp at e
 obtain ⟨rfl,rfl,rfl⟩:=e
 exact h4 j hj
def MuchE (l:List NRow)(ls:List (List POp))(w:World)(e:Ending)(w':World):Prop:=∃mb,e=.returned (.bool mb)/\(mb=false->l.length<=120/\ls.length<=60)/\w.grownBy w' none
theorem much6 (v u:Value)(l:List NRow)(ls:List (List POp))(w:World)(hv:Nms w v l)(hu:Cls w u ls):Calls Tryz.prog 6 #[v,u] w (MuchE l ls w):=by
 obtain ⟨a1,n1,c1,rfl,hn1,hc1,hc1',HV⟩:=nms_open hv
 obtain ⟨a2,n2,c2,rfl,hn2,hc2,hc2',HU⟩:=cls_open hu
 have HN:Hid (l.length=n1/\ls.length=n2):=⟨hn1,hn2⟩
 clear hv hu hn1 hn2
 go_enter Tryz.func6,Tryz.ntmps6
 by_cases hbig:120<n1\/60<n2
 ·by_cases h1:120<n1
  ·have d1:(120:Int)<(n1:Int):=by omega
   clear hbig
   go_wp2_with fail
   go_ret
   exact ⟨_,rfl,(fun h=>by simp at h),grown_refl _ _⟩
  ·have d1:¬((120:Int)<(n1:Int)):=by omega
   have d2:(60:Int)<(n2:Int):=by omega
   clear hbig
   go_wp2_with fail
   go_ret
   exact ⟨_,rfl,(fun h=>by simp at h),grown_refl _ _⟩
 ·have b1:n1<=120:=by omega
  have b2:n2<=60:=by omega
  clear hbig
  have d1:¬((120:Int)<(n1:Int)):=by omega
  have d2:¬((60:Int)<(n2:Int)):=by omega
  go_wp2_with fail
  go_loopw [5,6] (fun s t wr=>∃(k:Nat) (x:Int),t=.int .i64 (k:Int)/\s=.int .i64 x/\k<=n1/\Hid (w.grownBy wr none)) (fun _ t _=>n1-(intOf t).toNat)
  case atStart=>exact ⟨0,0,rfl,rfl,Nat.zero_le _,grown_refl _ _⟩
  case round =>
   obtain ⟨k,x,rfl,rfl,hk,HG⟩:=hrel
   rcases Nat.lt_or_ge k n1 with hlt | hge
   ·have hkl:k<l.length:=by rw [HN.out.1];exact hlt
    obtain ⟨b,off,xv,yv,rfl,e0,e1,e2,s1,s2⟩:=nms_at HV.out k hkl
    obtain ⟨xa,xc,rfl⟩:=s1.shape
    obtain ⟨ya,yc,rfl⟩:=s2.shape
    have i0:(0:Int)<=(k:Int):=by omega
    have i1:(k:Int)<(n1:Int):=by omega
    have HC:Hid (∀y:World,w.grownBy y none->y.cell? ⟨b,off+k*3,none⟩=some (Str l[k].1)/\y.cell? ⟨b,off+k*3+1,none⟩=some (.slice xa l[k].2.1.length xc)/\y.cell? ⟨b,off+k*3+2,none⟩=some (.slice ya l[k].2.2.length yc)):=fun y hy=>⟨hy.cell e0 (by simp),hy.cell e1 (by simp),hy.cell e2 (by simp)⟩
    generalize l[k].1=N at HC
    generalize l[k].2.1.length=y1 at HC
    generalize l[k].2.2.length=y2 at HC
    unfold Str at HC
    clear e0 e1 e2 s1 s2
    go_wp2_with fail
    refine wp_region_noPanic ?_
    refine wp_region_hold 1000 (fun y=>w.grownBy y none) (by kernel_rfl) ?_
    have G0:Hid (w.grownBy wr.drew none):=grown_trans HG.out (grown_drew _ _)
    generalize wr.drew=wd at G0 ⊢
    have J:Idx [0,1,2,3,4,5,6,7,8,9,10,11,12,13,14,15,16,17,18,19,20,21,22,23,24,25]:=trivial
    iterate 26 (refine tK J (G0.out) rfl rfl (fun wk hk=>by obtain ⟨m0,m1,m2⟩:=HC.out wk hk;go_simp;try rfl) ?_;replace J:=J.tl;try simp only [pN])
    clear J
    refine wpHold_done (by kernel_rfl) ?_
    refine (‹∀(a:Act) (w:World),Code.wp Tryz.prog _ _ a w->_› _ _ ?_)
    go_wp2_with fail
    go_roundw
    case rel=>exact ⟨k+1,_,by go_num,rfl,by omega,G0.out⟩
    case measure =>
     simp [intOf]
     omega
   ·obtain rfl:k=n1:=by omega
    have i1:¬((k:Int)<(k:Int)):=by omega
    go_wp2_with fail
    go_loopw [5,7] (fun s t wr=>∃(i:Nat) (x:Int),t=.int .i64 (i:Int)/\s=.int .i64 x/\i<=n2/\Hid (w.grownBy wr none)) (fun _ t _=>n2-(intOf t).toNat)
    case atStart=>exact ⟨0,x,rfl,rfl,Nat.zero_le _,HG.out⟩
    case round =>
     obtain ⟨i,x,rfl,rfl,hi,HG2⟩:=hrel
     rcases Nat.lt_or_ge i n2 with hlt | hge2
     ·have hil:i<ls.length:=by rw [HN.out.2];exact hlt
      obtain ⟨b,off,av,m,c,rfl,hc,hm1,hm2,hops⟩:=cls_at HU.out i hil
      have HO:Hid (Ops w (.slice av m c) ls[i]/\w.cell? ⟨b,off+i,none⟩=some (.slice av m c)):=⟨hops,hc⟩
      have hml:ls[i].length=m:=by
       obtain ⟨_,_,e,_⟩:=hops
       simp at e
       exact e.2.1.symm
      have HML:Hid (ls[i].length=m):=hml
      clear hops hc hml
      have i2:(0:Int)<=(i:Int):=by omega
      have i3:(i:Int)<(n2:Int):=by omega
      go_wp2_with fail
      go_loopw [5,8] (fun s t wr=>∃(h:Nat) (x:Int),t=.int .i64 (h:Int)/\s=.int .i64 x/\h<=m/\h<=20/\Hid (w.grownBy wr none)) (fun _ t _=>20-(intOf t).toNat)
      case atStart=>exact ⟨0,x,rfl,rfl,Nat.zero_le _,by omega,HG2.out⟩
      case round =>
       obtain ⟨h,x,rfl,rfl,hh,hh2,HG3⟩:=hrel
       have q0:=HG3.out.cell HO.out.2 (by simp)
       by_cases hin:h<m/\h<20
       ·have hhl:h<ls[i].length:=by rw [HML.out];exact hin.1
        obtain ⟨b',off',k',x',ol,tt,rfl,hat,hseg⟩:=ops_at HO.out.1 h hhl
        obtain ⟨sa,sb,sc,sd,sa',sb',sc',sd',rfl,rfl,rfl,rfl⟩:=Calls.OpSeg.shapes hseg
        obtain ⟨m0,m1,m2,m3,m4,m5,m6,m7⟩:=Calls.OpAt.grown hat HG3.out
        clear hat hseg
        have j0:(0:Int)<=(h:Int):=by omega
        have j1:(h:Int)<(m:Int):=by omega
        have j2:(h:Int)<20:=by omega
        generalize ls[i][h]=o at m0 m1 m2 m3 m4 m5 m6 m7
        unfold Str at m1
        clear hin
        go_wp2_with fail
        go_roundw
        case rel=>exact ⟨h+1,_,by go_num,rfl,by omega,by omega,grown_trans HG3.out (World.grownBy_alloc _ _ _)⟩
        case measure =>
         simp [intOf]
         omega
       ·by_cases hm:h<m
        ·have j1:(h:Int)<(m:Int):=by omega
         have j2:¬((h:Int)<20):=by omega
         clear hin
         go_wp2_with fail
         go_roundw
         case rel=>exact ⟨i+1,x,by go_num,rfl,by omega,HG3.out⟩
         case measure =>
          simp [intOf]
          omega
        ·have j1:¬((h:Int)<(m:Int)):=by omega
         clear hin
         go_wp2_with fail
         go_roundw
         case rel=>exact ⟨i+1,x,by go_num,rfl,by omega,HG3.out⟩
         case measure =>
          simp [intOf]
          omega
     ·obtain rfl:i=n2:=by omega
      have i4:¬((i:Int)<(i:Int)):=by omega
      go_wp2_with fail
      go_ret
      exact ⟨_,rfl,fun _=>by rw [HN.out.1,HN.out.2];omega,HG2.out⟩
end Go.Proofs.YtakmlhhapegpoaaGreat
