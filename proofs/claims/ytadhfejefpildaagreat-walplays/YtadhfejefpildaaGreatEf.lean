import Derived.Test.YtadhfejefpildaaGreatEe
set_option maxHeartbeats 2000000
set_option maxRecDepth 100000
namespace Go.Proofs.YtadhfejefpildaaGreat
open Go.RowKit Disk
open Go.Proofs.YtadhfejefpildaaGreat.Calls
open Go.Proofs.YtadhfejefpildaaGreat.Command
open Go.Proofs.YtadhfejefpildaaGreat.Frame (Frs)
def l_ (w:World)(b off:Nat)(o1:Option Addr)(o2 o3:Nat)(c:PCmd):Prop:=w.cell? ⟨b,off,none⟩=some (.int .i64 c.kind)/\w.cell? ⟨b,off+1,none⟩=some (.int .i64 c.token)/\w.cell? ⟨b,off+2,none⟩=some (.int .i64 c.session)/\w.cell? ⟨b,off+3,none⟩=some (.int .i64 c.number)/\w.cell? ⟨b,off+4,none⟩=some (.int .i64 c.mark)/\w.cell? ⟨b,off+5,none⟩=some (.slice o1 o2 o3)
theorem l_.grown {w w':World}{b off:Nat}{o1:Option Addr}{o2 o3:Nat}{c:PCmd}(h:l_ w b off o1 o2 o3 c)(hg:w.grownBy w' none):l_ w' b off o1 o2 o3 c:=⟨hg.cell h.1 (by simp),hg.cell h.2.1 (by simp),hg.cell h.2.2.1 (by simp),hg.cell h.2.2.2.1 (by simp),hg.cell h.2.2.2.2.1 (by simp),hg.cell h.2.2.2.2.2 (by simp)⟩
def Cmds (w:World)(v:Value)(cs:List PCmd):Prop:=∃ao cap,v=.slice ao cs.length cap/\cs.length<=cap/\cap<=9223372036854775807/\cs.length<=2199023255488/\∀j (hj:j<cs.length),∃b off o1 o2 o3,ao=some ⟨b,off,none⟩/\l_ w b (off+j*6) o1 o2 o3 cs[j]/\Ops w (.slice o1 o2 o3) cs[j].ops/\InC cs[j]
theorem Cmds.grown {w w':World}{v:Value}{cs:List PCmd}(h:Cmds w v cs)(hg:w.grownBy w' none):Cmds w' v cs:=by
 obtain ⟨ao,cap,h1,h2,h3,h3',h4⟩:=h
 refine ⟨ao,cap,h1,h2,h3,h3',fun j hj=>?_⟩
 obtain ⟨b,off,o1,o2,o3,e,hc,g1,g2⟩:=h4 j hj
 exact ⟨b,off,o1,o2,o3,e,hc.grown hg,g1.grown hg,g2⟩
theorem eS {w:World}{v:Value}{cs:List PCmd}(h:Cmds w v cs):∃ao n cap,v=.slice ao n cap/\cs.length=n/\n<=cap/\cap<=9223372036854775807/\n<=2199023255488/\Hid (Cmds w (.slice ao n cap) cs):=by
 have h':=h
 obtain ⟨ao,cap,rfl,h2,h3,h4,_⟩:=h'
 exact ⟨ao,_,cap,rfl,rfl,h2,h3,h4,h⟩
theorem iZ {w:World}{ao:Option Addr}{n cap:Nat}{cs:List PCmd}(h:Cmds w (.slice ao n cap) cs)(j:Nat)(hj:j<cs.length):∃b off o1 o2 o3,ao=some ⟨b,off,none⟩/\l_ w b (off+j*6) o1 o2 o3 cs[j]/\Ops w (.slice o1 o2 o3) cs[j].ops/\InC cs[j]:=by
 obtain ⟨ao',cap',e,_,_,_,h4⟩:=h
 simp at e
 obtain ⟨rfl,rfl,rfl⟩:=e
 exact h4 j hj
theorem oO {w:World}{v:Value}{cs:List PCmd}(h:Cmds w v cs):∀c ∈ cs,InC c:=by
 obtain ⟨ao,cap,_,_,_,_,h4⟩:=h
 intro c hc
 obtain ⟨j,hj,rfl⟩:=List.getElem_of_mem hc
 obtain ⟨_,_,_,_,_,_,_,_,h⟩:=h4 j hj
 exact h
theorem nM (o1:Option Addr)(o2 o3:Nat)(c:PCmd)(w:World)(h:Ops w (.slice o1 o2 o3) c.ops)(hI:InC c):Calls Tryz.prog 92 #[cmdV (.slice o1 o2 o3) c] w fun e w'=>e=.returned (.bool (!okC c))/\w.grownBy w' none:=by
 have H0:Hid (Ops w (.slice o1 o2 o3) c.ops/\InC c):=⟨h,hI⟩
 clear h hI
 unfold cmdV
 go_enter Tryz.func92,Tryz.ntmps92
 go_upto_region 1 with fail
 obtain ⟨W,hW,HW⟩:=al1 w #[.int .i64 c.kind,.int .i64 c.token,.int .i64 c.session,.int .i64 c.number,.int .i64 c.mark,.slice o1 o2 o3] 32
 rw [hW]
 clear hW
 have c0:=HW.out.1.cell 0
 have c1:=HW.out.1.cell 1
 have c2:=HW.out.1.cell 2
 have c3:=HW.out.1.cell 3
 have c4:=HW.out.1.cell 4
 have c5:=HW.out.1.cell 5
 simp at c0 c1 c2 c3 c4 c5
 go_wp2_with fail
 refine (oB (.slice o1 o2 o3) c W (H0.out.1.grown HW.out.2.1) H0.out.2).mono ?_
 rintro e w1 ⟨rfl,g1⟩
 have H1:Hid (w.grownBy w1 none):=aa HW.out.2.1 g1
 unfold chkC
 clear g1 c0 c1 c2 c3 c4 c5
 cases hok:okC c
 ·simp only [Bool.false_eq_true,if_false]
  go_wp2_with fail
  go_ret
  exact ⟨by simp [hok],H1.out⟩
 ·simp only [if_true]
  go_wp2_with fail
  go_ret
  exact ⟨by simp [hok],H1.out⟩
def IdxP (cs:List PCmd)(w:World)(x:Ending)(w':World):Prop:=w.grownBy w' none/\(((∀c ∈ cs,okC c=true)/\x=.returned (.int .i64 (-1)))\/((∃c ∈ cs,okC c=false)/\∃k:Nat,x=.returned (.int .i64 k)))
theorem rS (v:Value)(cs:List PCmd)(w:World)(h:Cmds w v cs):Calls Tryz.prog 114 #[v,.func (.func 92) #[] #[]] w (IdxP cs w):=by
 obtain ⟨ao,n,cap,rfl,hn,h1,h2,h3,HC⟩:=eS h
 have HN:Hid (cs.length=n):=hn
 clear h hn
 go_enter Tryz.func114,Tryz.ntmps114
 go_wp2_with fail
 go_loopw [5,8] (fun _ t wr=>∃k:Nat,t=.int .i64 (k:Int)/\k<=n/\Hid (w.grownBy wr none/\∀c ∈ cs.take k,okC c=true)) (fun _ t _=>n-(intOf t).toNat)
 case atStart=>exact ⟨0,rfl,Nat.zero_le _,aj _ _,by simp⟩
 case round =>
  obtain ⟨k,rfl,hk,HG⟩:=hrel
  by_cases hlt:k<n
  ·have hkl:k<cs.length:=by rw [HN.out];exact hlt
   obtain ⟨b,off,o1,o2,o3,rfl,hat,hops,hin⟩:=iZ HC.out k hkl
   obtain ⟨e0,e1,e2,e3,e4,e5⟩:=hat.grown HG.out.1
   have HO:Hid (Ops w (.slice o1 o2 o3) cs[k].ops/\InC cs[k]):=⟨hops,hin⟩
   have i0:(0:Int)<=(k:Int):=by omega
   have i1:(k:Int)<(n:Int):=by omega
   obtain ⟨c,hc⟩:∃c,cs[k]=c:=⟨_,rfl⟩
   have HCK:Hid (cs[k]=c):=hc
   rw [hc] at HO e0 e1 e2 e3 e4
   clear hat hops hin hc
   go_wp2_with fail
   refine (nM o1 o2 o3 c wr (HO.out.1.grown HG.out.1) HO.out.2).mono ?_
   rintro e w1 ⟨rfl,g1⟩
   have HG1:Hid (w.grownBy w1 none):=aa HG.out.1 g1
   clear g1 e0 e1 e2 e3 e4 e5
   cases hok:okC c
   ·have HB:Hid (∃c ∈ cs,okC c=false):=⟨c,by rw [<-HCK.out];exact List.getElem_mem _,hok⟩
    simp only [Bool.not_false]
    clear hok
    go_wp2_with fail
    go_ret
    exact ⟨HG1.out,.inr ⟨HB.out,k,rfl⟩⟩
   ·have HB:Hid (∀d ∈ cs.take (k+1),okC d=true):=fun d hd=>by
     rw [List.take_succ_eq_append_getElem hkl,List.mem_append] at hd
     rcases hd with hd | hd
     ·exact HG.out.2 d hd
     ·simp at hd
      rw [hd,HCK.out]
      exact hok
    simp only [Bool.not_true]
    clear hok
    go_wp2_with fail
    go_roundw
    case rel=>exact ⟨k+1,by go_num,by omega,HG1.out,HB.out⟩
    case measure=>simp [intOf];omega
  ·have e:k=n:=by omega
   subst e
   have HA:Hid (∀c ∈ cs,okC c=true):=fun c hc=>HG.out.2 c (by rw [<-HN.out,List.take_length];exact hc)
   go_wp2_with fail
   go_ret
   exact ⟨HG.out.1,.inl ⟨HA.out,rfl⟩⟩
def dg (cs:List PCmd):Bool:=cs.all fun c=>okC c
theorem nN (v:Value)(cs:List PCmd)(w:World)(h:Cmds w v cs):Calls Tryz.prog 91 #[v,.func (.func 92) #[] #[]] w fun e w'=>e=.returned (.bool (!dg cs))/\w.grownBy w' none:=by
 obtain ⟨ao,n,cap,rfl,hn,h1,h2,h3,HC⟩:=eS h
 clear h hn
 go_enter Tryz.func91,Tryz.ntmps91
 go_wp2_with fail
 refine (rS (.slice ao n cap) cs w HC.out).mono ?_
 rintro e w1 ⟨g1,hx⟩
 have HG:Hid (w.grownBy w1 none):=g1
 clear g1
 rcases hx with ⟨ha,rfl⟩ | ⟨⟨c,hc,hb⟩,k,rfl⟩
 ·have HA:Hid (dg cs=true):=by
   show dg cs=true
   simp [dg]
   exact ha
  clear ha
  go_wp2_with fail
  go_ret
  exact ⟨by rw [HA.out];rfl,HG.out⟩
 ·have HA:Hid (dg cs=false):=by
   show dg cs=false
   simp [dg]
   exact ⟨c,hc,hb⟩
  have i0:(0:Int)<=(k:Int):=by omega
  clear hc hb
  go_wp2_with fail
  go_ret
  exact ⟨by rw [HA.out];rfl,HG.out⟩
end Go.Proofs.YtadhfejefpildaaGreat
