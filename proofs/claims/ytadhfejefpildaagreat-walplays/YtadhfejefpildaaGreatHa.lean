import Derived.Test.YtadhfejefpildaaGreatEh
set_option maxHeartbeats 1000000
set_option maxRecDepth 100000
namespace Go.Proofs.YtadhfejefpildaaGreat
open Go.RowKit Disk Table
open Go.Proofs.YtadhfejefpildaaGreat.Calls
open Go.Proofs.YtadhfejefpildaaGreat.Command
open Go.Proofs.YtadhfejefpildaaGreat.Frame (Frs)
theorem fq (w:World):Calls Tryz.prog 58 #[.pointer none] w fun e w'=>e=.returned (.bool true)/\w.grownBy w' none:=by
 go_enter Tryz.func58,Tryz.ntmps58
 go_wp2_with fail
 refine (nG _ w (.inl rfl)).mono ?_
 rintro e w1 ⟨rfl,hw⟩
 subst hw
 go_wp2_with fail
 refine (nH _ w1 (.inl rfl)).mono ?_
 rintro e w2 ⟨rfl,hw⟩
 subst hw
 go_wp2_with fail
 go_ret
 exact ⟨rfl,aj _ _⟩
theorem jW (ao:Option Addr)(m cap:Nat)(n:Int)(w:World):Calls Tryz.prog 54 #[.pointer none,.int .i64 n,.slice ao m cap] w fun e w'=>e=.returned (.int .i64 1)/\w.grownBy w' none:=by
 go_enter Tryz.func54,Tryz.ntmps54
 go_wp2_with fail
 refine (fq w).mono ?_
 rintro e w1 ⟨rfl,g1⟩
 go_wp2_with fail
 go_ret
 exact ⟨rfl,g1⟩
theorem lm (ao:Option Addr)(m cap:Nat)(n:Int)(w:World):Calls Tryz.prog 23 #[.pointer none,.int .i64 n,.slice ao m cap] w fun e w'=>e=.returned (.tuple #[.int .i64 0,.int .i64 1])/\w.grownBy w' none:=by
 go_enter Tryz.func23,Tryz.ntmps23
 go_wp2_with fail
 refine wp_scope_straight ?_
 go_wp2_with fail
 refine (jW ao m cap n w).mono ?_
 rintro e w1 ⟨rfl,g1⟩
 go_wp2_with fail
 first | rw [Exit.noGoto_ret] | skip
 go_ret2
 exact ⟨rfl,g1⟩
theorem nS (w:World):Calls Tryz.prog 33 #[.pointer none] w fun e w'=>e=.returned (.tuple #[.agg #[.slice none 0 0,.int .i64 0,.int .i64 0,.int .i64 0],.int .i64 1])/\w.grownBy w' none:=by
 go_enter Tryz.func33,Tryz.ntmps33
 go_upto_region 1 with fail
 obtain ⟨w1,hw1,H1⟩:=al1 w #[.slice none 0 0,.int .i64 0,.int .i64 0,.int .i64 0] 38
 rw [hw1]
 clear hw1
 obtain ⟨rb,hrb⟩:∃x,w.heap.size=x:=⟨_,rfl⟩
 have HR:Hid (w.heap.size=rb):=hrb
 rw [hrb] at H1 ⊢
 clear hrb
 go_wp2_with fail
 refine (fq w1).mono ?_
 rintro e w2 ⟨rfl,g2⟩
 have H2:Hid (w.grownBy w2 none/\Blk w2 rb 38 #[.slice none 0 0,.int .i64 0,.int .i64 0,.int .i64 0]):=⟨aa H1.out.2.1 g2,H1.out.1.grown g2 (by simp)⟩
 clear g2 H1
 obtain ⟨c0,c1,c2,c3⟩:=blk4 H2.out.2
 obtain ⟨f0,f1,f2,f3⟩:=eQ H2.out.2
 go_wp2_with fail
 obtain ⟨w5,hw5,H5⟩:=set4 H2.out.2 (.slice none 0 0) (.int .i64 0) (.int .i64 0) (.int .i64 0)
 rw [hw5]
 obtain ⟨y0,y1,y2,y3⟩:=blk4 H5.out.1
 have hr:=HR.out
 exact bodyPost_ret (v:=.tuple #[.agg #[.slice none 0 0,.int .i64 0,.int .i64 0,.int .i64 0],.int .i64 1]) (by simp [results,Tryz.results33,go_sem,y0,y1,y2,y3]) rfl ⟨rfl,ah H2.out.1 H5.out.2 (fun x hx=>by simp at hx;omega)⟩
def cnt (A:Nat->Bool):Nat->Nat
 | 0=>0
 | k+1=>if A k=true then cnt A k+1 else cnt A k
theorem nT (A:Nat->Bool):∀k,cnt A k<=k
 | 0=>Nat.le_refl _
 | k+1=>by have:=nT A k;unfold cnt;split <;> omega
theorem i9 {A:Nat->Bool}(h:∀k,A (k+1)=true->A k=true):∀k,A k=true->cnt A (k+1)=k+1
 | 0,hk=>by simp [cnt,hk]
 | k+1,hk=>by
  have:=i9 h k (h k hk)
  unfold cnt
  rw [if_pos hk,this]
theorem nU {A:Nat->Bool}{k:Nat}(hk:A k=false):cnt A (k+1)=cnt A k:=by
 conv=>lhs;unfold cnt
 rw [if_neg (by simp [hk])]
theorem t8 {A:Nat->Bool}{k:Nat}(hk:A k=true):cnt A (k+1)=cnt A k+1:=by
 conv=>lhs;unfold cnt
 rw [if_pos hk]
theorem anti {A:Nat->Bool}(h:∀k,A (k+1)=true->A k=true):∀d j,A (j+d)=true->A j=true
 | 0,_,hj=>hj
 | d+1,j,hj=>anti h d j (h _ hj)
theorem jJ {A:Nat->Bool}(h:∀k,A (k+1)=true->A k=true){k:Nat}(hk:A k=false):∀m,cnt A (k+m)=cnt A k
 | 0=>rfl
 | m+1=>by
  have hf:A (k+m)=false:=by
   cases hh:A (k+m)
   ·rfl
   ·have:=anti h m k hh
    rw [hk] at this
    cases this
  rw [<-Nat.add_assoc,nU hf]
  exact jJ h hk m
theorem mr {A:Nat->Bool}(h:∀k,A (k+1)=true->A k=true):∀k j,j<cnt A k->A j=true
 | 0,j,hj=>by simp [cnt] at hj
 | k+1,j,hj=>by
  cases hk:A k
  ·rw [nU hk] at hj
   exact mr h k j hj
  ·rw [i9 h k hk] at hj
   refine anti h (k-j) j ?_
   rw [show j+(k-j)=k by omega]
   exact hk
def cutA (fs:Frs)(n:Int)(sure:Nat)(k:Nat):Bool:=match (az 0 fs).1[k]? with
 | some e=>decide (e.1<=n) && decide (aR fs (k+1)<=sure)
 | none=>false
theorem ft {fs:Frs}{n:Int}{sure k:Nat}(h:k<(az 0 fs).1.length):(cutA fs n sure k=true<->(az 0 fs).1[k].1<=n/\aR fs (k+1)<=sure):=by
 unfold cutA
 rw [List.getElem?_eq_getElem h]
 simp
theorem jK {fs:Frs}{k:Nat}(h:k<(az 0 fs).1.length):aR fs (k+1)=aR fs k+(Frame.frm 1 (bt (az 0 fs).1[k])).length:=by
 have hk:k<fs.length:=Nat.lt_of_lt_of_le h (cP fs 0)
 unfold aR
 rw [Frame.fL fs k hk,(fj h).2.2,List.length_append]
 rfl
theorem eV (fs:Frs)(n:Int)(sure:Nat)(k:Nat)(h:cutA fs n sure (k+1)=true):cutA fs n sure k=true:=by
 by_cases hl:k+1<(az 0 fs).1.length
 ·rw [ft hl] at h
  have hk:k<(az 0 fs).1.length:=by omega
  rw [ft hk]
  have h1:=(gZ fs 0 (k+1) hl (Nat.lt_of_lt_of_le hl (cP fs 0))).2
  have h2:=(bZ.1 (fj hk).1).1
  have h3:=jK hl
  simp only [cT,List.getElem?_eq_getElem hk] at h1
  exact ⟨by omega,by omega⟩
 ·unfold cutA at h
  rw [List.getElem?_eq_none (by omega)] at h
  cases h
def cutN (fs:Frs)(n:Int)(sure:Nat):Nat:=cnt (cutA fs n sure) (az 0 fs).1.length
theorem t_ (fs:Frs)(n:Int)(sure:Nat):cutN fs n sure<=(az 0 fs).1.length:=nT _ _
theorem gk (fs:Frs)(n:Int)(sure:Nat):aR fs (cutN fs n sure)<=sure:=by
 obtain ⟨m,hm⟩:∃m,cutN fs n sure=m:=⟨_,rfl⟩
 have hle:=t_ fs n sure
 rw [hm] at hle ⊢
 cases m with
 | zero=>simp [aR,Frame.flat]
 | succ j =>
  have:=mr (eV fs n sure) (az 0 fs).1.length j (by unfold cutN at hm;omega)
  exact ((ft (by omega)).1 this).2
def cutS (S:St)(fs:Frs)(n:Int):Int × Int × St:=if n<0 then (0,2,S) else if (az 0 fs).2=false then (0,8,S) else ((cutN fs n S.sure:Nat),0,if cutN fs n S.sure=0 then S else S.drop (aR fs (cutN fs n S.sure):Nat))
def appS (S:St)(n:Int)(cs:List PCmd):Int × Int × St:=if refA n cs=0 then ((fitN (S.cap-S.log.length) n cs:Nat),0,if fitN (S.cap-S.log.length) n cs=0 then S else S.write (aY n (cs.take (fitN (S.cap-S.log.length) n cs)))) else (0,refA n cs,S)
theorem oY {F:Nat->Prop}{v:Value}{S:St}{n:Int}{cs:List PCmd}{w w':World}{x:Ending}(hD:DK w F v S)(h:AppP F v S n cs w x w'):x=.returned (.tuple #[.int .i64 (appS S n cs).1,.int .i64 (appS S n cs).2.1])/\DAft w F w' v (appS S n cs).2.2:=by
 unfold appS
 rcases h with ⟨h1,rfl,g⟩ | ⟨h1,m,hm,rfl,_,hA⟩
 ·rw [if_neg h1]
  exact ⟨rfl,F,hD.grown g,aP g⟩
 ·rw [if_pos h1,hm]
  exact ⟨rfl,hA⟩
theorem vC (F:Nat->Prop)(v:Value)(S:St)(k:Nat)(n:Nat)(w:World)(h:DK w F v S)(hk:k<=1099511627776)(_hn:n<=1099511627776)(hm:S.steps<9223372036854775807)(hf:S.dropBad n=false):Calls Tryz.prog 59 #[.int .i64 k,.func (.func 60) #[v] #[],.int .i64 n] w fun e w'=>e=.returned (.tuple #[.int .i64 k,.int .i64 0])/\DAft w F w' v (if k=0 then S else S.drop n):=by
 have HD:Hid (DK w F v S/\S.steps<9223372036854775807/\S.dropBad n=false):=⟨h,hm,hf⟩
 obtain ⟨b,lv,v0,v1,rfl,hb⟩:=h
 clear hb hm hf
 go_enter Tryz.func59,Tryz.ntmps59
 by_cases h0:k=0
 ·subst h0
  go_wp2_with fail
  go_ret2
  exact ⟨rfl,F,HD.out.1,aP (aj _ _)⟩
 ·have q1:((k:Int)==0)=false:=by simp;omega
  have q2:(k=0)=False:=eq_false h0
  have HK:Hid (¬k=0):=h0
  clear h0
  go_wp2_with fail
  refine (vp F _ S n w HD.out.1 HD.out.2.1).mono ?_
  rintro e w1 ⟨rfl,hA⟩
  have HA:Hid (DAft w F w1 (.pointer (some ⟨b,0,none⟩)) (S.drop n)):=hA
  rw [show S.dropCode n=0 by unfold St.dropCode;rw [HD.out.2.2];rfl]
  clear hA
  go_wp2_with fail
  go_ret2
  exact ⟨rfl,HA.out⟩
end Go.Proofs.YtadhfejefpildaaGreat
