import Derived.Test.YtadhfejefpildaaGreatEf
import Derived.Scope
set_option maxHeartbeats 4000000
set_option maxRecDepth 100000
namespace Go.Proofs.YtadhfejefpildaaGreat
open Go.RowKit Disk
open Go.Proofs.YtadhfejefpildaaGreat.Calls
open Go.Proofs.YtadhfejefpildaaGreat.Command
open Go.Proofs.YtadhfejefpildaaGreat.Frame (Frs)
theorem jz (F:Nat->Prop)(v:Value)(S:St)(w:World)(h:DK w F v S):Calls Tryz.prog 58 #[v] w fun e w'=>e=.returned (.bool false)/\w.grownBy w' none:=by
 have HD:Hid (DK w F v S):=h
 obtain ⟨b,lv,v0,v1,rfl,hb⟩:=h
 have hok:=hb.ok
 clear hb
 go_enter Tryz.func58,Tryz.ntmps58
 go_wp2_with fail
 refine (rM F _ S w HD.out).mono ?_
 rintro e w1 ⟨rfl,g1,_⟩
 have HG:Hid (w.grownBy w1 none):=g1
 clear g1
 obtain ⟨rm,hrm⟩:∃x,S.cap-S.log.length=x:=⟨_,rfl⟩
 rw [hrm]
 by_cases h0:rm=0
 ·subst h0
  have hl:¬S.log.length=0:=by have:=hok.cap1;omega
  have HL:Hid (¬S.log.length=0):=hl
  clear hl hrm hok
  go_wp2_with fail
  refine (oI F _ S w1 (HD.out.grown HG.out)).mono ?_
  rintro e w2 ⟨u,rfl,ou,g2⟩
  obtain ⟨ua,uc,eu⟩:=ou.seg.shape
  subst eu
  have HG2:Hid (w.grownBy w2 none):=aa HG.out g2
  obtain ⟨ln,hln⟩:∃x,S.log.length=x:=⟨_,rfl⟩
  rw [hln] at HL ⊢
  have q1:((ln:Int)==0)=false:=by have:=HL.out;simp;omega
  have q2:(ln=0)=False:=eq_false HL.out
  clear ou g2 hln
  go_wp2_with fail
  go_ret
  exact ⟨by simp,HG2.out⟩
 ·have q1:((rm:Int)==0)=false:=by simp;omega
  have q2:(rm=0)=False:=eq_false h0
  clear hrm h0 hok
  go_wp2_with fail
  go_ret
  exact ⟨by simp,HG.out⟩
def refA (n:Int)(cs:List PCmd):Int:=if n<1\/4611686018427386880<n\/dg cs=false then 2 else if 1024<cs.length then 3 else 0
theorem pY (F:Nat->Prop)(v u:Value)(S:St)(n:Int)(cs:List PCmd)(w:World)(h:DK w F v S)(hc:Cmds w u cs):Calls Tryz.prog 54 #[v,.int .i64 n,u] w fun e w'=>e=.returned (.int .i64 (refA n cs))/\w.grownBy w' none:=by
 obtain ⟨ao,m,cap,rfl,hm,h1,h2,h3,HC⟩:=eS hc
 have HD:Hid (DK w F v S/\cs.length=m):=⟨h,hm⟩
 obtain ⟨b,lv,v0,v1,rfl,hb⟩:=h
 clear hb hc hm
 go_enter Tryz.func54,Tryz.ntmps54
 go_wp2_with fail
 refine (jz F _ S w HD.out.1).mono ?_
 rintro e w1 ⟨rfl,g1⟩
 have HG:Hid (w.grownBy w1 none):=g1
 clear g1
 by_cases n1:n<1
 ·have HR:Hid (refA n cs=2):=by unfold Hid;unfold refA;rw [if_pos (.inl n1)]
  have q1:=eq_true n1
  clear n1
  go_wp2_with fail
  go_ret
  exact ⟨by rw [HR.out];rfl,HG.out⟩
 by_cases n2:4611686018427386880<n
 ·have HR:Hid (refA n cs=2):=by unfold Hid;unfold refA;rw [if_pos (.inr (.inl n2))]
  have q1:=eq_false n1
  have q2:=eq_true n2
  clear n1 n2
  go_wp2_with fail
  go_ret
  exact ⟨by rw [HR.out];rfl,HG.out⟩
 have q1:=eq_false n1
 have q2:=eq_false n2
 have HNN:Hid (¬n<1/\¬4611686018427386880<n):=⟨n1,n2⟩
 clear n1 n2
 go_wp2_with fail
 refine (nN (.slice ao m cap) cs w1 (HC.out.grown HG.out)).mono ?_
 rintro e w2 ⟨rfl,g2⟩
 have HG2:Hid (w.grownBy w2 none):=aa HG.out g2
 clear g2
 obtain ⟨ak,hak⟩:∃x,dg cs=x:=⟨_,rfl⟩
 rw [hak]
 cases ak
 ·have HR:Hid (refA n cs=2):=by unfold Hid;unfold refA;rw [if_pos (.inr (.inr hak))]
  clear hak
  go_wp2_with fail
  go_ret
  exact ⟨by rw [HR.out];rfl,HG2.out⟩
 ·by_cases hl:1024<m
  ·have HR:Hid (refA n cs=3):=by unfold Hid;unfold refA;rw [if_neg (by rw [hak];have:=HNN.out;simp;omega),if_pos (by rw [HD.out.2];exact hl)]
   have q3:((1024:Int)<(m:Int))=True:=eq_true (by omega)
   have q4:(1024<m)=True:=eq_true hl
   clear hak hl
   go_wp2_with fail
   go_ret
   exact ⟨by rw [HR.out];rfl,HG2.out⟩
  ·have HR:Hid (refA n cs=0):=by unfold Hid;unfold refA;rw [if_neg (by rw [hak];have:=HNN.out;simp;omega),if_neg (by rw [HD.out.2];exact hl)]
   have q3:((1024:Int)<(m:Int))=False:=eq_false (by omega)
   have q4:(1024<m)=False:=eq_false hl
   clear hak hl
   go_wp2_with fail
   go_ret
   exact ⟨by rw [HR.out];rfl,HG2.out⟩
def wt (F:Nat->Prop)(v:Value)(S:St)(k:Nat)(M:Bs)(w:World)(x:Ending)(w':World):Prop:=x=.returned (.tuple #[.int .i64 k,.int .i64 0])/\DAft w F w' v (if k=0 then S else S.write M)
theorem rT (F:Nat->Prop)(v u:Value)(S:St)(k:Nat)(M:Bs)(w:World)(h:DK w F v S)(hk:k<=1099511627776)(hm:S.steps<9223372036854775807)(hu:Seg w u M)(hd:∀j,u.ownBlock=some j->¬F j)(hf:S.full M=false):Calls Tryz.prog 56 #[.int .i64 k,.func (.func 31) #[v] #[],u] w (wt F v S k M w):=by
 obtain ⟨ua,uc,eu⟩:=hu.shape
 obtain ⟨ul,hul⟩:∃x,M.length=x:=⟨_,rfl⟩
 rw [hul] at eu
 subst eu
 have HD:Hid (DK w F v S/\S.steps<9223372036854775807/\Seg w (.slice ua ul uc) M/\(∀j,(Value.slice ua ul uc).ownBlock=some j->¬F j)/\S.full M=false):=⟨h,hm,hu,hd,hf⟩
 obtain ⟨b,lv,v0,v1,rfl,hb⟩:=h
 clear hb hm hu hd hf hul
 go_enter Tryz.func56,Tryz.ntmps56
 by_cases h0:k=0
 ·subst h0
  go_wp2_with fail
  go_ret2
  exact ⟨rfl,F,HD.out.1,aP (aj _ _)⟩
 ·have q1:((k:Int)==0)=false:=by simp;omega
  have q2:(k=0)=False:=eq_false h0
  have HK:Hid (¬k=0):=h0
  clear h0
  go_wp2_with fail
  refine (oJ F _ _ S M w HD.out.1 HD.out.2.1 HD.out.2.2.1 (fun _=>HD.out.2.2.2.1)).mono ?_
  rintro e w1 ⟨rfl,hA⟩
  have HA:Hid (DAft w F w1 (.pointer (some ⟨b,0,none⟩)) (S.write M)):=hA
  rw [show S.writeCode M=0 by unfold St.writeCode;rw [HD.out.2.2.2.2];rfl]
  clear hA
  go_wp2_with fail
  go_ret2
  exact ⟨rfl,by rw [if_neg HK.out];exact HA.out⟩
def fitN:Nat->Int->List PCmd->Nat
 | _,_,[]=>0
 | r,n,c :: cs=>if (Frame.frm 1 (bt (n,c))).length<=r then fitN (r-(Frame.frm 1 (bt (n,c))).length) (n+1) cs+1 else 0
theorem g_ (n:Int)(cs:List PCmd)(k:Nat)(h:k<cs.length):aY n (cs.take (k+1))=aY n (cs.take k) ++ Frame.frm 1 (bt (n+k,cs[k])):=by
 rw [List.take_succ_eq_append_getElem h,tO]
 have:(cs.take k).length=k:=by rw [List.length_take];omega
 rw [this]
 simp [aY,seqE,Frame.flat,frE]
structure FitI (r:Nat)(n:Int)(cs:List PCmd)(k:Nat):Prop where
 le:k<=cs.length
 room:(aY n (cs.take k)).length<=r
 fit:fitN r n cs=k+fitN (r-(aY n (cs.take k)).length) (n+k) (cs.drop k)
theorem FitI.zero (r:Nat)(n:Int)(cs:List PCmd):FitI r n cs 0:=⟨Nat.zero_le _,by simp [aY,seqE,Frame.flat],by simp [aY,seqE,Frame.flat]⟩
theorem FitI.step {r:Nat}{n:Int}{cs:List PCmd}{k:Nat}(h:FitI r n cs k)(hk:k<cs.length)(hr:(Frame.frm 1 (bt (n+k,cs[k]))).length<=r-(aY n (cs.take k)).length):FitI r n cs (k+1):=by
 have hl:=h.room
 refine ⟨hk,?_,?_⟩
 ·rw [g_ n cs k hk,List.length_append];omega
 ·rw [h.fit,List.drop_eq_getElem_cons hk]
  conv=>lhs;unfold fitN
  rw [if_pos hr,g_ n cs k hk,List.length_append,Nat.sub_sub,show n+((k+1:Nat):Int)=n+k+1 by push_cast;omega]
  omega
theorem FitI.stop {r:Nat}{n:Int}{cs:List PCmd}{k:Nat}(h:FitI r n cs k)(hk:k<cs.length)(hr:¬(Frame.frm 1 (bt (n+k,cs[k]))).length<=r-(aY n (cs.take k)).length):fitN r n cs=k:=by
 rw [h.fit,List.drop_eq_getElem_cons hk]
 unfold fitN
 rw [if_neg hr]
 rfl
theorem FitI.end {r:Nat}{n:Int}{cs:List PCmd}(h:FitI r n cs cs.length):fitN r n cs=cs.length:=by
 rw [h.fit]
 simp [fitN]
def AppP (F:Nat->Prop)(v:Value)(S:St)(n:Int)(cs:List PCmd)(w:World)(x:Ending)(w':World):Prop:=(refA n cs≠0/\x=.returned (.tuple #[.int .i64 0,.int .i64 (refA n cs)])/\w.grownBy w' none)\/(refA n cs=0/\∃m,fitN (S.cap-S.log.length) n cs=m/\x=.returned (.tuple #[.int .i64 (m:Nat),.int .i64 0])/\(aY n (cs.take m)).length<=S.cap-S.log.length/\DAft w F w' v (if m=0 then S else S.write (aY n (cs.take m))))
theorem kW {n:Int}{cs:List PCmd}(h:refA n cs=0):1<=n/\n<=4611686018427386880/\cs.length<=1024/\∀c ∈ cs,okC c=true:=by
 unfold refA at h
 split at h
 ·simp at h
 ·rename_i h1
  split at h
  ·simp at h
  ·refine ⟨by omega,by omega,by omega,?_⟩
   have:dg cs=true:=by
    cases h2:dg cs
    ·exact absurd (.inr (.inr h2)) h1
    ·rfl
   simpa [dg] using this
theorem vA {n:Int}{cs:List PCmd}(h:refA n cs=0)(hi:∀c ∈ cs,InC c):OkL n cs:=by
 obtain ⟨h1,h2,h3,h4⟩:=kW h
 exact ⟨h1,by omega,fun c hc=>⟨h4 c hc,hi c hc⟩⟩
theorem jA (F:Nat->Prop)(v u:Value)(S:St)(n:Int)(cs:List PCmd)(w:World)(h:DK w F v S)(hm:S.steps<9223372036854775807)(hc:Cmds w u cs):Calls Tryz.prog 23 #[v,.int .i64 n,u] w (AppP F v S n cs w):=by
 obtain ⟨ao,q,cap,rfl,hq,h1,h2,h3,HC⟩:=eS hc
 have HD:Hid (DK w F v S/\cs.length=q/\S.steps<9223372036854775807/\(∀c ∈ cs,InC c)/\S.Ok):=⟨h,hq,hm,oO hc,h.ok⟩
 obtain ⟨b,lv,v0,v1,rfl,hb⟩:=h
 clear hb hc hq hm
 go_enter Tryz.func23,Tryz.ntmps23
 go_wp2_with fail
 refine wp_scope_straight ?_
 go_wp2_with fail
 refine (pY F _ _ S n cs w HD.out.1 HC.out).mono ?_
 rintro e w1 ⟨rfl,g1⟩
 have HG:Hid (w.grownBy w1 none):=g1
 clear g1
 by_cases hr:refA n cs=0
 rotate_left
 ·obtain ⟨rc,hrc⟩:∃x,refA n cs=x:=⟨_,rfl⟩
  have HR:Hid (refA n cs≠0/\refA n cs=rc):=⟨hr,hrc⟩
  rw [hrc] at hr ⊢
  have q1:(rc=0)=False:=eq_false hr
  have q2:(rc==0)=false:=by simpa using hr
  clear hr hrc
  go_wp2_with fail
  first | rw [Exit.noGoto_ret] | skip
  go_ret2
  exact .inl ⟨HR.out.1,by rw [HR.out.2];rfl,HG.out⟩
 have HR:Hid (refA n cs=0/\1<=n/\n<=4611686018427386880/\cs.length<=1024/\∀c ∈ cs,okC c=true):=⟨hr,kW hr⟩
 rw [hr]
 clear hr
 go_wp2_with fail
 refine (rM F _ S w1 (HD.out.1.grown HG.out)).mono ?_
 rintro e w2 ⟨rfl,g2,hz⟩
 clear hz
 have HG2:Hid (w.grownBy w2 none):=aa HG.out g2
 obtain ⟨rm,hrm⟩:∃x,S.cap-S.log.length=x:=⟨_,rfl⟩
 have HM:Hid (S.cap-S.log.length=rm/\rm<=1048576):=⟨hrm,by have:=HD.out.2.2.2.2.cap2;omega⟩
 rw [hrm]
 clear g2 HG hrm
 go_wp2_with fail
 refine wp_label ?_
 refine (‹∀(a:Act) (w:World),Code.wp Tryz.prog _ _ a w->_› _ _ ?_)
 go_wp2_with fail
 go_loopw [9,10,27] (fun bv t i wr=>∃(k:Nat) (b1:Option Addr) (b2 b3:Nat),bv=.slice b1 b2 b3/\t=.int .i64 (k:Int)/\i=.int .i64 (k:Int)/\Hid (w.grownBy wr none/\Disk.Own wr w2.heap.size (.slice b1 b2 b3) (aY n (cs.take k))/\FitI rm n cs k/\(aY n (cs.take k)).length=b2/\w2.heap.size<=wr.heap.size)) (fun _ _ i _=>q-(intOf i).toNat)
 case atStart=>exact ⟨0,none,0,0,rfl,rfl,rfl,HG2.out,Disk.Own.nil _ _,FitI.zero _ _ _,by simp [aY,seqE,Frame.flat],Nat.le_refl _⟩
 case round =>
  obtain ⟨k,b1,b2,b3,rfl,rfl,rfl,HI⟩:=hrel
  have hb2:=HI.out.2.2.2.1
  by_cases hlt:k<q
  ·have hkl:k<cs.length:=by rw [HD.out.2.1];exact hlt
   obtain ⟨cb,off,o1,o2,o3,rfl,hat,hops,hin⟩:=iZ HC.out k hkl
   obtain ⟨e0,e1,e2,e3,e4,e5⟩:=hat.grown HI.out.1
   have i0:(0:Int)<=(k:Int):=by omega
   have i1:(k:Int)<(q:Int):=by omega
   obtain ⟨c,hc⟩:∃c,cs[k]=c:=⟨_,rfl⟩
   have HO:Hid (Ops w (.slice o1 o2 o3) c.ops/\InC c/\cs[k]=c/\okC c=true):=⟨by rw [<-hc];exact hops,by rw [<-hc];exact hin,hc,by rw [<-hc];exact HR.out.2.2.2.2 _ (List.getElem_mem _)⟩
   rw [hc] at e0 e1 e2 e3 e4
   have hwn:IntKind.i64.wrap (n+(k:Int))=n+(k:Int):=by
    have:=HR.out
    unfold IntKind.wrap
    simp [IntKind.bits,IntKind.signed]
    omega
   clear hat hops hin hc
   go_upto_region 9 with fail
   obtain ⟨w3,hw3,H3⟩:=al1 wr #[.int .i64 c.kind,.int .i64 c.token,.int .i64 c.session,.int .i64 c.number,.int .i64 c.mark,.slice o1 o2 o3] 32
   rw [hw3]
   clear hw3 e0 e1 e2 e3 e4 e5
   have c0:=H3.out.1.cell 0
   have c1:=H3.out.1.cell 1
   have c2:=H3.out.1.cell 2
   have c3:=H3.out.1.cell 3
   have c4:=H3.out.1.cell 4
   have c5:=H3.out.1.cell 5
   simp at c0 c1 c2 c3 c4 c5
   go_wp2_with fail
   refine (tP (.slice o1 o2 o3) (n+(k:Int)) c w3 ((HO.out.1.grown HI.out.1).grown H3.out.2.1) HO.out.2.1 ⟨_,_,_,rfl⟩).mono ?_
   rintro e w4 ⟨g4,hrec⟩
   have hokE:okE (n+(k:Int),c)=true:=bZ.2 ⟨by have:=HR.out;simp;omega,by have:=HR.out;simp;omega,HO.out.2.2.2⟩
   rcases hrec with ⟨hno,_⟩ | ⟨_,ru,rfl,oru⟩
   ·rw [hokE] at hno;cases hno
   obtain ⟨ra,rc,er⟩:=oru.seg.shape
   obtain ⟨rl,hrl⟩:∃x,(Frame.frm 1 (bt (n+(k:Int),c))).length=x:=⟨_,rfl⟩
   rw [hrl] at er
   subst er
   have H4:Hid (w.grownBy w4 none/\Disk.Own w4 w2.heap.size (.slice b1 b2 b3) (aY n (cs.take k))/\Seg w4 (.slice ra rl rc) (Frame.frm 1 (bt (n+(k:Int),c)))/\(Frame.frm 1 (bt (n+(k:Int),c))).length=rl/\rl<=6000/\w2.heap.size<=w4.heap.size):=by
    have g:=aa H3.out.2.1 g4
    refine ⟨aa HI.out.1 g,HI.out.2.1.grown g,oru.seg,hrl,?_,?_⟩
    ·have:=eP hokE HO.out.2.1
     rw [<-hrl,Frame.dN]
     omega
    ·have:=g.size
     have:=HI.out.2.2.2.2
     omega
   clear g4 oru hrl hokE c0 c1 c2 c3 c4 c5 hwn
   obtain ⟨x,hx⟩:∃x,rm-b2=x:=⟨_,rfl⟩
   have hbr:b2<=rm:=by rw [<-hb2];exact HI.out.2.2.1.room
   have s1:(rm:Int)-(b2:Int)=(x:Int):=by omega
   have s2:IntKind.i64.wrap (x:Int)=(x:Int):=by
    have:=HM.out
    unfold IntKind.wrap
    simp [IntKind.bits,IntKind.signed]
    omega
   by_cases hf:x<rl
   ·have q1:((x:Int)<(rl:Int))=True:=eq_true (by omega)
    have q2:(x<rl)=True:=eq_true hf
    have HFK:Hid (fitN rm n cs=k):=HI.out.2.2.1.stop hkl (by rw [HO.out.2.2.1,H4.out.2.2.2.1,HI.out.2.2.2.1];omega)
    clear hf hbr hx hb2
    have HX:Hid (fitN (S.cap-S.log.length) n cs=k):=by rw [HM.out.1];exact HFK.out
    go_wp2_with fail
    refine (rT F _ _ S k (aY n (cs.take k)) w4 (HD.out.1.grown H4.out.1) (by have:=HI.out.2.2.1.le;have:=HR.out;omega) HD.out.2.2.1 H4.out.2.1.seg (fun j hj hF=>by have h9:=(H4.out.2.1.lt j hj).1;have:=HD.out.1.lt j hF;have:=HG2.out.size;omega) (by unfold St.full;have:=HI.out.2.2.1.room;have:=HM.out.1;simp;omega)).mono ?_
    rintro e w9 ⟨rfl,F',hk9,ha9⟩
    have HZ:Hid (AppP F (.pointer (some ⟨b,0,none⟩)) S n cs w (.returned (.tuple #[.int .i64 (k:Nat),.int .i64 0])) w9):=.inr ⟨HR.out.1,k,HX.out,rfl,by have:=HI.out.2.2.1.room;have:=HM.out.1;omega,F',hk9,(aP H4.out.1).trans ha9⟩
    clear hk9 ha9
    go_wp2_with fail
    first | rw [Exit.noGoto_ret] | skip
    go_ret2
    exact HZ.out
   ·have q1:((x:Int)<(rl:Int))=False:=eq_false (by omega)
    have q2:(x<rl)=False:=eq_false hf
    have HFK:Hid (FitI rm n cs (k+1)):=HI.out.2.2.1.step hkl (by rw [HO.out.2.2.1,H4.out.2.2.2.1,HI.out.2.2.2.1];omega)
    have HLL:Hid (aY n (cs.take (k+1))=aY n (cs.take k) ++ Frame.frm 1 (bt (n+(k:Int),c))):=by unfold Hid;rw [g_ n cs k hkl,HO.out.2.2.1]
    clear hf hbr hx hb2
    go_wp2_with (at_builtin;refine bH w4 rfl _ _ rfl w2.heap.size (.slice b1 b2 b3) (aY n (cs.take k)) (.slice ra rl rc) (Frame.frm 1 (bt (n+(k:Int),c))) rfl rfl H4.out.2.1 H4.out.2.2.1 (by have:=HI.out.2.2.1.room;have:=HM.out;have:=H4.out;omega) H4.out.2.2.2.2.2 ?_)
    intro v' w5 o5 g5 h5
    have o5':Disk.Own w5 w2.heap.size v' (aY n (cs.take (k+1))):=by rw [HLL.out];exact o5
    clear o5
    have o5:=o5'
    clear o5'
    obtain ⟨d1,d3,ed⟩:=o5.seg.shape
    obtain ⟨d2,hd2⟩:∃x,(aY n (cs.take (k+1))).length=x:=⟨_,rfl⟩
    rw [hd2] at ed
    subst ed
    have H5:Hid (w.grownBy w5 none/\Disk.Own w5 w2.heap.size (.slice d1 d2 d3) (aY n (cs.take (k+1)))/\(aY n (cs.take (k+1))).length=d2/\w2.heap.size<=w5.heap.size):=⟨ah H4.out.1 g5 (fun y hy=>by have:=(H4.out.2.1.lt y hy).1;have:=HG2.out.size;omega),o5,hd2,by have:=g5.size;have:=H4.out.2.2.2.2.2;omega⟩
    clear o5 g5 h5 hd2
    go_wp2_with fail
    go_roundw
    case rel=>exact ⟨k+1,d1,d2,d3,rfl,by go_num,by go_num,H5.out.1,H5.out.2.1,HFK.out,H5.out.2.2.1,H5.out.2.2.2⟩
    case measure=>simp [intOf];omega
  ·have e:k=q:=by have:=HI.out.2.2.1.le;have:=HD.out.2.1;omega
   subst e
   have HFK:Hid (fitN rm n cs=k):=by
    have h:=HI.out.2.2.1
    rw [<-HD.out.2.1] at h ⊢
    exact h.end
   clear hb2
   have HX:Hid (fitN (S.cap-S.log.length) n cs=k):=by rw [HM.out.1];exact HFK.out
   go_wp2_with fail
   refine (rT F _ _ S k (aY n (cs.take k)) wr (HD.out.1.grown HI.out.1) (by have:=HI.out.2.2.1.le;have:=HR.out;omega) HD.out.2.2.1 HI.out.2.1.seg (fun j hj hF=>by have h9:=(HI.out.2.1.lt j hj).1;have:=HD.out.1.lt j hF;have:=HG2.out.size;omega) (by unfold St.full;have:=HI.out.2.2.1.room;have:=HM.out.1;simp;omega)).mono ?_
   rintro e w9 ⟨rfl,F',hk9,ha9⟩
   have HZ:Hid (AppP F (.pointer (some ⟨b,0,none⟩)) S n cs w (.returned (.tuple #[.int .i64 (k:Nat),.int .i64 0])) w9):=.inr ⟨HR.out.1,k,HX.out,rfl,by have:=HI.out.2.2.1.room;have:=HM.out.1;omega,F',hk9,(aP HI.out.1).trans ha9⟩
   clear hk9 ha9
   go_wp2_with fail
   first | rw [Exit.noGoto_ret] | skip
   go_ret2
   exact HZ.out
end Go.Proofs.YtadhfejefpildaaGreat
