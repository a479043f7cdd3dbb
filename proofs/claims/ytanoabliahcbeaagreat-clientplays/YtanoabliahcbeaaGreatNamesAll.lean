import Derived.Test.YtanoabliahcbeaaGreatProg
import Derived.KernelRfl
import Derived.Test.YtanoabliahcbeaaGreatDiskAll
import Derived.Lib.Bytealg
import Derived.ArgAppend
set_option maxHeartbeats 1000000
set_option maxRecDepth 100000
namespace Go.Proofs.YtanoabliahcbeaaGreat.Names
def cmpL:List UInt8->List UInt8->Int
 | [],[]=>0
 | [],_ :: _=>-1
 | _ :: _,[]=>1
 | a :: az,b :: bs=>if a.toNat<b.toNat then -1 else if b.toNat<a.toNat then 1 else cmpL az bs
def cmpN (a b:Nat):Int:=if a<b then -1 else if b<a then 1 else 0
theorem cmp_nil_left (B:List UInt8):cmpL [] B=cmpN 0 B.length:=by
 cases B <;> simp [cmpL,cmpN]
theorem cmp_nil_right (A:List UInt8):cmpL A []=cmpN A.length 0:=by
 cases A <;> simp [cmpL,cmpN]
theorem cmp_end {A B:List UInt8}{k:Nat}(h:k=min A.length B.length):cmpL (A.drop k) (B.drop k)=cmpN A.length B.length:=by
 by_cases h1:A.length<=B.length
 ·have e:k=A.length:=by omega
  subst e
  rw [List.drop_length,cmp_nil_left,List.length_drop]
  unfold cmpN
  by_cases h2:A.length<B.length
  ·rw [if_pos (by omega),if_pos h2]
  ·rw [if_neg (by omega),if_neg (by omega),if_neg h2,if_neg (by omega)]
 ·have e:k=B.length:=by omega
  subst e
  rw [List.drop_length,cmp_nil_right,List.length_drop]
  unfold cmpN
  rw [if_neg (by omega),if_pos (by omega),if_neg (by omega),if_pos (by omega)]
theorem cmp_step {A B:List UInt8}{k:Nat}(ha:k<A.length)(hb:k<B.length) :
  cmpL (A.drop k) (B.drop k)=if A[k].toNat<B[k].toNat then -1 else if B[k].toNat<A[k].toNat then 1 else cmpL (A.drop (k+1)) (B.drop (k+1)):=by
 rw [List.drop_eq_getElem_cons ha,List.drop_eq_getElem_cons hb]
 rfl
def begins (A K:List UInt8):Prop:=K.take A.length=A
def alnum (c:UInt8):Bool:=(decide (97<=c.toNat) && decide (c.toNat<=122)) || (decide (48<=c.toNat) && decide (c.toNat<=57))
def tabB (L:List UInt8):Bool:=(decide (1<=L.length) && decide (L.length<=16)) && L.all alnum
def keyB (L:List UInt8):Bool:=decide (1<=L.length) && decide (L.length<=64)
def valueB (L:List UInt8):Bool:=decide (L.length<=256)
theorem tab_bad {L:List UInt8}{k:Nat}(hk:k<L.length)(h:alnum L[k]=false):tabB L=false:=by
 unfold tabB
 have:L.all alnum=false:=by
  rw [List.all_eq_false]
  exact ⟨L[k],List.getElem_mem hk,by rw [h];simp⟩
 rw [this,Bool.and_false]
theorem tab_end {L:List UInt8}(h:∀j (hj:j<L.length),alnum L[j]=true):tabB L=(decide (1<=L.length) && decide (L.length<=16)):=by
 unfold tabB
 have:L.all alnum=true:=by
  rw [List.all_eq_true]
  intro x hx
  obtain ⟨j,hj,rfl⟩:=List.mem_iff_getElem.1 hx
  exact h j hj
 rw [this,Bool.and_true]
def plainB (c:UInt8):Bool:=decide (33<=c.toNat) && decide (c.toNat<=126) && decide (c.toNat≠37) && decide (c.toNat≠44) && decide (c.toNat≠59)
def dig (n:Nat):UInt8:=if n<10 then UInt8.ofNat (48+n) else UInt8.ofNat (55+n)
def esc (c:UInt8):List UInt8:=if plainB c=true then [c] else [37,dig (c.toNat / 16),dig (c.toNat % 16)]
def body (b:List UInt8):List UInt8:=b.flatMap esc
def hexV (c:UInt8):Option Nat:=if 48<=c.toNat/\c.toNat<=57 then some (c.toNat-48) else if 65<=c.toNat/\c.toNat<=70 then some (c.toNat-55) else none
def two (a b:Nat):UInt8:=UInt8.ofNat (16*a+b)
def first:List UInt8->UInt8 × Nat
 | []=>(0,0)
 | x :: r=>if plainB x=true then (x,1) else if x.toNat≠37 then (0,0) else match r with
  | h :: l :: _=>match hexV h,hexV l with
   | some a,some b=>if plainB (two a b)=true then (0,0) else (two a b,3)
   | _,_=>(0,0)
  | _=>(0,0)
def val (c:UInt8):Nat:=if 65<=c.toNat/\c.toNat<=70 then c.toNat-55 else (c.toNat+208) % 256
end Go.Proofs.YtanoabliahcbeaaGreat.Names
namespace Go.Proofs.YtanoabliahcbeaaGreat.Names
open Go.RowKit Disk
theorem seg_drewN {w:World}{v:Value}{L:List UInt8}(h:Seg w v L)(q:Nat):Seg (w.drewN q) v L:=h.grown (grown_drewN _ _ _)
theorem run_minn (ts:Array TypeId)(t:TypeId)(m n:Nat)(w:World):(Builtin.min_ ts t #[.int .i64 m,.int .i64 n]).run Tryz.prog w=.ok (.int .i64 ((min m n:Nat):Int)) w:=by
 by_cases h:m<=n
 ·rw [Nat.min_eq_left h]
  simp [Builtin.min_,Builtin.min2]
  try omega
 ·rw [Nat.min_eq_right (by omega)]
  simp [Builtin.min_,Builtin.min2]
  try omega
attribute [local go_sem ↓] run_minn
theorem compare38 (m n:Nat)(w:World):Calls Tryz.prog 220 #[.int .i64 m,.int .i64 n] w fun e w'=>e=.returned (.int .i64 (cmpN m n))/\w'=w:=by
 go_enter Tryz.func220,Tryz.ntmps220
 by_cases h1:(m:Int)<n
 ·have e:cmpN m n=-1:=by unfold cmpN;rw [if_pos (by omega)]
  rw [e]
  go_wp2
  go_ret
  exact ⟨rfl,rfl⟩
 ·by_cases h2:(n:Int)<m
  ·have e:cmpN m n=1:=by unfold cmpN;rw [if_neg (by omega),if_pos (by omega)]
   rw [e]
   go_wp2
   go_ret
   exact ⟨rfl,rfl⟩
  ·have e:cmpN m n=0:=by unfold cmpN;rw [if_neg (by omega),if_neg (by omega)]
   rw [e]
   go_wp2
   go_ret
   exact ⟨rfl,rfl⟩
theorem compare39 (m n:Nat)(w:World):Calls Tryz.prog 221 #[.int .u8 m,.int .u8 n] w fun e w'=>e=.returned (.int .i64 (cmpN m n))/\w'=w:=by
 go_enter Tryz.func221,Tryz.ntmps221
 by_cases h1:(m:Int)<n
 ·have e:cmpN m n=-1:=by unfold cmpN;rw [if_pos (by omega)]
  rw [e]
  go_wp2
  go_ret
  exact ⟨rfl,rfl⟩
 ·by_cases h2:(n:Int)<m
  ·have e:cmpN m n=1:=by unfold cmpN;rw [if_neg (by omega),if_pos (by omega)]
   rw [e]
   go_wp2
   go_ret
   exact ⟨rfl,rfl⟩
  ·have e:cmpN m n=0:=by unfold cmpN;rw [if_neg (by omega),if_neg (by omega)]
   rw [e]
   go_wp2
   go_ret
   exact ⟨rfl,rfl⟩
theorem seg_at {w:World}{ao:Option Addr}{n cap:Nat}{L:List UInt8}(h:Seg w (.slice ao n cap) L)(j:Nat)(hj:j<L.length):∃b off,ao=some ⟨b,off,none⟩/\w.cell? ⟨b,off+j,none⟩=some (.int .u8 (L[j].toNat:Int)):=by
 obtain ⟨ao',cap',hv,_,_,_,h4⟩:=h
 simp at hv
 rw [hv.1]
 exact h4 j hj
theorem seg_open {w:World}{v:Value}{L:List UInt8}(h:Seg w v L):∃ao n cap,v=.slice ao n cap/\L.length=n/\n<=9223372036854775807/\Hid (Seg w (.slice ao n cap) L):=by
 obtain ⟨ao,cap,e⟩:=h.shape
 exact ⟨ao,L.length,cap,e,rfl,h.len,by rw [<-e];exact h⟩
theorem cmp26 (a b:Value)(A B:List UInt8)(w:World)(ha:Seg w a A)(hb:Seg w b B) :
  Calls Tryz.prog 216 #[a,b] w fun e w'=>e=.returned (.int .i64 (cmpL A B))/\∃m,w'=w.drewN m:=by
 obtain ⟨ao,na,ca,rfl,hna,la,HA⟩:=seg_open ha
 obtain ⟨bo,nb,cb,rfl,hnb,lb,HB⟩:=seg_open hb
 have HN:Hid (A.length=na/\B.length=nb):=And.intro hna hnb
 clear ha hb hna hnb
 obtain ⟨mn,hmn⟩:∃n,min na nb=n:=⟨_,rfl⟩
 have HM:Hid (min na nb=mn):=hmn
 have hm1:mn<=na:=by omega
 have hm2:mn<=nb:=by omega
 obtain ⟨c0,hc0⟩:∃c,cmpN na nb=c:=⟨_,rfl⟩
 have HC:Hid (cmpN na nb=c0):=hc0
 obtain ⟨R,hR⟩:∃c,cmpL A B=c:=⟨_,rfl⟩
 have HR:Hid (cmpL A B=R):=hR
 rw [hR]
 clear hmn hc0 hR
 go_enter Tryz.func216,Tryz.ntmps216
 go_wp2_with fail
 refine wp_scope_straight ?_
 go_wp2_with (first | (go_at_call 220;refine (compare38 _ _ _).mono ?_;rintro e w1 ⟨rfl,h1⟩;rw [h1];clear h1))
 refine wp_label ?_
 refine (‹∀(a:Act) (w:World),Code.wp Tryz.prog _ _ a w->_› _ _ ?_)
 go_wp2_with fail
 rw [HM.out,HC.out]
 go_loopw [5,18] (fun o i wr=>∃k q:Nat,k<=mn/\o=.int .i64 c0/\i=.int .i64 k/\wr=w.drewN q/\cmpL (A.drop k) (B.drop k)=R) (fun _ i _=>mn-(intOf i).toNat)
 case atStart=>exact ⟨0,0,by omega,rfl,rfl,rfl,HR.out⟩
 case round =>
  obtain ⟨k,q,hk,rfl,rfl,hwr,hinv⟩:=hrel
  have HW:Hid (wr=w.drewN q):=hwr
  by_cases hlt:k<mn
  ·have hka:k<A.length:=by rw [HN.out.1];omega
   have hkb:k<B.length:=by rw [HN.out.2];omega
   have ha:=seg_drewN HA.out q
   have hb:=seg_drewN HB.out q
   rw [<-hwr] at ha hb
   obtain ⟨b1,o1,rfl,x1⟩:=seg_at ha k hka
   obtain ⟨b2,o2,rfl,x2⟩:=seg_at hb k hkb
   rw [cmp_step hka hkb] at hinv
   obtain ⟨x,hx⟩:∃x,A[k].toNat=x:=⟨_,rfl⟩
   obtain ⟨y,hy⟩:∃x,B[k].toNat=x:=⟨_,rfl⟩
   rw [hx] at x1 hinv
   rw [hy] at x2 hinv
   have HI:Hid _:=hinv
   have i1:(0:Int)<=(k:Int):=by omega
   have i2:(k:Int)<(na:Int):=by omega
   have i3:(k:Int)<(nb:Int):=by omega
   clear hinv hx hy hka hkb ha hb hwr
   go_wp2_with fail
   go_quiet ((go_at_call 221;exact Calls.quiet_of_same (compare39 _ _ _)))
   by_cases c1:x<y
   ·have e:cmpN x y=-1:=by unfold cmpN;rw [if_pos c1]
    have eR:R=-1:=by have:=HI.out;rw [if_pos c1] at this;exact this.symm
    subst eR
    rw [e]
    go_wp2_with fail
    first | rw [Exit.noGoto_ret] | skip
    go_ret
    exact ⟨rfl,_,by rw [HW.out,World.drewN_drewN]⟩
   ·by_cases c2:y<x
    ·have e:cmpN x y=1:=by unfold cmpN;rw [if_neg c1,if_pos c2]
     have eR:R=1:=by have:=HI.out;rw [if_neg c1,if_pos c2] at this;exact this.symm
     subst eR
     rw [e]
     go_wp2_with fail
     first | rw [Exit.noGoto_ret] | skip
     go_ret
     exact ⟨rfl,_,by rw [HW.out,World.drewN_drewN]⟩
    ·have e:cmpN x y=0:=by unfold cmpN;rw [if_neg c1,if_neg c2]
     have eR:=HI.out
     rw [if_neg c1,if_neg c2] at eR
     rw [e]
     have HE:Hid _:=eR
     clear eR
     go_wp2_with fail
     go_roundw
     case rel=>exact ⟨k+1,_,by omega,rfl,by go_num,by rw [HW.out,World.drewN_drewN],HE.out⟩
     case measure=>simp [intOf];omega
  ·have e:R=c0:=by
    rw [<-hinv,<-HC.out,<-HN.out.1,<-HN.out.2]
    exact cmp_end (by rw [HN.out.1,HN.out.2,HM.out];omega)
   subst e
   clear hinv hwr
   go_wp2_with fail
   first | rw [Exit.noGoto_ret] | skip
   go_ret
   exact ⟨rfl,_,HW.out⟩
theorem cmp27 (a b:Value)(A B:List UInt8)(w:World)(ha:Seg w a A)(hb:Seg w b B) :
  Calls Tryz.prog 164 #[a,b] w fun e w'=>e=.returned (.int .i64 (cmpL A B))/\∃m,w'=w.drewN m:=by
 obtain ⟨ao,na,ca,rfl,hna,la,HA⟩:=seg_open ha
 obtain ⟨bo,nb,cb,rfl,hnb,lb,HB⟩:=seg_open hb
 have HN:Hid (A.length=na/\B.length=nb):=And.intro hna hnb
 clear ha hb hna hnb
 obtain ⟨R,hR⟩:∃c,cmpL A B=c:=⟨_,rfl⟩
 have HR:Hid (cmpL A B=R):=hR
 rw [hR]
 clear hR
 go_enter Tryz.func164,Tryz.ntmps164
 go_wp2_with fail
 go_loopw [5] (fun i wr=>∃k q:Nat,k<=na/\k<=nb/\i=.int .i64 k/\wr=w.drewN q/\cmpL (A.drop k) (B.drop k)=R) (fun i _=>na-(intOf i).toNat)
 case atStart=>exact ⟨0,0,by omega,by omega,rfl,rfl,HR.out⟩
 case round =>
  obtain ⟨k,q,hk,hk2,rfl,hwr,hinv⟩:=hrel
  have HW:Hid (wr=w.drewN q):=hwr
  by_cases hlt:k<na/\k<nb
  ·have hka:k<A.length:=by rw [HN.out.1];omega
   have hkb:k<B.length:=by rw [HN.out.2];omega
   have ha:=seg_drewN HA.out q
   have hb:=seg_drewN HB.out q
   rw [<-hwr] at ha hb
   obtain ⟨b1,o1,rfl,x1⟩:=seg_at ha k hka
   obtain ⟨b2,o2,rfl,x2⟩:=seg_at hb k hkb
   rw [cmp_step hka hkb] at hinv
   obtain ⟨x,hx⟩:∃x,A[k].toNat=x:=⟨_,rfl⟩
   obtain ⟨y,hy⟩:∃x,B[k].toNat=x:=⟨_,rfl⟩
   rw [hx] at x1 hinv
   rw [hy] at x2 hinv
   have HI:Hid _:=hinv
   have i1:(0:Int)<=(k:Int):=by omega
   have i2:(k:Int)<(na:Int):=by omega
   have i3:(k:Int)<(nb:Int):=by omega
   clear hinv hx hy hka hkb ha hb hwr
   go_wp2_with fail
   go_quiet (fail)
   by_cases c1:(x:Int)<y
   ·have eR:R=-1:=by have:=HI.out;rw [if_pos (by omega)] at this;exact this.symm
    subst eR
    go_wp2_with fail
    go_ret
    exact ⟨rfl,_,by rw [HW.out,World.drewN_drewN]⟩
   ·go_wp2_with fail
    go_quiet (fail)
    by_cases c2:(y:Int)<x
    ·have eR:R=1:=by have:=HI.out;rw [if_neg (by omega),if_pos (by omega)] at this;exact this.symm
     subst eR
     go_wp2_with fail
     go_ret
     exact ⟨rfl,_,by rw [HW.out];repeat rw [World.drewN_drewN]⟩
    ·have eR:=HI.out
     rw [if_neg (by omega),if_neg (by omega)] at eR
     have HE:Hid _:=eR
     clear eR
     go_wp2_with fail
     go_roundw
     case rel=>exact ⟨k+1,_,by omega,by omega,by go_num,by rw [HW.out];repeat rw [World.drewN_drewN],HE.out⟩
     case measure=>simp [intOf];omega
  ·have e:R=cmpN na nb:=by
    rw [<-hinv,<-HN.out.1,<-HN.out.2]
    exact cmp_end (by rw [HN.out.1,HN.out.2];omega)
   clear hinv hwr
   have hor:(¬(k:Int)<na)\/((k:Int)<na/\¬(k:Int)<nb):=by omega
   by_cases c1:(na:Int)<nb
   ·have e:R=-1:=by rw [e];unfold cmpN;rw [if_pos (by omega)]
    subst e
    rcases hor with hor | ⟨hor,hor2⟩ <;> (
     go_wp2_with fail
     go_ret
     exact ⟨rfl,_,HW.out⟩)
   ·by_cases c2:(nb:Int)<na
    ·have e:R=1:=by rw [e];unfold cmpN;rw [if_neg (by omega),if_pos (by omega)]
     subst e
     rcases hor with hor | ⟨hor,hor2⟩ <;> (
      go_wp2_with fail
      go_ret
      exact ⟨rfl,_,HW.out⟩)
    ·have e:R=0:=by rw [e];unfold cmpN;rw [if_neg (by omega),if_neg (by omega)]
     subst e
     rcases hor with hor | ⟨hor,hor2⟩ <;> (
      go_wp2_with fail
      go_ret
      exact ⟨rfl,_,HW.out⟩)
def Str (L:List UInt8):Value:=.string ⟨L.toArray⟩
theorem run_index9 (L:List UInt8)(k:Nat)(hk:k<L.length)(w:World):(Instr.index 9 (.string ⟨L.toArray⟩) (.int .i64 k)).run Tryz.prog w=.ok (.int .u8 (L[k].toNat:Int)) w:=by
 rw [run_index_string w 9 _ _ _ Tryz.underlying9]
 have hs:(⟨L.toArray⟩:ByteArray).size=L.length:=by simp [ByteArray.size]
 rw [dif_pos ⟨by omega,by rw [hs];omega⟩]
 congr 3
theorem str_size (L:List UInt8):(⟨L.toArray⟩:ByteArray).size=L.length:=by simp [ByteArray.size]
theorem key11 (v:Value)(L:List UInt8)(w:World)(hs:Seg w v L):Calls Tryz.prog 166 #[v] w fun e w'=>e=.returned (.bool (keyB L))/\w'=w:=by
 obtain ⟨ao,n,cap,rfl,hn,hlen,HS⟩:=seg_open hs
 unfold keyB
 rw [hn]
 clear hs hn HS
 go_enter Tryz.func166,Tryz.ntmps166
 by_cases h:(1:Int)<=n
 ·rw [decide_eq_true (by omega:1<=n),Bool.true_and]
  go_wp2
  go_ret
  exact ⟨by simp;try omega,rfl⟩
 ·rw [decide_eq_false (by omega:¬1<=n),Bool.false_and]
  go_wp2
  go_ret
  exact ⟨rfl,rfl⟩
theorem key12 (v:Value)(L:List UInt8)(w:World)(hs:Seg w v L):Calls Tryz.prog 120 #[v] w fun e w'=>e=.returned (.bool (keyB L))/\w'=w:=by
 obtain ⟨ao,n,cap,rfl,hn,hlen,HS⟩:=seg_open hs
 unfold keyB
 rw [hn]
 clear hs hn HS
 go_enter Tryz.func120,Tryz.ntmps120
 by_cases h:(1:Int)<=n
 ·rw [decide_eq_true (by omega:1<=n),Bool.true_and]
  go_wp2
  go_ret
  exact ⟨by simp;try omega,rfl⟩
 ·rw [decide_eq_false (by omega:¬1<=n),Bool.false_and]
  go_wp2
  go_ret
  exact ⟨rfl,rfl⟩
theorem value13 (v:Value)(L:List UInt8)(w:World)(hs:Seg w v L):Calls Tryz.prog 168 #[v] w fun e w'=>e=.returned (.bool (valueB L))/\w'=w:=by
 obtain ⟨ao,n,cap,rfl,hn,hlen,HS⟩:=seg_open hs
 unfold valueB
 rw [hn]
 clear hs hn HS
 go_enter Tryz.func168,Tryz.ntmps168
 go_wp2
 go_ret
 exact ⟨by simp;try omega,rfl⟩
theorem value14 (v:Value)(L:List UInt8)(w:World)(hs:Seg w v L):Calls Tryz.prog 122 #[v] w fun e w'=>e=.returned (.bool (valueB L))/\w'=w:=by
 obtain ⟨ao,n,cap,rfl,hn,hlen,HS⟩:=seg_open hs
 unfold valueB
 rw [hn]
 clear hs hn HS
 go_enter Tryz.func122,Tryz.ntmps122
 go_wp2
 go_ret
 exact ⟨by simp;try omega,rfl⟩
theorem table9 (L:List UInt8)(w:World)(hl:L.length<=9223372036854775807):Calls Tryz.prog 167 #[Str L] w fun e w'=>e=.returned (.bool (tabB L))/\w'=w:=by
 unfold Str
 obtain ⟨X,hX⟩:∃X,(⟨L.toArray⟩:ByteArray)=X:=⟨_,rfl⟩
 obtain ⟨n,hn⟩:∃n,L.length=n:=⟨_,rfl⟩
 have hsz:X.size=n:=by rw [<-hX,str_size,hn]
 have HX:Hid ((⟨L.toArray⟩:ByteArray)=X/\L.length=n):=⟨hX,hn⟩
 rw [hX]
 rw [hn] at hl
 obtain ⟨R,hR⟩:∃R,tabB L=R:=⟨_,rfl⟩
 have HR:Hid (tabB L=R):=hR
 rw [hR]
 clear hX hn hR
 go_enter Tryz.func167,Tryz.ntmps167
 by_cases h1:n<1
 ·have e:R=false:=by rw [<-HR.out];unfold tabB;rw [HX.out.2,decide_eq_false (by omega:¬1<=n)];simp
  subst e
  have i1:(n:Int)<1:=by omega
  go_wp2_with fail
  refine wp_scope_straight ?_
  go_wp2_with fail
  first | rw [Exit.noGoto_ret] | skip
  go_ret
  exact ⟨rfl,rfl⟩
 ·by_cases h2:16<n
  ·have e:R=false:=by rw [<-HR.out];unfold tabB;rw [HX.out.2,decide_eq_false (by omega:¬n<=16)];simp
   subst e
   have i1:¬(n:Int)<1:=by omega
   have i2:(16:Int)<n:=by omega
   go_wp2_with fail
   refine wp_scope_straight ?_
   go_wp2_with fail
   first | rw [Exit.noGoto_ret] | skip
   go_ret
   exact ⟨rfl,rfl⟩
  ·have i1:¬(n:Int)<1:=by omega
   have i2:¬(16:Int)<n:=by omega
   go_wp2_with fail
   refine wp_scope_straight ?_
   go_wp2_with fail
   refine wp_label ?_
   refine (‹∀(a:Act) (w:World),Code.wp Tryz.prog _ _ a w->_› _ _ ?_)
   go_wp2_with fail
   go_loopw [15] (fun i wr=>∃k:Nat,k<=n/\i=.int .i64 k/\wr=w/\∀j (hj:j<L.length),j<k->alnum L[j]=true) (fun i _=>n-(intOf i).toNat)
   case atStart=>exact ⟨0,by omega,rfl,rfl,fun j _ h=>by omega⟩
   case round =>
    obtain ⟨k,hk,rfl,hwr,hinv⟩:=hrel
    have HW:Hid (wr=w/\∀j (hj:j<L.length),j<k->alnum L[j]=true):=⟨hwr,hinv⟩
    clear hwr hinv
    by_cases hlt:k<n
    ·have hkl:k<L.length:=by rw [HX.out.2];exact hlt
     have hidx:=run_index9 L k hkl
     rw [HX.out.1] at hidx
     obtain ⟨q,hq⟩:∃q,alnum L[k]=q:=⟨_,rfl⟩
     have HQ:Hid (alnum L[k]=q):=hq
     have hd:=hq
     unfold alnum at hd
     obtain ⟨x,hx⟩:∃x,L[k].toNat=x:=⟨_,rfl⟩
     rw [hx] at hidx hd
     clear hq hx
     have i3:(0:Int)<=(k:Int):=by omega
     have i4:(k:Int)<(n:Int):=by omega
     by_cases a1:(97:Int)<=x/\(x:Int)<=122
     ·obtain ⟨a1,a2⟩:=a1
      have e:q=true:=by rw [<-hd];simp;omega
      subst e
      clear hd
      go_wp2_with fail
      go_roundw
      case rel=>exact ⟨k+1,by omega,by go_num,HW.out.1,fun j hj hjk=>by
       by_cases e:j=k
       ·subst e;exact HQ.out
       ·exact HW.out.2 j hj (by omega)⟩
      case measure=>simp [intOf];omega
     ·have a1':(¬(97:Int)<=x)\/((97:Int)<=x/\¬(x:Int)<=122):=by omega
      by_cases a3:(48:Int)<=x/\(x:Int)<=57
      ·obtain ⟨a3,a4⟩:=a3
       have e:q=true:=by rw [<-hd];simp;omega
       subst e
       clear hd
       rcases a1' with a5 | ⟨a5,a6⟩
       ·go_wp2_with fail
        go_roundw
        case rel=>exact ⟨k+1,by omega,by go_num,HW.out.1,fun j hj hjk=>by
         by_cases e:j=k
         ·subst e;exact HQ.out
         ·exact HW.out.2 j hj (by omega)⟩
        case measure=>simp [intOf];omega
       ·omega
      ·have a3':(¬(48:Int)<=x)\/((48:Int)<=x/\¬(x:Int)<=57):=by omega
       have e:q=false:=by rw [<-hd];simp;omega
       subst e
       have e:R=false:=by rw [<-HR.out];exact tab_bad hkl HQ.out
       subst e
       clear hd a1 a3
       rcases a1' with a5 | ⟨a5,a6⟩ <;> rcases a3' with a7 | ⟨a7,a8⟩
       all_goals (
        go_wp2_with fail
        first | rw [Exit.noGoto_ret] | skip
        go_ret
        exact ⟨rfl,HW.out.1⟩)
    ·have e:R=true:=by
      rw [<-HR.out,tab_end (fun j hj=>HW.out.2 j hj (by have:=HX.out.2;omega)),HX.out.2]
      simp;omega
     subst e
     go_wp2_with fail
     first | rw [Exit.noGoto_ret] | skip
     go_ret
     exact ⟨rfl,HW.out.1⟩
theorem table10 (L:List UInt8)(w:World)(hl:L.length<=9223372036854775807):Calls Tryz.prog 119 #[Str L] w fun e w'=>e=.returned (.bool (tabB L))/\w'=w:=by
 unfold Str
 obtain ⟨X,hX⟩:∃X,(⟨L.toArray⟩:ByteArray)=X:=⟨_,rfl⟩
 obtain ⟨n,hn⟩:∃n,L.length=n:=⟨_,rfl⟩
 have hsz:X.size=n:=by rw [<-hX,str_size,hn]
 have HX:Hid ((⟨L.toArray⟩:ByteArray)=X/\L.length=n):=⟨hX,hn⟩
 rw [hX]
 rw [hn] at hl
 obtain ⟨R,hR⟩:∃R,tabB L=R:=⟨_,rfl⟩
 have HR:Hid (tabB L=R):=hR
 rw [hR]
 clear hX hn hR
 go_enter Tryz.func119,Tryz.ntmps119
 go_wp2_with fail
 go_loopw [3] (fun i wr=>∃k:Nat,k<=n/\i=.int .i64 k/\wr=w/\∀j (hj:j<L.length),j<k->alnum L[j]=true) (fun i _=>n-(intOf i).toNat)
 case atStart=>exact ⟨0,by omega,rfl,rfl,fun j _ h=>by omega⟩
 case round =>
  obtain ⟨k,hk,rfl,hwr,hinv⟩:=hrel
  have HW:Hid (wr=w/\∀j (hj:j<L.length),j<k->alnum L[j]=true):=⟨hwr,hinv⟩
  clear hwr hinv
  by_cases hlt:k<n
  ·have hkl:k<L.length:=by rw [HX.out.2];exact hlt
   have hidx:=run_index9 L k hkl
   rw [HX.out.1] at hidx
   obtain ⟨q,hq⟩:∃q,alnum L[k]=q:=⟨_,rfl⟩
   have HQ:Hid (alnum L[k]=q):=hq
   have hd:=hq
   unfold alnum at hd
   obtain ⟨x,hx⟩:∃x,L[k].toNat=x:=⟨_,rfl⟩
   rw [hx] at hidx hd
   clear hq hx
   have i3:(0:Int)<=(k:Int):=by omega
   have i4:(k:Int)<(n:Int):=by omega
   by_cases a1:(97:Int)<=x/\(x:Int)<=122
   ·obtain ⟨a1,a2⟩:=a1
    have e:q=true:=by rw [<-hd];simp;omega
    subst e
    clear hd
    go_wp2_with fail
    go_roundw
    case rel=>exact ⟨k+1,by omega,by go_num,HW.out.1,fun j hj hjk=>by
     by_cases e:j=k
     ·subst e;exact HQ.out
     ·exact HW.out.2 j hj (by omega)⟩
    case measure=>simp [intOf];omega
   ·by_cases a3:(48:Int)<=x/\(x:Int)<=57
    ·obtain ⟨a3,a4⟩:=a3
     have e:q=true:=by rw [<-hd];simp;omega
     subst e
     have a5:¬(97:Int)<=x:=by omega
     clear hd
     go_wp2_with fail
     go_roundw
     case rel=>exact ⟨k+1,by omega,by go_num,HW.out.1,fun j hj hjk=>by
      by_cases e:j=k
      ·subst e;exact HQ.out
      ·exact HW.out.2 j hj (by omega)⟩
     case measure=>simp [intOf];omega
    ·have a1':(¬(97:Int)<=x)\/((97:Int)<=x/\¬(x:Int)<=122):=by omega
     have a3':(¬(48:Int)<=x)\/((48:Int)<=x/\¬(x:Int)<=57):=by omega
     have e:q=false:=by rw [<-hd];simp;omega
     subst e
     have e:R=false:=by rw [<-HR.out];exact tab_bad hkl HQ.out
     subst e
     clear hd a1 a3
     rcases a1' with a5 | ⟨a5,a6⟩ <;> rcases a3' with a7 | ⟨a7,a8⟩
     all_goals (
      go_wp2_with fail
      go_ret
      exact ⟨rfl,HW.out.1⟩)
  ·have e:R=(decide (1<=n) && decide (n<=16)):=by
    rw [<-HR.out,tab_end (fun j hj=>HW.out.2 j hj (by have:=HX.out.2;omega)),HX.out.2]
   by_cases h1:(1:Int)<=n
   ·rw [decide_eq_true (by omega:1<=n),Bool.true_and] at e
    subst e
    go_wp2_with fail
    go_ret
    exact ⟨by first | rfl | (simp;try omega),HW.out.1⟩
   ·rw [decide_eq_false (by omega:¬1<=n),Bool.false_and] at e
    subst e
    go_wp2_with fail
    go_ret
    exact ⟨rfl,HW.out.1⟩
def Cut (w:World)(B:Nat)(v:Value)(L:List UInt8):Prop :=
 Disk.Own w B v L\/∃g cap,v=.slice (some ⟨g,0,none⟩) L.length L.length/\Disk.Own w B (.slice (some ⟨g,0,none⟩) L.length cap) L
theorem Cut.seg {w:World}{B:Nat}{v:Value}{L:List UInt8}(h:Cut w B v L):Seg w v L:=by
 rcases h with h | ⟨g,cap,rfl,h⟩
 ·exact h.seg
 ·obtain ⟨ao,c,hv,h1,h2,h3,h4⟩:=h.seg
  simp at hv
  obtain ⟨rfl,rfl⟩:=hv
  exact ⟨_,_,rfl,Nat.le_refl _,by omega,by simp,h4⟩
theorem Cut.lt {w:World}{B:Nat}{v:Value}{L:List UInt8}(h:Cut w B v L):∀k,v.ownBlock=some k->B<=k/\k<w.heap.size:=by
 rcases h with h | ⟨g,cap,rfl,h⟩
 ·exact h.lt
 ·exact fun k hk=>h.lt k hk
theorem Cut.same {w w':World}{B:Nat}{v:Value}{L:List UInt8}(h:Cut w B v L)(hs:∀k,v.ownBlock=some k->w'.heap[k]? = w.heap[k]?):Cut w' B v L:=by
 rcases h with h | ⟨g,cap,rfl,h⟩
 ·exact .inl (h.same hs)
 ·exact .inr ⟨g,cap,rfl,h.same fun k hk=>hs k hk⟩
theorem Cut.grown {w w':World}{B:Nat}{v:Value}{L:List UInt8}(h:Cut w B v L)(hg:w.grownBy w' none):Cut w' B v L :=
 h.same fun k hk=>hg.block k (h.lt k hk).2 (by simp)
theorem Cut.mono {w:World}{B B':Nat}{v:Value}{L:List UInt8}(h:Cut w B v L)(hB:B'<=B):Cut w B' v L:=by
 rcases h with h | ⟨g,cap,rfl,h⟩
 ·exact .inl (h.mono hB)
 ·exact .inr ⟨g,cap,rfl,h.mono hB⟩
end Go.Proofs.YtanoabliahcbeaaGreat.Names
namespace Go.Proofs.YtanoabliahcbeaaGreat.Names
end Go.Proofs.YtanoabliahcbeaaGreat.Names
namespace Go.Proofs.YtanoabliahcbeaaGreat.Names
open Go.RowKit Disk
end Go.Proofs.YtanoabliahcbeaaGreat.Names
