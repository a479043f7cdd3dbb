import Derived.Test.YtadhfejefpildaaGreatProg
import Derived.KernelRfl
import Derived.Test.YtadhfejefpildaaGreatDiskAll
import Derived.Lib.Bytealg
import Derived.ArgAppend
set_option maxHeartbeats 1000000
set_option maxRecDepth 100000
namespace Go.Proofs.YtadhfejefpildaaGreat.Names
def begins (A K:List UInt8):Prop:=K.take A.length=A
def alnum (c:UInt8):Bool:=(decide (97<=c.toNat) && decide (c.toNat<=122)) || (decide (48<=c.toNat) && decide (c.toNat<=57))
def tabB (L:List UInt8):Bool:=(decide (1<=L.length) && decide (L.length<=16)) && L.all alnum
def keyB (L:List UInt8):Bool:=decide (1<=L.length) && decide (L.length<=64)
def aU (L:List UInt8):Bool:=decide (L.length<=256)
theorem pa {L:List UInt8}{k:Nat}(hk:k<L.length)(h:alnum L[k]=false):tabB L=false:=by
 unfold tabB
 have:L.all alnum=false:=by
  rw [List.all_eq_false]
  exact ⟨L[k],List.getElem_mem hk,by rw [h];simp⟩
 rw [this,Bool.and_false]
theorem pb {L:List UInt8}(h:∀j (hj:j<L.length),alnum L[j]=true):tabB L=(decide (1<=L.length) && decide (L.length<=16)):=by
 unfold tabB
 have:L.all alnum=true:=by
  rw [List.all_eq_true]
  intro x hx
  obtain ⟨j,hj,rfl⟩:=List.mem_iff_getElem.1 hx
  exact h j hj
 rw [this,Bool.and_true]
def nV (c:UInt8):Bool:=decide (33<=c.toNat) && decide (c.toNat<=126) && decide (c.toNat≠37) && decide (c.toNat≠44) && decide (c.toNat≠59)
def dig (n:Nat):UInt8:=if n<10 then UInt8.ofNat (48+n) else UInt8.ofNat (55+n)
def esc (c:UInt8):List UInt8:=if nV c=true then [c] else [37,dig (c.toNat / 16),dig (c.toNat % 16)]
def body (b:List UInt8):List UInt8:=b.flatMap esc
def hexV (c:UInt8):Option Nat:=if 48<=c.toNat/\c.toNat<=57 then some (c.toNat-48) else if 65<=c.toNat/\c.toNat<=70 then some (c.toNat-55) else none
def two (a b:Nat):UInt8:=UInt8.ofNat (16*a+b)
def first:List UInt8->UInt8 × Nat
 | []=>(0,0)
 | x :: r=>if nV x=true then (x,1) else if x.toNat≠37 then (0,0) else match r with
  | h :: l :: _=>match hexV h,hexV l with
   | some a,some b=>if nV (two a b)=true then (0,0) else (two a b,3)
   | _,_=>(0,0)
  | _=>(0,0)
def val (c:UInt8):Nat:=if 65<=c.toNat/\c.toNat<=70 then c.toNat-55 else (c.toNat+208) % 256
def vE (h l:UInt8):UInt8:=UInt8.ofNat ((16*val h % 256+val l) % 256)
def ld:List UInt8->List UInt8
 | []=>[]
 | [x]=>[x]
 | [x,y]=>x :: ld [y]
 | x :: h :: l :: t=>if x.toNat=37 then vE h l :: ld t else x :: ld (h :: l :: t)
def bV (s:List UInt8):Int:=if s≠[37]/\¬(s≠[]/\body (ld s)=s) then 4 else 0
end Go.Proofs.YtadhfejefpildaaGreat.Names
namespace Go.Proofs.YtadhfejefpildaaGreat.Names
open Go.RowKit Disk
theorem gX (ts:Array TypeId)(t:TypeId)(m n:Nat)(w:World):(Builtin.min_ ts t #[.int .i64 m,.int .i64 n]).run Tryz.prog w=.ok (.int .i64 ((min m n:Nat):Int)) w:=by
 by_cases h:m<=n
 ·rw [Nat.min_eq_left h]
  simp [Builtin.min_,Builtin.min2]
  try omega
 ·rw [Nat.min_eq_right (by omega)]
  simp [Builtin.min_,Builtin.min2]
  try omega
theorem ij {w:World}{v:Value}{L:List UInt8}(h:Seg w v L):∃ao n cap,v=.slice ao n cap/\L.length=n/\n<=9223372036854775807/\Hid (Seg w (.slice ao n cap) L):=by
 obtain ⟨ao,cap,e⟩:=h.shape
 exact ⟨ao,L.length,cap,e,rfl,h.len,by rw [<-e];exact h⟩
def Str (L:List UInt8):Value:=.string ⟨L.toArray⟩
theorem jM (L:List UInt8)(k:Nat)(hk:k<L.length)(w:World):(Instr.index 9 (.string ⟨L.toArray⟩) (.int .i64 k)).run Tryz.prog w=.ok (.int .u8 (L[k].toNat:Int)) w:=by
 rw [run_index_string w 9 _ _ _ Tryz.underlying9]
 have hs:(⟨L.toArray⟩:ByteArray).size=L.length:=by simp [ByteArray.size]
 rw [dif_pos ⟨by omega,by rw [hs];omega⟩]
 congr 3
theorem mt (L:List UInt8):(⟨L.toArray⟩:ByteArray).size=L.length:=by simp [ByteArray.size]
theorem ei (c:UInt8):c.toNat<256:=UInt8.toNat_lt c
theorem wB (v:Value)(L:List UInt8)(w:World)(hs:Seg w v L):Calls Tryz.prog 156 #[v] w fun e w'=>e=.returned (.bool (keyB L))/\w'=w:=by
 obtain ⟨ao,n,cap,rfl,hn,hlen,HS⟩:=ij hs
 unfold keyB
 rw [hn]
 clear hs hn HS
 go_enter Tryz.func156,Tryz.ntmps156
 by_cases h:(1:Int)<=n
 ·rw [decide_eq_true (by omega:1<=n),Bool.true_and]
  go_wp2
  go_ret
  exact ⟨by simp;try omega,rfl⟩
 ·rw [decide_eq_false (by omega:¬1<=n),Bool.false_and]
  go_wp2
  go_ret
  exact ⟨rfl,rfl⟩
theorem gu (v:Value)(L:List UInt8)(w:World)(hs:Seg w v L):Calls Tryz.prog 144 #[v] w fun e w'=>e=.returned (.bool (keyB L))/\w'=w:=by
 obtain ⟨ao,n,cap,rfl,hn,hlen,HS⟩:=ij hs
 unfold keyB
 rw [hn]
 clear hs hn HS
 go_enter Tryz.func144,Tryz.ntmps144
 by_cases h:(1:Int)<=n
 ·rw [decide_eq_true (by omega:1<=n),Bool.true_and]
  go_wp2
  go_ret
  exact ⟨by simp;try omega,rfl⟩
 ·rw [decide_eq_false (by omega:¬1<=n),Bool.false_and]
  go_wp2
  go_ret
  exact ⟨rfl,rfl⟩
theorem cQ (v:Value)(L:List UInt8)(w:World)(hs:Seg w v L):Calls Tryz.prog 158 #[v] w fun e w'=>e=.returned (.bool (aU L))/\w'=w:=by
 obtain ⟨ao,n,cap,rfl,hn,hlen,HS⟩:=ij hs
 unfold aU
 rw [hn]
 clear hs hn HS
 go_enter Tryz.func158,Tryz.ntmps158
 go_wp2
 go_ret
 exact ⟨by simp;try omega,rfl⟩
theorem bP (v:Value)(L:List UInt8)(w:World)(hs:Seg w v L):Calls Tryz.prog 146 #[v] w fun e w'=>e=.returned (.bool (aU L))/\w'=w:=by
 obtain ⟨ao,n,cap,rfl,hn,hlen,HS⟩:=ij hs
 unfold aU
 rw [hn]
 clear hs hn HS
 go_enter Tryz.func146,Tryz.ntmps146
 go_wp2
 go_ret
 exact ⟨by simp;try omega,rfl⟩
theorem fP (L:List UInt8)(w:World)(hl:L.length<=9223372036854775807):Calls Tryz.prog 157 #[Str L] w fun e w'=>e=.returned (.bool (tabB L))/\w'=w:=by
 unfold Str
 obtain ⟨X,hX⟩:∃X,(⟨L.toArray⟩:ByteArray)=X:=⟨_,rfl⟩
 obtain ⟨n,hn⟩:∃n,L.length=n:=⟨_,rfl⟩
 have hsz:X.size=n:=by rw [<-hX,mt,hn]
 have HX:Hid ((⟨L.toArray⟩:ByteArray)=X/\L.length=n):=⟨hX,hn⟩
 rw [hX]
 rw [hn] at hl
 obtain ⟨R,hR⟩:∃R,tabB L=R:=⟨_,rfl⟩
 have HR:Hid (tabB L=R):=hR
 rw [hR]
 clear hX hn hR
 go_enter Tryz.func157,Tryz.ntmps157
 by_cases h1:n<1
 ·have e:R=false:=by rw [<-HR.out];unfold tabB;rw [HX.out.2,decide_eq_false (by omega:¬1<=n)];simp
  subst e
  have i1:(n:Int)<1:=by omega
  go_wp2_with fail
  refine wp_scope_straight ?_
  go_wp2_with fail
  first | rw [Exit.noGoto_ret] | skip
  go_ret
  exact ⟨rfl,rfl⟩
 ·by_cases h2:16<n
  ·have e:R=false:=by rw [<-HR.out];unfold tabB;rw [HX.out.2,decide_eq_false (by omega:¬n<=16)];simp
   subst e
   have i1:¬(n:Int)<1:=by omega
   have i2:(16:Int)<n:=by omega
   go_wp2_with fail
   refine wp_scope_straight ?_
   go_wp2_with fail
   first | rw [Exit.noGoto_ret] | skip
   go_ret
   exact ⟨rfl,rfl⟩
  ·have i1:¬(n:Int)<1:=by omega
   have i2:¬(16:Int)<n:=by omega
   go_wp2_with fail
   refine wp_scope_straight ?_
   go_wp2_with fail
   refine wp_label ?_
   refine (‹∀(a:Act) (w:World),Code.wp Tryz.prog _ _ a w->_› _ _ ?_)
   go_wp2_with fail
   go_loopw [15] (fun i wr=>∃k:Nat,k<=n/\i=.int .i64 k/\wr=w/\∀j (hj:j<L.length),j<k->alnum L[j]=true) (fun i _=>n-(intOf i).toNat)
   case atStart=>exact ⟨0,by omega,rfl,rfl,fun j _ h=>by omega⟩
   case round =>
    obtain ⟨k,hk,rfl,hwr,hinv⟩:=hrel
    have HW:Hid (wr=w/\∀j (hj:j<L.length),j<k->alnum L[j]=true):=⟨hwr,hinv⟩
    clear hwr hinv
    by_cases hlt:k<n
    ·have hkl:k<L.length:=by rw [HX.out.2];exact hlt
     have hidx:=jM L k hkl
     rw [HX.out.1] at hidx
     obtain ⟨q,hq⟩:∃q,alnum L[k]=q:=⟨_,rfl⟩
     have HQ:Hid (alnum L[k]=q):=hq
     have hd:=hq
     unfold alnum at hd
     obtain ⟨x,hx⟩:∃x,L[k].toNat=x:=⟨_,rfl⟩
     rw [hx] at hidx hd
     clear hq hx
     have i3:(0:Int)<=(k:Int):=by omega
     have i4:(k:Int)<(n:Int):=by omega
     by_cases a1:(97:Int)<=x/\(x:Int)<=122
     ·obtain ⟨a1,a2⟩:=a1
      have e:q=true:=by rw [<-hd];simp;omega
      subst e
      clear hd
      go_wp2_with fail
      go_roundw
      case rel=>exact ⟨k+1,by omega,by go_num,HW.out.1,fun j hj hjk=>by
       by_cases e:j=k
       ·subst e;exact HQ.out
       ·exact HW.out.2 j hj (by omega)⟩
      case measure=>simp [intOf];omega
     ·have a1':(¬(97:Int)<=x)\/((97:Int)<=x/\¬(x:Int)<=122):=by omega
      by_cases a3:(48:Int)<=x/\(x:Int)<=57
      ·obtain ⟨a3,a4⟩:=a3
       have e:q=true:=by rw [<-hd];simp;omega
       subst e
       clear hd
       rcases a1' with a5 | ⟨a5,a6⟩
       ·go_wp2_with fail
        go_roundw
        case rel=>exact ⟨k+1,by omega,by go_num,HW.out.1,fun j hj hjk=>by
         by_cases e:j=k
         ·subst e;exact HQ.out
         ·exact HW.out.2 j hj (by omega)⟩
        case measure=>simp [intOf];omega
       ·omega
      ·have a3':(¬(48:Int)<=x)\/((48:Int)<=x/\¬(x:Int)<=57):=by omega
       have e:q=false:=by rw [<-hd];simp;omega
       subst e
       have e:R=false:=by rw [<-HR.out];exact pa hkl HQ.out
       subst e
       clear hd a1 a3
       rcases a1' with a5 | ⟨a5,a6⟩ <;> rcases a3' with a7 | ⟨a7,a8⟩
       all_goals (
        go_wp2_with fail
        first | rw [Exit.noGoto_ret] | skip
        go_ret
        exact ⟨rfl,HW.out.1⟩)
    ·have e:R=true:=by
      rw [<-HR.out,pb (fun j hj=>HW.out.2 j hj (by have:=HX.out.2;omega)),HX.out.2]
      simp;omega
     subst e
     go_wp2_with fail
     first | rw [Exit.noGoto_ret] | skip
     go_ret
     exact ⟨rfl,HW.out.1⟩
def Cut (w:World)(B:Nat)(v:Value)(L:List UInt8):Prop :=
 Disk.Own w B v L\/∃g cap,v=.slice (some ⟨g,0,none⟩) L.length L.length/\Disk.Own w B (.slice (some ⟨g,0,none⟩) L.length cap) L
theorem Cut.seg {w:World}{B:Nat}{v:Value}{L:List UInt8}(h:Cut w B v L):Seg w v L:=by
 rcases h with h | ⟨g,cap,rfl,h⟩
 ·exact h.seg
 ·obtain ⟨ao,c,hv,h1,h2,h3,h4⟩:=h.seg
  simp at hv
  obtain ⟨rfl,rfl⟩:=hv
  exact ⟨_,_,rfl,Nat.le_refl _,by omega,by simp,h4⟩
theorem Cut.lt {w:World}{B:Nat}{v:Value}{L:List UInt8}(h:Cut w B v L):∀k,v.ownBlock=some k->B<=k/\k<w.heap.size:=by
 rcases h with h | ⟨g,cap,rfl,h⟩
 ·exact h.lt
 ·exact fun k hk=>h.lt k hk
theorem Cut.same {w w':World}{B:Nat}{v:Value}{L:List UInt8}(h:Cut w B v L)(hs:∀k,v.ownBlock=some k->w'.heap[k]? = w.heap[k]?):Cut w' B v L:=by
 rcases h with h | ⟨g,cap,rfl,h⟩
 ·exact .inl (h.same hs)
 ·exact .inr ⟨g,cap,rfl,h.same fun k hk=>hs k hk⟩
theorem Cut.grown {w w':World}{B:Nat}{v:Value}{L:List UInt8}(h:Cut w B v L)(hg:w.grownBy w' none):Cut w' B v L :=
 h.same fun k hk=>hg.block k (h.lt k hk).2 (by simp)
theorem Cut.mono {w:World}{B B':Nat}{v:Value}{L:List UInt8}(h:Cut w B v L)(hB:B'<=B):Cut w B' v L:=by
 rcases h with h | ⟨g,cap,rfl,h⟩
 ·exact .inl (h.mono hB)
 ·exact .inr ⟨g,cap,rfl,h.mono hB⟩
theorem cZ (L:List UInt8)(w:World)(hl:L.length<=9223372036854775807):Calls Tryz.prog 143 #[Str L] w fun e w'=>e=.returned (.bool (tabB L))/\w'=w:=by
 unfold Str
 obtain ⟨X,hX⟩:∃X,(⟨L.toArray⟩:ByteArray)=X:=⟨_,rfl⟩
 obtain ⟨n,hn⟩:∃n,L.length=n:=⟨_,rfl⟩
 have hsz:X.size=n:=by rw [<-hX,mt,hn]
 have HX:Hid ((⟨L.toArray⟩:ByteArray)=X/\L.length=n):=⟨hX,hn⟩
 rw [hX]
 rw [hn] at hl
 obtain ⟨R,hR⟩:∃R,tabB L=R:=⟨_,rfl⟩
 have HR:Hid (tabB L=R):=hR
 rw [hR]
 clear hX hn hR
 go_enter Tryz.func143,Tryz.ntmps143
 go_wp2_with fail
 go_loopw [3] (fun i wr=>∃k:Nat,k<=n/\i=.int .i64 k/\wr=w/\∀j (hj:j<L.length),j<k->alnum L[j]=true) (fun i _=>n-(intOf i).toNat)
 case atStart=>exact ⟨0,by omega,rfl,rfl,fun j _ h=>by omega⟩
 case round =>
  obtain ⟨k,hk,rfl,hwr,hinv⟩:=hrel
  have HW:Hid (wr=w/\∀j (hj:j<L.length),j<k->alnum L[j]=true):=⟨hwr,hinv⟩
  clear hwr hinv
  by_cases hlt:k<n
  ·have hkl:k<L.length:=by rw [HX.out.2];exact hlt
   have hidx:=jM L k hkl
   rw [HX.out.1] at hidx
   obtain ⟨q,hq⟩:∃q,alnum L[k]=q:=⟨_,rfl⟩
   have HQ:Hid (alnum L[k]=q):=hq
   have hd:=hq
   unfold alnum at hd
   obtain ⟨x,hx⟩:∃x,L[k].toNat=x:=⟨_,rfl⟩
   rw [hx] at hidx hd
   clear hq hx
   have i3:(0:Int)<=(k:Int):=by omega
   have i4:(k:Int)<(n:Int):=by omega
   by_cases a1:(97:Int)<=x/\(x:Int)<=122
   ·obtain ⟨a1,a2⟩:=a1
    have e:q=true:=by rw [<-hd];simp;omega
    subst e
    clear hd
    go_wp2_with fail
    go_roundw
    case rel=>exact ⟨k+1,by omega,by go_num,HW.out.1,fun j hj hjk=>by
     by_cases e:j=k
     ·subst e;exact HQ.out
     ·exact HW.out.2 j hj (by omega)⟩
    case measure=>simp [intOf];omega
   ·by_cases a3:(48:Int)<=x/\(x:Int)<=57
    ·obtain ⟨a3,a4⟩:=a3
     have e:q=true:=by rw [<-hd];simp;omega
     subst e
     have a5:¬(97:Int)<=x:=by omega
     clear hd
     go_wp2_with fail
     go_roundw
     case rel=>exact ⟨k+1,by omega,by go_num,HW.out.1,fun j hj hjk=>by
      by_cases e:j=k
      ·subst e;exact HQ.out
      ·exact HW.out.2 j hj (by omega)⟩
     case measure=>simp [intOf];omega
    ·have a1':(¬(97:Int)<=x)\/((97:Int)<=x/\¬(x:Int)<=122):=by omega
     have a3':(¬(48:Int)<=x)\/((48:Int)<=x/\¬(x:Int)<=57):=by omega
     have e:q=false:=by rw [<-hd];simp;omega
     subst e
     have e:R=false:=by rw [<-HR.out];exact pa hkl HQ.out
     subst e
     clear hd a1 a3
     rcases a1' with a5 | ⟨a5,a6⟩ <;> rcases a3' with a7 | ⟨a7,a8⟩
     all_goals (
      go_wp2_with fail
      go_ret
      exact ⟨rfl,HW.out.1⟩)
  ·have e:R=(decide (1<=n) && decide (n<=16)):=by
    rw [<-HR.out,pb (fun j hj=>HW.out.2 j hj (by have:=HX.out.2;omega)),HX.out.2]
   by_cases h1:(1:Int)<=n
   ·rw [decide_eq_true (by omega:1<=n),Bool.true_and] at e
    subst e
    go_wp2_with fail
    go_ret
    exact ⟨by first | rfl | (simp;try omega),HW.out.1⟩
   ·rw [decide_eq_false (by omega:¬1<=n),Bool.false_and] at e
    subst e
    go_wp2_with fail
    go_ret
    exact ⟨rfl,HW.out.1⟩
end Go.Proofs.YtadhfejefpildaaGreat.Names
namespace Go.Proofs.YtadhfejefpildaaGreat.Names
end Go.Proofs.YtadhfejefpildaaGreat.Names
namespace Go.Proofs.YtadhfejefpildaaGreat.Names
open Go.RowKit Disk
end Go.Proofs.YtadhfejefpildaaGreat.Names
