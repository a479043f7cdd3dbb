import Derived.Test.YtgjcpjckaopeeaaGreatDoorCallsBp
import Derived.Lib.ParseIntB
import Derived.Test.YtgjcpjckaopeeaaGreatDoorKceAll
set_option maxHeartbeats 8000000
set_option maxRecDepth 100000
namespace Go.Proofs.YtgjcpjckaopeeaaGreatDoor
open Go.RowKit
open Go.Proofs.YtgjcpjckaopeeaaGreatDoor.Calls
theorem eK:∀(k u:Nat),u<10 ^ (k+1)->(Lib.decDigits u).length<=k+1
 | 0,u,h=>by rw [Lib.decDigits_one (by simpa using h)];simp
 | k+1,u,h=>by
  rw [Lib.decDigits]
  split
  ·simp
  ·rw [List.length_append]
   have:=eK k (u / 10) (by rw [Nat.div_lt_iff_lt_mul (by decide)];rw [Nat.pow_succ] at h;exact h)
   simp;omega
theorem ic (u:Nat):Lib.decDigits u≠[]/\∀x ∈ Lib.decDigits u,48<=x.toNat/\x.toNat<=57:=by
 induction u using Nat.strongRecOn with
 | ind u ih =>
  rw [Lib.decDigits]
  split
  ·rename_i h
   refine ⟨by simp,fun x hx=>?_⟩
   rw [List.mem_singleton.1 hx,bI h];omega
  ·rename_i h
   refine ⟨by simp,fun x hx=>?_⟩
   simp only [List.mem_append,List.mem_singleton] at hx
   rcases hx with hx | rfl
   ·exact (ih (u / 10) (by omega)).2 x hx
   ·rw [bI (by omega)];omega
theorem cZ {n:Int}(h0:-9223372036854775808<=n)(h1:n<=9223372036854775807):(Lib.itoa n).length<=21:=by
 unfold Lib.itoa
 split
 ·have:=eK 19 n.natAbs (by omega)
  simp;omega
 ·have:=eK 19 n.toNat (by omega)
  omega
theorem cD (n:Int):(32:UInt8) ∉ Lib.itoa n:=by
 unfold Lib.itoa
 split
 ·intro h
  simp only [List.mem_cons] at h
  rcases h with h | h
  ·exact absurd h (by decide)
  ·have:=(ic _).2 _ h
   revert this;decide
 ·intro h
  have:=(ic _).2 _ h
  revert this;decide
theorem jx (M:Nat):∀(L R:List UInt8) (acc:Nat),Lib.parseUintM M acc (L ++ R)=match Lib.parseUintM M acc L with | .ok a=>Lib.parseUintM M a R | .range=>.range | .syntax=>.syntax
 | [],R,acc=>by simp [Lib.parseUintM]
 | c :: L,R,acc=>by
  simp only [List.cons_append,Lib.parseUintM]
  split
  ·split
   ·rfl
   ·split
    ·rfl
    ·exact jx M L R _
  ·rfl
theorem qz (M:Nat)(hM:M<=18446744073709551615)(u:Nat)(hu:u<=M):Lib.parseUintM M 0 (Lib.decDigits u)=.ok u:=by
 induction u using Nat.strongRecOn with
 | ind u ih =>
  rw [Lib.decDigits]
  split
  ·rename_i h
   simp only [Lib.parseUintM]
   rw [bI h,if_pos (by omega),if_neg (by omega),if_neg (by omega)]
   congr 1;omega
  ·rename_i h
   rw [jx,ih (u / 10) (by omega) (by omega)]
   simp only [Lib.parseUintM]
   rw [bI (by omega),if_pos (by omega),if_neg (by omega),if_neg (by omega)]
   congr 1;omega
theorem jY {n:Int}(h0:-9223372036854775808<=n)(h1:n<=9223372036854775807):Lib.parseIntB 64 (Lib.itoa n)=.ok n:=by
 unfold Lib.itoa
 split
 ·rename_i h
  unfold Lib.parseIntB
  simp only [show (45:UInt8).toNat=45 from rfl]
  simp only [or_true,if_true]
  unfold Lib.parseUintB
  rw [if_neg (ic _).1,qz _ (by decide) _ (by omega)]
  dsimp only
  rw [if_neg (by simp),if_neg (by simp;omega)]
  congr 1;first | omega | (split <;> omega)
 ·rename_i h
  have hd:=(ic n.toNat)
  cases hL:Lib.decDigits n.toNat with
  | nil=>exact absurd hL hd.1
  | cons c r =>
   have hc:=hd.2 c (by rw [hL];simp)
   unfold Lib.parseIntB
   simp only
   rw [if_neg (by omega),<-hL]
   unfold Lib.parseUintB
   rw [if_neg hd.1,qz _ (by decide) _ (by omega)]
   simp only
   rw [if_neg (by simp;omega),if_neg (by simp;omega)]
   congr 1
   rw [if_neg (by omega)];omega
theorem qA {l:List UInt8}{v:Int}(h:Lib.parseIntB 64 l=.ok v):-9223372036854775808<=v/\v<=9223372036854775807:=by
 unfold Lib.parseIntB at h
 cases l with
 | nil=>cases h
 | cons c r =>
  simp only at h
  split at h
  ·cases h
  ·cases h
  ·split at h
   ·cases h
   ·split at h
    ·cases h
    ·rename_i u hu h1 h2
     simp only [Lib.NumEnd.ok.injEq] at h
     subst h
     by_cases hc:c.toNat=45
     ·rw [if_pos hc]
      simp [hc] at h2
      omega
     ·rw [if_neg hc]
      simp [hc] at h1
      omega
def pInt (x:Bs):Option Int:=match Lib.parseIntB 64 x with | .ok v=>if Lib.itoa v=x then some v else none | _=>none
theorem oE {n:Int}(h0:-9223372036854775808<=n)(h1:n<=9223372036854775807):pInt (Lib.itoa n)=some n:=by unfold pInt;rw [jY h0 h1];simp
theorem qB {x:Bs}{v:Int}(h:pInt x=some v):x=Lib.itoa v/\-9223372036854775808<=v/\v<=9223372036854775807:=by
 unfold pInt at h
 split at h
 ·rename_i u hu
  split at h
  ·rename_i e
   simp at h
   subst h
   exact ⟨e.symm,qA hu⟩
  ·cases h
 ·cases h
theorem qC:pInt []=none:=rfl
def ay (k:Int):Bs:=if k=1 then [111,112,101,110] else if k=2 then [99,97,108,108] else if k=3 then [99,108,111,115,101] else if k=4 then [101,120,112,105,114,101] else []
def dt (c:PCmd):List Bs:=(bK c).map Lib.itoa ++ (if c.kind=2 then [aw c.ops] else [])
def ce (c:PCmd):List Bs:=ay c.kind :: dt c
def bi (c:PCmd):Bs:=Lib.join (ce c) [32]
def wNx (L:List Bs):Bs × List Bs:=match L with | []=>([],[]) | x :: r=>(x,r)
def bH (x:Bs):Int:=if x=ay 1 then 1 else if x=ay 2 then 2 else if x=ay 3 then 3 else if x=ay 4 then 4 else 0
def numW (L:List Bs):Option (Int × List Bs):=(pInt (wNx L).1).map fun v=>(v,(wNx L).2)
def finW (c:PCmd)(L:List Bs):Option PCmd:=if L=[]/\okC c=true then some c else none
def m8 (s n m:Int)(L:List Bs):Option PCmd:=if (aN (wNx L).1).2=0 then finW ⟨2,0,s,n,m,(aN (wNx L).1).1⟩ (wNx L).2 else none
def fX (L:List Bs):Option PCmd :=
 if bH (wNx L).1=1 then (numW (wNx L).2).bind fun t=>finW ⟨1,t.1,0,0,0,[]⟩ t.2
 else if bH (wNx L).1=2 then (numW (wNx L).2).bind fun s=>(numW s.2).bind fun n=>(numW n.2).bind fun m=>m8 s.1 n.1 m.1 m.2
 else if bH (wNx L).1=3\/bH (wNx L).1=4 then (numW (wNx L).2).bind fun s=>finW ⟨bH (wNx L).1,0,s.1,0,0,[]⟩ s.2
 else none
def cutN (s:Bs):List Bs:=Lib.splitK [32] 0 (min 5 (s.length+1)-1) s
def pTxt (s:Bs):Option PCmd:=fX (cutN s)
def cA (s:Bs):PCmd × Int:=match pTxt s with | some c=>(c,0) | none=>(bj,4)
theorem gG {c d:PCmd}{L:List Bs}(h:finW c L=some d):c=d/\L=[]/\okC d=true:=by
 unfold finW at h
 split at h
 ·rename_i hh
  simp at h
  subst h
  exact ⟨rfl,hh.1,hh.2⟩
 ·cases h
theorem c8 {L:List Bs}{x:Int × List Bs}(h:numW L=some x):L=Lib.itoa x.1 :: x.2/\-9223372036854775808<=x.1/\x.1<=9223372036854775807:=by
 unfold numW at h
 cases L with
 | nil=>simp [wNx,qC] at h
 | cons a r =>
  simp only [wNx] at h
  cases hp:pInt a with
  | none=>rw [hp] at h;cases h
  | some v =>
   rw [hp] at h
   simp at h
   subst h
   obtain ⟨e,b⟩:=qB hp
   exact ⟨by rw [e],b⟩
theorem gH {L:List Bs}{k:Int}(h:bH (wNx L).1=k)(hk:1<=k/\k<=4):L=ay k :: (wNx L).2:=by
 cases L with
 | nil=>revert h;simp only [wNx];rw [show bH []=0 by decide];omega
 | cons a r =>
  simp only [wNx] at h ⊢
  unfold bH at h
  split at h
  ·rename_i e;subst h;rw [e]
  ·split at h
   ·rename_i e;subst h;rw [e]
   ·split at h
    ·rename_i e;subst h;rw [e]
    ·split at h
     ·rename_i e;subst h;rw [e]
     ·omega
theorem mq:cF []=none:=by kernel_rfl
theorem mr {L:List Bs}{c:PCmd}(h:fX L=some c):okC c=true/\InC c/\L=ce c:=by
 unfold fX at h
 split at h
 ·rename_i hk
  have e0:=gH hk (by omega)
  cases hn:numW (wNx L).2 with
  | none=>rw [hn] at h;cases h
  | some t =>
   rw [hn] at h
   simp only [Option.bind_some] at h
   obtain ⟨rfl,e1,e2⟩:=gG h
   obtain ⟨e3,b0,b1⟩:=c8 hn
   refine ⟨e2,?_,?_⟩
   ·constructor <;> first | exact b0 | exact b1 | (dsimp only;omega)
   ·rw [e0,e3,e1];simp [ce,dt,bK]
 ·split at h
  ·rename_i hk1 hk
   have e0:=gH hk (by omega)
   cases hs:numW (wNx L).2 with
   | none=>rw [hs] at h;cases h
   | some s =>
    rw [hs] at h
    simp only [Option.bind_some] at h
    cases hn:numW s.2 with
    | none=>rw [hn] at h;cases h
    | some n =>
     rw [hn] at h
     simp only [Option.bind_some] at h
     cases hm:numW n.2 with
     | none=>rw [hm] at h;cases h
     | some m =>
      rw [hm] at h
      simp only [Option.bind_some] at h
      unfold m8 at h
      split at h
      ·rename_i hp
       obtain ⟨rfl,e1,e2⟩:=gG h
       obtain ⟨e3,s0,s1⟩:=c8 hs
       obtain ⟨e4,n0,n1⟩:=c8 hn
       obtain ⟨e5,m0,m1⟩:=c8 hm
       refine ⟨e2,?_,?_⟩
       ·constructor <;> first | exact s0 | exact s1 | exact n0 | exact n1 | exact m0 | exact m1 | (dsimp only;omega)
       ·have hz:∃x,m.2=[x]/\x=aw (aN x).1:=by
         cases hmm:m.2 with
         | nil =>
          exfalso
          rw [hmm] at hp
          simp only [wNx] at hp
          unfold aN at hp
          rw [if_pos (by simp),mq] at hp
          simp at hp
         | cons x r =>
          rw [hmm] at hp e1
          simp only [wNx] at hp e1
          subst e1
          refine ⟨x,rfl,?_⟩
          unfold aN at hp ⊢
          split at hp
          ·rename_i hlen
           cases hq:cF x with
           | none=>rw [hq] at hp;simp at hp
           | some l=>rw [if_pos hlen];exact (dQ.1 hq).2
          ·simp at hp
        obtain ⟨x,hx,hx2⟩:=hz
        rw [e0,e3,e4,e5,hx]
        simp only [wNx]
        simp [ce,dt,bK]
        exact hx2
      ·cases h
  ·split at h
   ·rename_i hk1 hk2 hk
    obtain ⟨kk,hkk⟩:∃k,bH (wNx L).1=k:=⟨_,rfl⟩
    rw [hkk] at h hk
    have e0:=gH hkk (by omega)
    cases hn:numW (wNx L).2 with
    | none=>rw [hn] at h;cases h
    | some t =>
     rw [hn] at h
     simp only [Option.bind_some] at h
     obtain ⟨rfl,e1,e2⟩:=gG h
     obtain ⟨e3,b0,b1⟩:=c8 hn
     have q1:¬kk=1:=by omega
     have q2:¬kk=2:=by omega
     refine ⟨e2,?_,?_⟩
     ·constructor <;> first | exact b0 | exact b1 | (dsimp only;omega)
     ·rw [e0,e3,e1];simp [ce,dt,bK,q1,q2,hk]
   ·cases h
theorem cU (k:Int):(32:UInt8) ∉ ay k:=by
 unfold ay
 split
 ·decide
 ·split
  ·decide
  ·split
   ·decide
   ·split <;> decide
theorem ff {k:Int}(h:1<=k/\k<=4):bH (ay k)=k:=by
 rcases (show k=1\/k=2\/k=3\/k=4 by omega) with rfl | rfl | rfl | rfl <;> decide
theorem ey {n:Int}(h0:-9223372036854775808<=n)(h1:n<=9223372036854775807)(r:List Bs):numW (Lib.itoa n :: r)=some (n,r):=by
 unfold numW wNx;simp only;rw [oE h0 h1];rfl
theorem oF {c:PCmd}(h:okC c=true)(hi:InC c):fX (ce c)=some c:=by
 have hk:=cf (cT h)
 have hn:=iL (cT h)
 have hko:bH (wNx (ce c)).1=c.kind:=ff hk
 unfold fX
 rw [hko]
 unfold ce
 simp only [wNx]
 unfold dt bK
 by_cases h1:c.kind=1
 ·have e:c=⟨1,c.token,0,0,0,[]⟩:=by rw [hn,cu,if_pos h1];simp [h1]
  rw [if_pos h1,if_pos h1,if_neg (by omega)]
  simp only [List.map_cons,List.map_nil,List.append_nil]
  rw [ey hi.t0 hi.t1]
  simp only [Option.bind_some]
  rw [<-e,finW,if_pos ⟨rfl,h⟩]
 ·rw [if_neg h1,if_neg h1]
  by_cases h2:c.kind=2
  ·have e:c=⟨2,0,c.session,c.number,c.mark,c.ops⟩:=by rw [hn,cu,if_neg h1,if_pos h2];simp [h2]
   rw [if_pos h2,if_pos h2,if_pos h2]
   simp only [List.map_cons,List.map_nil,List.cons_append,List.nil_append]
   rw [ey hi.s0 hi.s1]
   simp only [Option.bind_some]
   rw [ey hi.n0 hi.n1]
   simp only [Option.bind_some]
   rw [ey hi.m0 hi.m1]
   simp only [Option.bind_some]
   have hpt:aN (wNx [aw c.ops]).1=(c.ops,0):=io (fC h h2)
   unfold m8
   rw [hpt,if_pos rfl]
   simp only [wNx]
   rw [<-e,finW,if_pos ⟨rfl,h⟩]
  ·have h3:c.kind=3\/c.kind=4:=by omega
   have e:c=⟨c.kind,0,c.session,0,0,[]⟩:=by rw [hn,cu,if_neg h1,if_neg h2,if_pos h3]
   rw [if_neg h2,if_pos h3,if_neg h2,if_pos h3,if_neg h2]
   simp only [List.map_cons,List.map_nil,List.append_nil]
   rw [ey hi.s0 hi.s1]
   simp only [Option.bind_some]
   rw [<-e,finW,if_pos ⟨rfl,h⟩]
theorem gT:∀(L:List Bs) (z:Bs),(∀x ∈ L,(32:UInt8) ∉ x)->Lib.splitK [32] 0 L.length (Lib.join (L ++ [z]) [32])=L ++ [z]
 | [],z,_=>by rw [List.nil_append,bD];rfl
 | x :: L,z,h=>by
  have hx:=h x (by simp)
  have ih:=gT L z (fun y hy=>h y (by simp [hy]))
  have ej:Lib.join (x :: L ++ [z]) [32]=x ++ ([32] ++ Lib.join (L ++ [z]) [32]):=by
   cases L with
   | nil=>rw [List.nil_append,List.cons_append,List.nil_append,be]
   | cons y L=>rw [List.cons_append,List.cons_append,be]
  rw [ej]
  have hi:Lib.index (x ++ ([32] ++ Lib.join (L ++ [z]) [32])) [32]=x.length:=ep (s:=[]) hx
  rw [List.length_cons,Lib.splitK,hi]
  rw [if_neg (by simp)]
  simp only [Int.toNat_natCast,Nat.add_zero,List.take_left,List.length_cons,List.length_nil,Nat.zero_add]
  rw [show x ++ ([32] ++ Lib.join (L ++ [z]) [32])=(x ++ [32]) ++ Lib.join (L ++ [z]) [32] by simp]
  rw [List.drop_left' (by simp),ih]
  rfl
theorem iR {x z:Bs}(hx:(32:UInt8) ∉ x)(hz:(32:UInt8) ∉ z)(k:Nat):Lib.splitK [32] 0 (k+1) (Lib.join [x,z] [32])=[x,z]:=by
 rw [be,bD]
 have hi:Lib.index (x ++ ([32] ++ z)) [32]=x.length:=ep (s:=[]) hx
 rw [Lib.splitK,hi,if_neg (by simp)]
 simp only [Int.toNat_natCast,Nat.add_zero,List.take_left,List.length_cons,List.length_nil,Nat.zero_add]
 rw [show x ++ ([32] ++ z)=(x ++ [32]) ++ z by simp,List.drop_left' (by simp)]
 cases k with
 | zero=>rfl
 | succ k=>rw [Lib.splitK,ii (s:=[]) hz];simp
theorem oG {c:PCmd}(h:okC c=true):cutN (bi c)=ce c:=by
 have hk:=cf (cT h)
 unfold cutN bi ce dt bK
 by_cases h1:c.kind=1
 ·rw [if_pos h1,if_neg (by omega)]
  simp only [List.map_cons,List.map_nil,List.append_nil]
  have hl:4<=(Lib.join [ay c.kind,Lib.itoa c.token] [32]).length:=by rw [be,h1];simp [ay] <;> omega
  obtain ⟨j,hj⟩:∃j,min 5 ((Lib.join [ay c.kind,Lib.itoa c.token] [32]).length+1)-1=j+1:=⟨min 5 ((Lib.join [ay c.kind,Lib.itoa c.token] [32]).length+1)-2,by omega⟩
  rw [hj]
  exact iR (cU _) (cD _) _
 ·rw [if_neg h1]
  by_cases h2:c.kind=2
  ·rw [if_pos h2,if_pos h2]
   simp only [List.map_cons,List.map_nil,List.cons_append,List.nil_append]
   have hl:4<=(Lib.join [ay c.kind,Lib.itoa c.session,Lib.itoa c.number,Lib.itoa c.mark,aw c.ops] [32]).length:=by rw [be,h2];simp [ay] <;> omega
   rw [show min 5 ((Lib.join [ay c.kind,Lib.itoa c.session,Lib.itoa c.number,Lib.itoa c.mark,aw c.ops] [32]).length+1)-1=[ay c.kind,Lib.itoa c.session,Lib.itoa c.number,Lib.itoa c.mark].length by simp only [List.length_cons,List.length_nil];omega]
   exact gT [ay c.kind,Lib.itoa c.session,Lib.itoa c.number,Lib.itoa c.mark] _ (by
    intro x hx
    simp only [List.mem_cons,List.not_mem_nil,or_false] at hx
    rcases hx with rfl | rfl | rfl | rfl
    ·exact cU _
    ·exact cD _
    ·exact cD _
    ·exact cD _)
  ·have h3:c.kind=3\/c.kind=4:=by omega
   rw [if_neg h2,if_pos h3,if_neg h2]
   simp only [List.map_cons,List.map_nil,List.append_nil]
   have hl:4<=(Lib.join [ay c.kind,Lib.itoa c.session] [32]).length:=by rw [be];rcases h3 with e | e <;> rw [e] <;> simp [ay] <;> omega
   obtain ⟨j,hj⟩:∃j,min 5 ((Lib.join [ay c.kind,Lib.itoa c.session] [32]).length+1)-1=j+1:=⟨min 5 ((Lib.join [ay c.kind,Lib.itoa c.session] [32]).length+1)-2,by omega⟩
   rw [hj]
   exact iR (cU _) (cD _) _
theorem kP {s:Bs}{c:PCmd}:pTxt s=some c<->okC c=true/\InC c/\s=bi c:=by
 constructor
 ·intro h
  obtain ⟨h1,h2,h3⟩:=mr h
  refine ⟨h1,h2,?_⟩
  unfold bi
  rw [<-h3]
  exact (eZ [32] _ s).symm
 ·rintro ⟨h1,h2,rfl⟩
  unfold pTxt
  rw [oG h1]
  exact oF h1 h2
theorem kQ {c:PCmd}(h:okC c=true)(hi:InC c):cA (bi c)=(c,0):=by unfold cA;rw [kP.2 ⟨h,hi,rfl⟩]
theorem gU {l:List POp}(h:chk l=0):(aw l).length<=12288:=fK h
theorem fD {c:PCmd}(h:okC c=true)(hi:InC c):(bi c).length<=13000:=by
 have hk:=cf (cT h)
 have ht:=cZ hi.t0 hi.t1
 have hs:=cZ hi.s0 hi.s1
 have hn:=cZ hi.n0 hi.n1
 have hm:=cZ hi.m0 hi.m1
 unfold bi ce dt bK
 rcases (show c.kind=1\/c.kind=2\/c.kind=3\/c.kind=4 by omega) with e | e | e | e
 ·rw [e];simp [be,bD,ay];omega
 ·have:=gU (fC h e)
  rw [e];simp [be,bD,ay];omega
 ·rw [e];simp [be,bD,ay];omega
 ·rw [e];simp [be,bD,ay];omega
end Go.Proofs.YtgjcpjckaopeeaaGreatDoor
namespace Go.Proofs.YtgjcpjckaopeeaaGreatDoor
open Go.RowKit Disk
open Go.Proofs.YtgjcpjckaopeeaaGreatDoor.Calls
open Names (Str)
structure EnvC (w:World):Prop where
 env:EnvF w
 k0:w.cell? ⟨0,0,none⟩=some (.string ⟨#[]⟩)
 k1:w.cell? ⟨0,1,none⟩=some (.string ⟨#[111,112,101,110]⟩)
 k2:w.cell? ⟨0,2,none⟩=some (.string ⟨#[99,97,108,108]⟩)
 k3:w.cell? ⟨0,3,none⟩=some (.string ⟨#[99,108,111,115,101]⟩)
 k4:w.cell? ⟨0,4,none⟩=some (.string ⟨#[101,120,112,105,114,101]⟩)
theorem EnvC.grown {w w':World}(h:EnvC w)(hg:w.grownBy w' none):EnvC w':=⟨h.env.grown hg,af hg h.k0,af hg h.k1,af hg h.k2,af hg h.k3,af hg h.k4⟩
theorem EnvC.set {w w':World}{b:Nat}(h:EnvC w)(hg:w.grownBy w' (some b))(hb:10<=b):EnvC w':=by
 have up:∀{j v},w.cell? ⟨0,j,none⟩=some v->w'.cell? ⟨0,j,none⟩=some v:=fun hc=>hg.cell hc (fun e=>by simp at e;omega)
 exact ⟨h.env.set hg hb,up h.k0,up h.k1,up h.k2,up h.k3,up h.k4⟩
theorem iS (n:Int)(w:World)(hE:EnvF w)(h0:-9223372036854775808<=n)(h1:n<=9223372036854775807):Calls Tryz.prog 45 #[.int .i64 n,.int .i64 10] w fun e w'=>e=.returned (.string ⟨(Lib.itoa n).toArray⟩)/\w.grownBy w' none:=by
 refine (Tryz.strconv_FormatInt_10 n h0 h1 w hE.tab).mono ?_
 rintro e w' ⟨rfl,k,os,rfl⟩
 exact ⟨rfl,ir _ _ _⟩
theorem dz (n:Int)(w:World)(hE:EnvF w)(h0:-9223372036854775808<=n)(h1:n<=9223372036854775807):Calls Tryz.prog 35 #[.int .i64 n] w fun e w'=>e=.returned (.string ⟨(Lib.itoa n).toArray⟩)/\w.grownBy w' none:=by
 go_enter Tryz.func35,Tryz.ntmps35
 go_wp2_with (go_at_call 45;refine (iS n w hE h0 h1).mono ?_;rintro e w1 ⟨rfl,hg⟩)
 go_ret
 exact ⟨rfl,hg⟩
def jy (c:PCmd)(w:World)(e:Ending)(w':World):Prop:=e=.returned (.tuple #[Str (if okC c=true then bi c else []),.int .i64 (chkC c)])/\w.grownBy w' none
theorem oH (ov:Value)(c:PCmd)(w:World)(hl:Ops w ov c.ops)(hI:InC c)(ho:okC c=false):Calls Tryz.prog 11 #[cmdV ov c] w (jy c w):=by
 obtain ⟨ao,n,cp,rfl,_,_,HL⟩:=aJ hl
 have HI:Hid (InC c/\okC c=false):=⟨hI,ho⟩
 clear hl hI ho
 unfold cmdV
 go_enter Tryz.func11,Tryz.ntmps11
 go_wp2_with fail
 obtain ⟨W,hW,HW⟩:=al1 w (cmdA (.slice ao n cp) c) 27
 unfold cmdA at hW
 rw [hW]
 clear hW
 refine (d7 (.slice ao n cp) c W (HL.out.grown HW.out.2.1) HI.out.1).mono ?_
 rintro e w1 ⟨rfl,g1⟩
 rw [show chkC c=2 by rw [chkC,if_neg (by rw [HI.out.2];decide)]]
 have G:Hid (w.grownBy w1 none):=aa HW.out.2.1 g1
 clear g1 HW
 go_wp2_with fail
 go_ret2
 refine ⟨?_,G.out⟩
 rw [if_neg (by rw [HI.out.2];decide),chkC,if_neg (by rw [HI.out.2];decide)]
 rfl
theorem qD (ao:Option Addr)(n cp:Nat)(tk ss nb mk:Int)(l:List POp)(w:World)(hl:Ops w (.slice ao n cp) l)(hI:InC (⟨1,tk,ss,nb,mk,l⟩:PCmd))(ho:okC (⟨1,tk,ss,nb,mk,l⟩:PCmd)=true)(hE:EnvC w):Calls Tryz.prog 11 #[cmdV (.slice ao n cp) (⟨1,tk,ss,nb,mk,l⟩:PCmd)] w (jy (⟨1,tk,ss,nb,mk,l⟩:PCmd) w):=by
 have HL:Hid (Ops w (.slice ao n cp) l/\InC (⟨1,tk,ss,nb,mk,l⟩:PCmd)/\okC (⟨1,tk,ss,nb,mk,l⟩:PCmd)=true/\EnvC w):=⟨hl,hI,ho,hE⟩
 clear hl hI ho hE
 simp only [cmdV]
 have i0:=ix0
 have i1:=ix1
 have i2:=ix2
 go_enter Tryz.func11,Tryz.ntmps11
 go_wp2_with fail
 obtain ⟨W,hW,HW⟩:=al1 w #[.int .i64 1,.int .i64 tk,.int .i64 ss,.int .i64 nb,.int .i64 mk,.slice ao n cp] 27
 rw [hW]
 clear hW
 refine (d7 (.slice ao n cp) (⟨1,tk,ss,nb,mk,l⟩:PCmd) W (HL.out.1.grown HW.out.2.1) HL.out.2.1).mono ?_
 rintro e w1 ⟨rfl,gg1⟩
 rw [show chkC (⟨1,tk,ss,nb,mk,l⟩:PCmd)=0 by rw [chkC,if_pos HL.out.2.2.1]]
 have H1:Hid (Blk w1 w.heap.size 27 #[.int .i64 1,.int .i64 tk,.int .i64 ss,.int .i64 nb,.int .i64 mk,.slice ao n cp]/\w.grownBy w1 none/\w.heap.size<w1.heap.size):=⟨HW.out.1.grown gg1 (by simp),aa HW.out.2.1 gg1,by have:=gg1.size;have:=HW.out.2.2;omega⟩
 clear gg1 HW
 have c0:=H1.out.1.cell 0
 have kw:=(HL.out.2.2.2.grown H1.out.2.1).k1
 simp at c0
 go_wp2_with fail
 clear c0 kw
 obtain ⟨w2,hw2,H2⟩:=al1 w1 #[.string ⟨#[111,112,101,110]⟩] 9
 rw [hw2]
 have H3:Hid (Blk w2 w.heap.size 27 #[.int .i64 1,.int .i64 tk,.int .i64 ss,.int .i64 nb,.int .i64 mk,.slice ao n cp]/\w.grownBy w2 none/\SRow w2 (w.heap.size+1) (.slice (some ⟨w1.heap.size,0,none⟩) 1 1) [ay 1]):=⟨H1.out.1.grown H2.out.2.1 (by simp),aa H1.out.2.1 H2.out.2.1,by rw [<-hw2];exact dp w1 [ay 1] (w.heap.size+1) 1 rfl H1.out.2.2 (by omega)⟩
 clear hw2 H2 H1
 refine (cN w.heap.size (.slice ao n cp) (⟨1,tk,ss,nb,mk,l⟩:PCmd) w2 H3.out.1 rfl).mono ?_
 rintro e w3 ⟨rfl,gg3⟩
 have H4:Hid (Blk w3 w.heap.size 27 #[.int .i64 1,.int .i64 tk,.int .i64 ss,.int .i64 nb,.int .i64 mk,.slice ao n cp]/\w.grownBy w3 none/\SRow w3 (w.heap.size+1) (.slice (some ⟨w1.heap.size,0,none⟩) 1 1) [ay 1]):=⟨H3.out.1.grown gg3 (by simp),aa H3.out.2.1 gg3,H3.out.2.2.grown gg3⟩
 clear gg3 H3
 have H3:=H4
 clear H4
 try unfold pt
 go_wp2_with fail
 refine wp_loop_rounds 4 ?_
 rw [rounds_succ]
 have a0:=H3.out.1.cell 1
 simp at a0
 go_wp2_with fail
 refine (dz tk _ (HL.out.2.2.2.grown H3.out.2.1).env HL.out.2.1.t0 HL.out.2.1.t1).mono ?_
 rintro e p0 ⟨rfl,gr0⟩
 have H4:Hid (Blk p0 w.heap.size 27 #[.int .i64 1,.int .i64 tk,.int .i64 ss,.int .i64 nb,.int .i64 mk,.slice ao n cp]/\w.grownBy p0 none/\SRow p0 (w.heap.size+1) (.slice (some ⟨w1.heap.size,0,none⟩) 1 1) [ay 1]):=⟨H3.out.1.grown gr0 (by simp),aa H3.out.2.1 gr0,H3.out.2.2.grown gr0⟩
 clear gr0 H3 a0
 have H5:Hid (Blk (p0.alloc (.cells #[.string ⟨(Lib.itoa tk).toArray⟩] 9)) w.heap.size 27 #[.int .i64 1,.int .i64 tk,.int .i64 ss,.int .i64 nb,.int .i64 mk,.slice ao n cp]/\w.grownBy (p0.alloc (.cells #[.string ⟨(Lib.itoa tk).toArray⟩] 9)) none/\SRow (p0.alloc (.cells #[.string ⟨(Lib.itoa tk).toArray⟩] 9)) (w.heap.size+1) (.slice (some ⟨w1.heap.size,0,none⟩) 1 1) [ay 1]/\Blk (p0.alloc (.cells #[.string ⟨(Lib.itoa tk).toArray⟩] 9)) p0.heap.size 9 #[.string ⟨(Lib.itoa tk).toArray⟩]/\w.heap.size+1<=(p0.alloc (.cells #[.string ⟨(Lib.itoa tk).toArray⟩] 9)).heap.size):=by
  have ga:=World.grownBy_alloc p0 (.cells #[.string ⟨(Lib.itoa tk).toArray⟩] 9) none
  exact ⟨H4.out.1.grown ga (by simp),aa H4.out.2.1 ga,H4.out.2.2.grown ga,heap_alloc_new _ _,by have:=ga.size;have:=H4.out.1.lt;omega⟩
 clear H4
 go_wp2_with (at_builtin;refine app9 _ rfl (.tmp 23) (.tmp 28) rfl (w.heap.size+1) (.slice (some ⟨w1.heap.size,0,none⟩) 1 1) [ay 1] [Lib.itoa tk] 1 _ rfl rfl rfl H5.out.2.2.1 H5.out.2.2.2.1 (by decide) (by simp) H5.out.2.2.2.2 ?_;intro x1 z1 y1 o1 g1 _)
 have H6:Hid (Blk y1 w.heap.size 27 #[.int .i64 1,.int .i64 tk,.int .i64 ss,.int .i64 nb,.int .i64 mk,.slice ao n cp]/\w.grownBy y1 none/\SRow y1 (w.heap.size+1) (.slice (some ⟨x1,0,none⟩) 2 z1) [ay 1,Lib.itoa tk]):=by
  have hne:∀x,((.slice (some ⟨w1.heap.size,0,none⟩) 1 1):Value).ownBlock=some x->w.heap.size+1<=x:=fun x hx=>(World.ownsRow.lt H5.out.2.2.1 x hx).1
  exact ⟨H5.out.1.grown g1 (fun e=>by have:=hne _ e;omega),ag H5.out.2.1 g1 (fun x hx=>by have:=hne x hx;omega),o1⟩
 clear o1 g1 H5
 have H3:=H6
 clear H6
 try simp only [List.length_cons,List.length_nil,Nat.zero_add,Nat.reduceAdd]
 go_wp2_with fail
 rw [rounds_succ]
 go_wp2_with fail
 rw [rounds_succ]
 go_wp2_with fail
 rw [rounds_succ]
 have a9:=H3.out.1.cell 0
 have a8:=H3.out.1.cell 5
 simp at a9 a8
 go_wp2_with fail
 have HT:Hid (Lib.join [ay 1,Lib.itoa tk] [32]=bi (⟨1,tk,ss,nb,mk,l⟩:PCmd)):=by simp [Hid,bi,ce,dt,bK]
 refine (eg _ [ay 1,Lib.itoa tk] [32] _ _ H3.out.2.2 (by simp) (by rw [HT.out];have:=fD HL.out.2.2.1 HL.out.2.1;omega)).mono ?_
 rintro e v9 ⟨rfl,g9⟩
 rw [HT.out]
 have G:Hid (w.grownBy v9 none):=aa H3.out.2.1 g9
 clear g9 H3
 unfold Str
 go_wp2_with fail
 go_ret2
 refine ⟨?_,G.out⟩
 rw [if_pos HL.out.2.2.1,chkC,if_pos HL.out.2.2.1]
 rfl
theorem qE (ao:Option Addr)(n cp:Nat)(tk ss nb mk:Int)(l:List POp)(w:World)(hl:Ops w (.slice ao n cp) l)(hI:InC (⟨2,tk,ss,nb,mk,l⟩:PCmd))(ho:okC (⟨2,tk,ss,nb,mk,l⟩:PCmd)=true)(hE:EnvC w):Calls Tryz.prog 11 #[cmdV (.slice ao n cp) (⟨2,tk,ss,nb,mk,l⟩:PCmd)] w (jy (⟨2,tk,ss,nb,mk,l⟩:PCmd) w):=by
 have HL:Hid (Ops w (.slice ao n cp) l/\InC (⟨2,tk,ss,nb,mk,l⟩:PCmd)/\okC (⟨2,tk,ss,nb,mk,l⟩:PCmd)=true/\EnvC w):=⟨hl,hI,ho,hE⟩
 clear hl hI ho hE
 simp only [cmdV]
 have i0:=ix0
 have i1:=ix1
 have i2:=ix2
 go_enter Tryz.func11,Tryz.ntmps11
 go_wp2_with fail
 obtain ⟨W,hW,HW⟩:=al1 w #[.int .i64 2,.int .i64 tk,.int .i64 ss,.int .i64 nb,.int .i64 mk,.slice ao n cp] 27
 rw [hW]
 clear hW
 refine (d7 (.slice ao n cp) (⟨2,tk,ss,nb,mk,l⟩:PCmd) W (HL.out.1.grown HW.out.2.1) HL.out.2.1).mono ?_
 rintro e w1 ⟨rfl,gg1⟩
 rw [show chkC (⟨2,tk,ss,nb,mk,l⟩:PCmd)=0 by rw [chkC,if_pos HL.out.2.2.1]]
 have H1:Hid (Blk w1 w.heap.size 27 #[.int .i64 2,.int .i64 tk,.int .i64 ss,.int .i64 nb,.int .i64 mk,.slice ao n cp]/\w.grownBy w1 none/\w.heap.size<w1.heap.size):=⟨HW.out.1.grown gg1 (by simp),aa HW.out.2.1 gg1,by have:=gg1.size;have:=HW.out.2.2;omega⟩
 clear gg1 HW
 have c0:=H1.out.1.cell 0
 have kw:=(HL.out.2.2.2.grown H1.out.2.1).k2
 simp at c0
 go_wp2_with fail
 clear c0 kw
 obtain ⟨w2,hw2,H2⟩:=al1 w1 #[.string ⟨#[99,97,108,108]⟩] 9
 rw [hw2]
 have H3:Hid (Blk w2 w.heap.size 27 #[.int .i64 2,.int .i64 tk,.int .i64 ss,.int .i64 nb,.int .i64 mk,.slice ao n cp]/\w.grownBy w2 none/\SRow w2 (w.heap.size+1) (.slice (some ⟨w1.heap.size,0,none⟩) 1 1) [ay 2]):=⟨H1.out.1.grown H2.out.2.1 (by simp),aa H1.out.2.1 H2.out.2.1,by rw [<-hw2];exact dp w1 [ay 2] (w.heap.size+1) 1 rfl H1.out.2.2 (by omega)⟩
 clear hw2 H2 H1
 refine (cO w.heap.size (.slice ao n cp) (⟨2,tk,ss,nb,mk,l⟩:PCmd) w2 H3.out.1 rfl).mono ?_
 rintro e w3 ⟨rfl,gg3⟩
 have H4:Hid (Blk w3 w.heap.size 27 #[.int .i64 2,.int .i64 tk,.int .i64 ss,.int .i64 nb,.int .i64 mk,.slice ao n cp]/\w.grownBy w3 none/\SRow w3 (w.heap.size+1) (.slice (some ⟨w1.heap.size,0,none⟩) 1 1) [ay 2]):=⟨H3.out.1.grown gg3 (by simp),aa H3.out.2.1 gg3,H3.out.2.2.grown gg3⟩
 clear gg3 H3
 have H3:=H4
 clear H4
 try unfold pt
 go_wp2_with fail
 refine wp_loop_rounds 4 ?_
 rw [rounds_succ]
 have a0:=H3.out.1.cell 2
 simp at a0
 go_wp2_with fail
 refine (dz ss _ (HL.out.2.2.2.grown H3.out.2.1).env HL.out.2.1.s0 HL.out.2.1.s1).mono ?_
 rintro e p0 ⟨rfl,gr0⟩
 have H4:Hid (Blk p0 w.heap.size 27 #[.int .i64 2,.int .i64 tk,.int .i64 ss,.int .i64 nb,.int .i64 mk,.slice ao n cp]/\w.grownBy p0 none/\SRow p0 (w.heap.size+1) (.slice (some ⟨w1.heap.size,0,none⟩) 1 1) [ay 2]):=⟨H3.out.1.grown gr0 (by simp),aa H3.out.2.1 gr0,H3.out.2.2.grown gr0⟩
 clear gr0 H3 a0
 have H5:Hid (Blk (p0.alloc (.cells #[.string ⟨(Lib.itoa ss).toArray⟩] 9)) w.heap.size 27 #[.int .i64 2,.int .i64 tk,.int .i64 ss,.int .i64 nb,.int .i64 mk,.slice ao n cp]/\w.grownBy (p0.alloc (.cells #[.string ⟨(Lib.itoa ss).toArray⟩] 9)) none/\SRow (p0.alloc (.cells #[.string ⟨(Lib.itoa ss).toArray⟩] 9)) (w.heap.size+1) (.slice (some ⟨w1.heap.size,0,none⟩) 1 1) [ay 2]/\Blk (p0.alloc (.cells #[.string ⟨(Lib.itoa ss).toArray⟩] 9)) p0.heap.size 9 #[.string ⟨(Lib.itoa ss).toArray⟩]/\w.heap.size+1<=(p0.alloc (.cells #[.string ⟨(Lib.itoa ss).toArray⟩] 9)).heap.size):=by
  have ga:=World.grownBy_alloc p0 (.cells #[.string ⟨(Lib.itoa ss).toArray⟩] 9) none
  exact ⟨H4.out.1.grown ga (by simp),aa H4.out.2.1 ga,H4.out.2.2.grown ga,heap_alloc_new _ _,by have:=ga.size;have:=H4.out.1.lt;omega⟩
 clear H4
 go_wp2_with (at_builtin;refine app9 _ rfl (.tmp 23) (.tmp 28) rfl (w.heap.size+1) (.slice (some ⟨w1.heap.size,0,none⟩) 1 1) [ay 2] [Lib.itoa ss] 1 _ rfl rfl rfl H5.out.2.2.1 H5.out.2.2.2.1 (by decide) (by simp) H5.out.2.2.2.2 ?_;intro x1 z1 y1 o1 g1 _)
 have H6:Hid (Blk y1 w.heap.size 27 #[.int .i64 2,.int .i64 tk,.int .i64 ss,.int .i64 nb,.int .i64 mk,.slice ao n cp]/\w.grownBy y1 none/\SRow y1 (w.heap.size+1) (.slice (some ⟨x1,0,none⟩) 2 z1) [ay 2,Lib.itoa ss]):=by
  have hne:∀x,((.slice (some ⟨w1.heap.size,0,none⟩) 1 1):Value).ownBlock=some x->w.heap.size+1<=x:=fun x hx=>(World.ownsRow.lt H5.out.2.2.1 x hx).1
  exact ⟨H5.out.1.grown g1 (fun e=>by have:=hne _ e;omega),ag H5.out.2.1 g1 (fun x hx=>by have:=hne x hx;omega),o1⟩
 clear o1 g1 H5
 have H3:=H6
 clear H6
 try simp only [List.length_cons,List.length_nil,Nat.zero_add,Nat.reduceAdd]
 go_wp2_with fail
 rw [rounds_succ]
 have a1:=H3.out.1.cell 3
 simp at a1
 go_wp2_with fail
 refine (dz nb _ (HL.out.2.2.2.grown H3.out.2.1).env HL.out.2.1.n0 HL.out.2.1.n1).mono ?_
 rintro e p1 ⟨rfl,gr1⟩
 have H4:Hid (Blk p1 w.heap.size 27 #[.int .i64 2,.int .i64 tk,.int .i64 ss,.int .i64 nb,.int .i64 mk,.slice ao n cp]/\w.grownBy p1 none/\SRow p1 (w.heap.size+1) (.slice (some ⟨x1,0,none⟩) 2 z1) [ay 2,Lib.itoa ss]):=⟨H3.out.1.grown gr1 (by simp),aa H3.out.2.1 gr1,H3.out.2.2.grown gr1⟩
 clear gr1 H3 a1
 have H5:Hid (Blk (p1.alloc (.cells #[.string ⟨(Lib.itoa nb).toArray⟩] 9)) w.heap.size 27 #[.int .i64 2,.int .i64 tk,.int .i64 ss,.int .i64 nb,.int .i64 mk,.slice ao n cp]/\w.grownBy (p1.alloc (.cells #[.string ⟨(Lib.itoa nb).toArray⟩] 9)) none/\SRow (p1.alloc (.cells #[.string ⟨(Lib.itoa nb).toArray⟩] 9)) (w.heap.size+1) (.slice (some ⟨x1,0,none⟩) 2 z1) [ay 2,Lib.itoa ss]/\Blk (p1.alloc (.cells #[.string ⟨(Lib.itoa nb).toArray⟩] 9)) p1.heap.size 9 #[.string ⟨(Lib.itoa nb).toArray⟩]/\w.heap.size+1<=(p1.alloc (.cells #[.string ⟨(Lib.itoa nb).toArray⟩] 9)).heap.size):=by
  have ga:=World.grownBy_alloc p1 (.cells #[.string ⟨(Lib.itoa nb).toArray⟩] 9) none
  exact ⟨H4.out.1.grown ga (by simp),aa H4.out.2.1 ga,H4.out.2.2.grown ga,heap_alloc_new _ _,by have:=ga.size;have:=H4.out.1.lt;omega⟩
 clear H4
 go_wp2_with (at_builtin;refine app9 _ rfl (.tmp 23) (.tmp 28) rfl (w.heap.size+1) (.slice (some ⟨x1,0,none⟩) 2 z1) [ay 2,Lib.itoa ss] [Lib.itoa nb] 1 _ rfl rfl rfl H5.out.2.2.1 H5.out.2.2.2.1 (by decide) (by simp) H5.out.2.2.2.2 ?_;intro x2 z2 y2 o2 g2 _)
 have H6:Hid (Blk y2 w.heap.size 27 #[.int .i64 2,.int .i64 tk,.int .i64 ss,.int .i64 nb,.int .i64 mk,.slice ao n cp]/\w.grownBy y2 none/\SRow y2 (w.heap.size+1) (.slice (some ⟨x2,0,none⟩) 3 z2) [ay 2,Lib.itoa ss,Lib.itoa nb]):=by
  have hne:∀x,((.slice (some ⟨x1,0,none⟩) 2 z1):Value).ownBlock=some x->w.heap.size+1<=x:=fun x hx=>(World.ownsRow.lt H5.out.2.2.1 x hx).1
  exact ⟨H5.out.1.grown g2 (fun e=>by have:=hne _ e;omega),ag H5.out.2.1 g2 (fun x hx=>by have:=hne x hx;omega),o2⟩
 clear o2 g2 H5
 have H3:=H6
 clear H6
 try simp only [List.length_cons,List.length_nil,Nat.zero_add,Nat.reduceAdd]
 go_wp2_with fail
 rw [rounds_succ]
 have a2:=H3.out.1.cell 4
 simp at a2
 go_wp2_with fail
 refine (dz mk _ (HL.out.2.2.2.grown H3.out.2.1).env HL.out.2.1.m0 HL.out.2.1.m1).mono ?_
 rintro e p2 ⟨rfl,gr2⟩
 have H4:Hid (Blk p2 w.heap.size 27 #[.int .i64 2,.int .i64 tk,.int .i64 ss,.int .i64 nb,.int .i64 mk,.slice ao n cp]/\w.grownBy p2 none/\SRow p2 (w.heap.size+1) (.slice (some ⟨x2,0,none⟩) 3 z2) [ay 2,Lib.itoa ss,Lib.itoa nb]):=⟨H3.out.1.grown gr2 (by simp),aa H3.out.2.1 gr2,H3.out.2.2.grown gr2⟩
 clear gr2 H3 a2
 have H5:Hid (Blk (p2.alloc (.cells #[.string ⟨(Lib.itoa mk).toArray⟩] 9)) w.heap.size 27 #[.int .i64 2,.int .i64 tk,.int .i64 ss,.int .i64 nb,.int .i64 mk,.slice ao n cp]/\w.grownBy (p2.alloc (.cells #[.string ⟨(Lib.itoa mk).toArray⟩] 9)) none/\SRow (p2.alloc (.cells #[.string ⟨(Lib.itoa mk).toArray⟩] 9)) (w.heap.size+1) (.slice (some ⟨x2,0,none⟩) 3 z2) [ay 2,Lib.itoa ss,Lib.itoa nb]/\Blk (p2.alloc (.cells #[.string ⟨(Lib.itoa mk).toArray⟩] 9)) p2.heap.size 9 #[.string ⟨(Lib.itoa mk).toArray⟩]/\w.heap.size+1<=(p2.alloc (.cells #[.string ⟨(Lib.itoa mk).toArray⟩] 9)).heap.size):=by
  have ga:=World.grownBy_alloc p2 (.cells #[.string ⟨(Lib.itoa mk).toArray⟩] 9) none
  exact ⟨H4.out.1.grown ga (by simp),aa H4.out.2.1 ga,H4.out.2.2.grown ga,heap_alloc_new _ _,by have:=ga.size;have:=H4.out.1.lt;omega⟩
 clear H4
 go_wp2_with (at_builtin;refine app9 _ rfl (.tmp 23) (.tmp 28) rfl (w.heap.size+1) (.slice (some ⟨x2,0,none⟩) 3 z2) [ay 2,Lib.itoa ss,Lib.itoa nb] [Lib.itoa mk] 1 _ rfl rfl rfl H5.out.2.2.1 H5.out.2.2.2.1 (by decide) (by simp) H5.out.2.2.2.2 ?_;intro x3 z3 y3 o3 g3 _)
 have H6:Hid (Blk y3 w.heap.size 27 #[.int .i64 2,.int .i64 tk,.int .i64 ss,.int .i64 nb,.int .i64 mk,.slice ao n cp]/\w.grownBy y3 none/\SRow y3 (w.heap.size+1) (.slice (some ⟨x3,0,none⟩) 4 z3) [ay 2,Lib.itoa ss,Lib.itoa nb,Lib.itoa mk]):=by
  have hne:∀x,((.slice (some ⟨x2,0,none⟩) 3 z2):Value).ownBlock=some x->w.heap.size+1<=x:=fun x hx=>(World.ownsRow.lt H5.out.2.2.1 x hx).1
  exact ⟨H5.out.1.grown g3 (fun e=>by have:=hne _ e;omega),ag H5.out.2.1 g3 (fun x hx=>by have:=hne x hx;omega),o3⟩
 clear o3 g3 H5
 have H3:=H6
 clear H6
 try simp only [List.length_cons,List.length_nil,Nat.zero_add,Nat.reduceAdd]
 go_wp2_with fail
 rw [rounds_succ]
 have a9:=H3.out.1.cell 0
 have a8:=H3.out.1.cell 5
 simp at a9 a8
 go_wp2_with fail
 refine (tB (.slice ao n cp) l y3 (HL.out.1.grown H3.out.2.1) (HL.out.2.2.2.grown H3.out.2.1).env.kw).mono ?_
 rintro e p9 ⟨rfl,gr9⟩
 have hc:chk l=0:=fC HL.out.2.2.1 rfl
 rw [if_pos hc,hc]
 unfold Str
 have H4:Hid (Blk p9 w.heap.size 27 #[.int .i64 2,.int .i64 tk,.int .i64 ss,.int .i64 nb,.int .i64 mk,.slice ao n cp]/\w.grownBy p9 none/\SRow p9 (w.heap.size+1) (.slice (some ⟨x3,0,none⟩) 4 z3) [ay 2,Lib.itoa ss,Lib.itoa nb,Lib.itoa mk]):=⟨H3.out.1.grown gr9 (by simp),aa H3.out.2.1 gr9,H3.out.2.2.grown gr9⟩
 clear gr9 H3 a9 a8 hc
 have H5:Hid (Blk (p9.alloc (.cells #[.string ⟨(aw l).toArray⟩] 9)) w.heap.size 27 #[.int .i64 2,.int .i64 tk,.int .i64 ss,.int .i64 nb,.int .i64 mk,.slice ao n cp]/\w.grownBy (p9.alloc (.cells #[.string ⟨(aw l).toArray⟩] 9)) none/\SRow (p9.alloc (.cells #[.string ⟨(aw l).toArray⟩] 9)) (w.heap.size+1) (.slice (some ⟨x3,0,none⟩) 4 z3) [ay 2,Lib.itoa ss,Lib.itoa nb,Lib.itoa mk]/\Blk (p9.alloc (.cells #[.string ⟨(aw l).toArray⟩] 9)) p9.heap.size 9 #[.string ⟨(aw l).toArray⟩]/\w.heap.size+1<=(p9.alloc (.cells #[.string ⟨(aw l).toArray⟩] 9)).heap.size):=by
  have ga:=World.grownBy_alloc p9 (.cells #[.string ⟨(aw l).toArray⟩] 9) none
  exact ⟨H4.out.1.grown ga (by simp),aa H4.out.2.1 ga,H4.out.2.2.grown ga,heap_alloc_new _ _,by have:=ga.size;have:=H4.out.1.lt;omega⟩
 clear H4
 go_wp2_with (at_builtin;refine app9 _ rfl (.tmp 40) (.tmp 42) rfl (w.heap.size+1) (.slice (some ⟨x3,0,none⟩) 4 z3) [ay 2,Lib.itoa ss,Lib.itoa nb,Lib.itoa mk] [aw l] 1 _ rfl rfl rfl H5.out.2.2.1 H5.out.2.2.2.1 (by decide) (by simp) H5.out.2.2.2.2 ?_;intro x9 z9 y9 o9 g9 _)
 have H6:Hid (Blk y9 w.heap.size 27 #[.int .i64 2,.int .i64 tk,.int .i64 ss,.int .i64 nb,.int .i64 mk,.slice ao n cp]/\w.grownBy y9 none/\SRow y9 (w.heap.size+1) (.slice (some ⟨x9,0,none⟩) 5 z9) [ay 2,Lib.itoa ss,Lib.itoa nb,Lib.itoa mk,aw l]):=by
  have hne:∀x,((.slice (some ⟨x3,0,none⟩) 4 z3):Value).ownBlock=some x->w.heap.size+1<=x:=fun x hx=>(World.ownsRow.lt H5.out.2.2.1 x hx).1
  exact ⟨H5.out.1.grown g9 (fun e=>by have:=hne _ e;omega),ag H5.out.2.1 g9 (fun x hx=>by have:=hne x hx;omega),o9⟩
 clear o9 g9 H5
 have H3:=H6
 clear H6
 try simp only [List.length_cons,List.length_nil,Nat.zero_add,Nat.reduceAdd]
 go_wp2_with fail
 have HT:Hid (Lib.join [ay 2,Lib.itoa ss,Lib.itoa nb,Lib.itoa mk,aw l] [32]=bi (⟨2,tk,ss,nb,mk,l⟩:PCmd)):=by simp [Hid,bi,ce,dt,bK]
 refine (eg _ [ay 2,Lib.itoa ss,Lib.itoa nb,Lib.itoa mk,aw l] [32] _ _ H3.out.2.2 (by simp) (by rw [HT.out];have:=fD HL.out.2.2.1 HL.out.2.1;omega)).mono ?_
 rintro e v9 ⟨rfl,g9⟩
 rw [HT.out]
 have G:Hid (w.grownBy v9 none):=aa H3.out.2.1 g9
 clear g9 H3
 unfold Str
 go_wp2_with fail
 go_ret2
 refine ⟨?_,G.out⟩
 rw [if_pos HL.out.2.2.1,chkC,if_pos HL.out.2.2.1]
 rfl
theorem qF (ao:Option Addr)(n cp:Nat)(tk ss nb mk:Int)(l:List POp)(w:World)(hl:Ops w (.slice ao n cp) l)(hI:InC (⟨3,tk,ss,nb,mk,l⟩:PCmd))(ho:okC (⟨3,tk,ss,nb,mk,l⟩:PCmd)=true)(hE:EnvC w):Calls Tryz.prog 11 #[cmdV (.slice ao n cp) (⟨3,tk,ss,nb,mk,l⟩:PCmd)] w (jy (⟨3,tk,ss,nb,mk,l⟩:PCmd) w):=by
 have HL:Hid (Ops w (.slice ao n cp) l/\InC (⟨3,tk,ss,nb,mk,l⟩:PCmd)/\okC (⟨3,tk,ss,nb,mk,l⟩:PCmd)=true/\EnvC w):=⟨hl,hI,ho,hE⟩
 clear hl hI ho hE
 simp only [cmdV]
 have i0:=ix0
 have i1:=ix1
 have i2:=ix2
 go_enter Tryz.func11,Tryz.ntmps11
 go_wp2_with fail
 obtain ⟨W,hW,HW⟩:=al1 w #[.int .i64 3,.int .i64 tk,.int .i64 ss,.int .i64 nb,.int .i64 mk,.slice ao n cp] 27
 rw [hW]
 clear hW
 refine (d7 (.slice ao n cp) (⟨3,tk,ss,nb,mk,l⟩:PCmd) W (HL.out.1.grown HW.out.2.1) HL.out.2.1).mono ?_
 rintro e w1 ⟨rfl,gg1⟩
 rw [show chkC (⟨3,tk,ss,nb,mk,l⟩:PCmd)=0 by rw [chkC,if_pos HL.out.2.2.1]]
 have H1:Hid (Blk w1 w.heap.size 27 #[.int .i64 3,.int .i64 tk,.int .i64 ss,.int .i64 nb,.int .i64 mk,.slice ao n cp]/\w.grownBy w1 none/\w.heap.size<w1.heap.size):=⟨HW.out.1.grown gg1 (by simp),aa HW.out.2.1 gg1,by have:=gg1.size;have:=HW.out.2.2;omega⟩
 clear gg1 HW
 have c0:=H1.out.1.cell 0
 have kw:=(HL.out.2.2.2.grown H1.out.2.1).k3
 simp at c0
 go_wp2_with fail
 clear c0 kw
 obtain ⟨w2,hw2,H2⟩:=al1 w1 #[.string ⟨#[99,108,111,115,101]⟩] 9
 rw [hw2]
 have H3:Hid (Blk w2 w.heap.size 27 #[.int .i64 3,.int .i64 tk,.int .i64 ss,.int .i64 nb,.int .i64 mk,.slice ao n cp]/\w.grownBy w2 none/\SRow w2 (w.heap.size+1) (.slice (some ⟨w1.heap.size,0,none⟩) 1 1) [ay 3]):=⟨H1.out.1.grown H2.out.2.1 (by simp),aa H1.out.2.1 H2.out.2.1,by rw [<-hw2];exact dp w1 [ay 3] (w.heap.size+1) 1 rfl H1.out.2.2 (by omega)⟩
 clear hw2 H2 H1
 refine (dH w.heap.size (.slice ao n cp) (⟨3,tk,ss,nb,mk,l⟩:PCmd) w2 H3.out.1 rfl).mono ?_
 rintro e w3 ⟨rfl,gg3⟩
 have H4:Hid (Blk w3 w.heap.size 27 #[.int .i64 3,.int .i64 tk,.int .i64 ss,.int .i64 nb,.int .i64 mk,.slice ao n cp]/\w.grownBy w3 none/\SRow w3 (w.heap.size+1) (.slice (some ⟨w1.heap.size,0,none⟩) 1 1) [ay 3]):=⟨H3.out.1.grown gg3 (by simp),aa H3.out.2.1 gg3,H3.out.2.2.grown gg3⟩
 clear gg3 H3
 have H3:=H4
 clear H4
 try unfold pt
 go_wp2_with fail
 refine wp_loop_rounds 4 ?_
 rw [rounds_succ]
 have a0:=H3.out.1.cell 2
 simp at a0
 go_wp2_with fail
 refine (dz ss _ (HL.out.2.2.2.grown H3.out.2.1).env HL.out.2.1.s0 HL.out.2.1.s1).mono ?_
 rintro e p0 ⟨rfl,gr0⟩
 have H4:Hid (Blk p0 w.heap.size 27 #[.int .i64 3,.int .i64 tk,.int .i64 ss,.int .i64 nb,.int .i64 mk,.slice ao n cp]/\w.grownBy p0 none/\SRow p0 (w.heap.size+1) (.slice (some ⟨w1.heap.size,0,none⟩) 1 1) [ay 3]):=⟨H3.out.1.grown gr0 (by simp),aa H3.out.2.1 gr0,H3.out.2.2.grown gr0⟩
 clear gr0 H3 a0
 have H5:Hid (Blk (p0.alloc (.cells #[.string ⟨(Lib.itoa ss).toArray⟩] 9)) w.heap.size 27 #[.int .i64 3,.int .i64 tk,.int .i64 ss,.int .i64 nb,.int .i64 mk,.slice ao n cp]/\w.grownBy (p0.alloc (.cells #[.string ⟨(Lib.itoa ss).toArray⟩] 9)) none/\SRow (p0.alloc (.cells #[.string ⟨(Lib.itoa ss).toArray⟩] 9)) (w.heap.size+1) (.slice (some ⟨w1.heap.size,0,none⟩) 1 1) [ay 3]/\Blk (p0.alloc (.cells #[.string ⟨(Lib.itoa ss).toArray⟩] 9)) p0.heap.size 9 #[.string ⟨(Lib.itoa ss).toArray⟩]/\w.heap.size+1<=(p0.alloc (.cells #[.string ⟨(Lib.itoa ss).toArray⟩] 9)).heap.size):=by
  have ga:=World.grownBy_alloc p0 (.cells #[.string ⟨(Lib.itoa ss).toArray⟩] 9) none
  exact ⟨H4.out.1.grown ga (by simp),aa H4.out.2.1 ga,H4.out.2.2.grown ga,heap_alloc_new _ _,by have:=ga.size;have:=H4.out.1.lt;omega⟩
 clear H4
 go_wp2_with (at_builtin;refine app9 _ rfl (.tmp 23) (.tmp 28) rfl (w.heap.size+1) (.slice (some ⟨w1.heap.size,0,none⟩) 1 1) [ay 3] [Lib.itoa ss] 1 _ rfl rfl rfl H5.out.2.2.1 H5.out.2.2.2.1 (by decide) (by simp) H5.out.2.2.2.2 ?_;intro x1 z1 y1 o1 g1 _)
 have H6:Hid (Blk y1 w.heap.size 27 #[.int .i64 3,.int .i64 tk,.int .i64 ss,.int .i64 nb,.int .i64 mk,.slice ao n cp]/\w.grownBy y1 none/\SRow y1 (w.heap.size+1) (.slice (some ⟨x1,0,none⟩) 2 z1) [ay 3,Lib.itoa ss]):=by
  have hne:∀x,((.slice (some ⟨w1.heap.size,0,none⟩) 1 1):Value).ownBlock=some x->w.heap.size+1<=x:=fun x hx=>(World.ownsRow.lt H5.out.2.2.1 x hx).1
  exact ⟨H5.out.1.grown g1 (fun e=>by have:=hne _ e;omega),ag H5.out.2.1 g1 (fun x hx=>by have:=hne x hx;omega),o1⟩
 clear o1 g1 H5
 have H3:=H6
 clear H6
 try simp only [List.length_cons,List.length_nil,Nat.zero_add,Nat.reduceAdd]
 go_wp2_with fail
 rw [rounds_succ]
 go_wp2_with fail
 rw [rounds_succ]
 go_wp2_with fail
 rw [rounds_succ]
 have a9:=H3.out.1.cell 0
 have a8:=H3.out.1.cell 5
 simp at a9 a8
 go_wp2_with fail
 have HT:Hid (Lib.join [ay 3,Lib.itoa ss] [32]=bi (⟨3,tk,ss,nb,mk,l⟩:PCmd)):=by simp [Hid,bi,ce,dt,bK]
 refine (eg _ [ay 3,Lib.itoa ss] [32] _ _ H3.out.2.2 (by simp) (by rw [HT.out];have:=fD HL.out.2.2.1 HL.out.2.1;omega)).mono ?_
 rintro e v9 ⟨rfl,g9⟩
 rw [HT.out]
 have G:Hid (w.grownBy v9 none):=aa H3.out.2.1 g9
 clear g9 H3
 unfold Str
 go_wp2_with fail
 go_ret2
 refine ⟨?_,G.out⟩
 rw [if_pos HL.out.2.2.1,chkC,if_pos HL.out.2.2.1]
 rfl
theorem qG (ao:Option Addr)(n cp:Nat)(tk ss nb mk:Int)(l:List POp)(w:World)(hl:Ops w (.slice ao n cp) l)(hI:InC (⟨4,tk,ss,nb,mk,l⟩:PCmd))(ho:okC (⟨4,tk,ss,nb,mk,l⟩:PCmd)=true)(hE:EnvC w):Calls Tryz.prog 11 #[cmdV (.slice ao n cp) (⟨4,tk,ss,nb,mk,l⟩:PCmd)] w (jy (⟨4,tk,ss,nb,mk,l⟩:PCmd) w):=by
 have HL:Hid (Ops w (.slice ao n cp) l/\InC (⟨4,tk,ss,nb,mk,l⟩:PCmd)/\okC (⟨4,tk,ss,nb,mk,l⟩:PCmd)=true/\EnvC w):=⟨hl,hI,ho,hE⟩
 clear hl hI ho hE
 simp only [cmdV]
 have i0:=ix0
 have i1:=ix1
 have i2:=ix2
 go_enter Tryz.func11,Tryz.ntmps11
 go_wp2_with fail
 obtain ⟨W,hW,HW⟩:=al1 w #[.int .i64 4,.int .i64 tk,.int .i64 ss,.int .i64 nb,.int .i64 mk,.slice ao n cp] 27
 rw [hW]
 clear hW
 refine (d7 (.slice ao n cp) (⟨4,tk,ss,nb,mk,l⟩:PCmd) W (HL.out.1.grown HW.out.2.1) HL.out.2.1).mono ?_
 rintro e w1 ⟨rfl,gg1⟩
 rw [show chkC (⟨4,tk,ss,nb,mk,l⟩:PCmd)=0 by rw [chkC,if_pos HL.out.2.2.1]]
 have H1:Hid (Blk w1 w.heap.size 27 #[.int .i64 4,.int .i64 tk,.int .i64 ss,.int .i64 nb,.int .i64 mk,.slice ao n cp]/\w.grownBy w1 none/\w.heap.size<w1.heap.size):=⟨HW.out.1.grown gg1 (by simp),aa HW.out.2.1 gg1,by have:=gg1.size;have:=HW.out.2.2;omega⟩
 clear gg1 HW
 have c0:=H1.out.1.cell 0
 have kw:=(HL.out.2.2.2.grown H1.out.2.1).k4
 simp at c0
 go_wp2_with fail
 clear c0 kw
 obtain ⟨w2,hw2,H2⟩:=al1 w1 #[.string ⟨#[101,120,112,105,114,101]⟩] 9
 rw [hw2]
 have H3:Hid (Blk w2 w.heap.size 27 #[.int .i64 4,.int .i64 tk,.int .i64 ss,.int .i64 nb,.int .i64 mk,.slice ao n cp]/\w.grownBy w2 none/\SRow w2 (w.heap.size+1) (.slice (some ⟨w1.heap.size,0,none⟩) 1 1) [ay 4]):=⟨H1.out.1.grown H2.out.2.1 (by simp),aa H1.out.2.1 H2.out.2.1,by rw [<-hw2];exact dp w1 [ay 4] (w.heap.size+1) 1 rfl H1.out.2.2 (by omega)⟩
 clear hw2 H2 H1
 refine (dI w.heap.size (.slice ao n cp) (⟨4,tk,ss,nb,mk,l⟩:PCmd) w2 H3.out.1 rfl).mono ?_
 rintro e w3 ⟨rfl,gg3⟩
 have H4:Hid (Blk w3 w.heap.size 27 #[.int .i64 4,.int .i64 tk,.int .i64 ss,.int .i64 nb,.int .i64 mk,.slice ao n cp]/\w.grownBy w3 none/\SRow w3 (w.heap.size+1) (.slice (some ⟨w1.heap.size,0,none⟩) 1 1) [ay 4]):=⟨H3.out.1.grown gg3 (by simp),aa H3.out.2.1 gg3,H3.out.2.2.grown gg3⟩
 clear gg3 H3
 have H3:=H4
 clear H4
 try unfold pt
 go_wp2_with fail
 refine wp_loop_rounds 4 ?_
 rw [rounds_succ]
 have a0:=H3.out.1.cell 2
 simp at a0
 go_wp2_with fail
 refine (dz ss _ (HL.out.2.2.2.grown H3.out.2.1).env HL.out.2.1.s0 HL.out.2.1.s1).mono ?_
 rintro e p0 ⟨rfl,gr0⟩
 have H4:Hid (Blk p0 w.heap.size 27 #[.int .i64 4,.int .i64 tk,.int .i64 ss,.int .i64 nb,.int .i64 mk,.slice ao n cp]/\w.grownBy p0 none/\SRow p0 (w.heap.size+1) (.slice (some ⟨w1.heap.size,0,none⟩) 1 1) [ay 4]):=⟨H3.out.1.grown gr0 (by simp),aa H3.out.2.1 gr0,H3.out.2.2.grown gr0⟩
 clear gr0 H3 a0
 have H5:Hid (Blk (p0.alloc (.cells #[.string ⟨(Lib.itoa ss).toArray⟩] 9)) w.heap.size 27 #[.int .i64 4,.int .i64 tk,.int .i64 ss,.int .i64 nb,.int .i64 mk,.slice ao n cp]/\w.grownBy (p0.alloc (.cells #[.string ⟨(Lib.itoa ss).toArray⟩] 9)) none/\SRow (p0.alloc (.cells #[.string ⟨(Lib.itoa ss).toArray⟩] 9)) (w.heap.size+1) (.slice (some ⟨w1.heap.size,0,none⟩) 1 1) [ay 4]/\Blk (p0.alloc (.cells #[.string ⟨(Lib.itoa ss).toArray⟩] 9)) p0.heap.size 9 #[.string ⟨(Lib.itoa ss).toArray⟩]/\w.heap.size+1<=(p0.alloc (.cells #[.string ⟨(Lib.itoa ss).toArray⟩] 9)).heap.size):=by
  have ga:=World.grownBy_alloc p0 (.cells #[.string ⟨(Lib.itoa ss).toArray⟩] 9) none
  exact ⟨H4.out.1.grown ga (by simp),aa H4.out.2.1 ga,H4.out.2.2.grown ga,heap_alloc_new _ _,by have:=ga.size;have:=H4.out.1.lt;omega⟩
 clear H4
 go_wp2_with (at_builtin;refine app9 _ rfl (.tmp 23) (.tmp 28) rfl (w.heap.size+1) (.slice (some ⟨w1.heap.size,0,none⟩) 1 1) [ay 4] [Lib.itoa ss] 1 _ rfl rfl rfl H5.out.2.2.1 H5.out.2.2.2.1 (by decide) (by simp) H5.out.2.2.2.2 ?_;intro x1 z1 y1 o1 g1 _)
 have H6:Hid (Blk y1 w.heap.size 27 #[.int .i64 4,.int .i64 tk,.int .i64 ss,.int .i64 nb,.int .i64 mk,.slice ao n cp]/\w.grownBy y1 none/\SRow y1 (w.heap.size+1) (.slice (some ⟨x1,0,none⟩) 2 z1) [ay 4,Lib.itoa ss]):=by
  have hne:∀x,((.slice (some ⟨w1.heap.size,0,none⟩) 1 1):Value).ownBlock=some x->w.heap.size+1<=x:=fun x hx=>(World.ownsRow.lt H5.out.2.2.1 x hx).1
  exact ⟨H5.out.1.grown g1 (fun e=>by have:=hne _ e;omega),ag H5.out.2.1 g1 (fun x hx=>by have:=hne x hx;omega),o1⟩
 clear o1 g1 H5
 have H3:=H6
 clear H6
 try simp only [List.length_cons,List.length_nil,Nat.zero_add,Nat.reduceAdd]
 go_wp2_with fail
 rw [rounds_succ]
 go_wp2_with fail
 rw [rounds_succ]
 go_wp2_with fail
 rw [rounds_succ]
 have a9:=H3.out.1.cell 0
 have a8:=H3.out.1.cell 5
 simp at a9 a8
 go_wp2_with fail
 have HT:Hid (Lib.join [ay 4,Lib.itoa ss] [32]=bi (⟨4,tk,ss,nb,mk,l⟩:PCmd)):=by simp [Hid,bi,ce,dt,bK]
 refine (eg _ [ay 4,Lib.itoa ss] [32] _ _ H3.out.2.2 (by simp) (by rw [HT.out];have:=fD HL.out.2.2.1 HL.out.2.1;omega)).mono ?_
 rintro e v9 ⟨rfl,g9⟩
 rw [HT.out]
 have G:Hid (w.grownBy v9 none):=aa H3.out.2.1 g9
 clear g9 H3
 unfold Str
 go_wp2_with fail
 go_ret2
 refine ⟨?_,G.out⟩
 rw [if_pos HL.out.2.2.1,chkC,if_pos HL.out.2.2.1]
 rfl
theorem tX (ov:Value)(c:PCmd)(w:World)(h:Ops w ov c.ops)(hI:InC c)(hE:EnvC w):Calls Tryz.prog 11 #[cmdV ov c] w (jy c w):=by
 by_cases ho:okC c=true
 ·have hk:=cf (cT ho)
  obtain ⟨ao,n,cp,rfl,_⟩:=aJ h
  obtain ⟨k,tk,ss,nb,mk,l⟩:=c
  simp only at hk
  rcases (show k=1\/k=2\/k=3\/k=4 by omega) with rfl | rfl | rfl | rfl
  ·exact qD ao n cp tk ss nb mk l w h hI ho hE
  ·exact qE ao n cp tk ss nb mk l w h hI ho hE
  ·exact qF ao n cp tk ss nb mk l w h hI ho hE
  ·exact qG ao n cp tk ss nb mk l w h hI ho hE
 ·exact oH ov c w h hI (by simpa using ho)
end Go.Proofs.YtgjcpjckaopeeaaGreatDoor
