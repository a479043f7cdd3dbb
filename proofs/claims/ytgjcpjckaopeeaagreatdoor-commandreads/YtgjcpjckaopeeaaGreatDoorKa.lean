import Derived.Test.YtgjcpjckaopeeaaGreatDoorCpwAll
namespace Go.Proofs.YtgjcpjckaopeeaaGreatDoor
open Go.RowKit
open Go.Proofs.YtgjcpjckaopeeaaGreatDoor.Calls
theorem chk0 {l:List POp}(h:chk l=0):az l=true/\(an l).length<=4096:=by
 unfold chk at h
 split at h
 ·split at h
  ·exact ⟨by assumption,by assumption⟩
  ·omega
 ·omega
structure PCmd where
 kind:Int
 token:Int
 session:Int
 number:Int
 mark:Int
 ops:List POp
deriving DecidableEq
def bj:PCmd:=⟨0,0,0,0,0,[]⟩
def cu (c:PCmd):PCmd :=
 if c.kind=1 then ⟨c.kind,c.token,0,0,0,[]⟩
 else if c.kind=2 then ⟨c.kind,0,c.session,c.number,c.mark,c.ops⟩
 else if c.kind=3\/c.kind=4 then ⟨c.kind,0,c.session,0,0,[]⟩
 else ⟨c.kind,0,0,0,0,[]⟩
def idC (c:PCmd):Option Int:=if c.kind=1 then some c.token else if c.kind=2\/c.kind=3\/c.kind=4 then some c.session else none
def idOk (c:PCmd):Bool:=match idC c with | some n=>decide (1<=n) | none=>false
def mm (c:PCmd):Bool:=decide (c.kind=2->0<=c.mark/\c.mark<c.number)
def fitC (c:PCmd):Bool:=idOk c && mm c && decide (c=cu c)
def okC (c:PCmd):Bool:=fitC c && decide (c.kind=2->chk c.ops=0)
def chkC (c:PCmd):Int:=if okC c=true then 0 else 2
structure InC (c:PCmd):Prop where
 k0:-9223372036854775808<=c.kind
 k1:c.kind<=9223372036854775807
 t0:-9223372036854775808<=c.token
 t1:c.token<=9223372036854775807
 s0:-9223372036854775808<=c.session
 s1:c.session<=9223372036854775807
 n0:-9223372036854775808<=c.number
 n1:c.number<=9223372036854775807
 m0:-9223372036854775808<=c.mark
 m1:c.mark<=9223372036854775807
theorem qf:InC bj:=by constructor <;> decide
def sgn (n:Int):Bs:=Wire.ah (Wire.b_ n)
def dG (c:PCmd):Bs:=Wire.ah c.kind.toNat
def bK (c:PCmd):List Int:=if c.kind=1 then [c.token] else if c.kind=2 then [c.session,c.number,c.mark] else if c.kind=3\/c.kind=4 then [c.session] else []
def cM (c:PCmd):Bs:=dG c ++ (bK c).flatMap sgn
def aY (c:PCmd):Bs:=cM c ++ (if c.kind=2 then ae (an c.ops) else [])
theorem cT {c:PCmd}(h:okC c=true):fitC c=true:=by unfold okC at h;simp only [Bool.and_eq_true] at h;exact h.1
theorem fC {c:PCmd}(h:okC c=true)(hk:c.kind=2):chk c.ops=0:=by unfold okC at h;simp only [Bool.and_eq_true,decide_eq_true_eq] at h;exact h.2 hk
theorem cf {c:PCmd}(h:fitC c=true):1<=c.kind/\c.kind<=4:=by
 unfold fitC idOk idC at h
 simp only [Bool.and_eq_true] at h
 have h1:=h.1.1
 split at h1
 ·rename_i n hn
  split at hn
  ·omega
  ·split at hn
   ·omega
   ·cases hn
 ·cases h1
theorem iL {c:PCmd}(h:fitC c=true):c=cu c:=by unfold fitC at h;simp only [Bool.and_eq_true,decide_eq_true_eq] at h;exact h.2
def pSgn (L:Bs):Option (Int × Bs):=(pNum 18446744073709551615 L).map fun x=>(Wire.bC x.1,x.2)
def finC (c:PCmd)(M:Bs):Option PCmd:=if M=[]/\okC c=true then some c else none
def pCmd (L:Bs):Option PCmd:=(pNum 4 L).bind fun k =>
 if k.1=1 then (pSgn k.2).bind fun t=>finC ⟨1,t.1,0,0,0,[]⟩ t.2
 else if k.1=2 then (pSgn k.2).bind fun s=>(pSgn s.2).bind fun n=>(pSgn n.2).bind fun m=>(aK 4096 m.2).bind fun b=>(cI b.1).bind fun l=>finC ⟨2,0,s.1,n.1,m.1,l⟩ b.2
 else if k.1=3\/k.1=4 then (pSgn k.2).bind fun s=>finC ⟨k.1,0,s.1,0,0,[]⟩ s.2
 else none
theorem kO (n:Nat):Wire.b_ (Wire.bC n)=n:=by
 unfold Wire.bC Wire.b_;split <;> split <;> omega
theorem dO {n:Int}(h0:-9223372036854775808<=n)(h1:n<=9223372036854775807)(M:Bs):pSgn (sgn n ++ M)=some (n,M):=by
 unfold pSgn sgn
 have:=Wire.i8 n h0 h1
 rw [dk (by omega) (by decide)]
 simp [Wire.lu]
theorem ex {n:Int}{L M:Bs}(h:pSgn L=some (n,M)):L=sgn n ++ M:=by
 unfold pSgn at h
 cases hx:pNum 18446744073709551615 L with
 | none=>rw [hx] at h;cases h
 | some x =>
  rw [hx] at h
  simp at h
  obtain ⟨rfl,rfl⟩:=h
  unfold sgn
  rw [kO]
  exact (cY (n:=x.1) (M:=x.2) hx).1
theorem jv {n:Nat}(h:n<=18446744073709551615):-9223372036854775808<=Wire.bC n/\Wire.bC n<=9223372036854775807:=by
 unfold Wire.bC;split <;> omega
theorem dD {n:Int}{L M:Bs}(h:pSgn L=some (n,M)):-9223372036854775808<=n/\n<=9223372036854775807:=by
 unfold pSgn at h
 cases hx:pNum 18446744073709551615 L with
 | none=>rw [hx] at h;cases h
 | some x =>
  rw [hx] at h
  simp at h
  obtain ⟨rfl,rfl⟩:=h
  exact jv (cY (n:=x.1) (M:=x.2) hx).2
theorem gF {c d:PCmd}{M:Bs}(h:finC c M=some d):c=d/\M=[]/\okC d=true:=by
 unfold finC at h
 split at h
 ·rename_i hh
  simp at h
  subst h
  exact ⟨rfl,hh.1,hh.2⟩
 ·cases h
theorem oq {c:PCmd}(h:okC c=true)(hi:InC c):pCmd (aY c)=some c:=by
 have hk:=cf (cT h)
 have hn:=iL (cT h)
 unfold pCmd aY cM dG bK
 by_cases h1:c.kind=1
 ·have e:c=⟨1,c.token,0,0,0,[]⟩:=by rw [hn,cu,if_pos h1];simp [h1]
  rw [if_pos h1,if_neg (by omega),h1]
  simp only [List.flatMap_cons,List.flatMap_nil,List.append_nil]
  rw [dk (by decide) (by decide)]
  simp only [Option.bind_some]
  rw [if_pos (by decide)]
  have:=dO hi.t0 hi.t1 []
  rw [List.append_nil] at this
  rw [this]
  simp only [Option.bind_some]
  rw [<-e,finC,if_pos ⟨rfl,h⟩]
 ·rw [if_neg h1]
  by_cases h2:c.kind=2
  ·have e:c=⟨2,0,c.session,c.number,c.mark,c.ops⟩:=by rw [hn,cu,if_neg h1,if_pos h2];simp [h2]
   rw [if_pos h2,if_pos h2,h2]
   simp only [List.flatMap_cons,List.flatMap_nil,List.append_nil,List.append_assoc]
   rw [dk (by decide) (by decide)]
   simp only [Option.bind_some]
   rw [if_neg (by decide),if_pos (by decide),dO hi.s0 hi.s1]
   simp only [Option.bind_some]
   rw [dO hi.n0 hi.n1]
   simp only [Option.bind_some]
   rw [dO hi.m0 hi.m1]
   simp only [Option.bind_some]
   have hc:=fC h h2
   have hb:=cL (b:=an c.ops) (most:=4096) (chk0 hc).2 (by decide) []
   rw [List.append_nil] at hb
   rw [hb]
   simp only [Option.bind_some]
   rw [cS.2 ⟨(chk0 hc).1,rfl⟩]
   simp only [Option.bind_some]
   rw [<-e,finC,if_pos ⟨rfl,h⟩]
  ·have h3:c.kind=3\/c.kind=4:=by omega
   have e:c=⟨c.kind,0,c.session,0,0,[]⟩:=by rw [hn,cu,if_neg h1,if_neg h2,if_pos h3]
   rw [if_neg h2,if_pos h3,if_neg h2]
   simp only [List.flatMap_cons,List.flatMap_nil,List.append_nil]
   rw [dk (by omega) (by decide)]
   simp only [Option.bind_some]
   rw [if_neg (by omega),if_neg (by omega),if_pos (by omega)]
   have:=dO hi.s0 hi.s1 []
   rw [List.append_nil] at this
   rw [this]
   simp only [Option.bind_some]
   rw [show ((c.kind.toNat:Nat):Int)=c.kind by omega,<-e,finC,if_pos ⟨rfl,h⟩]
theorem qg {c:PCmd}{L:Bs}(h:pCmd L=some c):okC c=true/\L=aY c/\InC c:=by
 unfold pCmd at h
 cases hk:pNum 4 L with
 | none=>rw [hk] at h;cases h
 | some k =>
  rw [hk] at h
  simp only [Option.bind_some] at h
  obtain ⟨eL,hk4⟩:=cY (n:=k.1) (M:=k.2) hk
  split at h
  ·rename_i k1
   cases ht:pSgn k.2 with
   | none=>rw [ht] at h;cases h
   | some t =>
    rw [ht] at h
    simp only [Option.bind_some] at h
    obtain ⟨rfl,e2,e3⟩:=gF h
    have b:=dD (n:=t.1) (M:=t.2) ht
    refine ⟨e3,?_,?_⟩
    ·rw [eL,ex (n:=t.1) (M:=t.2) ht,e2,k1]
     simp [aY,cM,dG,bK]
    ·constructor <;> first | exact b.1 | exact b.2 | (dsimp only;omega)
  ·split at h
   ·rename_i k1 k2
    cases hs:pSgn k.2 with
    | none=>rw [hs] at h;cases h
    | some s =>
     rw [hs] at h
     simp only [Option.bind_some] at h
     cases hn:pSgn s.2 with
     | none=>rw [hn] at h;cases h
     | some n =>
      rw [hn] at h
      simp only [Option.bind_some] at h
      cases hm:pSgn n.2 with
      | none=>rw [hm] at h;cases h
      | some m =>
       rw [hm] at h
       simp only [Option.bind_some] at h
       cases hb:aK 4096 m.2 with
       | none=>rw [hb] at h;cases h
       | some b =>
        rw [hb] at h
        simp only [Option.bind_some] at h
        cases hl:cI b.1 with
        | none=>rw [hl] at h;cases h
        | some l =>
         rw [hl] at h
         simp only [Option.bind_some] at h
         obtain ⟨rfl,e2,e3⟩:=gF h
         have bs:=dD (n:=s.1) (M:=s.2) hs
         have bn:=dD (n:=n.1) (M:=n.2) hn
         have bm:=dD (n:=m.1) (M:=m.2) hm
         refine ⟨e3,?_,?_⟩
         ·rw [eL,ex (n:=s.1) (M:=s.2) hs,ex (n:=n.1) (M:=n.2) hn,ex (n:=m.1) (M:=m.2) hm,(bV (b:=b.1) (M:=b.2) hb).1,e2,(cS.1 hl).2,k2]
          simp [aY,cM,dG,bK]
         ·constructor <;> first | exact bs.1 | exact bs.2 | exact bn.1 | exact bn.2 | exact bm.1 | exact bm.2 | (dsimp only;omega)
   ·split at h
    ·rename_i k1 k2 k3
     cases hs:pSgn k.2 with
     | none=>rw [hs] at h;cases h
     | some s =>
      rw [hs] at h
      simp only [Option.bind_some] at h
      obtain ⟨rfl,e2,e3⟩:=gF h
      have b:=dD (n:=s.1) (M:=s.2) hs
      refine ⟨e3,?_,?_⟩
      ·rw [eL,ex (n:=s.1) (M:=s.2) hs,e2]
       have q1:¬((k.1:Nat):Int)=1:=by omega
       have q2:¬((k.1:Nat):Int)=2:=by omega
       have q3:((k.1:Nat):Int)=3\/((k.1:Nat):Int)=4:=by omega
       simp [aY,cM,dG,bK,q1,q2,q3]
      ·constructor <;> first | exact b.1 | exact b.2 | (dsimp only;omega)
    ·cases h
def cg (b:Bs):PCmd × Int:=match pCmd b with | some c=>(c,0) | none=>(bj,4)
theorem mo {c:PCmd}(h:okC c=true)(hi:InC c):cg (aY c)=(c,0):=by unfold cg;rw [oq h hi]
end Go.Proofs.YtgjcpjckaopeeaaGreatDoor
