import Derived.Test.YtgjcpjckaopeeaaGreatDoorCpwAll
namespace Go.Proofs.YtgjcpjckaopeeaaGreatDoor
open Go.RowKit
open _root_.Go.Proofs.YtgjcpjckaopeeaaGreatDoor.Calls
theorem chk0 {l:List POp}(h:chk l=0):mayCall l=true/\(callForm l).length<=4096:=by
 unfold chk at h
 split at h
 ·split at h
  ·exact ⟨by assumption,by assumption⟩
  ·omega
 ·omega
structure PCmd where
 kind:Int
 token:Int
 session:Int
 number:Int
 mark:Int
 ops:List POp
deriving DecidableEq
def zeroC:PCmd:=⟨0,0,0,0,0,[]⟩
def namedC (c:PCmd):PCmd :=
 if c.kind=1 then ⟨c.kind,c.token,0,0,0,[]⟩
 else if c.kind=2 then ⟨c.kind,0,c.session,c.number,c.mark,c.ops⟩
 else if c.kind=3\/c.kind=4 then ⟨c.kind,0,c.session,0,0,[]⟩
 else ⟨c.kind,0,0,0,0,[]⟩
def idC (c:PCmd):Option Int:=if c.kind=1 then some c.token else if c.kind=2\/c.kind=3\/c.kind=4 then some c.session else none
def idOk (c:PCmd):Bool:=match idC c with | some n=>decide (1<=n) | none=>false
def markOk (c:PCmd):Bool:=decide (c.kind=2->0<=c.mark/\c.mark<c.number)
def fitC (c:PCmd):Bool:=idOk c && markOk c && decide (c=namedC c)
def okC (c:PCmd):Bool:=fitC c && decide (c.kind=2->chk c.ops=0)
def chkC (c:PCmd):Int:=if okC c=true then 0 else 2
structure InC (c:PCmd):Prop where
 k0:-9223372036854775808<=c.kind
 k1:c.kind<=9223372036854775807
 t0:-9223372036854775808<=c.token
 t1:c.token<=9223372036854775807
 s0:-9223372036854775808<=c.session
 s1:c.session<=9223372036854775807
 n0:-9223372036854775808<=c.number
 n1:c.number<=9223372036854775807
 m0:-9223372036854775808<=c.mark
 m1:c.mark<=9223372036854775807
def sgn (n:Int):Bs:=Wire.numForm (Wire.foldZ n)
def headC (c:PCmd):Bs:=Wire.numForm c.kind.toNat
def numsC (c:PCmd):List Int:=if c.kind=1 then [c.token] else if c.kind=2 then [c.session,c.number,c.mark] else if c.kind=3\/c.kind=4 then [c.session] else []
def frontC (c:PCmd):Bs:=headC c ++ (numsC c).flatMap sgn
def formC (c:PCmd):Bs:=frontC c ++ (if c.kind=2 then bytesForm (callForm c.ops) else [])
theorem okC_fit {c:PCmd}(h:okC c=true):fitC c=true:=by unfold okC at h;simp only [Bool.and_eq_true] at h;exact h.1
theorem okC_chk {c:PCmd}(h:okC c=true)(hk:c.kind=2):chk c.ops=0:=by unfold okC at h;simp only [Bool.and_eq_true,decide_eq_true_eq] at h;exact h.2 hk
theorem fitC_kind {c:PCmd}(h:fitC c=true):1<=c.kind/\c.kind<=4:=by
 unfold fitC idOk idC at h
 simp only [Bool.and_eq_true] at h
 have h1:=h.1.1
 split at h1
 ·rename_i n hn
  split at hn
  ·omega
  ·split at hn
   ·omega
   ·cases hn
 ·cases h1
theorem fitC_named {c:PCmd}(h:fitC c=true):c=namedC c:=by unfold fitC at h;simp only [Bool.and_eq_true,decide_eq_true_eq] at h;exact h.2
def pSgn (L:Bs):Option (Int × Bs):=(pNum 18446744073709551615 L).map fun x=>(Wire.unfoldZ x.1,x.2)
def finC (c:PCmd)(M:Bs):Option PCmd:=if M=[]/\okC c=true then some c else none
def pCmd (L:Bs):Option PCmd:=(pNum 4 L).bind fun k =>
 if k.1=1 then (pSgn k.2).bind fun t=>finC ⟨1,t.1,0,0,0,[]⟩ t.2
 else if k.1=2 then (pSgn k.2).bind fun s=>(pSgn s.2).bind fun n=>(pSgn n.2).bind fun m=>(pBytes 4096 m.2).bind fun b=>(pCall b.1).bind fun l=>finC ⟨2,0,s.1,n.1,m.1,l⟩ b.2
 else if k.1=3\/k.1=4 then (pSgn k.2).bind fun s=>finC ⟨k.1,0,s.1,0,0,[]⟩ s.2
 else none
theorem fold_unfold (n:Nat):Wire.foldZ (Wire.unfoldZ n)=n:=by
 unfold Wire.unfoldZ Wire.foldZ;split <;> split <;> omega
theorem pSgn_form {n:Int}(h0:-9223372036854775808<=n)(h1:n<=9223372036854775807)(M:Bs):pSgn (sgn n ++ M)=some (n,M):=by
 unfold pSgn sgn
 have:=Wire.foldZ_lt n h0 h1
 rw [pNum_form (by omega) (by decide)]
 simp [Wire.unfold_fold]
theorem pSgn_inv {n:Int}{L M:Bs}(h:pSgn L=some (n,M)):L=sgn n ++ M:=by
 unfold pSgn at h
 cases hx:pNum 18446744073709551615 L with
 | none=>rw [hx] at h;cases h
 | some x =>
  rw [hx] at h
  simp at h
  obtain ⟨rfl,rfl⟩:=h
  unfold sgn
  rw [fold_unfold]
  exact (pNum_inv (n:=x.1) (M:=x.2) hx).1
theorem unfold_in {n:Nat}(h:n<=18446744073709551615):-9223372036854775808<=Wire.unfoldZ n/\Wire.unfoldZ n<=9223372036854775807:=by
 unfold Wire.unfoldZ;split <;> omega
theorem pSgn_in {n:Int}{L M:Bs}(h:pSgn L=some (n,M)):-9223372036854775808<=n/\n<=9223372036854775807:=by
 unfold pSgn at h
 cases hx:pNum 18446744073709551615 L with
 | none=>rw [hx] at h;cases h
 | some x =>
  rw [hx] at h
  simp at h
  obtain ⟨rfl,rfl⟩:=h
  exact unfold_in (pNum_inv (n:=x.1) (M:=x.2) hx).2
def readM (b:Bs):PCmd × Int:=match pCmd b with | some c=>(c,0) | none=>(zeroC,4)
end Go.Proofs.YtgjcpjckaopeeaaGreatDoor
