import Derived.Test.YtadhfejefpildaaGreatCmdAll
import Derived.Test.YtadhfejefpildaaGreatFrmAll
namespace Go.Proofs.YtadhfejefpildaaGreat
open Go.RowKit Disk
open Go.Proofs.YtadhfejefpildaaGreat.Calls
open Go.Proofs.YtadhfejefpildaaGreat.Command
open Go.Proofs.YtadhfejefpildaaGreat.Frame (Frs)
abbrev PEnt:=Int × PCmd
def okE (e:PEnt):Bool:=decide (1<=e.1) && decide (e.1<=4611686018427387904) && okC e.2
theorem bZ {e:PEnt}:okE e=true<->1<=e.1/\e.1<=4611686018427387904/\okC e.2=true:=by simp [okE,and_assoc]
def bt (e:PEnt):Bs:=Wire.ai e.1.toNat ++ aS e.2
def frE (e:PEnt):Int × Bs:=(1,bt e)
def numE (L:Bs):Option (Nat × Bs):=(pNum 4611686018427387904 L).bind fun x=>if x.1=0 then none else some x
def bV (f:Int × Bs):Option PEnt:=if f.1=1 then (numE f.2).bind fun x=>(pCmd x.2).bind fun c=>some ((x.1:Int),c) else none
theorem fZ {c:PCmd}(h:okC c=true)(hi:InC c):(aS c).length<=5000:=by
 have hk:=dQ (fU h)
 have h1:(dn c).length<=10:=Wire.ay _ (by omega)
 have ht:=bf hi.t0 hi.t1
 have hs:=bf hi.s0 hi.s1
 have hn:=bf hi.n0 hi.n1
 have hm:=bf hi.m0 hi.m1
 unfold aS cB dA
 by_cases k1:c.kind=1
 ·simp [k1] at *;omega
 by_cases k2:c.kind=2
 ·have h2:=(chk0 (kP h k2)).2
  have h3:=Wire.ay (aA c.ops).length (by omega)
  simp [k2,ag] at *;omega
 by_cases k3:c.kind=3
 ·simp [k3] at *;omega
 have k4:c.kind=4:=by omega
 simp [k4] at *;omega
theorem eP {e:PEnt}(h:okE e=true)(hi:InC e.2):(bt e).length<=5010:=by
 obtain ⟨h1,h2,h3⟩:=bZ.1 h
 have:=fZ h3 hi
 have:=Wire.ay e.1.toNat (by omega)
 unfold bt
 rw [List.length_append]
 omega
theorem rR {e:PEnt}(h:okE e=true)(hi:InC e.2):bV (frE e)=some e:=by
 obtain ⟨h1,h2,h3⟩:=bZ.1 h
 unfold bV frE numE bt
 rw [if_pos rfl,cM (by omega) (by decide)]
 simp only [Option.bind_some]
 rw [if_neg (by omega)]
 simp only [Option.bind_some]
 rw [ke h3 hi]
 simp only [Option.bind_some]
 congr 1
 exact Prod.ext (by simp;omega) rfl
theorem ko {f:Int × Bs}{e:PEnt}(h:bV f=some e):okE e=true/\InC e.2/\f=frE e:=by
 unfold bV at h
 split at h
 ·rename_i h1
  cases hn:numE f.2 with
  | none=>rw [hn] at h;cases h
  | some x =>
   rw [hn] at h
   simp only [Option.bind_some] at h
   cases hc:pCmd x.2 with
   | none=>rw [hc] at h;cases h
   | some c =>
    rw [hc] at h
    simp only [Option.bind_some,Option.some.injEq] at h
    subst h
    obtain ⟨k1,k2,k3⟩:=lF hc
    unfold numE at hn
    cases hp:pNum 4611686018427387904 f.2 with
    | none=>rw [hp] at hn;cases hn
    | some y =>
     rw [hp] at hn
     simp only [Option.bind_some] at hn
     split at hn
     ·cases hn
     ·rename_i h0
      simp at hn
      subst hn
      obtain ⟨e1,e2⟩:=cq (n:=y.1) (M:=y.2) hp
      refine ⟨bZ.2 ⟨by simp;omega,by simp;omega,k1⟩,k3,Prod.ext h1 ?_⟩
      simp only [frE,bt]
      rw [e1,k2]
      simp
 ·cases h
def az:Int->Frs->List PEnt × Bool
 | _,[]=>([],true)
 | p,f :: fs=>match bV f with
  | some e=>if 0<p/\e.1≠p+1 then ([],false) else (e :: (az e.1 fs).1,(az e.1 fs).2)
  | none=>([],false)
def cT (p:Int)(l:List PEnt):Nat->Int
 | 0=>p
 | k+1=>match l[k]? with | some e=>e.1 | none=>0
theorem cP:∀(fs:Frs) (p:Int),(az p fs).1.length<=fs.length
 | [],_=>by simp [az]
 | f :: fs,p=>by
  unfold az
  split
  ·rename_i e _
   split
   ·simp
   ·have:=cP fs e.1
    simp;omega
  ·simp
theorem dm:∀(fs:Frs) (p:Int),((az p fs).2=true<->(az p fs).1.length=fs.length)
 | [],_=>by simp [az]
 | f :: fs,p=>by
  unfold az
  split
  ·rename_i e _
   split
   ·simp
   ·have:=dm fs e.1
    simp [this]
  ·simp
theorem kr (p:Int)(e:PEnt)(l:List PEnt)(k:Nat):cT p (e :: l) (k+1)=cT e.1 l k:=by
 cases k <;> simp [cT]
theorem gZ:∀(fs:Frs) (p:Int) (k:Nat) (h:k<(az p fs).1.length) (h':k<fs.length),bV fs[k]=some (az p fs).1[k]/\¬(0<cT p (az p fs).1 k/\(az p fs).1[k].1≠cT p (az p fs).1 k+1)
 | [],_,k,h,h'=>by simp at h'
 | f :: fs,p,k,h,h'=>by
  cases hr:bV f with
  | none=>unfold az at h;simp [hr] at h
  | some e =>
   by_cases hp:0<p/\e.1≠p+1
   ·unfold az at h;simp [hr,hp] at h
   ·have he:az p (f :: fs)=(e :: (az e.1 fs).1,(az e.1 fs).2):=by
     conv=>lhs;unfold az
     simp only [hr]
     rw [if_neg hp]
    simp only [he] at h ⊢
    cases k with
    | zero=>simpa [cT,hr] using hp
    | succ k =>
     rw [kr]
     simp only [List.getElem_cons_succ]
     simp only [List.length_cons,Nat.add_lt_add_iff_right] at h h'
     exact gZ fs e.1 k h h'
theorem jx:∀(fs:Frs) (p:Int) (h':(az p fs).1.length<fs.length),(bV fs[(az p fs).1.length]=none\/∃e,bV fs[(az p fs).1.length]=some e/\0<cT p (az p fs).1 (az p fs).1.length/\e.1≠cT p (az p fs).1 (az p fs).1.length+1)
 | [],_,h'=>by simp at h'
 | f :: fs,p,h'=>by
  cases hr:bV f with
  | none =>
   have he:az p (f :: fs)=([],false):=by
    conv=>lhs;unfold az
    simp only [hr]
   simp only [he]
   simp [hr]
  | some e =>
   by_cases hp:0<p/\e.1≠p+1
   ·have he:az p (f :: fs)=([],false):=by
     conv=>lhs;unfold az
     simp only [hr]
     rw [if_pos hp]
    simp only [he]
    exact .inr ⟨e,by simpa using hr,by simpa [cT] using hp⟩
   ·have he:az p (f :: fs)=(e :: (az e.1 fs).1,(az e.1 fs).2):=by
     conv=>lhs;unfold az
     simp only [hr]
     rw [if_neg hp]
    simp only [he] at h' ⊢
    simp only [List.length_cons,Nat.add_lt_add_iff_right] at h'
    have:=jx fs e.1 h'
    simp only [List.length_cons,kr,List.getElem_cons_succ]
    exact this
theorem fj {fs:Frs}{p:Int}{k:Nat}(h:k<(az p fs).1.length):okE (az p fs).1[k]=true/\InC (az p fs).1[k].2/\fs[k]'(Nat.lt_of_lt_of_le h (cP fs p))=frE (az p fs).1[k] :=
 ko (gZ fs p k h (Nat.lt_of_lt_of_le h (cP fs p))).1
def seqE:Int->List PCmd->List PEnt
 | _,[]=>[]
 | n,c :: cs=>(n,c) :: seqE (n+1) cs
theorem oK:∀(a b:List PCmd) (n:Int),seqE n (a ++ b)=seqE n a ++ seqE (n+a.length) b
 | [],b,n=>by simp [seqE]
 | c :: a,b,n=>by
  simp only [List.cons_append,seqE,oK a b (n+1),List.length_cons]
  rw [show n+1+(a.length:Int)=n+((a.length+1:Nat):Int) by push_cast;omega]
def OkL (n:Int)(cs:List PCmd):Prop:=1<=n/\n+cs.length<=4611686018427387905/\∀c ∈ cs,okC c=true/\InC c
theorem OkL.tl {n:Int}{c:PCmd}{cs:List PCmd}(h:OkL n (c :: cs)):OkL (n+1) cs:=⟨by have:=h.1;omega,by have:=h.2.1;simp at this;omega,fun d hd=>h.2.2 d (by simp [hd])⟩
theorem OkL.hd {n:Int}{c:PCmd}{cs:List PCmd}(h:OkL n (c :: cs)):okE (n,c)=true:=bZ.2 ⟨h.1,by have:=h.2.1;simp at this ⊢;omega,(h.2.2 c (by simp)).1⟩
theorem l5:∀(cs:List PCmd) (n p:Int),OkL n cs->(p<=0\/n=p+1)->az p ((seqE n cs).map frE)=(seqE n cs,true)
 | [],_,_,_,_=>rfl
 | c :: cs,n,p,h,hp=>by
  simp only [seqE,List.map_cons]
  unfold az
  rw [rR h.hd (h.2.2 c (by simp)).2]
  simp only
  rw [if_neg (by simp;omega),l5 cs (n+1) n h.tl (.inr rfl)]
theorem oL:∀(cs:List PCmd) (n:Int),OkL n cs->Frame.May ((seqE n cs).map frE)
 | [],_,_=>fun f hf=>by simp [seqE] at hf
 | c :: cs,n,h=>fun f hf=>by
  simp only [seqE,List.map_cons,List.mem_cons] at hf
  rcases hf with rfl | hf
  ·refine ⟨by simp [frE],by simp [frE],?_⟩
   have:=eP h.hd (h.2.2 c (by simp)).2
   simp only [frE]
   omega
  ·exact oL cs (n+1) h.tl f hf
def aY (n:Int)(cs:List PCmd):Bs:=Frame.flat ((seqE n cs).map frE)
theorem tO (n:Int)(a b:List PCmd):aY n (a ++ b)=aY n a ++ aY (n+a.length) b:=by
 unfold aY
 rw [oK,List.map_append,Frame.et]
end Go.Proofs.YtadhfejefpildaaGreat
