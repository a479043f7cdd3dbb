import Derived.Test.YtadhfejefpildaaGreatCmdAll
import Derived.Test.YtadhfejefpildaaGreatFrmAll
namespace Go.Proofs.YtadhfejefpildaaGreat
open Go.RowKit Disk
open _root_.Go.Proofs.YtadhfejefpildaaGreat.Calls
open _root_.Go.Proofs.YtadhfejefpildaaGreat.Command
open _root_.Go.Proofs.YtadhfejefpildaaGreat.Frame (Frs)
abbrev PEnt:=Int × PCmd
def okE (e:PEnt):Bool:=decide (1<=e.1) && decide (e.1<=4611686018427387904) && okC e.2
theorem okE_iff {e:PEnt}:okE e=true<->1<=e.1/\e.1<=4611686018427387904/\okC e.2=true:=by simp [okE,and_assoc]
def bodyE (e:PEnt):Bs:=Wire.numForm e.1.toNat ++ formC e.2
def frE (e:PEnt):Int × Bs:=(1,bodyE e)
def numE (L:Bs):Option (Nat × Bs):=(pNum 4611686018427387904 L).bind fun x=>if x.1=0 then none else some x
def readE (f:Int × Bs):Option PEnt:=if f.1=1 then (numE f.2).bind fun x=>(pCmd x.2).bind fun c=>some ((x.1:Int),c) else none
theorem formC_len {c:PCmd}(h:okC c=true)(hi:InC c):(formC c).length<=5000:=by
 have hk:=fitC_kind (okC_fit h)
 have h1:(headC c).length<=10:=Wire.numForm_len10 _ (by omega)
 have ht:=sgn_len hi.t0 hi.t1
 have hs:=sgn_len hi.s0 hi.s1
 have hn:=sgn_len hi.n0 hi.n1
 have hm:=sgn_len hi.m0 hi.m1
 unfold formC frontC numsC
 by_cases k1:c.kind=1
 ·simp [k1] at *;omega
 by_cases k2:c.kind=2
 ·have h2:=(chk0 (okC_chk h k2)).2
  have h3:=Wire.numForm_len10 (callForm c.ops).length (by omega)
  simp [k2,bytesForm] at *;omega
 by_cases k3:c.kind=3
 ·simp [k3] at *;omega
 have k4:c.kind=4:=by omega
 simp [k4] at *;omega
theorem bodyE_len {e:PEnt}(h:okE e=true)(hi:InC e.2):(bodyE e).length<=5010:=by
 obtain ⟨h1,h2,h3⟩:=okE_iff.1 h
 have:=formC_len h3 hi
 have:=Wire.numForm_len10 e.1.toNat (by omega)
 unfold bodyE
 rw [List.length_append]
 omega
theorem readE_of {e:PEnt}(h:okE e=true)(hi:InC e.2):readE (frE e)=some e:=by
 obtain ⟨h1,h2,h3⟩:=okE_iff.1 h
 unfold readE frE numE bodyE
 rw [if_pos rfl,pNum_form (by omega) (by decide)]
 simp only [Option.bind_some]
 rw [if_neg (by omega)]
 simp only [Option.bind_some]
 rw [pCmd_form h3 hi]
 simp only [Option.bind_some]
 congr 1
 exact Prod.ext (by simp;omega) rfl
theorem readE_inv {f:Int × Bs}{e:PEnt}(h:readE f=some e):okE e=true/\InC e.2/\f=frE e:=by
 unfold readE at h
 split at h
 ·rename_i h1
  cases hn:numE f.2 with
  | none=>rw [hn] at h;cases h
  | some x =>
   rw [hn] at h
   simp only [Option.bind_some] at h
   cases hc:pCmd x.2 with
   | none=>rw [hc] at h;cases h
   | some c =>
    rw [hc] at h
    simp only [Option.bind_some,Option.some.injEq] at h
    subst h
    obtain ⟨k1,k2,k3⟩:=pCmd_inv hc
    unfold numE at hn
    cases hp:pNum 4611686018427387904 f.2 with
    | none=>rw [hp] at hn;cases hn
    | some y =>
     rw [hp] at hn
     simp only [Option.bind_some] at hn
     split at hn
     ·cases hn
     ·rename_i h0
      simp at hn
      subst hn
      obtain ⟨e1,e2⟩:=pNum_inv (n:=y.1) (M:=y.2) hp
      refine ⟨okE_iff.2 ⟨by simp;omega,by simp;omega,k1⟩,k3,Prod.ext h1 ?_⟩
      simp only [frE,bodyE]
      rw [e1,k2]
      simp
 ·cases h
def entsL:Int->Frs->List PEnt × Bool
 | _,[]=>([],true)
 | p,f :: fs=>match readE f with
  | some e=>if 0<p/\e.1≠p+1 then ([],false) else (e :: (entsL e.1 fs).1,(entsL e.1 fs).2)
  | none=>([],false)
def prevE (p:Int)(l:List PEnt):Nat->Int
 | 0=>p
 | k+1=>match l[k]? with | some e=>e.1 | none=>0
theorem ents_le:∀(fs:Frs) (p:Int),(entsL p fs).1.length<=fs.length
 | [],_=>by simp [entsL]
 | f :: fs,p=>by
  unfold entsL
  split
  ·rename_i e _
   split
   ·simp
   ·have:=ents_le fs e.1
    simp;omega
  ·simp
theorem ents_all:∀(fs:Frs) (p:Int),((entsL p fs).2=true<->(entsL p fs).1.length=fs.length)
 | [],_=>by simp [entsL]
 | f :: fs,p=>by
  unfold entsL
  split
  ·rename_i e _
   split
   ·simp
   ·have:=ents_all fs e.1
    simp [this]
  ·simp
theorem prev_cons (p:Int)(e:PEnt)(l:List PEnt)(k:Nat):prevE p (e :: l) (k+1)=prevE e.1 l k:=by
 cases k <;> simp [prevE]
theorem ents_at:∀(fs:Frs) (p:Int) (k:Nat) (h:k<(entsL p fs).1.length) (h':k<fs.length),readE fs[k]=some (entsL p fs).1[k]/\¬(0<prevE p (entsL p fs).1 k/\(entsL p fs).1[k].1≠prevE p (entsL p fs).1 k+1)
 | [],_,k,h,h'=>by simp at h'
 | f :: fs,p,k,h,h'=>by
  cases hr:readE f with
  | none=>unfold entsL at h;simp [hr] at h
  | some e =>
   by_cases hp:0<p/\e.1≠p+1
   ·unfold entsL at h;simp [hr,hp] at h
   ·have he:entsL p (f :: fs)=(e :: (entsL e.1 fs).1,(entsL e.1 fs).2):=by
     conv=>lhs;unfold entsL
     simp only [hr]
     rw [if_neg hp]
    simp only [he] at h ⊢
    cases k with
    | zero=>simpa [prevE,hr] using hp
    | succ k =>
     rw [prev_cons]
     simp only [List.getElem_cons_succ]
     simp only [List.length_cons,Nat.add_lt_add_iff_right] at h h'
     exact ents_at fs e.1 k h h'
theorem ents_bad:∀(fs:Frs) (p:Int) (h':(entsL p fs).1.length<fs.length),(readE fs[(entsL p fs).1.length]=none\/∃e,readE fs[(entsL p fs).1.length]=some e/\0<prevE p (entsL p fs).1 (entsL p fs).1.length/\e.1≠prevE p (entsL p fs).1 (entsL p fs).1.length+1)
 | [],_,h'=>by simp at h'
 | f :: fs,p,h'=>by
  cases hr:readE f with
  | none =>
   have he:entsL p (f :: fs)=([],false):=by conv=>lhs;unfold entsL
                                            simp only [hr]
   simp only [he]
   simp [hr]
  | some e =>
   by_cases hp:0<p/\e.1≠p+1
   ·have he:entsL p (f :: fs)=([],false):=by
     conv=>lhs;unfold entsL
     simp only [hr]
     rw [if_pos hp]
    simp only [he]
    exact .inr ⟨e,by simpa using hr,by simpa [prevE] using hp⟩
   ·have he:entsL p (f :: fs)=(e :: (entsL e.1 fs).1,(entsL e.1 fs).2):=by
     conv=>lhs;unfold entsL
     simp only [hr]
     rw [if_neg hp]
    simp only [he] at h' ⊢
    simp only [List.length_cons,Nat.add_lt_add_iff_right] at h'
    have:=ents_bad fs e.1 h'
    simp only [List.length_cons,prev_cons,List.getElem_cons_succ]
    exact this
theorem ents_ok {fs:Frs}{p:Int}{k:Nat}(h:k<(entsL p fs).1.length):okE (entsL p fs).1[k]=true/\InC (entsL p fs).1[k].2/\fs[k]'(Nat.lt_of_lt_of_le h (ents_le fs p))=frE (entsL p fs).1[k] :=
 readE_inv (ents_at fs p k h (Nat.lt_of_lt_of_le h (ents_le fs p))).1
def seqE:Int->List PCmd->List PEnt
 | _,[]=>[]
 | n,c :: cs=>(n,c) :: seqE (n+1) cs
theorem seq_app:∀(a b:List PCmd) (n:Int),seqE n (a ++ b)=seqE n a ++ seqE (n+a.length) b
 | [],b,n=>by simp [seqE]
 | c :: a,b,n=>by
  simp only [List.cons_append,seqE,seq_app a b (n+1),List.length_cons]
  rw [show n+1+(a.length:Int)=n+((a.length+1:Nat):Int) by push_cast;omega]
def OkL (n:Int)(cs:List PCmd):Prop:=1<=n/\n+cs.length<=4611686018427387905/\∀c ∈ cs,okC c=true/\InC c
theorem OkL.tl {n:Int}{c:PCmd}{cs:List PCmd}(h:OkL n (c :: cs)):OkL (n+1) cs:=⟨by have:=h.1;omega,by have:=h.2.1;simp at this;omega,fun d hd=>h.2.2 d (by simp [hd])⟩
theorem OkL.hd {n:Int}{c:PCmd}{cs:List PCmd}(h:OkL n (c :: cs)):okE (n,c)=true:=okE_iff.2 ⟨h.1,by have:=h.2.1;simp at this ⊢;omega,(h.2.2 c (by simp)).1⟩
theorem ents_seq:∀(cs:List PCmd) (n p:Int),OkL n cs->(p<=0\/n=p+1)->entsL p ((seqE n cs).map frE)=(seqE n cs,true)
 | [],_,_,_,_=>rfl
 | c :: cs,n,p,h,hp=>by
  simp only [seqE,List.map_cons]
  unfold entsL
  rw [readE_of h.hd (h.2.2 c (by simp)).2]
  simp only
  rw [if_neg (by simp;omega),ents_seq cs (n+1) n h.tl (.inr rfl)]
theorem seq_may:∀(cs:List PCmd) (n:Int),OkL n cs->Frame.May ((seqE n cs).map frE)
 | [],_,_=>fun f hf=>by simp [seqE] at hf
 | c :: cs,n,h=>fun f hf=>by
  simp only [seqE,List.map_cons,List.mem_cons] at hf
  rcases hf with rfl | hf
  ·refine ⟨by simp [frE],by simp [frE],?_⟩
   have:=bodyE_len h.hd (h.2.2 c (by simp)).2
   simp only [frE]
   omega
  ·exact seq_may cs (n+1) h.tl f hf
def logOf (n:Int)(cs:List PCmd):Bs:=Frame.flat ((seqE n cs).map frE)
theorem log_app (n:Int)(a b:List PCmd):logOf n (a ++ b)=logOf n a ++ logOf (n+a.length) b:=by
 unfold logOf
 rw [seq_app,List.map_append,Frame.flat_append]
end Go.Proofs.YtadhfejefpildaaGreat
