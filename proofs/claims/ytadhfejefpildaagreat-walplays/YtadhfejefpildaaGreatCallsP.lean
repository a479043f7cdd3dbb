import Derived.Test.YtadhfejefpildaaGreatWireAll
import Derived.Test.YtadhfejefpildaaGreatNamesAll
namespace Go.Proofs.YtadhfejefpildaaGreat.Calls
abbrev Bs:=List UInt8
structure POp where
 kind:Int
 table:Bs
 key:Bs
 value:Bs
 has:Bool
 old:Bs
 to:Bs
 most:Int
deriving DecidableEq
structure POut where
 has:Bool
 value:Bs
 rows:List (Bs × Bs)
deriving DecidableEq
structure PRes where
 abort:Int
 place:Int
 outs:List POut
deriving DecidableEq
def aK (is:Bool):Bs:=if is then [1] else [0]
def ag (L:Bs):Bs:=Wire.ai L.length ++ L
def named (o:POp):POp :=
 if o.kind=1\/o.kind=3 then ⟨o.kind,o.table,o.key,[],false,[],[],0⟩
 else if o.kind=2 then ⟨o.kind,o.table,o.key,o.value,false,[],[],0⟩
 else if o.kind=4 then ⟨o.kind,o.table,o.key,o.value,o.has,o.old,[],0⟩
 else if o.kind=5 then ⟨o.kind,o.table,o.key,[],false,[],o.to,o.most⟩
 else ⟨0,[],[],[],false,[],[],0⟩
def bounds (o:POp):Bool:=if o.kind=5 then (decide (o.key.length<=64) && decide (1<=o.most) && decide (o.most<=64)) else Names.keyB o.key
def aL (o:POp):Bool:=bounds o && Names.tabB o.table && Names.aU o.value && Names.aU o.old && (o.has || decide (o.old.length=0)) && decide (o.to.length<=64) && decide (o=named o)
def aZ (o:POp):Bs :=
 if o.kind=2 then ag o.value
 else if o.kind=4 then aK o.has ++ (ag o.old ++ ag o.value)
 else if o.kind=5 then ag o.to ++ Wire.ai o.most.toNat
 else []
def bK (o:POp):Bs:=Wire.ai o.kind.toNat ++ (ag o.table ++ ag o.key)
def aD (o:POp):Bs:=bK o ++ aZ o
def aA (l:List POp):Bs:=Wire.ai l.length ++ l.flatMap aD
def aI (l:List POp):Bool:=decide (1<=l.length) && decide (l.length<=16) && l.all aL
def chk (l:List POp):Int:=if aI l=true then (if (aA l).length<=4096 then 0 else 3) else 2
structure May (o:POp):Prop where
 kind:1<=o.kind/\o.kind<=5
 tab:Names.tabB o.table=true
 key:o.key.length<=64
 keyB:o.kind≠5->Names.keyB o.key=true
 value:o.value.length<=256
 old:o.old.length<=256
 has:o.has=false->o.old=[]
 to:o.to.length<=64
 most:o.kind=5->1<=o.most/\o.most<=64
 named:o=named o
theorem mY {o:POp}(h:o=named o)(hk:Names.tabB o.table=true):1<=o.kind/\o.kind<=5:=by
 unfold named at h
 split at h
 ·omega
 ·split at h
  ·omega
  ·split at h
   ·omega
   ·split at h
    ·omega
    ·rw [h] at hk
     simp [Names.tabB] at hk
theorem cA {o:POp}(h:aL o=true):May o:=by
 unfold aL at h
 simp only [Bool.and_eq_true,decide_eq_true_eq] at h
 obtain ⟨⟨⟨⟨⟨⟨hb,ht⟩,hv⟩,ho⟩,hh⟩,hto⟩,hn⟩:=h
 refine ⟨mY hn ht,ht,?_,?_,?_,?_,?_,hto,?_,hn⟩
 ·unfold bounds at hb
  split at hb
  ·simp at hb;exact hb.1.1
  ·simp [Names.keyB] at hb;exact hb.2
 ·intro h5
  unfold bounds at hb
  rw [if_neg h5] at hb
  exact hb
 ·simpa [Names.aU] using hv
 ·simpa [Names.aU] using ho
 ·intro h0
  simp [h0] at hh
  exact hh
 ·intro h5
  unfold bounds at hb
  rw [if_pos h5] at hb
  simp at hb
  omega
theorem tf {o:POp}:aL o=true<->May o:=by
 refine ⟨cA,fun h=>?_⟩
 unfold aL
 simp only [Bool.and_eq_true,decide_eq_true_eq]
 refine ⟨⟨⟨⟨⟨⟨?_,h.tab⟩,by simpa [Names.aU] using h.value⟩,by simpa [Names.aU] using h.old⟩,?_⟩,h.to⟩,h.named⟩
 ·unfold bounds
  split
  ·have:=h.most (by assumption)
   have:=h.key
   simp;omega
  ·exact h.keyB (by assumption)
 ·cases hh:o.has
  ·simp [h.has hh]
  ·simp
def pNum (most:Nat)(L:Bs):Option (Nat × Bs):=match Wire.scan 0 0 L with
 | some (n,k)=>if n<=most then some (n,L.drop k) else none
 | none=>none
def de (L:Bs):Option (Bool × Bs):=match L with
 | c :: l=>if c.toNat<=1 then some (decide (c.toNat=1),l) else none
 | []=>none
def aN (most:Nat)(L:Bs):Option (Bs × Bs):=match pNum most L with
 | some (n,M)=>if n<=M.length then some (M.take n,M.drop n) else none
 | none=>none
theorem cM {n most:Nat}(h:n<=most)(h64:most<2 ^ 64)(M:Bs):pNum most (Wire.ai n ++ M)=some (n,M):=by
 unfold pNum
 rw [Wire.io n (by omega) M]
 simp [h]
theorem cq {most n:Nat}{L M:Bs}(h:pNum most L=some (n,M)):L=Wire.ai n ++ M/\n<=most:=by
 unfold pNum at h
 split at h
 ·rename_i n' k hs
  split at h
  ·simp at h
   obtain ⟨rfl,rfl⟩:=h
   refine ⟨?_,by assumption⟩
   rw [<-Wire.nY L n' k hs,List.take_append_drop]
  ·cases h
 ·cases h
theorem mZ (is:Bool)(M:Bs):de (aK is ++ M)=some (is,M):=by cases is <;> simp [de,aK]
theorem jZ {is:Bool}{L M:Bs}(h:de L=some (is,M)):L=aK is ++ M:=by
 cases L with
 | nil=>simp [de] at h
 | cons c l =>
  unfold de at h
  simp only at h
  split at h
  ·rename_i hc
   simp only [Option.some.injEq,Prod.mk.injEq] at h
   obtain ⟨h1,rfl⟩:=h
   by_cases h2:c.toNat=1
   ·have e:c=1:=UInt8.toNat_inj.1 (by simpa using h2)
    subst e
    rw [<-h1];simp [aK]
   ·have e:c=0:=UInt8.toNat_inj.1 (by simp;omega)
    subst e
    rw [<-h1];simp [aK]
  ·cases h
theorem cH {b:Bs}{most:Nat}(h:b.length<=most)(h64:most<2 ^ 64)(M:Bs):aN most (ag b ++ M)=some (b,M):=by
 unfold aN ag
 rw [List.append_assoc,cM h h64]
 simp
theorem bT {b:Bs}{most:Nat}{L M:Bs}(h:aN most L=some (b,M)):L=ag b ++ M/\b.length<=most:=by
 unfold aN at h
 split at h
 ·rename_i n N hn
  obtain ⟨e,hle⟩:=cq hn
  split at h
  ·rename_i hl
   simp at h
   obtain ⟨rfl,rfl⟩:=h
   have e2:(N.take n).length=n:=by simp;omega
   refine ⟨?_,by omega⟩
   unfold ag
   rw [e2,List.append_assoc,List.take_append_drop,e]
  ·cases h
 ·cases h
def cS (k:Nat)(t key:Bs)(L:Bs):Option (POp × Bs) :=
 if k=2 then (aN 256 L).bind fun v=>some (⟨k,t,key,v.1,false,[],[],0⟩,v.2)
 else if k=4 then (de L).bind fun h=>(aN 256 h.2).bind fun o=>(aN 256 o.2).bind fun v=>some (⟨k,t,key,v.1,h.1,o.1,[],0⟩,v.2)
 else if k=5 then (aN 64 L).bind fun to=>(pNum 64 to.2).bind fun m=>some (⟨k,t,key,[],false,[],to.1,m.1⟩,m.2)
 else some (⟨k,t,key,[],false,[],[],0⟩,L)
def pOp (L:Bs):Option (POp × Bs) :=
 (pNum 5 L).bind fun k=>(aN 16 k.2).bind fun t=>(aN 64 t.2).bind fun key=>(cS k.1 t.1 key.1 key.2).bind fun o=>if aL o.1=true then some o else none
theorem aV {L:Bs}(h:Names.tabB L=true):L.length<=16:=by
 simp [Names.tabB] at h;exact h.1.2
theorem m9 {o:POp}(h:May o)(M:Bs):cS o.kind.toNat o.table o.key (aZ o ++ M)=some (o,M):=by
 have hk:=h.kind
 have ek:((o.kind.toNat:Nat):Int)=o.kind:=by omega
 have hn:=h.named
 unfold cS aZ
 by_cases h2:o.kind=2
 ·rw [if_pos (by omega),if_pos h2,cH h.value (by decide)]
  simp only [Option.bind_some,Option.some.injEq,Prod.mk.injEq,and_true]
  rw [ek]
  have:=h.named
  rw [named,if_neg (by omega),if_pos h2] at this
  exact this.symm
 ·rw [if_neg (by omega),if_neg h2]
  by_cases h4:o.kind=4
  ·rw [if_pos (by omega),if_pos h4,List.append_assoc,List.append_assoc,mZ]
   simp only [Option.bind_some]
   rw [cH h.old (by decide)]
   simp only [Option.bind_some]
   rw [cH h.value (by decide)]
   simp only [Option.bind_some,Option.some.injEq,Prod.mk.injEq,and_true]
   rw [ek]
   have:=h.named
   rw [named,if_neg (by omega),if_neg h2,if_pos h4] at this
   exact this.symm
  ·rw [if_neg (by omega),if_neg h4]
   by_cases h5:o.kind=5
   ·have hm:=h.most h5
    rw [if_pos (by omega),if_pos h5,List.append_assoc,cH h.to (by decide)]
    simp only [Option.bind_some]
    rw [cM (by omega) (by decide)]
    simp only [Option.bind_some,Option.some.injEq,Prod.mk.injEq,and_true]
    rw [ek,show ((o.most.toNat:Nat):Int)=o.most by omega]
    have:=h.named
    rw [named,if_neg (by omega),if_neg h2,if_neg h4,if_pos h5] at this
    exact this.symm
   ·rw [if_neg (by omega),if_neg h5]
    simp only [List.nil_append,Option.some.injEq,Prod.mk.injEq,and_true]
    rw [ek]
    have:=h.named
    rw [named,if_pos (by omega)] at this
    exact this.symm
theorem pq {k:Nat}{t key L M:Bs}{o:POp}(h:cS k t key L=some (o,M)):L=aZ o ++ M/\o.kind=k/\o.table=t/\o.key=key:=by
 unfold cS at h
 split at h
 ·rename_i hk
  cases hv:aN 256 L with
  | none=>rw [hv] at h;cases h
  | some v =>
   rw [hv] at h
   simp at h
   obtain ⟨rfl,rfl⟩:=h
   obtain ⟨e,_⟩:=bT hv
   refine ⟨?_,rfl,rfl,rfl⟩
   rw [e,aZ,if_pos (by simp;omega)]
 ·rename_i h2
  split at h
  ·rename_i hk
   cases hf:de L with
   | none=>rw [hf] at h;cases h
   | some f =>
    rw [hf] at h
    simp only [Option.bind_some] at h
    cases ho:aN 256 f.2 with
    | none=>rw [ho] at h;cases h
    | some x =>
     rw [ho] at h
     simp only [Option.bind_some] at h
     cases hv:aN 256 x.2 with
     | none=>rw [hv] at h;cases h
     | some v =>
      rw [hv] at h
      simp at h
      obtain ⟨rfl,rfl⟩:=h
      refine ⟨?_,rfl,rfl,rfl⟩
      rw [jZ (is:=f.1) (M:=f.2) hf,(bT (b:=x.1) (M:=x.2) ho).1,(bT (b:=v.1) (M:=v.2) hv).1,aZ,if_neg (by simp;omega),if_pos (by simp;omega)]
      simp
  ·rename_i h4
   split at h
   ·rename_i hk
    cases hv:aN 64 L with
    | none=>rw [hv] at h;cases h
    | some x =>
     rw [hv] at h
     simp only [Option.bind_some] at h
     cases hm:pNum 64 x.2 with
     | none=>rw [hm] at h;cases h
     | some m =>
      rw [hm] at h
      simp at h
      obtain ⟨rfl,rfl⟩:=h
      refine ⟨?_,rfl,rfl,rfl⟩
      rw [(bT (b:=x.1) (M:=x.2) hv).1,(cq (n:=m.1) (M:=m.2) hm).1,aZ,if_neg (by simp;omega),if_neg (by simp;omega),if_pos (by simp;omega)]
      simp
   ·rename_i h5
    simp at h
    obtain ⟨rfl,rfl⟩:=h
    refine ⟨?_,rfl,rfl,rfl⟩
    rw [aZ,if_neg (by simp;omega),if_neg (by simp;omega),if_neg (by simp;omega)]
    rfl
theorem qO {o:POp}(h:aL o=true)(M:Bs):pOp (aD o ++ M)=some (o,M):=by
 have hm:=cA h
 have hk:=hm.kind
 unfold pOp aD bK
 rw [List.append_assoc,List.append_assoc,cM (by omega) (by decide)]
 simp only [Option.bind_some]
 rw [List.append_assoc,cH (aV hm.tab) (by decide)]
 simp only [Option.bind_some]
 rw [cH hm.key (by decide)]
 simp only [Option.bind_some]
 rw [m9 hm]
 simp [h]
theorem om {o:POp}{L M:Bs}(h:pOp L=some (o,M)):aL o=true/\L=aD o ++ M:=by
 unfold pOp at h
 cases hk:pNum 5 L with
 | none=>rw [hk] at h;cases h
 | some k =>
  rw [hk] at h
  simp only [Option.bind_some] at h
  cases ht:aN 16 k.2 with
  | none=>rw [ht] at h;cases h
  | some t =>
   rw [ht] at h
   simp only [Option.bind_some] at h
   cases hy:aN 64 t.2 with
   | none=>rw [hy] at h;cases h
   | some y =>
    rw [hy] at h
    simp only [Option.bind_some] at h
    cases hr:cS k.1 t.1 y.1 y.2 with
    | none=>rw [hr] at h;cases h
    | some x =>
     rw [hr] at h
     simp only [Option.bind_some] at h
     split at h
     ·rename_i hx
      simp at h
      subst h
      refine ⟨hx,?_⟩
      obtain ⟨e,e1,e2,e3⟩:=pq hr
      rw [(cq (n:=k.1) (M:=k.2) hk).1,(bT (b:=t.1) (M:=t.2) ht).1,(bT (b:=y.1) (M:=y.2) hy).1,e]
      unfold aD bK
      rw [e1,e2,e3]
      simp
     ·cases h
section
variable {α:Type}
def bU (p:Bs->Option (α × Bs)):Nat->Bs->Option (List α × Bs)
 | 0,L=>some ([],L)
 | n+1,L=>(p L).bind fun x=>(bU p n x.2).bind fun xs=>some (x.1 :: xs.1,xs.2)
def bz (p:Bs->Option (α × Bs))(most:Nat)(L:Bs):Option (List α × Bs):=(pNum most L).bind fun n=>bU p n.1 n.2
def fC (f:α->Bs)(l:List α):Bs:=Wire.ai l.length ++ l.flatMap f
variable {p:Bs->Option (α × Bs)} {f:α->Bs} {ok:α->Bool}
theorem jb (hp:∀x M,ok x=true->p (f x ++ M)=some (x,M)):∀(l:List α) (M:Bs),l.all ok=true->bU p l.length (l.flatMap f ++ M)=some (l,M)
 | [],M,_=>rfl
 | x :: l,M,h=>by
  simp only [List.all_cons,Bool.and_eq_true] at h
  simp only [List.length_cons,List.flatMap_cons,bU,List.append_assoc]
  rw [hp x _ h.1]
  simp only [Option.bind_some]
  rw [jb hp l M h.2]
  rfl
theorem j6 (hp:∀x L M,p L=some (x,M)->ok x=true/\L=f x ++ M):∀(n:Nat) (L:Bs) (l:List α) (M:Bs),bU p n L=some (l,M)->l.length=n/\l.all ok=true/\L=l.flatMap f ++ M
 | 0,L,l,M,h=>by simp [bU] at h;obtain ⟨rfl,rfl⟩:=h;simp
 | n+1,L,l,M,h=>by
  simp only [bU] at h
  cases hx:p L with
  | none=>rw [hx] at h;cases h
  | some x =>
   rw [hx] at h
   simp only [Option.bind_some] at h
   cases hy:bU p n x.2 with
   | none=>rw [hy] at h;cases h
   | some y =>
    rw [hy] at h
    simp at h
    obtain ⟨rfl,rfl⟩:=h
    obtain ⟨h1,h2⟩:=hp x.1 L x.2 hx
    obtain ⟨i1,i2,i3⟩:=j6 hp n x.2 y.1 y.2 hy
    refine ⟨by simp [i1],?_,?_⟩
    ·rw [List.all_cons,h1,i2];rfl
    ·rw [h2,i3];simp
theorem m_ (hp:∀x M,ok x=true->p (f x ++ M)=some (x,M)){l:List α}{most:Nat}(M:Bs)(h:l.all ok=true)(hl:l.length<=most)(h64:most<2 ^ 64):bz p most (fC f l ++ M)=some (l,M):=by
 unfold bz fC
 rw [List.append_assoc,cM hl h64]
 exact jb hp l M h
theorem pr (hp:∀x L M,p L=some (x,M)->ok x=true/\L=f x ++ M){L M:Bs}{l:List α}{most:Nat}(h:bz p most L=some (l,M)):l.length<=most/\l.all ok=true/\L=fC f l ++ M:=by
 unfold bz at h
 cases hn:pNum most L with
 | none=>rw [hn] at h;cases h
 | some n =>
  rw [hn] at h
  simp only [Option.bind_some] at h
  obtain ⟨e,hle⟩:=cq (n:=n.1) (M:=n.2) hn
  obtain ⟨h1,h2,h3⟩:=j6 hp n.1 n.2 l M h
  refine ⟨by omega,h2,?_⟩
  rw [e,h3,fC,h1];simp
end
def cE (L:Bs):Option (List POp):=(bz pOp 16 L).bind fun l=>if l.1.length=0 then none else if l.2.length=0 then some l.1 else none
theorem cN {b:Bs}{l:List POp}:cE b=some l<->aI l=true/\b=aA l:=by
 constructor
 ·intro h
  unfold cE at h
  cases hx:bz pOp 16 b with
  | none=>rw [hx] at h;cases h
  | some x =>
   rw [hx] at h
   simp only [Option.bind_some] at h
   obtain ⟨h1,h2,h3⟩:=pr (f:=aD) (ok:=aL) (fun _ _ _=>om) (l:=x.1) (M:=x.2) hx
   split at h
   ·cases h
   ·split at h
    ·rename_i hz hm
     simp at h hm
     subst h
     refine ⟨?_,?_⟩
     ·unfold aI
      simp only [Bool.and_eq_true,decide_eq_true_eq]
      exact ⟨⟨by omega,h1⟩,h2⟩
     ·rw [h3,hm,List.append_nil];rfl
    ·cases h
 ·rintro ⟨h,rfl⟩
  unfold aI at h
  simp only [Bool.and_eq_true,decide_eq_true_eq] at h
  have:=m_ (p:=pOp) (f:=aD) (ok:=aL) (fun x M hx=>qO hx M) (l:=l) (most:=16) [] h.2 h.1.2 (by decide)
  rw [List.append_nil] at this
  unfold cE
  rw [show aA l=fC aD l from rfl,this]
  simp only [Option.bind_some]
  rw [if_neg (by omega)]
  rfl
def bR (b:Bs):List POp × Int:=if b.length<=4096 then (match cE b with | some l=>(l,0) | none=>([],4)) else ([],3)
end Go.Proofs.YtadhfejefpildaaGreat.Calls
