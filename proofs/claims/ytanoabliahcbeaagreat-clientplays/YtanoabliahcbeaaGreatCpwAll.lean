import Derived.Test.YtanoabliahcbeaaGreatWireAll
import Derived.Test.YtanoabliahcbeaaGreatNamesAll
import Derived.Recover
set_option maxHeartbeats 4000000
set_option maxRecDepth 100000
namespace Go.Proofs.YtanoabliahcbeaaGreat.Calls
abbrev Bs:=List UInt8
structure POp where
 kind:Int
 table:Bs
 key:Bs
 value:Bs
 has:Bool
 old:Bs
 to:Bs
 most:Int
deriving DecidableEq
structure POut where
 has:Bool
 value:Bs
 rows:List (Bs × Bs)
deriving DecidableEq
structure PRes where
 abort:Int
 place:Int
 outs:List POut
deriving DecidableEq
def flagForm (is:Bool):Bs:=if is then [1] else [0]
def bytesForm (L:Bs):Bs:=Wire.numForm L.length ++ L
def named (o:POp):POp :=
 if o.kind=1\/o.kind=3 then ⟨o.kind,o.table,o.key,[],false,[],[],0⟩
 else if o.kind=2 then ⟨o.kind,o.table,o.key,o.value,false,[],[],0⟩
 else if o.kind=4 then ⟨o.kind,o.table,o.key,o.value,o.has,o.old,[],0⟩
 else if o.kind=5 then ⟨o.kind,o.table,o.key,[],false,[],o.to,o.most⟩
 else ⟨0,[],[],[],false,[],[],0⟩
def bounds (o:POp):Bool:=if o.kind=5 then (decide (o.key.length<=64) && decide (1<=o.most) && decide (o.most<=64)) else Names.keyB o.key
def mayOp (o:POp):Bool:=bounds o && Names.tabB o.table && Names.valueB o.value && Names.valueB o.old && (o.has || decide (o.old.length=0)) && decide (o.to.length<=64) && decide (o=named o)
def tailForm (o:POp):Bs :=
 if o.kind=2 then bytesForm o.value
 else if o.kind=4 then flagForm o.has ++ (bytesForm o.old ++ bytesForm o.value)
 else if o.kind=5 then bytesForm o.to ++ Wire.numForm o.most.toNat
 else []
def frontForm (o:POp):Bs:=Wire.numForm o.kind.toNat ++ (bytesForm o.table ++ bytesForm o.key)
def opForm (o:POp):Bs:=frontForm o ++ tailForm o
def callForm (l:List POp):Bs:=Wire.numForm l.length ++ l.flatMap opForm
def mayCall (l:List POp):Bool:=decide (1<=l.length) && decide (l.length<=16) && l.all mayOp
def chk (l:List POp):Int:=if mayCall l=true then (if (callForm l).length<=4096 then 0 else 3) else 2
structure May (o:POp):Prop where
 kind:1<=o.kind/\o.kind<=5
 tab:Names.tabB o.table=true
 key:o.key.length<=64
 keyB:o.kind≠5->Names.keyB o.key=true
 value:o.value.length<=256
 old:o.old.length<=256
 has:o.has=false->o.old=[]
 to:o.to.length<=64
 most:o.kind=5->1<=o.most/\o.most<=64
 named:o=named o
theorem named_kind {o:POp}(h:o=named o)(hk:Names.tabB o.table=true):1<=o.kind/\o.kind<=5:=by
 unfold named at h
 split at h
 ·omega
 ·split at h
  ·omega
  ·split at h
   ·omega
   ·split at h
    ·omega
    ·rw [h] at hk
     simp [Names.tabB] at hk
theorem may_of {o:POp}(h:mayOp o=true):May o:=by
 unfold mayOp at h
 simp only [Bool.and_eq_true,decide_eq_true_eq] at h
 obtain ⟨⟨⟨⟨⟨⟨hb,ht⟩,hv⟩,ho⟩,hh⟩,hto⟩,hn⟩:=h
 refine ⟨named_kind hn ht,ht,?_,?_,?_,?_,?_,hto,?_,hn⟩
 ·unfold bounds at hb
  split at hb
  ·simp at hb;exact hb.1.1
  ·simp [Names.keyB] at hb;exact hb.2
 ·intro h5
  unfold bounds at hb
  rw [if_neg h5] at hb
  exact hb
 ·simpa [Names.valueB] using hv
 ·simpa [Names.valueB] using ho
 ·intro h0
  simp [h0] at hh
  exact hh
 ·intro h5
  unfold bounds at hb
  rw [if_pos h5] at hb
  simp at hb
  omega
theorem may_iff {o:POp}:mayOp o=true<->May o:=by
 refine ⟨may_of,fun h=>?_⟩
 unfold mayOp
 simp only [Bool.and_eq_true,decide_eq_true_eq]
 refine ⟨⟨⟨⟨⟨⟨?_,h.tab⟩,by simpa [Names.valueB] using h.value⟩,by simpa [Names.valueB] using h.old⟩,?_⟩,h.to⟩,h.named⟩
 ·unfold bounds
  split
  ·have:=h.most (by assumption)
   have:=h.key
   simp;omega
  ·exact h.keyB (by assumption)
 ·cases hh:o.has
  ·simp [h.has hh]
  ·simp
def pNum (most:Nat)(L:Bs):Option (Nat × Bs):=match Wire.scan 0 0 L with
 | some (n,k)=>if n<=most then some (n,L.drop k) else none
 | none=>none
def pFlag (L:Bs):Option (Bool × Bs):=match L with
 | c :: l=>if c.toNat<=1 then some (decide (c.toNat=1),l) else none
 | []=>none
def pBytes (most:Nat)(L:Bs):Option (Bs × Bs):=match pNum most L with
 | some (n,M)=>if n<=M.length then some (M.take n,M.drop n) else none
 | none=>none
theorem pNum_form {n most:Nat}(h:n<=most)(h64:most<2 ^ 64)(M:Bs):pNum most (Wire.numForm n ++ M)=some (n,M):=by
 unfold pNum
 rw [Wire.scan_num n (by omega) M]
 simp [h]
theorem pNum_inv {most n:Nat}{L M:Bs}(h:pNum most L=some (n,M)):L=Wire.numForm n ++ M/\n<=most:=by
 unfold pNum at h
 split at h
 ·rename_i n' k hs
  split at h
  ·simp at h
   obtain ⟨rfl,rfl⟩:=h
   refine ⟨?_,by assumption⟩
   rw [<-Wire.form_scan0 L n' k hs,List.take_append_drop]
  ·cases h
 ·cases h
theorem pFlag_form (is:Bool)(M:Bs):pFlag (flagForm is ++ M)=some (is,M):=by cases is <;> simp [pFlag,flagForm]
theorem pFlag_inv {is:Bool}{L M:Bs}(h:pFlag L=some (is,M)):L=flagForm is ++ M:=by
 cases L with
 | nil=>simp [pFlag] at h
 | cons c l =>
  unfold pFlag at h
  simp only at h
  split at h
  ·rename_i hc
   simp only [Option.some.injEq,Prod.mk.injEq] at h
   obtain ⟨h1,rfl⟩:=h
   by_cases h2:c.toNat=1
   ·have e:c=1:=UInt8.toNat_inj.1 (by simpa using h2)
    subst e
    rw [<-h1];simp [flagForm]
   ·have e:c=0:=UInt8.toNat_inj.1 (by simp;omega)
    subst e
    rw [<-h1];simp [flagForm]
  ·cases h
theorem pBytes_form {b:Bs}{most:Nat}(h:b.length<=most)(h64:most<2 ^ 64)(M:Bs):pBytes most (bytesForm b ++ M)=some (b,M):=by
 unfold pBytes bytesForm
 rw [List.append_assoc,pNum_form h h64]
 simp
theorem pBytes_inv {b:Bs}{most:Nat}{L M:Bs}(h:pBytes most L=some (b,M)):L=bytesForm b ++ M/\b.length<=most:=by
 unfold pBytes at h
 split at h
 ·rename_i n N hn
  obtain ⟨e,hle⟩:=pNum_inv hn
  split at h
  ·rename_i hl
   simp at h
   obtain ⟨rfl,rfl⟩:=h
   have e2:(N.take n).length=n:=by simp;omega
   refine ⟨?_,by omega⟩
   unfold bytesForm
   rw [e2,List.append_assoc,List.take_append_drop,e]
  ·cases h
 ·cases h
def pRest (k:Nat)(t key:Bs)(L:Bs):Option (POp × Bs) :=
 if k=2 then (pBytes 256 L).bind fun v=>some (⟨k,t,key,v.1,false,[],[],0⟩,v.2)
 else if k=4 then (pFlag L).bind fun h=>(pBytes 256 h.2).bind fun o=>(pBytes 256 o.2).bind fun v=>some (⟨k,t,key,v.1,h.1,o.1,[],0⟩,v.2)
 else if k=5 then (pBytes 64 L).bind fun to=>(pNum 64 to.2).bind fun m=>some (⟨k,t,key,[],false,[],to.1,m.1⟩,m.2)
 else some (⟨k,t,key,[],false,[],[],0⟩,L)
def pOp (L:Bs):Option (POp × Bs) :=
 (pNum 5 L).bind fun k=>(pBytes 16 k.2).bind fun t=>(pBytes 64 t.2).bind fun key=>(pRest k.1 t.1 key.1 key.2).bind fun o=>if mayOp o.1=true then some o else none
theorem tab_len {L:Bs}(h:Names.tabB L=true):L.length<=16:=by
 simp [Names.tabB] at h;exact h.1.2
theorem pRest_form {o:POp}(h:May o)(M:Bs):pRest o.kind.toNat o.table o.key (tailForm o ++ M)=some (o,M):=by
 have hk:=h.kind
 have ek:((o.kind.toNat:Nat):Int)=o.kind:=by omega
 have hn:=h.named
 unfold pRest tailForm
 by_cases h2:o.kind=2
 ·rw [if_pos (by omega),if_pos h2,pBytes_form h.value (by decide)]
  simp only [Option.bind_some,Option.some.injEq,Prod.mk.injEq,and_true]
  rw [ek]
  have:=h.named
  rw [named,if_neg (by omega),if_pos h2] at this
  exact this.symm
 ·rw [if_neg (by omega),if_neg h2]
  by_cases h4:o.kind=4
  ·rw [if_pos (by omega),if_pos h4,List.append_assoc,List.append_assoc,pFlag_form]
   simp only [Option.bind_some]
   rw [pBytes_form h.old (by decide)]
   simp only [Option.bind_some]
   rw [pBytes_form h.value (by decide)]
   simp only [Option.bind_some,Option.some.injEq,Prod.mk.injEq,and_true]
   rw [ek]
   have:=h.named
   rw [named,if_neg (by omega),if_neg h2,if_pos h4] at this
   exact this.symm
  ·rw [if_neg (by omega),if_neg h4]
   by_cases h5:o.kind=5
   ·have hm:=h.most h5
    rw [if_pos (by omega),if_pos h5,List.append_assoc,pBytes_form h.to (by decide)]
    simp only [Option.bind_some]
    rw [pNum_form (by omega) (by decide)]
    simp only [Option.bind_some,Option.some.injEq,Prod.mk.injEq,and_true]
    rw [ek,show ((o.most.toNat:Nat):Int)=o.most by omega]
    have:=h.named
    rw [named,if_neg (by omega),if_neg h2,if_neg h4,if_pos h5] at this
    exact this.symm
   ·rw [if_neg (by omega),if_neg h5]
    simp only [List.nil_append,Option.some.injEq,Prod.mk.injEq,and_true]
    rw [ek]
    have:=h.named
    rw [named,if_pos (by omega)] at this
    exact this.symm
theorem pRest_inv {k:Nat}{t key L M:Bs}{o:POp}(h:pRest k t key L=some (o,M)):L=tailForm o ++ M/\o.kind=k/\o.table=t/\o.key=key:=by
 unfold pRest at h
 split at h
 ·rename_i hk
  cases hv:pBytes 256 L with
  | none=>rw [hv] at h;cases h
  | some v =>
   rw [hv] at h
   simp at h
   obtain ⟨rfl,rfl⟩:=h
   obtain ⟨e,_⟩:=pBytes_inv hv
   refine ⟨?_,rfl,rfl,rfl⟩
   rw [e,tailForm,if_pos (by simp;omega)]
 ·rename_i h2
  split at h
  ·rename_i hk
   cases hf:pFlag L with
   | none=>rw [hf] at h;cases h
   | some f =>
    rw [hf] at h
    simp only [Option.bind_some] at h
    cases ho:pBytes 256 f.2 with
    | none=>rw [ho] at h;cases h
    | some x =>
     rw [ho] at h
     simp only [Option.bind_some] at h
     cases hv:pBytes 256 x.2 with
     | none=>rw [hv] at h;cases h
     | some v =>
      rw [hv] at h
      simp at h
      obtain ⟨rfl,rfl⟩:=h
      refine ⟨?_,rfl,rfl,rfl⟩
      rw [pFlag_inv (is:=f.1) (M:=f.2) hf,(pBytes_inv (b:=x.1) (M:=x.2) ho).1,(pBytes_inv (b:=v.1) (M:=v.2) hv).1,tailForm,if_neg (by simp;omega),if_pos (by simp;omega)]
      simp
  ·rename_i h4
   split at h
   ·rename_i hk
    cases hv:pBytes 64 L with
    | none=>rw [hv] at h;cases h
    | some x =>
     rw [hv] at h
     simp only [Option.bind_some] at h
     cases hm:pNum 64 x.2 with
     | none=>rw [hm] at h;cases h
     | some m =>
      rw [hm] at h
      simp at h
      obtain ⟨rfl,rfl⟩:=h
      refine ⟨?_,rfl,rfl,rfl⟩
      rw [(pBytes_inv (b:=x.1) (M:=x.2) hv).1,(pNum_inv (n:=m.1) (M:=m.2) hm).1,tailForm,if_neg (by simp;omega),if_neg (by simp;omega),if_pos (by simp;omega)]
      simp
   ·rename_i h5
    simp at h
    obtain ⟨rfl,rfl⟩:=h
    refine ⟨?_,rfl,rfl,rfl⟩
    rw [tailForm,if_neg (by simp;omega),if_neg (by simp;omega),if_neg (by simp;omega)]
    rfl
theorem pOp_form {o:POp}(h:mayOp o=true)(M:Bs):pOp (opForm o ++ M)=some (o,M):=by
 have hm:=may_of h
 have hk:=hm.kind
 unfold pOp opForm frontForm
 rw [List.append_assoc,List.append_assoc,pNum_form (by omega) (by decide)]
 simp only [Option.bind_some]
 rw [List.append_assoc,pBytes_form (tab_len hm.tab) (by decide)]
 simp only [Option.bind_some]
 rw [pBytes_form hm.key (by decide)]
 simp only [Option.bind_some]
 rw [pRest_form hm]
 simp [h]
theorem pOp_inv {o:POp}{L M:Bs}(h:pOp L=some (o,M)):mayOp o=true/\L=opForm o ++ M:=by
 unfold pOp at h
 cases hk:pNum 5 L with
 | none=>rw [hk] at h;cases h
 | some k =>
  rw [hk] at h
  simp only [Option.bind_some] at h
  cases ht:pBytes 16 k.2 with
  | none=>rw [ht] at h;cases h
  | some t =>
   rw [ht] at h
   simp only [Option.bind_some] at h
   cases hy:pBytes 64 t.2 with
   | none=>rw [hy] at h;cases h
   | some y =>
    rw [hy] at h
    simp only [Option.bind_some] at h
    cases hr:pRest k.1 t.1 y.1 y.2 with
    | none=>rw [hr] at h;cases h
    | some x =>
     rw [hr] at h
     simp only [Option.bind_some] at h
     split at h
     ·rename_i hx
      simp at h
      subst h
      refine ⟨hx,?_⟩
      obtain ⟨e,e1,e2,e3⟩:=pRest_inv hr
      rw [(pNum_inv (n:=k.1) (M:=k.2) hk).1,(pBytes_inv (b:=t.1) (M:=t.2) ht).1,(pBytes_inv (b:=y.1) (M:=y.2) hy).1,e]
      unfold opForm frontForm
      rw [e1,e2,e3]
      simp
     ·cases h
section
variable {α:Type}
def pMany (p:Bs->Option (α × Bs)):Nat->Bs->Option (List α × Bs)
 | 0,L=>some ([],L)
 | n+1,L=>(p L).bind fun x=>(pMany p n x.2).bind fun xs=>some (x.1 :: xs.1,xs.2)
def pList (p:Bs->Option (α × Bs))(most:Nat)(L:Bs):Option (List α × Bs):=(pNum most L).bind fun n=>pMany p n.1 n.2
def listForm (f:α->Bs)(l:List α):Bs:=Wire.numForm l.length ++ l.flatMap f
variable {p:Bs->Option (α × Bs)} {f:α->Bs} {ok:α->Bool}
theorem pMany_form (hp:∀x M,ok x=true->p (f x ++ M)=some (x,M)):∀(l:List α) (M:Bs),l.all ok=true->pMany p l.length (l.flatMap f ++ M)=some (l,M)
 | [],M,_=>rfl
 | x :: l,M,h=>by
  simp only [List.all_cons,Bool.and_eq_true] at h
  simp only [List.length_cons,List.flatMap_cons,pMany,List.append_assoc]
  rw [hp x _ h.1]
  simp only [Option.bind_some]
  rw [pMany_form hp l M h.2]
  rfl
theorem pMany_inv (hp:∀x L M,p L=some (x,M)->ok x=true/\L=f x ++ M):∀(n:Nat) (L:Bs) (l:List α) (M:Bs),pMany p n L=some (l,M)->l.length=n/\l.all ok=true/\L=l.flatMap f ++ M
 | 0,L,l,M,h=>by simp [pMany] at h;obtain ⟨rfl,rfl⟩:=h;simp
 | n+1,L,l,M,h=>by
  simp only [pMany] at h
  cases hx:p L with
  | none=>rw [hx] at h;cases h
  | some x =>
   rw [hx] at h
   simp only [Option.bind_some] at h
   cases hy:pMany p n x.2 with
   | none=>rw [hy] at h;cases h
   | some y =>
    rw [hy] at h
    simp at h
    obtain ⟨rfl,rfl⟩:=h
    obtain ⟨h1,h2⟩:=hp x.1 L x.2 hx
    obtain ⟨i1,i2,i3⟩:=pMany_inv hp n x.2 y.1 y.2 hy
    refine ⟨by simp [i1],?_,?_⟩
    ·rw [List.all_cons,h1,i2];rfl
    ·rw [h2,i3];simp
theorem pList_form (hp:∀x M,ok x=true->p (f x ++ M)=some (x,M)){l:List α}{most:Nat}(M:Bs)(h:l.all ok=true)(hl:l.length<=most)(h64:most<2 ^ 64):pList p most (listForm f l ++ M)=some (l,M):=by
 unfold pList listForm
 rw [List.append_assoc,pNum_form hl h64]
 exact pMany_form hp l M h
theorem pList_inv (hp:∀x L M,p L=some (x,M)->ok x=true/\L=f x ++ M){L M:Bs}{l:List α}{most:Nat}(h:pList p most L=some (l,M)):l.length<=most/\l.all ok=true/\L=listForm f l ++ M:=by
 unfold pList at h
 cases hn:pNum most L with
 | none=>rw [hn] at h;cases h
 | some n =>
  rw [hn] at h
  simp only [Option.bind_some] at h
  obtain ⟨e,hle⟩:=pNum_inv (n:=n.1) (M:=n.2) hn
  obtain ⟨h1,h2,h3⟩:=pMany_inv hp n.1 n.2 l M h
  refine ⟨by omega,h2,?_⟩
  rw [e,h3,listForm,h1];simp
end
def pCall (L:Bs):Option (List POp):=(pList pOp 16 L).bind fun l=>if l.1.length=0 then none else if l.2.length=0 then some l.1 else none
theorem pCall_iff {b:Bs}{l:List POp}:pCall b=some l<->mayCall l=true/\b=callForm l:=by
 constructor
 ·intro h
  unfold pCall at h
  cases hx:pList pOp 16 b with
  | none=>rw [hx] at h;cases h
  | some x =>
   rw [hx] at h
   simp only [Option.bind_some] at h
   obtain ⟨h1,h2,h3⟩:=pList_inv (f:=opForm) (ok:=mayOp) (fun _ _ _=>pOp_inv) (l:=x.1) (M:=x.2) hx
   split at h
   ·cases h
   ·split at h
    ·rename_i hz hm
     simp at h hm
     subst h
     refine ⟨?_,?_⟩
     ·unfold mayCall
      simp only [Bool.and_eq_true,decide_eq_true_eq]
      exact ⟨⟨by omega,h1⟩,h2⟩
     ·rw [h3,hm,List.append_nil];rfl
    ·cases h
 ·rintro ⟨h,rfl⟩
  unfold mayCall at h
  simp only [Bool.and_eq_true,decide_eq_true_eq] at h
  have:=pList_form (p:=pOp) (f:=opForm) (ok:=mayOp) (fun x M hx=>pOp_form hx M) (l:=l) (most:=16) [] h.2 h.1.2 (by decide)
  rw [List.append_nil] at this
  unfold pCall
  rw [show callForm l=listForm opForm l from rfl,this]
  simp only [Option.bind_some]
  rw [if_neg (by omega)]
  rfl
def readC (b:Bs):List POp × Int:=if b.length<=4096 then (match pCall b with | some l=>(l,0) | none=>([],4)) else ([],3)
end Go.Proofs.YtanoabliahcbeaaGreat.Calls
namespace Go.Proofs.YtanoabliahcbeaaGreat.Calls
open Go.RowKit Disk
open Names (Str)
theorem cell_lt {w:World}{b off:Nat}{v:Value}(h:w.cell? ⟨b,off,none⟩=some v):b<w.heap.size:=by
 refine Nat.lt_of_not_le fun hle=>?_
 unfold World.cell? at h
 simp only at h
 rw [Array.getElem?_eq_none hle] at h
 simp at h
def opV (k v ol t:Value)(o:POp):Value:=.agg #[.int .i64 o.kind,Str o.table,k,v,.bool o.has,ol,t,.int .i64 o.most]
structure OpIn (o:POp):Prop where
 k0:-9223372036854775808<=o.kind
 k1:o.kind<=9223372036854775807
 m0:-9223372036854775808<=o.most
 m1:o.most<=9223372036854775807
 tl:o.table.length<=9223372036854775807
structure OpSeg (w:World)(k v ol t:Value)(o:POp):Prop where
 key:Seg w k o.key
 value:Seg w v o.value
 old:Seg w ol o.old
 to:Seg w t o.to
 fits:OpIn o
theorem OpSeg.grown {w w':World}{k v ol t:Value}{o:POp}(h:OpSeg w k v ol t o)(hg:w.grownBy w' none):OpSeg w' k v ol t o:=⟨h.key.grown hg,h.value.grown hg,h.old.grown hg,h.to.grown hg,h.fits⟩
theorem beq_dec (A B:List UInt8):(A==B)=decide (A=B):=by by_cases h:A=B <;> simp [h]
theorem equal114 (a b:Value)(A B:List UInt8)(w:World)(ha:Seg w a A)(hb:Seg w b B) :
  Calls Tryz.prog 183 #[a,b] w fun e w'=>e=.returned (.bool (decide (A=B)))/\w'=w:=by
 have h1:=seg_str ha
 have h2:=seg_str hb
 go_enter Tryz.func183,Tryz.ntmps183
 go_wp2
 go_ret
 refine ⟨?_,rfl⟩
 show Ending.returned (Value.bool (A==B))=_
 rw [beq_dec]
theorem POp.ext' {a b:POp}:a=b<->a.kind=b.kind/\a.table=b.table/\a.has=b.has/\a.most=b.most/\a.key=b.key/\a.value=b.value/\a.old=b.old/\a.to=b.to:=by
 constructor
 ·rintro rfl;simp
 ·rintro ⟨h1,h2,h3,h4,h5,h6,h7,h8⟩
  cases a;cases b;simp_all
theorem same72 (k v ol t k' v' ol' t':Value)(a b:POp)(w:World)(ha:OpSeg w k v ol t a)(hb:OpSeg w k' v' ol' t' b) :
  Calls Tryz.prog 169 #[opV k v ol t a,opV k' v' ol' t' b] w fun e w'=>e=.returned (.bool (decide (a=b)))/\w.grownBy w' none:=by
 unfold opV Str
 obtain ⟨h1,h2,h3,h4,_⟩:=ha
 obtain ⟨i1,i2,i3,i4,_⟩:=hb
 go_enter Tryz.func169,Tryz.ntmps169
 go_wp2_with (go_at_call 183;refine (equal114 _ _ _ _ _ (seg_alloc (seg_alloc (by assumption) _) _) (seg_alloc (seg_alloc (by assumption) _) _)).mono ?_;rintro e w1 ⟨rfl,rfl⟩)
 all_goals go_ret
 all_goals refine ⟨?_,grown_trans (World.grownBy_alloc _ _ none) (World.grownBy_alloc _ _ none)⟩
 all_goals (refine congrArg (fun x=>Ending.returned (Value.bool x)) ?_;simp [POp.ext', *])
structure OpAt (w:World)(b p:Nat)(o:POp)(k v ol t:Value):Prop where
 c0:w.cell? ⟨b,p,none⟩=some (.int .i64 o.kind)
 c1:w.cell? ⟨b,p+1,none⟩=some (Str o.table)
 c2:w.cell? ⟨b,p+2,none⟩=some k
 c3:w.cell? ⟨b,p+3,none⟩=some v
 c4:w.cell? ⟨b,p+4,none⟩=some (.bool o.has)
 c5:w.cell? ⟨b,p+5,none⟩=some ol
 c6:w.cell? ⟨b,p+6,none⟩=some t
 c7:w.cell? ⟨b,p+7,none⟩=some (.int .i64 o.most)
theorem OpAt.grown {w w':World}{b p:Nat}{o:POp}{k v ol t:Value}(h:OpAt w b p o k v ol t)(hg:w.grownBy w' none):OpAt w' b p o k v ol t :=
 ⟨hg.cell h.c0 (by simp),hg.cell h.c1 (by simp),hg.cell h.c2 (by simp),hg.cell h.c3 (by simp),hg.cell h.c4 (by simp),hg.cell h.c5 (by simp),hg.cell h.c6 (by simp),hg.cell h.c7 (by simp)⟩
def Ops (w:World)(v:Value)(l:List POp):Prop :=
 ∃ao cap,v=.slice ao l.length cap/\l.length<=1099511627776/\∀j (hj:j<l.length),∃b off k x ol t,ao=some ⟨b,off,none⟩/\OpAt w b (off+j*8) l[j] k x ol t/\OpSeg w k x ol t l[j]
theorem Ops.shape {w:World}{v:Value}{l:List POp}(h:Ops w v l):∃ao cap,v=.slice ao l.length cap:=by obtain ⟨ao,cap,h,_⟩:=h;exact ⟨ao,cap,h⟩
theorem Ops.len {w:World}{v:Value}{l:List POp}(h:Ops w v l):l.length<=1099511627776:=by obtain ⟨ao,cap,_,h,_⟩:=h;exact h
theorem Ops.grown {w w':World}{v:Value}{l:List POp}(h:Ops w v l)(hg:w.grownBy w' none):Ops w' v l:=by
 obtain ⟨ao,cap,hv,hl,h4⟩:=h
 refine ⟨ao,cap,hv,hl,fun j hj=>?_⟩
 obtain ⟨b,off,k,x,ol,t,e,h1,h2⟩:=h4 j hj
 exact ⟨b,off,k,x,ol,t,e,h1.grown hg,h2.grown hg⟩
theorem ops_open {w:World}{v:Value}{l:List POp}(h:Ops w v l):∃ao n cap,v=.slice ao n cap/\l.length=n/\n<=1099511627776/\Hid (Ops w (.slice ao n cap) l):=by
 obtain ⟨ao,cap,rfl⟩:=h.shape
 exact ⟨ao,_,cap,rfl,rfl,h.len,h⟩
theorem ops_at {w:World}{ao:Option Addr}{n cap:Nat}{l:List POp}(h:Ops w (.slice ao n cap) l)(j:Nat)(hj:j<l.length):∃b off k x ol t,ao=some ⟨b,off,none⟩/\OpAt w b (off+j*8) l[j] k x ol t/\OpSeg w k x ol t l[j]:=by
 obtain ⟨ao',cap',hv,_,h4⟩:=h
 simp at hv
 obtain ⟨rfl,_,_⟩:=hv
 exact h4 j hj
theorem OpSeg.shapes {w:World}{k v ol t:Value}{o:POp}(h:OpSeg w k v ol t o):∃a b c d a' b' c' d',k=.slice a o.key.length a'/\v=.slice b o.value.length b'/\ol=.slice c o.old.length c'/\t=.slice d o.to.length d':=by
 obtain ⟨a,a',h1⟩:=h.key.shape
 obtain ⟨b,b',h2⟩:=h.value.shape
 obtain ⟨c,c',h3⟩:=h.old.shape
 obtain ⟨d,d',h4⟩:=h.to.shape
 exact ⟨a,b,c,d,a',b',c',d',h1,h2,h3,h4⟩
theorem drop_eq {α:Type}{A B:List α}{k:Nat}(ha:k<A.length)(hb:k<B.length):(A.drop k=B.drop k)<->(A[k]=B[k]/\A.drop (k+1)=B.drop (k+1)):=by
 conv=>lhs;rw [List.drop_eq_getElem_cons ha,List.drop_eq_getElem_cons hb]
 exact List.cons_eq_cons
theorem equal71 (a b:Value)(A B:List POp)(w:World)(ha:Ops w a A)(hb:Ops w b B) :
  Calls Tryz.prog 199 #[a,b,.func (.func 169) #[] #[]] w fun e w'=>e=.returned (.bool (decide (A=B)))/\w.grownBy w' none:=by
 obtain ⟨ao,n,ca,rfl,hna,la,HA⟩:=ops_open ha
 obtain ⟨bo,m,cb,rfl,hnb,lb,HB⟩:=ops_open hb
 have HN:Hid (A.length=n/\B.length=m):=And.intro hna hnb
 clear ha hb hna hnb
 by_cases hnm:n=m
 ·subst hnm
  go_enter Tryz.func199,Tryz.ntmps199
  go_wp2_with fail
  go_loopw [17] (fun i wr=>∃k:Nat,k<=n/\i=.int .i64 k/\w.grownBy wr none/\Hid ((A.drop k=B.drop k)<->A=B)) (fun i _=>n-(intOf i).toNat)
  case atStart=>exact ⟨0,by omega,rfl,grown_refl _ _,by simp [Hid]⟩
  case round =>
   obtain ⟨k,hk,rfl,hg,hinv⟩:=hrel
   by_cases hlt:k<n
   ·have hka:k<A.length:=by rw [HN.out.1];omega
    have hkb:k<B.length:=by rw [HN.out.2];omega
    obtain ⟨b1,o1,k1,x1,ol1,t1,rfl,h1,s1⟩:=ops_at (HA.out.grown hg) k hka
    obtain ⟨b2,o2,k2,x2,ol2,t2,rfl,h2,s2⟩:=ops_at (HB.out.grown hg) k hkb
    have HE:Hid _:=(drop_eq hka hkb)
    obtain ⟨oa,hoa⟩:∃o,o=A[k]:=⟨_,rfl⟩
    obtain ⟨ob,hob⟩:∃o,o=B[k]:=⟨_,rfl⟩
    rw [<-hoa] at h1 s1
    rw [<-hob] at h2 s2
    have HO:Hid (oa=A[k]/\ob=B[k]):=And.intro hoa hob
    clear hoa hob
    obtain ⟨_,_,_,_,_,_,_,_,rfl,rfl,rfl,rfl⟩:=s1.shapes
    obtain ⟨_,_,_,_,_,_,_,_,rfl,rfl,rfl,rfl⟩:=s2.shapes
    obtain ⟨a0,a1,a2,a3,a4,a5,a6,a7⟩:=h1
    have b0:=fun o=>(h2.grown (World.grownBy_alloc wr o none)).c0
    have b1':=fun o=>(h2.grown (World.grownBy_alloc wr o none)).c1
    have b2':=fun o=>(h2.grown (World.grownBy_alloc wr o none)).c2
    have b3:=fun o=>(h2.grown (World.grownBy_alloc wr o none)).c3
    have b4:=fun o=>(h2.grown (World.grownBy_alloc wr o none)).c4
    have b5:=fun o=>(h2.grown (World.grownBy_alloc wr o none)).c5
    have b6:=fun o=>(h2.grown (World.grownBy_alloc wr o none)).c6
    have b7:=fun o=>(h2.grown (World.grownBy_alloc wr o none)).c7
    clear h2
    unfold Str at a1 b1'
    have i1:(0:Int)<=(k:Int):=by omega
    have i2:(k:Int)<(n:Int):=by omega
    go_wp2_with (go_at_call 169;refine (same72 _ _ _ _ _ _ _ _ oa ob _ (OpSeg.grown s1 ?g1) (OpSeg.grown s2 ?g1)).mono ?_)
    case g1=>exact grown_trans (World.grownBy_alloc _ _ none) (World.grownBy_alloc _ _ none)
    rintro e w1 ⟨rfl,hg1⟩
    have hg2:w.grownBy w1 none:=grown_trans (grown_trans hg (grown_trans (World.grownBy_alloc _ _ none) (World.grownBy_alloc _ _ none))) hg1
    clear hg1
    by_cases hab:oa=ob
    ·simp only [hab,decide_true]
     go_wp2_with fail
     go_roundw
     case rel=>exact ⟨k+1,by omega,by go_num,hg2,by rw [<-hinv.out,HE.out,<-HO.out.1,<-HO.out.2,hab];simp [Hid]⟩
     case measure=>simp [intOf];omega
    ·simp only [hab,decide_false]
     go_wp2_with fail
     go_ret
     refine ⟨?_,hg2⟩
     have:¬A=B:=by rw [<-hinv.out,HE.out,<-HO.out.1,<-HO.out.2];exact fun h=>hab h.1
     simp [this]
   ·have e:k=n:=by omega
    subst e
    go_wp2_with fail
    go_ret
    refine ⟨?_,hg⟩
    have:A=B:=by rw [<-hinv.out,List.drop_eq_nil_of_le (by rw [HN.out.1];omega),List.drop_eq_nil_of_le (by rw [HN.out.2];omega)]
    simp [this]
 ·have q:((n:Int) != (m:Int))=true:=by simp;omega
  go_enter Tryz.func199,Tryz.ntmps199
  go_wp2_with fail
  go_ret
  have:¬A=B:=fun h=>hnm (by rw [<-HN.out.1,<-HN.out.2,h])
  exact ⟨by simp [this],grown_refl _ _⟩
theorem same34 (a b:Value)(A B:List POp)(w:World)(ha:Ops w a A)(hb:Ops w b B) :
  Calls Tryz.prog 182 #[.agg #[a],.agg #[b]] w fun e w'=>e=.returned (.bool (decide (A=B)))/\w.grownBy w' none:=by
 obtain ⟨ao,n,ca,rfl,hna,la,HA⟩:=ops_open ha
 obtain ⟨bo,m,cb,rfl,hnb,lb,HB⟩:=ops_open hb
 clear hna hnb
 go_enter Tryz.func182,Tryz.ntmps182
 go_wp2_with (go_at_call 199;refine (equal71 _ _ A B _ (ha.grown ?g1) (hb.grown ?g1)).mono ?_)
 case g1=>exact grown_trans (World.grownBy_alloc _ _ none) (World.grownBy_alloc _ _ none)
 rintro e w1 ⟨rfl,hg1⟩
 go_wp2_with fail
 go_ret
 exact ⟨rfl,grown_trans (grown_trans (World.grownBy_alloc _ _ none) (World.grownBy_alloc _ _ none)) hg1⟩
theorem sameop43 (k v ol t k' v' ol' t':Value)(a b:POp)(w:World)(ha:OpSeg w k v ol t a)(hb:OpSeg w k' v' ol' t' b) :
  Calls Tryz.prog 125 #[opV k v ol t a,opV k' v' ol' t' b] w fun e w'=>e=.returned (.bool (decide (a=b)))/\w.grownBy w' none:=by
 unfold opV Str
 obtain ⟨h1,h2,h3,h4,_⟩:=ha
 obtain ⟨i1,i2,i3,i4,_⟩:=hb
 have h1':=fun o1 o2=>seg_str (seg_alloc (seg_alloc h1 o1) o2)
 have h2':=fun o1 o2=>seg_str (seg_alloc (seg_alloc h2 o1) o2)
 have h3':=fun o1 o2=>seg_str (seg_alloc (seg_alloc h3 o1) o2)
 have h4':=fun o1 o2=>seg_str (seg_alloc (seg_alloc h4 o1) o2)
 have i1':=fun o1 o2=>seg_str (seg_alloc (seg_alloc i1 o1) o2)
 have i2':=fun o1 o2=>seg_str (seg_alloc (seg_alloc i2 o1) o2)
 have i3':=fun o1 o2=>seg_str (seg_alloc (seg_alloc i3 o1) o2)
 have i4':=fun o1 o2=>seg_str (seg_alloc (seg_alloc i4 o1) o2)
 go_enter Tryz.func125,Tryz.ntmps125
 go_wp2
 all_goals go_ret
 all_goals refine ⟨?_,grown_trans (World.grownBy_alloc _ _ none) (World.grownBy_alloc _ _ none)⟩
 all_goals (refine congrArg (fun x=>Ending.returned (Value.bool x)) ?_;first | (simp [POp.ext', *];done) | (by_cases hm:a.most=b.most <;> simp [POp.ext', *]))
end Go.Proofs.YtanoabliahcbeaaGreat.Calls
