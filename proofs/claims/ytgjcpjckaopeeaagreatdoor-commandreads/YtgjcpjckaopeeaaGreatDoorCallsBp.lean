import Derived.Test.YtgjcpjckaopeeaaGreatDoorCallsPa
import Derived.Lib.AtoiAllCases
namespace Go.Proofs.YtgjcpjckaopeeaaGreatDoor.Calls
open Names (Str)
theorem oV {c:UInt8}{s x r:List UInt8}(hx:x≠[])(h:c ∉ x):(c :: s).isPrefixOf (x ++ r)=false:=by
 cases x with
 | nil=>exact absurd rfl hx
 | cons a y =>
  have:c≠a:=fun e=>h (by simp [e])
  simp [List.isPrefixOf,this]
theorem ep {c:UInt8}{s x r:List UInt8}(h:c ∉ x):Lib.index (x ++ (c :: s ++ r)) (c :: s)=x.length:=by
 refine Lib.index_first (by simp) ?_ ?_
 ·unfold Lib.occAt
  rw [List.drop_left]
  simp [List.isPrefixOf_iff_prefix]
 ·intro j hj
  unfold Lib.occAt
  rw [List.drop_append_of_le_length (by omega)]
  refine oV ?_ (fun e=>h (List.mem_of_mem_drop e))
  intro e
  have:=congrArg List.length e
  simp at this;omega
theorem ii {c:UInt8}{s x:List UInt8}(h:c ∉ x):Lib.index x (c :: s)=-1:=by
 refine Lib.index_none fun j _=>?_
 unfold Lib.occAt
 by_cases hd:x.drop j=[]
 ·rw [hd];rfl
 ·have:=oV (s:=s) (r:=[]) hd (fun e=>h (List.mem_of_mem_drop e))
  rwa [List.append_nil] at this
theorem bD (x sep:List UInt8):Lib.join [x] sep=x:=by simp [Lib.join,List.intercalate]
theorem be (x y sep:List UInt8)(L:List (List UInt8)):Lib.join (x :: y :: L) sep=x ++ (sep ++ Lib.join (y :: L) sep):=by simp [Lib.join,List.intercalate]
theorem ij {c:UInt8}{s:List UInt8}:∀(L:List (List UInt8)) (fuel:Nat),L≠[]->L.length<=fuel->(∀x ∈ L,c ∉ x)->Lib.countFrom (c :: s) fuel (Lib.join L (c :: s))=L.length-1
 | [],_,h,_,_=>absurd rfl h
 | [x],fuel,_,hf,hx=>by
  obtain ⟨f,rfl⟩:∃f,fuel=f+1:=⟨fuel-1,by simp at hf;omega⟩
  rw [bD]
  unfold Lib.countFrom
  rw [ii (hx x (by simp))];rfl
 | x :: y :: L,fuel,_,hf,hx=>by
  obtain ⟨f,rfl⟩:∃f,fuel=f+1:=⟨fuel-1,by simp at hf;omega⟩
  rw [be]
  unfold Lib.countFrom
  rw [ep (hx x (by simp))]
  have e:((x.length:Int)==-1)=false:=by rw [beq_eq_false_iff_ne];omega
  rw [e]
  have d:(x ++ (c :: s ++ Lib.join (y :: L) (c :: s))).drop ((x.length:Int).toNat+(c :: s).length)=Lib.join (y :: L) (c :: s):=by
   rw [show ((x.length:Int).toNat+(c :: s).length)=(x ++ (c :: s)).length by simp,<-List.append_assoc,List.drop_left]
  rw [d,ij (y :: L) f (by simp) (by simp at hf ⊢;omega) (fun z hz=>hx z (by simp at hz ⊢;exact Or.inr hz))]
  simp;omega
theorem ki {c:UInt8}{s:List UInt8}:∀(L:List (List UInt8)),L≠[]->(∀x ∈ L,c ∉ x)->Lib.splitK (c :: s) 0 (L.length-1) (Lib.join L (c :: s))=L
 | [],h,_=>absurd rfl h
 | [x],_,_=>by rw [bD];rfl
 | x :: y :: L,_,hx=>by
  rw [be,show (x :: y :: L).length-1=((y :: L).length-1)+1 by simp]
  unfold Lib.splitK
  rw [ep (hx x (by simp))]
  have e:((x.length:Int)==-1)=false:=by rw [beq_eq_false_iff_ne];omega
  rw [e]
  have d:(x ++ (c :: s ++ Lib.join (y :: L) (c :: s))).drop ((x.length:Int).toNat+(c :: s).length)=Lib.join (y :: L) (c :: s):=by
   rw [show ((x.length:Int).toNat+(c :: s).length)=(x ++ (c :: s)).length by simp,<-List.append_assoc,List.drop_left]
  rw [d,ki (y :: L) (by simp) (fun z hz=>hx z (by simp at hz ⊢;exact Or.inr hz))]
  simp
theorem jf {c:UInt8}{s:List UInt8}:∀(L:List (List UInt8)),L.length<=(Lib.join L (c :: s)).length+1
 | []=>by simp
 | [x]=>by simp
 | x :: y :: L=>by
  have:=jf (c:=c) (s:=s) (y :: L)
  rw [be]
  simp at this ⊢;omega
theorem ik {c:UInt8}{s:List UInt8}{L:List (List UInt8)}(h:L≠[])(hx:∀x ∈ L,c ∉ x):Lib.split (Lib.join L (c :: s)) (c :: s)=L:=by
 unfold Lib.split Lib.count
 rw [ij L _ h (jf L) hx,ki L h hx]
theorem jM {n:Nat}(h:n<10):Lib.decDigits n=[UInt8.ofNat (48+n)]:=by rw [Lib.decDigits,dif_pos h]
theorem mQ {n:Nat}(h:10<=n)(h':n<100):Lib.decDigits n=[UInt8.ofNat (48+n / 10),UInt8.ofNat (48+n % 10)]:=by
 rw [Lib.decDigits,dif_neg (by omega),jM (by omega)];rfl
theorem bI {k:Nat}(h:k<10):(UInt8.ofNat (48+k)).toNat=48+k:=by
 rw [UInt8.toNat_ofNat'];omega
theorem gd {n:Nat}(h:n<100):Lib.atoiAll (Lib.decDigits n)=.ok (n:Int):=by
 by_cases h1:n<10
 ·rw [jM h1,Lib.atoiAll_plain _ _ (by rw [bI h1];omega) (by rw [bI h1];omega)]
  simp only [Lib.parseMag,Lib.parseUint10,bI h1]
  rw [if_neg (by simp),if_pos (by omega),if_neg (by omega),if_neg (by omega)]
  simp only [Lib.signless]
  rw [if_neg (by omega)]
  simp
 ·have ha:n / 10<10:=by omega
  have hb:n % 10<10:=by omega
  rw [mQ (by omega) h,Lib.atoiAll_plain _ _ (by rw [bI ha];omega) (by rw [bI ha];omega)]
  simp only [Lib.parseMag,Lib.parseUint10,bI ha,bI hb]
  rw [if_neg (by simp),if_pos (by omega),if_neg (by omega),if_neg (by omega),if_pos (by omega),if_neg (by omega),if_neg (by omega)]
  simp only [Lib.signless]
  rw [if_neg (by omega)]
  simp;omega
theorem oW (n:Nat):Lib.itoa (n:Int)=Lib.decDigits n:=by unfold Lib.itoa;rw [if_neg (by omega)];rfl
theorem oX {n:Nat}(h:n<100):(Lib.decDigits n).length<=2/\∀x ∈ Lib.decDigits n,48<=x.toNat/\x.toNat<=57:=by
 by_cases h1:n<10
 ·rw [jM h1]
  refine ⟨by simp,fun x hx=>?_⟩
  rw [List.mem_singleton] at hx;subst hx;rw [bI h1];omega
 ·rw [mQ (by omega) h]
  refine ⟨by simp,fun x hx=>?_⟩
  rw [List.mem_cons,List.mem_singleton] at hx
  rcases hx with rfl | rfl
  ·rw [bI (show n / 10<10 by omega)];omega
  ·rw [bI (show n % 10<10 by omega)];omega
theorem oY {c:UInt8}(h:Names.alnum c=true):48<=c.toNat/\c.toNat<=122/\c.toNat≠59:=by
 simp [Names.alnum] at h
 omega
def Fine (x:Bs):Prop:=∀c ∈ x,c.toNat≠32/\c.toNat≠59
theorem oZ {x:Bs}(h:Names.tabB x=true):Fine x:=by
 simp only [Names.tabB,Bool.and_eq_true,List.all_eq_true] at h
 intro c hc
 have:=oY (h.2 c hc)
 omega
theorem o8 (c:UInt8):Fine (Names.esc c):=by
 unfold Names.esc
 split
 ·rename_i h
  simp [Names.bv] at h
  intro x hx
  simp at hx;subst hx
  omega
 ·have h1:=Names.fE (n:=c.toNat / 16) (by have:=c.toNat_lt;omega)
  have h2:=Names.fE (n:=c.toNat % 16) (by omega)
  intro x hx
  simp at hx
  rcases hx with rfl | rfl | rfl
  ·decide
  ·rw [h1];split <;> omega
  ·rw [h2];split <;> omega
theorem eY (b:Bs):Fine (Names.txt b):=by
 unfold Names.txt
 split
 ·intro c hc;simp at hc;subst hc;decide
 ·intro c hc
  unfold Names.body at hc
  obtain ⟨a,_,ha⟩:=List.mem_flatMap.1 hc
  exact o8 a c ha
theorem nC {k:Int}(h:1<=k/\k<=5):Fine (aS k):=by
 have:k=1\/k=2\/k=3\/k=4\/k=5:=by omega
 rcases this with rfl | rfl | rfl | rfl | rfl <;> (unfold Fine;decide)
theorem o_ (o:POp):Fine (oldW o):=by
 unfold oldW
 split
 ·intro c hc
  simp at hc
  rcases hc with rfl | hc
  ·decide
  ·exact eY _ c hc
 ·intro c hc;simp at hc;subst hc;decide
theorem pa {n:Nat}(h:n<100):Fine (Lib.decDigits n):=fun c hc=>by have:=(oX h).2 c hc;omega
theorem nD {o:POp}(h:May o):∀x ∈ aA o,Fine x:=by
 intro x hx
 unfold aA at hx
 split at hx
 ·simp at hx;subst hx;exact eY _
 ·split at hx
  ·simp at hx
   rcases hx with rfl | rfl
   ·exact o_ _
   ·exact eY _
  ·split at hx
   ·rename_i h5
    have:=h.most h5
    simp at hx
    rcases hx with rfl | rfl
    ·exact eY _
    ·exact pa (by omega)
   ·simp at hx
theorem il {o:POp}(h:May o):∀x ∈ aV o,Fine x:=by
 intro x hx
 unfold aV at hx
 simp at hx
 rcases hx with rfl | rfl | rfl | hx
 ·exact nC h.kind
 ·exact oZ h.tab
 ·exact eY _
 ·exact nD h x hx
theorem no32 {x:Bs}(h:Fine x):(32:UInt8) ∉ x:=fun e=>(h _ e).1 rfl
theorem no59 {x:Bs}(h:Fine x):(59:UInt8) ∉ x:=fun e=>(h _ e).2 rfl
theorem gN {o:POp}(h:May o):Lib.split (av o) [32]=aV o:=ik (by simp [aV]) fun x hx=>no32 (il h x hx)
theorem kj:∀{L:List Bs} {sep:Bs} {c:UInt8},c ∈ Lib.join L sep->(∃x ∈ L,c ∈ x)\/c ∈ sep
 | [],sep,c,h=>by simp [Lib.join,List.intercalate] at h
 | [x],sep,c,h=>by rw [bD] at h;exact Or.inl ⟨x,by simp,h⟩
 | x :: y :: L,sep,c,h=>by
  rw [be] at h
  simp only [List.mem_append] at h
  rcases h with h | h | h
  ·exact Or.inl ⟨x,by simp,h⟩
  ·exact Or.inr h
  ·rcases kj h with ⟨z,hz,hc⟩ | h
   ·exact Or.inl ⟨z,by simp at hz ⊢;exact Or.inr hz,hc⟩
   ·exact Or.inr h
theorem im {o:POp}(h:May o):(59:UInt8) ∉ av o:=by
 intro e
 rcases kj e with ⟨x,hx,hc⟩ | e
 ·exact no59 (il h x hx) hc
 ·simp at e
theorem lC {l:List POp}(h0:l≠[])(h:∀o ∈ l,May o):Lib.split (aw l) [59,32]=l.map av :=
 ik (by simpa using h0) fun x hx=>by
  obtain ⟨o,ho,rfl⟩:=List.mem_map.1 hx
  exact im (h o ho)
theorem eG (b:Bs)(r:List Bs):bP (Names.txt b :: r)=some (b,r):=by
 unfold bP cn
 simp [Names.dq b]
theorem pb {o:POp}(h:May o)(r:List Bs):wOld (oldW o :: r)=some ((o.has,o.old),r):=by
 unfold wOld cn oldW
 cases hh:o.has
 ·simp [h.has hh]
 ·simp [Names.dq o.old]
theorem pd {n:Nat}(h:n<100)(r:List Bs):wNum (Lib.decDigits n :: r)=some ((n:Int),r):=by
 unfold wNum cn
 simp only [Option.bind_some]
 rw [gd h]
 simp [oW]
theorem kl {k:Int}(h:1<=k/\k<=5)(r:List Bs):bO (aS k :: r)=some (k.toNat,r):=by
 have:k=1\/k=2\/k=3\/k=4\/k=5:=by omega
 rcases this with rfl | rfl | rfl | rfl | rfl <;> rfl
theorem lD {o:POp}(h:May o):dF o.kind.toNat o.table o.key (aA o)=some (o,[]):=by
 have hk:=h.kind
 have ek:((o.kind.toNat:Nat):Int)=o.kind:=by omega
 unfold dF aA
 by_cases h2:o.kind=2
 ·rw [if_pos (by omega),if_pos h2,eG]
  simp only [Option.bind_some,Option.some.injEq,Prod.mk.injEq,and_true]
  rw [ek]
  have:=h.named
  rw [named,if_neg (by omega),if_pos h2] at this
  exact this.symm
 ·rw [if_neg (by omega),if_neg h2]
  by_cases h4:o.kind=4
  ·rw [if_pos (by omega),if_pos h4,pb h]
   simp only [Option.bind_some]
   rw [eG]
   simp only [Option.bind_some,Option.some.injEq,Prod.mk.injEq,and_true]
   rw [ek]
   have:=h.named
   rw [named,if_neg (by omega),if_neg h2,if_pos h4] at this
   exact this.symm
  ·rw [if_neg (by omega),if_neg h4]
   by_cases h5:o.kind=5
   ·have hm:=h.most h5
    rw [if_pos (by omega),if_pos h5,eG]
    simp only [Option.bind_some]
    rw [pd (by omega)]
    simp only [Option.bind_some,Option.some.injEq,Prod.mk.injEq,and_true]
    rw [ek,show ((o.most.toNat:Nat):Int)=o.most by omega]
    have:=h.named
    rw [named,if_neg (by omega),if_neg h2,if_neg h4,if_pos h5] at this
    exact this.symm
   ·rw [if_neg (by omega),if_neg h5]
    simp only [Option.some.injEq,Prod.mk.injEq,and_true]
    rw [ek]
    have:=h.named
    rw [named,if_pos (by omega)] at this
    exact this.symm
theorem pf {o:POp}(h:May o):wOpT (av o)=some o:=by
 unfold wOpT
 rw [gN h]
 show wOp (aS o.kind :: o.table :: Names.txt o.key :: aA o)=some o
 rw [iu (L1:=o.table :: Names.txt o.key :: aA o) (L2:=Names.txt o.key :: aA o) (L3:=aA o) (kl h.kind _) rfl (eG _ _) (lD h)]
 rfl
theorem km:∀{l:List POp},(∀o ∈ l,May o)->wOps (l.map av)=some l
 | [],_=>rfl
 | o :: l,h=>by
  rw [List.map_cons,wOps,pf (h o (by simp)),Option.bind_some,km (fun x hx=>h x (by simp [hx]))]
  rfl
theorem dY {l:List POp}(h:az l=true):l≠[]/\l.length<=16/\∀o ∈ l,May o:=by
 unfold az at h
 simp only [Bool.and_eq_true,decide_eq_true_eq,List.all_eq_true] at h
 refine ⟨fun e=>?_,h.1.2,fun o ho=>aX (h.2 o ho)⟩
 rw [e] at h
 simp at h
theorem jg {l:List POp}(h:chk l=0):cF (aw l)=some l:=by
 obtain ⟨h0,_,ha⟩:=dY (db h)
 unfold cF
 rw [lC h0 ha,km ha]
 simp [h]
theorem ko (sep:Bs):∀(L:List Bs) (n:Nat),(L.map fun x=>x.length+sep.length).sum<=n->(Lib.join L sep).length<=n
 | [],n,_=>by simp [Lib.join,List.intercalate]
 | [x],n,h=>by rw [bD];simp at h;omega
 | x :: y :: L,n,h=>by
  rw [List.map_cons,List.sum_cons] at h
  rw [be,List.length_append,List.length_append]
  have:=ko sep (y :: L) (n-(x.length+sep.length)) (by omega)
  omega
theorem cJ (b:Bs):b.length+1<=(ae b).length:=by
 have:=Wire.dK b.length
 unfold ae
 simp;omega
theorem rE {L:Bs}(h:Names.tabB L=true):1<=L.length:=by
 simp [Names.tabB] at h;exact h.1.1
theorem kr {o:POp}(h:May o):(av o).length+2<=3*(ar o).length:=by
 have hk:=h.kind
 have ht:=rE h.tab
 have f1:=Wire.dK o.kind.toNat
 have f2:=cJ o.table
 have f3:=cJ o.key
 have f4:=cJ o.value
 have f5:=cJ o.old
 have f6:=cJ o.to
 have f7:=Wire.dK o.most.toNat
 have f8:1<=(aE o.has).length:=by unfold aE;split <;> simp
 have t3:=Names.aC o.key
 have t4:=Names.aC o.value
 have t5:=Names.aC o.old
 have t6:=Names.aC o.to
 have e:(ar o).length=(Wire.ah o.kind.toNat).length+(ae o.table).length+(ae o.key).length+(aQ o).length:=by
  unfold ar bz;simp;omega
 have e2:(av o).length<=(aS o.kind).length+o.table.length+(Names.txt o.key).length+2+((aA o).map fun x=>x.length+1).sum:=by
  unfold av aV
  generalize aA o=T
  have hs:∀(T:List Bs) (x:Bs),(Lib.join (x :: T) [32]).length<=x.length+(T.map fun x=>x.length+1).sum:=by
   intro T
   induction T with
   | nil=>intro x;rw [bD];simp
   | cons y T ih =>
    intro x
    have:=ih y
    rw [be]
    simp at this ⊢;omega
  have:=hs (o.table :: Names.txt o.key :: T) (aS o.kind)
  simp at this ⊢;omega
 have hw:(aS o.kind).length<=if o.kind=3 then 6 else 4:=by
  have:o.kind=1\/o.kind=2\/o.kind=3\/o.kind=4\/o.kind=5:=by omega
  rcases this with h | h | h | h | h <;> simp [h,aS]
 have ho:(oldW o).length<=3*o.old.length+2:=by
  unfold oldW
  split
  ·simp;omega
  ·simp
 unfold aQ at e
 unfold aA at e2
 by_cases h2:o.kind=2
 ·rw [if_pos h2] at e e2
  rw [if_neg (by omega)] at hw
  simp at e2;omega
 ·rw [if_neg h2] at e e2
  by_cases h4:o.kind=4
  ·rw [if_pos h4] at e e2
   rw [if_neg (by omega)] at hw
   simp at e e2;omega
  ·rw [if_neg h4] at e e2
   by_cases h5:o.kind=5
   ·rw [if_pos h5] at e e2
    rw [if_neg (by omega)] at hw
    have hm:=h.most h5
    have hd:=(oX (n:=o.most.toNat) (by omega)).1
    simp at e e2;omega
   ·rw [if_neg h5] at e e2
    simp at e e2
    split at hw <;> omega
theorem jh:∀{l:List POp},(∀o ∈ l,May o)->((l.map av).map fun x=>x.length+2).sum<=3*(l.flatMap ar).length
 | [],_=>by simp
 | o :: l,h=>by
  have h1:=kr (h o (by simp))
  have h2:=jh (l:=l) (fun x hx=>h x (by simp [hx]))
  simp only [List.map_cons,List.sum_cons,List.flatMap_cons,List.length_append]
  omega
theorem fK {l:List POp}(h:chk l=0):(aw l).length<=12288:=by
 obtain ⟨_,_,ha⟩:=dY (db h)
 have h1:=ko [59,32] (l.map av) _ (jh ha)
 have h2:(an l).length<=4096:=by
  unfold chk at h
  split at h
  ·split at h
   ·assumption
   ·omega
  ·omega
 have h3:(l.flatMap ar).length<=(an l).length:=by unfold an;simp
 show (Lib.join (l.map av) [59,32]).length<=12288
 omega
theorem io {l:List POp}(h:chk l=0):aN (aw l)=(l,0):=by
 unfold aN
 rw [if_pos (fK h),jg h]
theorem rF {l:List POp}(h:chk l=0):(an l).length<=4096:=by
 unfold chk at h
 split at h
 ·split at h
  ·assumption
  ·omega
 ·omega
theorem lE {l:List POp}(h:chk l=0):bN (an l)=(l,0):=by
 unfold bN
 rw [if_pos (rF h),(cS).2 ⟨db h,rfl⟩]
theorem nE (sep:Bs):∀(k:Nat) (s:Bs),Lib.splitK sep 0 k s≠[]
 | 0,s=>by simp [Lib.splitK]
 | k+1,s=>by unfold Lib.splitK;split <;> simp
theorem eZ (sep:Bs):∀(k:Nat) (s:Bs),Lib.join (Lib.splitK sep 0 k s) sep=s
 | 0,s=>by rw [Lib.splitK,bD]
 | k+1,s=>by
  unfold Lib.splitK
  split
  ·exact bD _ _
  ·rename_i h
   rcases Lib.index_spec s sep with ⟨e,_⟩ | ⟨i,e,hi,ho,_⟩
   ·rw [e] at h;exact absurd rfl h
   ·rw [e]
    have et:((i:Int).toNat)=i:=by omega
    rw [et,Nat.add_zero]
    obtain ⟨r,hr⟩:=List.isPrefixOf_iff_prefix.1 ho
    have ed:s.drop (i+sep.length)=r:=by rw [<-List.drop_drop,<-hr,List.drop_left]
    have ih:=eZ sep k (s.drop (i+sep.length))
    obtain ⟨y,T,hy⟩:∃y T,Lib.splitK sep 0 k (s.drop (i+sep.length))=y :: T:=by
     cases hc:Lib.splitK sep 0 k (s.drop (i+sep.length)) with
     | nil=>exact absurd hc (nE _ _ _)
     | cons y T=>exact ⟨y,T,rfl⟩
    rw [hy] at ih ⊢
    rw [be,ih,ed,hr,List.take_append_drop]
theorem ip (s sep:Bs):Lib.join (Lib.split s sep) sep=s:=eZ sep _ s
theorem ks {x:Bs}(h:Names.ci x=0):Names.txt (Names.aZ x)=x:=by
 by_cases h37:x=[37]
 ·subst h37
  rw [Names.fG.1];rfl
 ·unfold Names.ci at h
  by_cases hb:x≠[]/\Names.body (Names.ld x)=x
  ·have er:Names.aZ x=Names.ld x:=by unfold Names.aZ;rw [if_pos ⟨h37,hb⟩]
   have en:Names.ld x≠[]:=fun e=>by
    have:=hb.2
    rw [e] at this
    exact hb.1 this.symm
   rw [er]
   unfold Names.txt
   rw [if_neg en,hb.2]
  ·rw [if_pos ⟨h37,hb⟩] at h;cases h
theorem eH {L r:List Bs}{b:Bs}(h:bP L=some (b,r)):L=Names.txt b :: r:=by
 cases L with
 | nil=>simp [bP,cn] at h
 | cons x T =>
  unfold bP cn at h
  simp only [Option.bind_some] at h
  split at h
  ·rename_i h0
   simp at h
   obtain ⟨rfl,rfl⟩:=h
   rw [ks h0]
  ·cases h
theorem pg {L r:List Bs}{y:Bool × Bs}{o:POp}(h:wOld L=some (y,r))(e:y=(o.has,o.old)):L=oldW o :: r:=by
 cases L with
 | nil=>simp [wOld,cn] at h
 | cons x T =>
  unfold wOld cn at h
  simp only [Option.bind_some] at h
  unfold oldW
  split at h
  ·rename_i h0
   simp at h
   obtain ⟨rfl,rfl⟩:=h
   simp at e
   rw [e.1,h0];rfl
  ·split at h
   ·rename_i c q hq
    split at h
    ·rename_i hc
     split at h
     ·rename_i hz
      simp at h
      obtain ⟨rfl,rfl⟩:=h
      simp at e
      rw [e.1,<-e.2,ks hz,hc];rfl
     ·cases h
    ·cases h
   ·cases h
theorem ph {L r:List Bs}{v:Int}(h:wNum L=some (v,r))(h0:0<=v):L=Lib.decDigits v.toNat :: r:=by
 cases L with
 | nil=>simp [wNum,cn] at h
 | cons x T =>
  unfold wNum cn at h
  simp only [Option.bind_some] at h
  split at h
  ·split at h
   ·rename_i u hu hi
    simp at h
    obtain ⟨rfl,rfl⟩:=h
    rw [<-hi]
    unfold Lib.itoa
    rw [if_neg (by omega)]
   ·cases h
  ·cases h
theorem lF {L r:List Bs}{k:Nat}(h:bO L=some (k,r)):L=aS k :: r:=by
 cases L with
 | nil=>simp [bO,cn] at h
 | cons x T =>
  unfold bO cn gP at h
  simp only [Option.bind_some] at h
  split at h
  ·rename_i h1;simp at h;obtain ⟨rfl,rfl⟩:=h;rw [h1];rfl
  ·split at h
   ·rename_i h1;simp at h;obtain ⟨rfl,rfl⟩:=h;rw [h1];rfl
   ·split at h
    ·rename_i h1;simp at h;obtain ⟨rfl,rfl⟩:=h;rw [h1];rfl
    ·split at h
     ·rename_i h1;simp at h;obtain ⟨rfl,rfl⟩:=h;rw [h1];rfl
     ·split at h
      ·rename_i h1;simp at h;obtain ⟨rfl,rfl⟩:=h;rw [h1];rfl
      ·cases h
theorem nF {k:Nat}{t key:Bs}{L r:List Bs}{o:POp}(h:dF k t key L=some (o,r))(hm:May o):L=aA o ++ r/\o.kind=k/\o.table=t/\o.key=key:=by
 unfold dF at h
 split at h
 ·rename_i hk
  cases hv:bP L with
  | none=>rw [hv] at h;cases h
  | some v =>
   rw [hv] at h
   simp at h
   obtain ⟨rfl,rfl⟩:=h
   refine ⟨?_,rfl,rfl,rfl⟩
   rw [eH (b:=v.1) (r:=v.2) hv,aA,if_pos (by simp;omega)];rfl
 ·rename_i h2
  split at h
  ·rename_i hk
   cases hf:wOld L with
   | none=>rw [hf] at h;cases h
   | some f =>
    rw [hf] at h
    simp only [Option.bind_some] at h
    cases hv:bP f.2 with
    | none=>rw [hv] at h;cases h
    | some v =>
     rw [hv] at h
     simp at h
     obtain ⟨ho,rfl⟩:=h
     refine ⟨?_,by rw [<-ho],by rw [<-ho],by rw [<-ho]⟩
     rw [pg (y:=f.1) (r:=f.2) (o:=o) hf (by rw [<-ho]),eH (b:=v.1) (r:=v.2) hv,aA,if_neg (by rw [<-ho];simp;omega),if_pos (by rw [<-ho];simp;omega)]
     rw [<-ho];rfl
  ·rename_i h4
   split at h
   ·rename_i hk
    cases hv:bP L with
    | none=>rw [hv] at h;cases h
    | some x =>
     rw [hv] at h
     simp only [Option.bind_some] at h
     cases hn:wNum x.2 with
     | none=>rw [hn] at h;cases h
     | some m =>
      rw [hn] at h
      simp at h
      obtain ⟨ho,rfl⟩:=h
      have hmost:1<=m.1:=by
       have:=hm.most (by rw [<-ho];simp;omega)
       rw [<-ho] at this
       exact this.1
      refine ⟨?_,by rw [<-ho],by rw [<-ho],by rw [<-ho]⟩
      rw [eH (b:=x.1) (r:=x.2) hv,ph (v:=m.1) (r:=m.2) hn (by omega),aA,if_neg (by rw [<-ho];simp;omega),if_neg (by rw [<-ho];simp;omega),if_pos (by rw [<-ho];simp;omega)]
      rw [<-ho];rfl
   ·rename_i h5
    simp at h
    obtain ⟨rfl,rfl⟩:=h
    refine ⟨?_,rfl,rfl,rfl⟩
    rw [aA,if_neg (by simp;omega),if_neg (by simp;omega),if_neg (by simp;omega)];rfl
theorem rG {L:List Bs}{o:POp}(h:wOp L=some o)(hm:May o):L=aV o:=by
 unfold wOp at h
 cases hk:bO L with
 | none=>rw [hk] at h;cases h
 | some k =>
  rw [hk] at h
  simp only [Option.bind_some] at h
  cases ht:cn k.2 with
  | none=>rw [ht] at h;cases h
  | some t =>
   rw [ht] at h
   simp only [Option.bind_some] at h
   cases hy:bP t.2 with
   | none=>rw [hy] at h;cases h
   | some y =>
    rw [hy] at h
    simp only [Option.bind_some] at h
    cases hr:dF k.1 t.1 y.1 y.2 with
    | none=>rw [hr] at h;cases h
    | some x =>
     rw [hr] at h
     simp only [Option.bind_some] at h
     split at h
     ·rename_i hx
      simp at h hx
      subst h
      obtain ⟨e,e1,e2,e3⟩:=nF (o:=x.1) (r:=x.2) hr hm
      rw [lF (k:=k.1) (r:=k.2) hk]
      have en:k.2=t.1 :: t.2:=by
       cases hc:k.2 with
       | nil=>rw [hc] at ht;cases ht
       | cons a T=>rw [hc] at ht;simp [cn] at ht;rw [<-ht]
      rw [en,eH (b:=y.1) (r:=y.2) hy,e,hx,List.append_nil]
      unfold aV
      rw [e1,e2,e3];rfl
     ·cases h
theorem kt:∀{L:List Bs} {l:List POp},wOps L=some l->(∀o ∈ l,May o)->L=l.map av
 | [],l,h,_=>by simp [wOps] at h;subst h;rfl
 | p :: L,l,h,hm=>by
  unfold wOps at h
  cases ho:wOpT p with
  | none=>rw [ho] at h;cases h
  | some o =>
   rw [ho] at h
   simp only [Option.bind_some] at h
   cases hr:wOps L with
   | none=>rw [hr] at h;cases h
   | some r =>
    rw [hr] at h
    simp at h
    subst h
    rw [List.map_cons,<-kt hr (fun x hx=>hm x (by simp [hx]))]
    have e:=rG ho (hm o (by simp))
    have:p=av o:=by unfold av;rw [<-e,ip]
    rw [this]
theorem dQ {s:Bs}{l:List POp}:cF s=some l<->chk l=0/\s=aw l:=by
 constructor
 ·intro h
  unfold cF at h
  cases hw:wOps (Lib.split s [59,32]) with
  | none=>rw [hw] at h;cases h
  | some m =>
   rw [hw] at h
   simp only [Option.bind_some] at h
   split at h
   ·rename_i hc
    simp at h
    subst h
    refine ⟨hc,?_⟩
    have:=kt hw (dY (db hc)).2.2
    unfold aw
    rw [<-this,ip]
   ·cases h
 ·rintro ⟨h,rfl⟩
  exact jg h
end Go.Proofs.YtgjcpjckaopeeaaGreatDoor.Calls
