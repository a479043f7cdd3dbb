import Derived.Test.YtanoabliahcbeaaGreatKdfAll
import Derived.Test.YtanoabliahcbeaaGreatCallsPe
set_option maxHeartbeats 2000000
set_option maxRecDepth 100000
namespace Go.Proofs.YtanoabliahcbeaaGreat
open Go.RowKit
open _root_.Go.Proofs.YtanoabliahcbeaaGreat.Calls _root_.Go.Proofs.YtanoabliahcbeaaGreat.Command
structure PRep where
 kind:Int
 token:Int
 session:Int
 number:Int
 answer:Bs
deriving DecidableEq
structure PMsg where
 kind:Int
 client:Int
 ask:PCmd
 tell:PRep
deriving DecidableEq
def zeroR:PRep:=⟨0,0,0,0,[]⟩
def zeroM:PMsg:=⟨0,0,zeroC,zeroR⟩
def okR (r:PRep):Bool :=
 if r.kind=1 then decide (1<=r.token/\1<=r.session/\r.number=0/\r.answer=[])
 else if r.kind=2 then decide (1<=r.token/\r.session=0/\r.number=0/\r.answer=[])
 else if r.kind=3 then decide (r.token=0/\1<=r.session/\1<=r.number/\(readR r.answer).2=0)
 else if r.kind=4 then decide (r.token=0/\1<=r.session/\0<=r.number/\r.answer=[])
 else if r.kind=5\/r.kind=6 then decide (r.token=0/\1<=r.session/\1<=r.number/\r.answer=[])
 else if r.kind=7 then decide (r.token=0/\1<=r.session/\r.number=0/\r.answer=[])
 else false
def okM (m:PMsg):Bool :=
 decide (0<=m.client/\m.client<8) &&
  (if m.kind=1 then decide (m.ask.kind≠4) && okC m.ask && decide (m.tell=zeroR)
   else decide (m.kind=2) && okR m.tell && decide (m.ask=zeroC))
def errM (m:PMsg):Int:=if okM m=true then 0 else 2
structure InR (r:PRep):Prop where
 k0:-9223372036854775808<=r.kind
 k1:r.kind<=9223372036854775807
 t0:-9223372036854775808<=r.token
 t1:r.token<=9223372036854775807
 s0:-9223372036854775808<=r.session
 s1:r.session<=9223372036854775807
 n0:-9223372036854775808<=r.number
 n1:r.number<=9223372036854775807
structure InM (m:PMsg):Prop where
 k0:-9223372036854775808<=m.kind
 k1:m.kind<=9223372036854775807
 c0:-9223372036854775808<=m.client
 c1:m.client<=9223372036854775807
 ask:InC m.ask
 tell:InR m.tell
theorem inR_zero:InR zeroR:=by constructor <;> decide
def fldA (k:Int):List (Nat × Int):=if k=1 then [(3,1)] else if k=2 then [(4,1),(5,1),(6,0)] else if k=3 then [(4,1)] else []
def fldT (k:Int):List (Nat × Int):=if k=1 then [(9,1),(10,1)] else if k=2 then [(9,1)] else if k=4 then [(10,1),(11,0)] else if k=3\/k=5\/k=6 then [(10,1),(11,1)] else if k=7 then [(10,1)] else []
def fld (m:PMsg):List (Nat × Int):=if m.kind=1 then fldA m.ask.kind else if m.kind=2 then fldT m.tell.kind else []
def val (m:PMsg)(o:Nat):Int :=
 if o=3 then m.ask.token else if o=4 then m.ask.session else if o=5 then m.ask.number else if o=6 then m.ask.mark
 else if o=9 then m.tell.token else if o=10 then m.tell.session else if o=11 then m.tell.number else 0
def setV (m:PMsg)(o:Nat)(v:Int):PMsg :=
 if o=3 then ⟨m.kind,m.client,⟨m.ask.kind,v,m.ask.session,m.ask.number,m.ask.mark,m.ask.ops⟩,m.tell⟩
 else if o=4 then ⟨m.kind,m.client,⟨m.ask.kind,m.ask.token,v,m.ask.number,m.ask.mark,m.ask.ops⟩,m.tell⟩
 else if o=5 then ⟨m.kind,m.client,⟨m.ask.kind,m.ask.token,m.ask.session,v,m.ask.mark,m.ask.ops⟩,m.tell⟩
 else if o=6 then ⟨m.kind,m.client,⟨m.ask.kind,m.ask.token,m.ask.session,m.ask.number,v,m.ask.ops⟩,m.tell⟩
 else if o=9 then ⟨m.kind,m.client,m.ask,⟨m.tell.kind,v,m.tell.session,m.tell.number,m.tell.answer⟩⟩
 else if o=10 then ⟨m.kind,m.client,m.ask,⟨m.tell.kind,m.tell.token,v,m.tell.number,m.tell.answer⟩⟩
 else if o=11 then ⟨m.kind,m.client,m.ask,⟨m.tell.kind,m.tell.token,m.tell.session,v,m.tell.answer⟩⟩
 else m
def isOff (o:Nat):Prop:=o=3\/o=4\/o=5\/o=6\/o=9\/o=10\/o=11
theorem fldA_off (k:Int):∀f ∈ fldA k,isOff f.1/\(f.2=0\/f.2=1):=by
 unfold fldA isOff
 repeat' split
 all_goals simp
theorem fldT_off (k:Int):∀f ∈ fldT k,isOff f.1/\(f.2=0\/f.2=1):=by
 unfold fldT isOff
 repeat' split
 all_goals simp
theorem fld_off (m:PMsg):∀f ∈ fld m,isOff f.1/\(f.2=0\/f.2=1):=by
 unfold fld
 split
 ·exact fldA_off _
 ·split
  ·exact fldT_off _
  ·simp
theorem fldA_len (k:Int):(fldA k).length<=3:=by
 unfold fldA
 repeat' split
 all_goals decide
theorem fldT_len (k:Int):(fldT k).length<=3:=by
 unfold fldT
 repeat' split
 all_goals decide
theorem fld_len (m:PMsg):(fld m).length<=3:=by
 unfold fld
 split
 ·exact fldA_len _
 ·split
  ·exact fldT_len _
  ·decide
theorem setV_kinds (m:PMsg)(o:Nat)(v:Int):(setV m o v).kind=m.kind/\(setV m o v).client=m.client/\(setV m o v).ask.kind=m.ask.kind/\(setV m o v).tell.kind=m.tell.kind/\(setV m o v).ask.ops=m.ask.ops/\(setV m o v).tell.answer=m.tell.answer:=by
 unfold setV
 repeat' split
 all_goals simp
theorem setV_in {m:PMsg}(h:InM m)(o:Nat){v:Int}(h0:-9223372036854775808<=v)(h1:v<=9223372036854775807):InM (setV m o v):=by
 obtain ⟨k0,k1,c0,c1,⟨a1,a2,a3,a4,a5,a6,a7,a8,a9,a10⟩,⟨t1,t2,t3,t4,t5,t6,t7,t8⟩⟩:=h
 unfold setV
 repeat' split
 all_goals exact ⟨by assumption,by assumption,by assumption,by assumption,⟨by assumption,by assumption,by assumption,by assumption,by assumption,by assumption,by assumption,by assumption,by assumption,by assumption⟩,⟨by assumption,by assumption,by assumption,by assumption,by assumption,by assumption,by assumption,by assumption⟩⟩
theorem val_in {m:PMsg}(h:InM m)(o:Nat):-9223372036854775808<=val m o/\val m o<=9223372036854775807:=by
 obtain ⟨k0,k1,c0,c1,⟨a1,a2,a3,a4,a5,a6,a7,a8,a9,a10⟩,⟨t1,t2,t3,t4,t5,t6,t7,t8⟩⟩:=h
 unfold val
 repeat' split
 all_goals first | exact ⟨by assumption,by assumption⟩ | decide
def callsB (m:PMsg):Bool:=decide (m.kind=1) && decide (m.ask.kind=2)
def answersB (m:PMsg):Bool:=decide (m.kind=2) && decide (m.tell.kind=3)
def saidM (m:PMsg):Int:=if m.kind=1 then m.ask.kind else m.tell.kind
def beginM (k c s:Int):PMsg:=⟨k,c,⟨if k=1 then s else 0,0,0,0,0,[]⟩,⟨if k=2 then s else 0,0,0,0,[]⟩⟩
def setOps (m:PMsg)(l:List POp):PMsg:=⟨m.kind,m.client,⟨m.ask.kind,m.ask.token,m.ask.session,m.ask.number,m.ask.mark,l⟩,m.tell⟩
def setAns (m:PMsg)(b:Bs):PMsg:=⟨m.kind,m.client,m.ask,⟨m.tell.kind,m.tell.token,m.tell.session,m.tell.number,b⟩⟩
def endM (m s:PMsg):PMsg:=if callsB m=true then setOps s m.ask.ops else if answersB m=true then setAns s m.tell.answer else s
def numM (m:PMsg):PMsg:=(fld m).foldl (fun s f=>setV s f.1 (val m f.1)) (beginM m.kind m.client (saidM m))
def namedM (m:PMsg):PMsg:=endM m (numM m)
def leastM (m:PMsg):Bool:=(fld m).all fun f=>decide (f.2<=val m f.1)
def fitsM (m:PMsg):Bool:=leastM m && !(callsB m && decide (m.ask.mark ≥ m.ask.number)) && decide (0<(fld m).length) && decide (0<=m.client) && decide (m.client<8) && decide (m=namedM m)
def backM (m:PMsg):Int:=if callsB m=true then chk m.ask.ops else if answersB m=true then (readR m.tell.answer).2 else 0
def lastM (m:PMsg):Bs:=if callsB m=true then callForm m.ask.ops else if answersB m=true then m.tell.answer else []
def numsM (m:PMsg):Bs:=(fld m).flatMap fun f=>Wire.numForm (val m f.1).toNat
def headM (m:PMsg):Bs:=[UInt8.ofNat m.kind.toNat,UInt8.ofNat m.client.toNat,UInt8.ofNat (saidM m).toNat]
def formM (m:PMsg):Bs:=headM m ++ (numsM m ++ lastM m)
theorem begin_fld (m:PMsg):fld (beginM m.kind m.client (saidM m))=fld m:=by
 unfold fld beginM saidM
 by_cases h1:m.kind=1
 ·simp [h1]
 ·by_cases h2:m.kind=2
  ·simp [h2]
  ·simp [h1,h2]
theorem PRep.ext' {a b:PRep}:a=b<->a.kind=b.kind/\a.token=b.token/\a.session=b.session/\a.number=b.number/\a.answer=b.answer:=by
 constructor
 ·rintro rfl;simp
 ·rintro ⟨h1,h2,h3,h4,h5⟩
  cases a;cases b;simp_all
theorem PMsg.ext' {a b:PMsg}:a=b<->a.kind=b.kind/\a.client=b.client/\a.ask=b.ask/\a.tell=b.tell:=by
 constructor
 ·rintro rfl;simp
 ·rintro ⟨h1,h2,h3,h4⟩
  cases a;cases b;simp_all
theorem ok_fits (m:PMsg):okM m=true<->fitsM m=true/\backM m=0:=by
 obtain ⟨k,c,⟨ak,at',as',an,am,ops⟩,⟨tk,tt,ts,tn,ta⟩⟩:=m
 by_cases h1:k=1
 ·subst h1
  by_cases a1:ak=1
  ·subst a1
   simp [okM,fitsM,backM,leastM,fld,fldA,val,callsB,answersB,namedM,numM,endM,beginM,saidM,setV,okC_iff,zeroR]
   grind
  by_cases a2:ak=2
  ·subst a2
   simp [okM,fitsM,backM,leastM,fld,fldA,val,callsB,namedM,numM,endM,beginM,saidM,setV,setOps,okC_iff,zeroR]
   grind
  by_cases a3:ak=3
  ·subst a3
   simp [okM,fitsM,backM,leastM,fld,fldA,val,callsB,answersB,namedM,numM,endM,beginM,saidM,setV,okC_iff,zeroR]
   grind
  ·simp [okM,fitsM,fld,fldA,a1,a2,a3,okC_iff]
   grind
 by_cases h2:k=2
 ·subst h2
  by_cases t1:tk=1
  ·subst t1
   simp [okM,fitsM,backM,leastM,fld,fldT,val,callsB,answersB,namedM,numM,endM,beginM,saidM,setV,okR,zeroC]
   grind
  by_cases t2:tk=2
  ·subst t2
   simp [okM,fitsM,backM,leastM,fld,fldT,val,callsB,answersB,namedM,numM,endM,beginM,saidM,setV,okR,zeroC]
   grind
  by_cases t3:tk=3
  ·subst t3
   simp [okM,fitsM,backM,leastM,fld,fldT,val,callsB,answersB,namedM,numM,endM,beginM,saidM,setV,setAns,okR,zeroC]
   grind
  by_cases t4:tk=4
  ·subst t4
   simp [okM,fitsM,backM,leastM,fld,fldT,val,callsB,answersB,namedM,numM,endM,beginM,saidM,setV,okR,zeroC]
   grind
  by_cases t5:tk=5
  ·subst t5
   simp [okM,fitsM,backM,leastM,fld,fldT,val,callsB,answersB,namedM,numM,endM,beginM,saidM,setV,okR,zeroC]
   grind
  by_cases t6:tk=6
  ·subst t6
   simp [okM,fitsM,backM,leastM,fld,fldT,val,callsB,answersB,namedM,numM,endM,beginM,saidM,setV,okR,zeroC]
   grind
  by_cases t7:tk=7
  ·subst t7
   simp [okM,fitsM,backM,leastM,fld,fldT,val,callsB,answersB,namedM,numM,endM,beginM,saidM,setV,okR,zeroC]
   grind
  ·simp [okM,fitsM,fld,fldT,t1,t2,t3,t4,t5,t6,t7,okR]
 ·simp [okM,fitsM,fld,h1,h2]
def readNums:List (Nat × Int)->PMsg->Bs->Option (PMsg × Bs)
 | [],m,L=>some (m,L)
 | f :: l,m,L=>(pNum 9223372036854775807 L).bind fun x=>readNums l (setV m f.1 x.1) x.2
def lastOf (m:PMsg)(M:Bs):Option PMsg :=
 if callsB m=true then (if (readC M).2=0 then some (setOps m (readC M).1) else none)
 else if answersB m=true then some (setAns m M)
 else if M=[] then some m else none
def restM (m:PMsg)(M:Bs):Option PMsg:=(readNums (fld m) m M).bind fun x=>lastOf x.1 x.2
def pMsg (L:Bs):Option PMsg:=match L with
 | k :: c :: s :: M=>restM (beginM (k.toNat:Int) (c.toNat:Int) (s.toNat:Int)) M
 | _=>none
def readM (L:Bs):PMsg × Int:=match pMsg L with
 | some m=>if okM m=true then (m,0) else (zeroM,4)
 | none=>(zeroM,4)
theorem val_setV {m:PMsg}{o:Nat}{v:Int}(h:isOff o):val (setV m o v) o=v:=by
 unfold isOff at h
 rcases h with rfl | rfl | rfl | rfl | rfl | rfl | rfl <;> simp [val,setV]
theorem val_other {m:PMsg}{o p:Nat}{v:Int}(h:isOff o)(hp:p≠o):val (setV m o v) p=val m p:=by
 unfold isOff at h
 rcases h with rfl | rfl | rfl | rfl | rfl | rfl | rfl <;> simp [val,setV,hp]
theorem setV_calls (m:PMsg)(o:Nat)(v:Int):callsB (setV m o v)=callsB m/\answersB (setV m o v)=answersB m:=by
 obtain ⟨h1,_,h3,h4,_⟩:=setV_kinds m o v
 unfold callsB answersB
 rw [h1,h3,h4]
 exact ⟨rfl,rfl⟩
theorem readNums_form (m:PMsg)(M:Bs):∀(l:List (Nat × Int)) (s:PMsg),(∀f ∈ l,0<=val m f.1/\val m f.1<=9223372036854775807) →
  readNums l s ((l.flatMap fun f=>Wire.numForm (val m f.1).toNat) ++ M)=some (l.foldl (fun s f=>setV s f.1 (val m f.1)) s,M)
 | [],s,_=>by simp [readNums]
 | f :: l,s,h=>by
  have hf:=h f (by simp)
  rw [List.flatMap_cons,List.append_assoc,readNums,pNum_form (by omega) (by decide)]
  simp only [Option.bind_some]
  rw [Int.toNat_of_nonneg hf.1,readNums_form m M l _ (fun g hg=>h g (by simp [hg]))]
  rfl
theorem fold_kinds (m:PMsg):∀(l:List (Nat × Int)) (s:PMsg),let r:=l.foldl (fun s f=>setV s f.1 (val m f.1)) s
  callsB r=callsB s/\answersB r=answersB s
 | [],_=>⟨rfl,rfl⟩
 | f :: l,s=>by
  have h:=fold_kinds m l (setV s f.1 (val m f.1))
  have g:=setV_calls s f.1 (val m f.1)
  simp only [List.foldl_cons]
  exact ⟨h.1.trans g.1,h.2.trans g.2⟩
theorem begin_calls (m:PMsg):callsB (beginM m.kind m.client (saidM m))=callsB m/\answersB (beginM m.kind m.client (saidM m))=answersB m:=by
 unfold callsB answersB beginM saidM
 by_cases h1:m.kind=1
 ·simp [h1]
 ·by_cases h2:m.kind=2
  ·simp [h2]
  ·simp [h1,h2]
theorem num_calls (m:PMsg):callsB (numM m)=callsB m/\answersB (numM m)=answersB m:=by
 have h:=fold_kinds m (fld m) (beginM m.kind m.client (saidM m))
 have g:=begin_calls m
 exact ⟨h.1.trans g.1,h.2.trans g.2⟩
theorem ok_said {m:PMsg}(h:okM m=true):(m.kind=1\/m.kind=2)/\0<=m.client/\m.client<8/\1<=saidM m/\saidM m<=7:=by
 obtain ⟨k,c,⟨ak,at',as',an,am,ops⟩,⟨tk,tt,ts,tn,ta⟩⟩:=m
 simp only [okM,Bool.and_eq_true,decide_eq_true_eq] at h
 obtain ⟨hc,h⟩:=h
 unfold saidM
 dsimp only at *
 split at h
 ·rename_i h1
  simp only [Bool.and_eq_true,decide_eq_true_eq] at h
  have:=fitC_kind (okC_fit h.1.2)
  dsimp only at this
  rw [if_pos h1]
  omega
 ·rename_i h1
  simp only [Bool.and_eq_true,decide_eq_true_eq] at h
  rw [if_neg h1]
  have h2:=h.1.2
  unfold okR at h2
  dsimp only at h2
  refine ⟨.inr h.1.1,hc.1,hc.2,?_⟩
  by_cases a1:tk=1
  ·omega
  by_cases a2:tk=2
  ·omega
  by_cases a3:tk=3
  ·omega
  by_cases a4:tk=4
  ·omega
  by_cases a5:tk=5\/tk=6
  ·omega
  by_cases a7:tk=7
  ·omega
  rw [if_neg a1,if_neg a2,if_neg a3,if_neg a4,if_neg a5,if_neg a7] at h2
  cases h2
theorem byte_back {x:Int}(h0:0<=x)(h1:x<256):((UInt8.ofNat x.toNat).toNat:Int)=x:=by
 rw [UInt8.toNat_ofNat']
 omega
theorem readC_form {l:List POp}(h:chk l=0):readC (callForm l)=(l,0):=by
 obtain ⟨h1,h2⟩:=chk0 h
 unfold readC
 rw [if_pos h2,pCall_iff.2 ⟨h1,rfl⟩]
theorem readM_form {m:PMsg}(h:okM m=true)(hi:InM m):readM (formM m)=(m,0):=by
 obtain ⟨hf,hb⟩:=(ok_fits m).1 h
 obtain ⟨hk,hc0,hc1,hs0,hs1⟩:=ok_said h
 have hn:m=namedM m:=by simp only [fitsM,Bool.and_eq_true,decide_eq_true_eq] at hf;exact hf.2
 have hl:leastM m=true:=by simp only [fitsM,Bool.and_eq_true,decide_eq_true_eq] at hf;exact hf.1.1.1.1.1
 have hv:∀f ∈ fld m,0<=val m f.1/\val m f.1<=9223372036854775807:=by
  intro f hf'
  have h1:=List.all_eq_true.1 hl f hf'
  simp only [decide_eq_true_eq] at h1
  have h2:=(fld_off m f hf').2
  exact ⟨by omega,(val_in hi f.1).2⟩
 have hp:pMsg (formM m)=some m:=by
  unfold formM headM
  simp only [List.cons_append,List.nil_append,pMsg]
  rw [byte_back (by omega) (by omega),byte_back hc0 (by omega),byte_back (by omega) (by omega)]
  unfold restM
  rw [begin_fld]
  unfold numsM
  rw [readNums_form m (lastM m) (fld m) _ hv]
  simp only [Option.bind_some]
  change lastOf (numM m) (lastM m)=some m
  unfold lastOf
  rw [(num_calls m).1,(num_calls m).2]
  unfold backM at hb
  unfold namedM endM at hn
  unfold lastM
  by_cases c1:callsB m=true
  ·rw [if_pos c1] at hb hn
   rw [if_pos c1,if_pos c1,readC_form hb,if_pos rfl,<-hn]
  ·rw [if_neg c1] at hb hn
   rw [if_neg c1,if_neg c1]
   by_cases c2:answersB m=true
   ·rw [if_pos c2] at hb hn
    rw [if_pos c2,if_pos c2,<-hn]
   ·rw [if_neg c2] at hb hn
    rw [if_neg c2,if_neg c2,if_pos rfl,<-hn]
 unfold readM
 rw [hp]
 simp [h]
def distinct:List (Nat × Int)->Prop
 | []=>True
 | f :: l=>(∀g ∈ l,g.1≠f.1)/\distinct l
theorem fld_distinct (m:PMsg):distinct (fld m):=by
 unfold fld fldA fldT
 repeat' split
 all_goals simp [distinct]
theorem readNums_inv:∀(l:List (Nat × Int)) (s r:PMsg) (L M:Bs),(∀f ∈ l,isOff f.1)->distinct l->InM s->readNums l s L=some (r,M) →
  L=(l.flatMap fun f=>Wire.numForm (val r f.1).toNat) ++ M/\(∀p,(∀f ∈ l,f.1≠p)->val r p=val s p)/\r.kind=s.kind/\r.client=s.client/\r.ask.kind=s.ask.kind/\r.tell.kind=s.tell.kind/\InM r
 | [],s,r,L,M,_,_,hi,h=>by
  simp [readNums] at h
  obtain ⟨rfl,rfl⟩:=h
  exact ⟨by simp,fun _ _=>rfl,rfl,rfl,rfl,rfl,hi⟩
 | f :: l,s,r,L,M,ho,hd,hi,h=>by
  rw [readNums] at h
  cases hx:pNum 9223372036854775807 L with
  | none=>rw [hx] at h;cases h
  | some x =>
   rw [hx] at h
   simp only [Option.bind_some] at h
   obtain ⟨e,hm⟩:=pNum_inv (n:=x.1) (M:=x.2) hx
   obtain ⟨h1,h2,h3,h4,h5,h6,h7⟩:=readNums_inv l (setV s f.1 x.1) r x.2 M (fun g hg=>ho g (by simp [hg])) hd.2 (setV_in hi f.1 (by omega) (by omega)) h
   obtain ⟨k1,k2,k3,k4,_⟩:=setV_kinds s f.1 (x.1:Int)
   have hv:val r f.1=x.1:=by rw [h2 f.1 (fun g hg=>hd.1 g hg)];exact val_setV (ho f (by simp))
   refine ⟨?_,?_,h3.trans k1,h4.trans k2,h5.trans k3,h6.trans k4,h7⟩
   ·rw [e,List.flatMap_cons,hv,List.append_assoc,<-h1]
    simp
   ·intro p hp
    rw [h2 p (fun g hg=>hp g (by simp [hg]))]
    exact val_other (ho f (by simp)) (fun e=>hp f (by simp) e.symm)
theorem begin_in (k c s:UInt8):InM (beginM (k.toNat:Int) (c.toNat:Int) (s.toNat:Int)):=by
 have h1:=k.toNat_lt
 have h2:=c.toNat_lt
 have h3:=s.toNat_lt
 unfold beginM
 refine ⟨by dsimp only;omega,by dsimp only;omega,by dsimp only;omega,by dsimp only;omega,?_,?_⟩ <;> constructor <;> dsimp only <;> first | omega | (split <;> omega)
end Go.Proofs.YtanoabliahcbeaaGreat
namespace Go.Proofs.YtanoabliahcbeaaGreat
open Go.RowKit Disk
open _root_.Go.Proofs.YtanoabliahcbeaaGreat.Calls _root_.Go.Proofs.YtanoabliahcbeaaGreat.Command
def repV (av:Value)(r:PRep):Value:=.agg #[.int .i64 r.kind,.int .i64 r.token,.int .i64 r.session,.int .i64 r.number,av]
def repA (av:Value)(r:PRep):Array Value:=#[.int .i64 r.kind,.int .i64 r.token,.int .i64 r.session,.int .i64 r.number,av]
def msgA (ov av:Value)(m:PMsg):Array Value:=#[.int .i64 m.kind,.int .i64 m.client,.int .i64 m.ask.kind,.int .i64 m.ask.token,.int .i64 m.ask.session,.int .i64 m.ask.number,.int .i64 m.ask.mark,ov,.int .i64 m.tell.kind,.int .i64 m.tell.token,.int .i64 m.tell.session,.int .i64 m.tell.number,av]
def msgV (ov av:Value)(m:PMsg):Value:=.agg #[.int .i64 m.kind,.int .i64 m.client,.int .i64 m.ask.kind,.int .i64 m.ask.token,.int .i64 m.ask.session,.int .i64 m.ask.number,.int .i64 m.ask.mark,ov,.int .i64 m.tell.kind,.int .i64 m.tell.token,.int .i64 m.tell.session,.int .i64 m.tell.number,av]
def MB (w:World)(b:Nat)(ov av:Value)(m:PMsg):Prop:=Blk w b 45 (msgA ov av m)
theorem MB.grown {w w':World}{b:Nat}{ov av:Value}{m:PMsg}(h:MB w b ov av m)(hg:w.grownBy w' none):MB w' b ov av m:=Blk.grown h hg (by simp)
theorem MB.lt {w:World}{b:Nat}{ov av:Value}{m:PMsg}(h:MB w b ov av m):b<w.heap.size:=Blk.lt h
theorem MB.cells {w:World}{b:Nat}{ov av:Value}{m:PMsg}(h:MB w b ov av m):w.cell? ⟨b,0,none⟩=some (.int .i64 m.kind)/\w.cell? ⟨b,1,none⟩=some (.int .i64 m.client)/\w.cell? ⟨b,2,none⟩=some (.int .i64 m.ask.kind)/\w.cell? ⟨b,3,none⟩=some (.int .i64 m.ask.token)/\w.cell? ⟨b,4,none⟩=some (.int .i64 m.ask.session)/\w.cell? ⟨b,5,none⟩=some (.int .i64 m.ask.number)/\w.cell? ⟨b,6,none⟩=some (.int .i64 m.ask.mark)/\w.cell? ⟨b,7,none⟩=some ov/\w.cell? ⟨b,8,none⟩=some (.int .i64 m.tell.kind)/\w.cell? ⟨b,9,none⟩=some (.int .i64 m.tell.token)/\w.cell? ⟨b,10,none⟩=some (.int .i64 m.tell.session)/\w.cell? ⟨b,11,none⟩=some (.int .i64 m.tell.number)/\w.cell? ⟨b,12,none⟩=some av:=by
 have q:=fun j=>Blk.cell h j
 exact ⟨q 0,q 1,q 2,q 3,q 4,q 5,q 6,q 7,q 8,q 9,q 10,q 11,q 12⟩
theorem MB.free {w:World}{b:Nat}{ov av:Value}{m:PMsg}(h:MB w b ov av m)(j:Nat):w.frozen? ⟨b,j,none⟩=false:=Blk.free h j
theorem MB.at {w:World}{b:Nat}{ov av:Value}{m:PMsg}(h:MB w b ov av m){o:Nat}(ho:isOff o):w.cell? ⟨b,o,none⟩=some (.int .i64 (val m o)):=by
 obtain ⟨_,_,_,c3,c4,c5,c6,_,_,c9,c10,c11,_⟩:=h.cells
 unfold isOff at ho
 rcases ho with rfl | rfl | rfl | rfl | rfl | rfl | rfl <;> first | exact c3 | exact c4 | exact c5 | exact c6 | exact c9 | exact c10 | exact c11
theorem MB.set {w:World}{b:Nat}{ov av:Value}{m:PMsg}(h:MB w b ov av m){o:Nat}(ho:isOff o)(v:Int):MB (w.setCell ⟨b,o,none⟩ (.int .i64 v)) b ov av (setV m o v):=by
 have:=Blk.store h o (.int .i64 v)
 unfold MB
 unfold isOff at ho
 rcases ho with rfl | rfl | rfl | rfl | rfl | rfl | rfl <;> exact this
def fldC (b:Nat)(l:List (Nat × Int)):Array Value:=(l.flatMap fun f=>[pt b f.1,.int .i64 f.2]).toArray
def Flds (w:World)(B b:Nat)(v:Value)(l:List (Nat × Int)):Prop:=(l=[]/\v=.slice none 0 0)\/∃a,B<=a/\v=.slice (some ⟨a,0,none⟩) l.length l.length/\Blk w a 165 (fldC b l)
theorem Flds.grown {w w':World}{B b:Nat}{v:Value}{l:List (Nat × Int)}(h:Flds w B b v l)(hg:w.grownBy w' none):Flds w' B b v l:=by
 rcases h with h | ⟨a,h1,h2,h3⟩
 ·exact .inl h
 ·exact .inr ⟨a,h1,h2,h3.grown hg (by simp)⟩
theorem Flds.but {w w':World}{B b c:Nat}{v:Value}{l:List (Nat × Int)}(h:Flds w B b v l)(hg:w.grownBy w' (some c))(hc:c<B):Flds w' B b v l:=by
 rcases h with h | ⟨a,h1,h2,h3⟩
 ·exact .inl h
 ·exact .inr ⟨a,h1,h2,h3.grown hg (by simp;omega)⟩
theorem Flds.mono {w:World}{B B' b:Nat}{v:Value}{l:List (Nat × Int)}(h:Flds w B b v l)(hB:B'<=B):Flds w B' b v l:=by
 rcases h with h | ⟨a,h1,h2,h3⟩
 ·exact .inl h
 ·exact .inr ⟨a,by omega,h2,h3⟩
theorem Flds.shape {w:World}{B b:Nat}{v:Value}{l:List (Nat × Int)}(h:Flds w B b v l):∃ao,v=.slice ao l.length l.length:=by
 rcases h with ⟨rfl,h⟩ | ⟨a,_,h,_⟩
 ·exact ⟨_,h⟩
 ·exact ⟨_,h⟩
theorem fldC_at (b:Nat):∀(l:List (Nat × Int)) (i:Nat) (h:i<l.length),(fldC b l)[i*2]? = some (pt b l[i].1)/\(fldC b l)[i*2+1]? = some (.int .i64 l[i].2)
 | [],i,h=>absurd h (by simp)
 | f :: l,0,_=>by simp [fldC]
 | f :: l,i+1,h=>by
  have ih:=fldC_at b l i (by simpa using h)
  simp only [fldC,List.flatMap_cons,List.getElem?_toArray,List.getElem_cons_succ] at ih ⊢
  rw [show (i+1)*2=i*2+2 by omega]
  simpa [Nat.add_assoc] using ih
theorem Flds.at {w:World}{B b:Nat}{ao:Option Addr}{n c:Nat}{l:List (Nat × Int)}(h:Flds w B b (.slice ao n c) l)(i:Nat)(hi:i<l.length):∃a,ao=some ⟨a,0,none⟩/\B<=a/\w.cell? ⟨a,i*2,none⟩=some (pt b l[i].1)/\w.cell? ⟨a,i*2+1,none⟩=some (.int .i64 l[i].2):=by
 rcases h with ⟨rfl,_⟩ | ⟨a,h1,h2,h3⟩
 ·exact absurd hi (by simp)
 ·simp at h2
  obtain ⟨q0,q1⟩:=fldC_at b l i hi
  exact ⟨a,h2.1,h1,(h3.cell _).trans q0,(h3.cell _).trans q1⟩
theorem flds_nil (w:World)(B b:Nat):Flds w B b (.slice none 0 0) []:=.inl ⟨rfl,rfl⟩
theorem flds_lit (w:World)(b:Nat)(l:List (Nat × Int))(n:Nat)(hn:l.length=n)(C:Array Value)(hC:fldC b l=C):Flds (w.alloc (.cells C 165)) w.heap.size b (.slice (some ⟨w.heap.size,0,none⟩) n n) l:=by
 subst hn hC
 exact .inr ⟨w.heap.size,Nat.le_refl _,rfl,heap_alloc_new _ _⟩
def FldP (b:Nat)(l:List (Nat × Int))(w:World)(e:Ending)(w':World):Prop:=∃v,e=.returned v/\Flds w' w.heap.size b v l/\w.grownBy w' none
theorem fldP_lit {w wd:World}{b:Nat}{l:List (Nat × Int)}{n:Nat}(hn:l.length=n){C:Array Value}(hC:fldC b l=C)(hg:w.grownBy wd none):FldP b l w (.returned (.slice (some ⟨wd.heap.size,0,none⟩) n n)) (wd.alloc (.cells C 165)) :=
 ⟨_,rfl,(flds_lit wd b l n hn C hC).mono hg.size,grown_trans hg (World.grownBy_alloc _ _ none)⟩
theorem asked51_1 (b:Nat)(w:World)(c0:w.cell? ⟨b,2,none⟩=some (.int .i64 1)):Calls Tryz.prog 131 #[.pointer (some ⟨b,2,none⟩)] w (FldP b [(3,1)] w):=by
 go_enter Tryz.func131,Tryz.ntmps131
 go_wp2_with fail
 go_ret
 exact fldP_lit rfl (by rfl) (grown_refl _ _)
theorem asked51_2 (b:Nat)(w:World)(c0:w.cell? ⟨b,2,none⟩=some (.int .i64 2)):Calls Tryz.prog 131 #[.pointer (some ⟨b,2,none⟩)] w (FldP b [(4,1),(5,1),(6,0)] w):=by
 go_enter Tryz.func131,Tryz.ntmps131
 go_wp2_with fail
 refine wp_region_noPanic ?_
 refine wp_region_hold 1000 (fun y=>w.grownBy y none) (by kernel_rfl) ?_
 have G0:Hid (w.grownBy w.drew none):=grown_drew _ _
 generalize w.drew=wd at G0 ⊢
 have J:Idx [0,1,2,3,4,5,6,7,8,9,10,11]:=trivial
 iterate 12 (refine tK J (G0.out) rfl rfl (fun wk hk=>by skip;go_simp;try rfl) ?_;replace J:=J.tl;try simp only [pN])
 clear J
 refine wpHold_one (i:=12) rfl (by kernel_rfl) (by rfl) (fun K hK=>?_)
 go_wp2_with fail
 refine hK.out _ _ (fun _=>grown_trans G0.out (World.grownBy_alloc _ _ none)) ?_
 clear hK K
 try simp only [pN]
 have J:Idx [13]:=trivial
 iterate 1 (refine tK J (grown_trans G0.out (World.grownBy_alloc _ _ none)) rfl rfl (fun wk hk=>by skip;go_simp;try rfl) ?_;replace J:=J.tl;try simp only [pN])
 clear J
 refine wpHold_done (by kernel_rfl) ?_
 refine (‹∀(a:Act) (w:World),Code.wp Tryz.prog _ _ a w->_› _ _ ?_)
 go_wp2_with fail
 go_ret
 exact fldP_lit rfl (by rfl) G0.out
theorem asked51_3 (b:Nat)(w:World)(c0:w.cell? ⟨b,2,none⟩=some (.int .i64 3)):Calls Tryz.prog 131 #[.pointer (some ⟨b,2,none⟩)] w (FldP b [(4,1)] w):=by
 go_enter Tryz.func131,Tryz.ntmps131
 go_wp2_with fail
 go_ret
 exact fldP_lit rfl (by rfl) (grown_refl _ _)
theorem asked51_0 (b:Nat)(k:Int)(w:World)(c0:w.cell? ⟨b,2,none⟩=some (.int .i64 k))(h1:(k==1)=false)(h2:(k==2)=false)(h3:(k==3)=false):Calls Tryz.prog 131 #[.pointer (some ⟨b,2,none⟩)] w (FldP b [] w):=by
 go_enter Tryz.func131,Tryz.ntmps131
 go_wp2_with fail
 go_ret
 exact ⟨_,rfl,flds_nil _ _ _,grown_refl _ _⟩
theorem asked51 (b:Nat)(k:Int)(w:World)(c0:w.cell? ⟨b,2,none⟩=some (.int .i64 k)):Calls Tryz.prog 131 #[.pointer (some ⟨b,2,none⟩)] w (FldP b (fldA k) w):=by
 unfold fldA
 by_cases h1:k=1
 ·rw [if_pos h1];subst h1;exact asked51_1 b w c0
 by_cases h2:k=2
 ·rw [if_neg h1,if_pos h2];subst h2;exact asked51_2 b w c0
 by_cases h3:k=3
 ·rw [if_neg h1,if_neg h2,if_pos h3];subst h3;exact asked51_3 b w c0
 rw [if_neg h1,if_neg h2,if_neg h3]
 exact asked51_0 b k w c0 (by simp [h1]) (by simp [h2]) (by simp [h3])
theorem told52_1 (b:Nat)(w:World)(c0:w.cell? ⟨b,8,none⟩=some (.int .i64 1)):Calls Tryz.prog 132 #[.pointer (some ⟨b,8,none⟩)] w (FldP b [(9,1),(10,1)] w):=by
 go_enter Tryz.func132,Tryz.ntmps132
 go_wp2_with fail
 refine wp_region_noPanic ?_
 refine wp_region_hold 1000 (fun y=>w.grownBy y none) (by kernel_rfl) ?_
 have G0:Hid (w.grownBy w.drew none):=grown_drew _ _
 generalize w.drew=wd at G0 ⊢
 have J:Idx [0,1,2,3,4,5,6,7]:=trivial
 iterate 8 (refine tK J (G0.out) rfl rfl (fun wk hk=>by skip;go_simp;try rfl) ?_;replace J:=J.tl;try simp only [pN])
 clear J
 refine wpHold_one (i:=8) rfl (by kernel_rfl) (by rfl) (fun K hK=>?_)
 go_wp2_with fail
 refine hK.out _ _ (fun _=>grown_trans G0.out (World.grownBy_alloc _ _ none)) ?_
 clear hK K
 try simp only [pN]
 have J:Idx [9]:=trivial
 iterate 1 (refine tK J (grown_trans G0.out (World.grownBy_alloc _ _ none)) rfl rfl (fun wk hk=>by skip;go_simp;try rfl) ?_;replace J:=J.tl;try simp only [pN])
 clear J
 refine wpHold_done (by kernel_rfl) ?_
 refine (‹∀(a:Act) (w:World),Code.wp Tryz.prog _ _ a w->_› _ _ ?_)
 go_wp2_with fail
 go_ret
 exact fldP_lit rfl (by rfl) G0.out
theorem told52_2 (b:Nat)(w:World)(c0:w.cell? ⟨b,8,none⟩=some (.int .i64 2)):Calls Tryz.prog 132 #[.pointer (some ⟨b,8,none⟩)] w (FldP b [(9,1)] w):=by
 go_enter Tryz.func132,Tryz.ntmps132
 go_wp2_with fail
 go_ret
 exact fldP_lit rfl (by rfl) (grown_refl _ _)
theorem told52_4 (b:Nat)(w:World)(c0:w.cell? ⟨b,8,none⟩=some (.int .i64 4)):Calls Tryz.prog 132 #[.pointer (some ⟨b,8,none⟩)] w (FldP b [(10,1),(11,0)] w):=by
 go_enter Tryz.func132,Tryz.ntmps132
 go_wp2_with fail
 refine wp_region_noPanic ?_
 refine wp_region_hold 1000 (fun y=>w.grownBy y none) (by kernel_rfl) ?_
 have G0:Hid (w.grownBy w.drew none):=grown_drew _ _
 generalize w.drew=wd at G0 ⊢
 have J:Idx [0,1,2,3,4,5,6,7]:=trivial
 iterate 8 (refine tK J (G0.out) rfl rfl (fun wk hk=>by skip;go_simp;try rfl) ?_;replace J:=J.tl;try simp only [pN])
 clear J
 refine wpHold_one (i:=8) rfl (by kernel_rfl) (by rfl) (fun K hK=>?_)
 go_wp2_with fail
 refine hK.out _ _ (fun _=>grown_trans G0.out (World.grownBy_alloc _ _ none)) ?_
 clear hK K
 try simp only [pN]
 have J:Idx [9]:=trivial
 iterate 1 (refine tK J (grown_trans G0.out (World.grownBy_alloc _ _ none)) rfl rfl (fun wk hk=>by skip;go_simp;try rfl) ?_;replace J:=J.tl;try simp only [pN])
 clear J
 refine wpHold_done (by kernel_rfl) ?_
 refine (‹∀(a:Act) (w:World),Code.wp Tryz.prog _ _ a w->_› _ _ ?_)
 go_wp2_with fail
 go_ret
 exact fldP_lit rfl (by rfl) G0.out
theorem told52_3 (b:Nat)(w:World)(c0:w.cell? ⟨b,8,none⟩=some (.int .i64 3)):Calls Tryz.prog 132 #[.pointer (some ⟨b,8,none⟩)] w (FldP b [(10,1),(11,1)] w):=by
 go_enter Tryz.func132,Tryz.ntmps132
 go_wp2_with fail
 refine wp_region_noPanic ?_
 refine wp_region_hold 1000 (fun y=>w.grownBy y none) (by kernel_rfl) ?_
 have G0:Hid (w.grownBy w.drew none):=grown_drew _ _
 generalize w.drew=wd at G0 ⊢
 have J:Idx [0,1,2,3,4,5,6,7]:=trivial
 iterate 8 (refine tK J (G0.out) rfl rfl (fun wk hk=>by skip;go_simp;try rfl) ?_;replace J:=J.tl;try simp only [pN])
 clear J
 refine wpHold_one (i:=8) rfl (by kernel_rfl) (by rfl) (fun K hK=>?_)
 go_wp2_with fail
 refine hK.out _ _ (fun _=>grown_trans G0.out (World.grownBy_alloc _ _ none)) ?_
 clear hK K
 try simp only [pN]
 have J:Idx [9]:=trivial
 iterate 1 (refine tK J (grown_trans G0.out (World.grownBy_alloc _ _ none)) rfl rfl (fun wk hk=>by skip;go_simp;try rfl) ?_;replace J:=J.tl;try simp only [pN])
 clear J
 refine wpHold_done (by kernel_rfl) ?_
 refine (‹∀(a:Act) (w:World),Code.wp Tryz.prog _ _ a w->_› _ _ ?_)
 go_wp2_with fail
 go_ret
 exact fldP_lit rfl (by rfl) G0.out
theorem told52_5 (b:Nat)(w:World)(c0:w.cell? ⟨b,8,none⟩=some (.int .i64 5)):Calls Tryz.prog 132 #[.pointer (some ⟨b,8,none⟩)] w (FldP b [(10,1),(11,1)] w):=by
 go_enter Tryz.func132,Tryz.ntmps132
 go_wp2_with fail
 refine wp_region_noPanic ?_
 refine wp_region_hold 1000 (fun y=>w.grownBy y none) (by kernel_rfl) ?_
 have G0:Hid (w.grownBy w.drew none):=grown_drew _ _
 generalize w.drew=wd at G0 ⊢
 have J:Idx [0,1,2,3,4,5,6,7]:=trivial
 iterate 8 (refine tK J (G0.out) rfl rfl (fun wk hk=>by skip;go_simp;try rfl) ?_;replace J:=J.tl;try simp only [pN])
 clear J
 refine wpHold_one (i:=8) rfl (by kernel_rfl) (by rfl) (fun K hK=>?_)
 go_wp2_with fail
 refine hK.out _ _ (fun _=>grown_trans G0.out (World.grownBy_alloc _ _ none)) ?_
 clear hK K
 try simp only [pN]
 have J:Idx [9]:=trivial
 iterate 1 (refine tK J (grown_trans G0.out (World.grownBy_alloc _ _ none)) rfl rfl (fun wk hk=>by skip;go_simp;try rfl) ?_;replace J:=J.tl;try simp only [pN])
 clear J
 refine wpHold_done (by kernel_rfl) ?_
 refine (‹∀(a:Act) (w:World),Code.wp Tryz.prog _ _ a w->_› _ _ ?_)
 go_wp2_with fail
 go_ret
 exact fldP_lit rfl (by rfl) G0.out
theorem told52_6 (b:Nat)(w:World)(c0:w.cell? ⟨b,8,none⟩=some (.int .i64 6)):Calls Tryz.prog 132 #[.pointer (some ⟨b,8,none⟩)] w (FldP b [(10,1),(11,1)] w):=by
 go_enter Tryz.func132,Tryz.ntmps132
 go_wp2_with fail
 refine wp_region_noPanic ?_
 refine wp_region_hold 1000 (fun y=>w.grownBy y none) (by kernel_rfl) ?_
 have G0:Hid (w.grownBy w.drew none):=grown_drew _ _
 generalize w.drew=wd at G0 ⊢
 have J:Idx [0,1,2,3,4,5,6,7]:=trivial
 iterate 8 (refine tK J (G0.out) rfl rfl (fun wk hk=>by skip;go_simp;try rfl) ?_;replace J:=J.tl;try simp only [pN])
 clear J
 refine wpHold_one (i:=8) rfl (by kernel_rfl) (by rfl) (fun K hK=>?_)
 go_wp2_with fail
 refine hK.out _ _ (fun _=>grown_trans G0.out (World.grownBy_alloc _ _ none)) ?_
 clear hK K
 try simp only [pN]
 have J:Idx [9]:=trivial
 iterate 1 (refine tK J (grown_trans G0.out (World.grownBy_alloc _ _ none)) rfl rfl (fun wk hk=>by skip;go_simp;try rfl) ?_;replace J:=J.tl;try simp only [pN])
 clear J
 refine wpHold_done (by kernel_rfl) ?_
 refine (‹∀(a:Act) (w:World),Code.wp Tryz.prog _ _ a w->_› _ _ ?_)
 go_wp2_with fail
 go_ret
 exact fldP_lit rfl (by rfl) G0.out
theorem told52_7 (b:Nat)(w:World)(c0:w.cell? ⟨b,8,none⟩=some (.int .i64 7)):Calls Tryz.prog 132 #[.pointer (some ⟨b,8,none⟩)] w (FldP b [(10,1)] w):=by
 go_enter Tryz.func132,Tryz.ntmps132
 go_wp2_with fail
 go_ret
 exact fldP_lit rfl (by rfl) (grown_refl _ _)
theorem told52_0 (b:Nat)(k:Int)(w:World)(c0:w.cell? ⟨b,8,none⟩=some (.int .i64 k))(h1:(k==1)=false)(h2:(k==2)=false)(h4:(k==4)=false)(h3:(k==3)=false)(h5:(k==5)=false)(h6:(k==6)=false)(h7:(k==7)=false):Calls Tryz.prog 132 #[.pointer (some ⟨b,8,none⟩)] w (FldP b [] w):=by
 go_enter Tryz.func132,Tryz.ntmps132
 go_wp2_with fail
 go_ret
 exact ⟨_,rfl,flds_nil _ _ _,grown_refl _ _⟩
theorem told52 (b:Nat)(k:Int)(w:World)(c0:w.cell? ⟨b,8,none⟩=some (.int .i64 k)):Calls Tryz.prog 132 #[.pointer (some ⟨b,8,none⟩)] w (FldP b (fldT k) w):=by
 unfold fldT
 by_cases h1:k=1
 ·rw [if_pos h1];subst h1;exact told52_1 b w c0
 by_cases h2:k=2
 ·rw [if_neg h1,if_pos h2];subst h2;exact told52_2 b w c0
 by_cases h4:k=4
 ·rw [if_neg h1,if_neg h2,if_pos h4];subst h4;exact told52_4 b w c0
 by_cases h3:k=3
 ·rw [if_neg h1,if_neg h2,if_neg h4,if_pos (by omega)];subst h3;exact told52_3 b w c0
 by_cases h5:k=5
 ·rw [if_neg h1,if_neg h2,if_neg h4,if_pos (by omega)];subst h5;exact told52_5 b w c0
 by_cases h6:k=6
 ·rw [if_neg h1,if_neg h2,if_neg h4,if_pos (by omega)];subst h6;exact told52_6 b w c0
 by_cases h7:k=7
 ·rw [if_neg h1,if_neg h2,if_neg h4,if_neg (by omega),if_pos h7];subst h7;exact told52_7 b w c0
 rw [if_neg h1,if_neg h2,if_neg h4,if_neg (by omega),if_neg h7]
 exact told52_0 b k w c0 (by simp [h1]) (by simp [h2]) (by simp [h4]) (by simp [h3]) (by simp [h5]) (by simp [h6]) (by simp [h7])
theorem numbers26 (b:Nat)(ov av:Value)(m:PMsg)(w:World)(h:MB w b ov av m):Calls Tryz.prog 98 #[.pointer (some ⟨b,0,none⟩)] w (FldP b (fld m) w):=by
 obtain ⟨c0,_,c2,_,_,_,_,_,c8,_⟩:=h.cells
 have H:Hid (MB w b ov av m):=h
 clear h
 unfold fld
 obtain ⟨mk,hmk⟩:∃x,m.kind=x:=⟨_,rfl⟩
 rw [hmk] at c0 ⊢
 clear hmk
 have C2:Hid (w.cell? ⟨b,2,none⟩=some (.int .i64 m.ask.kind)):=c2
 have C8:Hid (w.cell? ⟨b,8,none⟩=some (.int .i64 m.tell.kind)):=c8
 clear c2 c8
 by_cases h1:mk=1
 ·rw [if_pos h1]
  subst h1
  go_enter Tryz.func98,Tryz.ntmps98
  go_wp2_with (go_at_call 131;refine (asked51 b m.ask.kind _ C2.out).mono ?_;intro e w1 h;obtain ⟨v,rfl,hf,hg⟩:=h;have F:Hid (Flds w1 w.heap.size b v (fldA m.ask.kind)/\w.grownBy w1 none):=⟨hf,hg⟩;clear hf hg)
  go_ret
  exact ⟨_,rfl,F.out.1,F.out.2⟩
 rw [if_neg h1]
 by_cases h2:mk=2
 ·rw [if_pos h2]
  subst h2
  go_enter Tryz.func98,Tryz.ntmps98
  go_wp2_with (go_at_call 132;refine (told52 b m.tell.kind _ C8.out).mono ?_;intro e w1 h;obtain ⟨v,rfl,hf,hg⟩:=h;have F:Hid (Flds w1 w.heap.size b v (fldT m.tell.kind)/\w.grownBy w1 none):=⟨hf,hg⟩;clear hf hg)
  go_ret
  exact ⟨_,rfl,F.out.1,F.out.2⟩
 rw [if_neg h2]
 have q1:(mk==1)=false:=by simp [h1]
 have q2:(mk==2)=false:=by simp [h2]
 clear h1 h2
 go_enter Tryz.func98,Tryz.ntmps98
 go_wp2_with fail
 go_ret
 exact ⟨_,rfl,flds_nil _ _ _,grown_refl _ _⟩
end Go.Proofs.YtanoabliahcbeaaGreat
