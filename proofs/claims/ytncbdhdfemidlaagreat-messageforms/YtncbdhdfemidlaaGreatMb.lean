import Derived.Test.YtncbdhdfemidlaaGreatMa
namespace Go.Proofs.YtncbdhdfemidlaaGreat
open Go.RowKit
open _root_.Go.Proofs.YtncbdhdfemidlaaGreat.Calls _root_.Go.Proofs.YtncbdhdfemidlaaGreat.Command
theorem ok_fits (m:PMsg):okM m=true<->fitsM m=true/\backM m=0:=by
 obtain ⟨k,c,⟨ak,at',as',an,am,ops⟩,⟨tk,tt,ts,tn,ta⟩⟩:=m
 by_cases h1:k=1
 ·subst h1
  by_cases a1:ak=1
  ·subst a1
   simp [okM,fitsM,backM,leastM,fld,fldA,val,callsB,answersB,namedM,numM,endM,beginM,saidM,setV,okC_iff,zeroR]
   grind
  by_cases a2:ak=2
  ·subst a2
   simp [okM,fitsM,backM,leastM,fld,fldA,val,callsB,namedM,numM,endM,beginM,saidM,setV,setOps,okC_iff,zeroR]
   grind
  by_cases a3:ak=3
  ·subst a3
   simp [okM,fitsM,backM,leastM,fld,fldA,val,callsB,answersB,namedM,numM,endM,beginM,saidM,setV,okC_iff,zeroR]
   grind
  ·simp [okM,fitsM,fld,fldA,a1,a2,a3,okC_iff]
   grind
 by_cases h2:k=2
 ·subst h2
  by_cases t1:tk=1
  ·subst t1
   simp [okM,fitsM,backM,leastM,fld,fldT,val,callsB,answersB,namedM,numM,endM,beginM,saidM,setV,okR,zeroC]
   grind
  by_cases t2:tk=2
  ·subst t2
   simp [okM,fitsM,backM,leastM,fld,fldT,val,callsB,answersB,namedM,numM,endM,beginM,saidM,setV,okR,zeroC]
   grind
  by_cases t3:tk=3
  ·subst t3
   simp [okM,fitsM,backM,leastM,fld,fldT,val,callsB,answersB,namedM,numM,endM,beginM,saidM,setV,setAns,okR,zeroC]
   grind
  by_cases t4:tk=4
  ·subst t4
   simp [okM,fitsM,backM,leastM,fld,fldT,val,callsB,answersB,namedM,numM,endM,beginM,saidM,setV,okR,zeroC]
   grind
  by_cases t5:tk=5
  ·subst t5
   simp [okM,fitsM,backM,leastM,fld,fldT,val,callsB,answersB,namedM,numM,endM,beginM,saidM,setV,okR,zeroC]
   grind
  by_cases t6:tk=6
  ·subst t6
   simp [okM,fitsM,backM,leastM,fld,fldT,val,callsB,answersB,namedM,numM,endM,beginM,saidM,setV,okR,zeroC]
   grind
  by_cases t7:tk=7
  ·subst t7
   simp [okM,fitsM,backM,leastM,fld,fldT,val,callsB,answersB,namedM,numM,endM,beginM,saidM,setV,okR,zeroC]
   grind
  ·simp [okM,fitsM,fld,fldT,t1,t2,t3,t4,t5,t6,t7,okR]
 ·simp [okM,fitsM,fld,h1,h2]
def readNums:List (Nat × Int)->PMsg->Bs->Option (PMsg × Bs)
 | [],m,L=>some (m,L)
 | f :: l,m,L=>(pNum 9223372036854775807 L).bind fun x=>readNums l (setV m f.1 x.1) x.2
def lastOf (m:PMsg)(M:Bs):Option PMsg :=
 if callsB m=true then (if (readC M).2=0 then some (setOps m (readC M).1) else none)
 else if answersB m=true then some (setAns m M)
 else if M=[] then some m else none
def restM (m:PMsg)(M:Bs):Option PMsg:=(readNums (fld m) m M).bind fun x=>lastOf x.1 x.2
def pMsg (L:Bs):Option PMsg:=match L with
 | k :: c :: s :: M=>restM (beginM (k.toNat:Int) (c.toNat:Int) (s.toNat:Int)) M
 | _=>none
def readM (L:Bs):PMsg × Int:=match pMsg L with
 | some m=>if okM m=true then (m,0) else (zeroM,4)
 | none=>(zeroM,4)
theorem val_setV {m:PMsg}{o:Nat}{v:Int}(h:isOff o):val (setV m o v) o=v:=by
 unfold isOff at h
 rcases h with rfl | rfl | rfl | rfl | rfl | rfl | rfl <;> simp [val,setV]
theorem val_other {m:PMsg}{o p:Nat}{v:Int}(h:isOff o)(hp:p≠o):val (setV m o v) p=val m p:=by
 unfold isOff at h
 rcases h with rfl | rfl | rfl | rfl | rfl | rfl | rfl <;> simp [val,setV,hp]
theorem setV_calls (m:PMsg)(o:Nat)(v:Int):callsB (setV m o v)=callsB m/\answersB (setV m o v)=answersB m:=by
 obtain ⟨h1,_,h3,h4,_⟩:=setV_kinds m o v
 unfold callsB answersB
 rw [h1,h3,h4]
 exact ⟨rfl,rfl⟩
theorem readNums_form (m:PMsg)(M:Bs):∀(l:List (Nat × Int)) (s:PMsg),(∀f ∈ l,0<=val m f.1/\val m f.1<=9223372036854775807) →
  readNums l s ((l.flatMap fun f=>Wire.numForm (val m f.1).toNat) ++ M)=some (l.foldl (fun s f=>setV s f.1 (val m f.1)) s,M)
 | [],s,_=>by simp [readNums]
 | f :: l,s,h=>by
  have hf:=h f (by simp)
  rw [List.flatMap_cons,List.append_assoc,readNums,pNum_form (by omega) (by decide)]
  simp only [Option.bind_some]
  rw [Int.toNat_of_nonneg hf.1,readNums_form m M l _ (fun g hg=>h g (by simp [hg]))]
  rfl
theorem fold_kinds (m:PMsg):∀(l:List (Nat × Int)) (s:PMsg),let r:=l.foldl (fun s f=>setV s f.1 (val m f.1)) s
  callsB r=callsB s/\answersB r=answersB s
 | [],_=>⟨rfl,rfl⟩
 | f :: l,s=>by
  have h:=fold_kinds m l (setV s f.1 (val m f.1))
  have g:=setV_calls s f.1 (val m f.1)
  simp only [List.foldl_cons]
  exact ⟨h.1.trans g.1,h.2.trans g.2⟩
theorem begin_calls (m:PMsg):callsB (beginM m.kind m.client (saidM m))=callsB m/\answersB (beginM m.kind m.client (saidM m))=answersB m:=by
 unfold callsB answersB beginM saidM
 by_cases h1:m.kind=1
 ·simp [h1]
 ·by_cases h2:m.kind=2
  ·simp [h2]
  ·simp [h1,h2]
theorem num_calls (m:PMsg):callsB (numM m)=callsB m/\answersB (numM m)=answersB m:=by
 have h:=fold_kinds m (fld m) (beginM m.kind m.client (saidM m))
 have g:=begin_calls m
 exact ⟨h.1.trans g.1,h.2.trans g.2⟩
theorem ok_said {m:PMsg}(h:okM m=true):(m.kind=1\/m.kind=2)/\0<=m.client/\m.client<8/\1<=saidM m/\saidM m<=7:=by
 obtain ⟨k,c,⟨ak,at',as',an,am,ops⟩,⟨tk,tt,ts,tn,ta⟩⟩:=m
 simp only [okM,Bool.and_eq_true,decide_eq_true_eq] at h
 obtain ⟨hc,h⟩:=h
 unfold saidM
 dsimp only at *
 split at h
 ·rename_i h1
  simp only [Bool.and_eq_true,decide_eq_true_eq] at h
  have:=fitC_kind (okC_fit h.1.2)
  dsimp only at this
  rw [if_pos h1]
  omega
 ·rename_i h1
  simp only [Bool.and_eq_true,decide_eq_true_eq] at h
  rw [if_neg h1]
  have h2:=h.1.2
  unfold okR at h2
  dsimp only at h2
  refine ⟨.inr h.1.1,hc.1,hc.2,?_⟩
  by_cases a1:tk=1
  ·omega
  by_cases a2:tk=2
  ·omega
  by_cases a3:tk=3
  ·omega
  by_cases a4:tk=4
  ·omega
  by_cases a5:tk=5\/tk=6
  ·omega
  by_cases a7:tk=7
  ·omega
  rw [if_neg a1,if_neg a2,if_neg a3,if_neg a4,if_neg a5,if_neg a7] at h2
  cases h2
theorem byte_back {x:Int}(h0:0<=x)(h1:x<256):((UInt8.ofNat x.toNat).toNat:Int)=x:=by
 rw [UInt8.toNat_ofNat']
 omega
theorem readC_form {l:List POp}(h:chk l=0):readC (callForm l)=(l,0):=by
 obtain ⟨h1,h2⟩:=chk0 h
 unfold readC
 rw [if_pos h2,pCall_iff.2 ⟨h1,rfl⟩]
theorem readC_inv {M:Bs}(h:(readC M).2=0):M=callForm (readC M).1/\chk (readC M).1=0:=by
 unfold readC at h ⊢
 split at h
 ·rename_i hl
  rw [if_pos hl]
  cases hx:pCall M with
  | none=>rw [hx] at h;cases h
  | some l =>
   obtain ⟨h1,h2⟩:=pCall_iff.1 hx
   refine ⟨h2,?_⟩
   unfold chk
   dsimp only
   rw [if_pos h1,if_pos (by rw [<-h2];exact hl)]
 ·cases h
theorem readM_form {m:PMsg}(h:okM m=true)(hi:InM m):readM (formM m)=(m,0):=by
 obtain ⟨hf,hb⟩:=(ok_fits m).1 h
 obtain ⟨hk,hc0,hc1,hs0,hs1⟩:=ok_said h
 have hn:m=namedM m:=by simp only [fitsM,Bool.and_eq_true,decide_eq_true_eq] at hf;exact hf.2
 have hl:leastM m=true:=by simp only [fitsM,Bool.and_eq_true,decide_eq_true_eq] at hf;exact hf.1.1.1.1.1
 have hv:∀f ∈ fld m,0<=val m f.1/\val m f.1<=9223372036854775807:=by
  intro f hf'
  have h1:=List.all_eq_true.1 hl f hf'
  simp only [decide_eq_true_eq] at h1
  have h2:=(fld_off m f hf').2
  exact ⟨by omega,(val_in hi f.1).2⟩
 have hp:pMsg (formM m)=some m:=by
  unfold formM headM
  simp only [List.cons_append,List.nil_append,pMsg]
  rw [byte_back (by omega) (by omega),byte_back hc0 (by omega),byte_back (by omega) (by omega)]
  unfold restM
  rw [begin_fld]
  unfold numsM
  rw [readNums_form m (lastM m) (fld m) _ hv]
  simp only [Option.bind_some]
  change lastOf (numM m) (lastM m)=some m
  unfold lastOf
  rw [(num_calls m).1,(num_calls m).2]
  unfold backM at hb
  unfold namedM endM at hn
  unfold lastM
  by_cases c1:callsB m=true
  ·rw [if_pos c1] at hb hn
   rw [if_pos c1,if_pos c1,readC_form hb,if_pos rfl,<-hn]
  ·rw [if_neg c1] at hb hn
   rw [if_neg c1,if_neg c1]
   by_cases c2:answersB m=true
   ·rw [if_pos c2] at hb hn
    rw [if_pos c2,if_pos c2,<-hn]
   ·rw [if_neg c2] at hb hn
    rw [if_neg c2,if_neg c2,if_pos rfl,<-hn]
 unfold readM
 rw [hp]
 simp [h]
def distinct:List (Nat × Int)->Prop
 | []=>True
 | f :: l=>(∀g ∈ l,g.1≠f.1)/\distinct l
theorem fld_distinct (m:PMsg):distinct (fld m):=by
 unfold fld fldA fldT
 repeat' split
 all_goals simp [distinct]
theorem readNums_inv:∀(l:List (Nat × Int)) (s r:PMsg) (L M:Bs),(∀f ∈ l,isOff f.1)->distinct l->InM s->readNums l s L=some (r,M) →
  L=(l.flatMap fun f=>Wire.numForm (val r f.1).toNat) ++ M/\(∀p,(∀f ∈ l,f.1≠p)->val r p=val s p)/\r.kind=s.kind/\r.client=s.client/\r.ask.kind=s.ask.kind/\r.tell.kind=s.tell.kind/\InM r
 | [],s,r,L,M,_,_,hi,h=>by
  simp [readNums] at h
  obtain ⟨rfl,rfl⟩:=h
  exact ⟨by simp,fun _ _=>rfl,rfl,rfl,rfl,rfl,hi⟩
 | f :: l,s,r,L,M,ho,hd,hi,h=>by
  rw [readNums] at h
  cases hx:pNum 9223372036854775807 L with
  | none=>rw [hx] at h;cases h
  | some x =>
   rw [hx] at h
   simp only [Option.bind_some] at h
   obtain ⟨e,hm⟩:=pNum_inv (n:=x.1) (M:=x.2) hx
   obtain ⟨h1,h2,h3,h4,h5,h6,h7⟩:=readNums_inv l (setV s f.1 x.1) r x.2 M (fun g hg=>ho g (by simp [hg])) hd.2 (setV_in hi f.1 (by omega) (by omega)) h
   obtain ⟨k1,k2,k3,k4,_⟩:=setV_kinds s f.1 (x.1:Int)
   have hv:val r f.1=x.1:=by rw [h2 f.1 (fun g hg=>hd.1 g hg)];exact val_setV (ho f (by simp))
   refine ⟨?_,?_,h3.trans k1,h4.trans k2,h5.trans k3,h6.trans k4,h7⟩
   ·rw [e,List.flatMap_cons,hv,List.append_assoc,<-h1]
    simp
   ·intro p hp
    rw [h2 p (fun g hg=>hp g (by simp [hg]))]
    exact val_other (ho f (by simp)) (fun e=>hp f (by simp) e.symm)
theorem begin_in (k c s:UInt8):InM (beginM (k.toNat:Int) (c.toNat:Int) (s.toNat:Int)):=by
 have h1:=k.toNat_lt
 have h2:=c.toNat_lt
 have h3:=s.toNat_lt
 unfold beginM
 refine ⟨by dsimp only;omega,by dsimp only;omega,by dsimp only;omega,by dsimp only;omega,?_,?_⟩ <;> constructor <;> dsimp only <;> first | omega | (split <;> omega)
theorem readM_inv {L:Bs}{m:PMsg}(h:readM L=(m,0)):okM m=true/\L=formM m/\InM m:=by
 unfold readM at h
 split at h
 ·rename_i m' hp
  split at h
  ·rename_i hok
   obtain rfl:m'=m:=congrArg Prod.fst h
   refine ⟨hok,?_⟩
   clear h
   unfold pMsg at hp
   split at hp
   ·rename_i k c s M
    unfold restM at hp
    cases hr:readNums (fld (beginM (k.toNat:Int) (c.toNat:Int) (s.toNat:Int))) (beginM (k.toNat:Int) (c.toNat:Int) (s.toNat:Int)) M with
    | none=>rw [hr] at hp;cases hp
    | some x =>
     rw [hr] at hp
     simp only [Option.bind_some] at hp
     obtain ⟨r,N⟩:=x
     obtain ⟨h1,_,h3,h4,h5,h6,h7⟩:=readNums_inv _ _ r M N (fun f hf=>(fld_off _ f hf).1) (fld_distinct _) (begin_in k c s) hr
     have key:m'.kind=r.kind/\m'.client=r.client/\m'.ask.kind=r.ask.kind/\m'.tell.kind=r.tell.kind/\(∀o,val m' o=val r o)/\N=lastM m'/\InM m':=by
      unfold lastOf at hp
      dsimp only at hp
      by_cases c1:callsB r=true
      ·rw [if_pos c1] at hp
       split at hp
       ·rename_i hc
        obtain rfl:setOps r (readC N).1=m':=by simpa using hp
        refine ⟨rfl,rfl,rfl,rfl,fun _=>rfl,?_,⟨h7.k0,h7.k1,h7.c0,h7.c1,⟨h7.ask.k0,h7.ask.k1,h7.ask.t0,h7.ask.t1,h7.ask.s0,h7.ask.s1,h7.ask.n0,h7.ask.n1,h7.ask.m0,h7.ask.m1⟩,h7.tell⟩⟩
        unfold lastM
        rw [if_pos (show callsB (setOps r (readC N).1)=true from c1)]
        exact (readC_inv hc).1
       ·cases hp
      ·rw [if_neg c1] at hp
       by_cases c2:answersB r=true
       ·rw [if_pos c2] at hp
        obtain rfl:setAns r N=m':=by simpa using hp
        refine ⟨rfl,rfl,rfl,rfl,fun _=>rfl,?_,⟨h7.k0,h7.k1,h7.c0,h7.c1,h7.ask,⟨h7.tell.k0,h7.tell.k1,h7.tell.t0,h7.tell.t1,h7.tell.s0,h7.tell.s1,h7.tell.n0,h7.tell.n1⟩⟩⟩
        unfold lastM
        rw [if_neg (show ¬callsB (setAns r N)=true from c1),if_pos (show answersB (setAns r N)=true from c2)]
        rfl
       ·rw [if_neg c2] at hp
        split at hp
        ·rename_i hN
         obtain rfl:r=m':=by simpa using hp
         refine ⟨rfl,rfl,rfl,rfl,fun _=>rfl,?_,h7⟩
         unfold lastM
         rw [if_neg c1,if_neg c2,hN]
        ·cases hp
     obtain ⟨g1,g2,g3,g4,g5,g6,g7⟩:=key
     refine ⟨?_,g7⟩
     have e1:m'.kind=(k.toNat:Int):=g1.trans h3
     have e2:m'.client=(c.toNat:Int):=g2.trans h4
     have hk:=(ok_said hok).1
     have e3:saidM m'=(s.toNat:Int):=by
      unfold saidM
      rw [g3,g4,h5,h6,g1,h3]
      unfold beginM
      dsimp only
      split
      ·rfl
      ·rw [if_pos (by omega)]
     have ef:fld (beginM (k.toNat:Int) (c.toNat:Int) (s.toNat:Int))=fld m':=by rw [<-e1,<-e2,<-e3];exact begin_fld m'
     rw [ef] at h1
     unfold formM headM numsM
     rw [e1,e2,e3,h1,<-g6]
     simp [g5]
   ·cases hp
  ·simp at h
 ·simp at h
theorem readM_cases (L:Bs):((readM L).2=0/\okM (readM L).1=true/\L=formM (readM L).1/\InM (readM L).1)\/readM L=(zeroM,4):=by
 by_cases h:(readM L).2=0
 ·exact .inl ⟨h,readM_inv (Prod.ext rfl h)⟩
 ·right
  unfold readM at h ⊢
  cases hp:pMsg L with
  | none=>rfl
  | some m =>
   rw [hp] at h
   dsimp only at h ⊢
   split at h
   ·exact absurd rfl h
   ·rename_i hn;rw [if_neg hn]
end Go.Proofs.YtncbdhdfemidlaaGreat
