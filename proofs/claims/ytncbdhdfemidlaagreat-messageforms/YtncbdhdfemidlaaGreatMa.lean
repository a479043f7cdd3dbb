import Derived.Test.YtncbdhdfemidlaaGreatKdfAll
import Derived.Test.YtncbdhdfemidlaaGreatCallsPe
namespace Go.Proofs.YtncbdhdfemidlaaGreat
open Go.RowKit
open _root_.Go.Proofs.YtncbdhdfemidlaaGreat.Calls _root_.Go.Proofs.YtncbdhdfemidlaaGreat.Command
structure PRep where
 kind:Int
 token:Int
 session:Int
 number:Int
 answer:Bs
deriving DecidableEq
structure PMsg where
 kind:Int
 client:Int
 ask:PCmd
 tell:PRep
deriving DecidableEq
def zeroR:PRep:=⟨0,0,0,0,[]⟩
def zeroM:PMsg:=⟨0,0,zeroC,zeroR⟩
def okR (r:PRep):Bool :=
 if r.kind=1 then decide (1<=r.token/\1<=r.session/\r.number=0/\r.answer=[])
 else if r.kind=2 then decide (1<=r.token/\r.session=0/\r.number=0/\r.answer=[])
 else if r.kind=3 then decide (r.token=0/\1<=r.session/\1<=r.number/\(readR r.answer).2=0)
 else if r.kind=4 then decide (r.token=0/\1<=r.session/\0<=r.number/\r.answer=[])
 else if r.kind=5\/r.kind=6 then decide (r.token=0/\1<=r.session/\1<=r.number/\r.answer=[])
 else if r.kind=7 then decide (r.token=0/\1<=r.session/\r.number=0/\r.answer=[])
 else false
def okM (m:PMsg):Bool :=
 decide (0<=m.client/\m.client<8) &&
  (if m.kind=1 then decide (m.ask.kind≠4) && okC m.ask && decide (m.tell=zeroR)
   else decide (m.kind=2) && okR m.tell && decide (m.ask=zeroC))
def errM (m:PMsg):Int:=if okM m=true then 0 else 2
structure InR (r:PRep):Prop where
 k0:-9223372036854775808<=r.kind
 k1:r.kind<=9223372036854775807
 t0:-9223372036854775808<=r.token
 t1:r.token<=9223372036854775807
 s0:-9223372036854775808<=r.session
 s1:r.session<=9223372036854775807
 n0:-9223372036854775808<=r.number
 n1:r.number<=9223372036854775807
structure InM (m:PMsg):Prop where
 k0:-9223372036854775808<=m.kind
 k1:m.kind<=9223372036854775807
 c0:-9223372036854775808<=m.client
 c1:m.client<=9223372036854775807
 ask:InC m.ask
 tell:InR m.tell
theorem inR_zero:InR zeroR:=by constructor <;> decide
def fldA (k:Int):List (Nat × Int):=if k=1 then [(3,1)] else if k=2 then [(4,1),(5,1),(6,0)] else if k=3 then [(4,1)] else []
def fldT (k:Int):List (Nat × Int):=if k=1 then [(9,1),(10,1)] else if k=2 then [(9,1)] else if k=4 then [(10,1),(11,0)] else if k=3\/k=5\/k=6 then [(10,1),(11,1)] else if k=7 then [(10,1)] else []
def fld (m:PMsg):List (Nat × Int):=if m.kind=1 then fldA m.ask.kind else if m.kind=2 then fldT m.tell.kind else []
def val (m:PMsg)(o:Nat):Int :=
 if o=3 then m.ask.token else if o=4 then m.ask.session else if o=5 then m.ask.number else if o=6 then m.ask.mark
 else if o=9 then m.tell.token else if o=10 then m.tell.session else if o=11 then m.tell.number else 0
def setV (m:PMsg)(o:Nat)(v:Int):PMsg :=
 if o=3 then ⟨m.kind,m.client,⟨m.ask.kind,v,m.ask.session,m.ask.number,m.ask.mark,m.ask.ops⟩,m.tell⟩
 else if o=4 then ⟨m.kind,m.client,⟨m.ask.kind,m.ask.token,v,m.ask.number,m.ask.mark,m.ask.ops⟩,m.tell⟩
 else if o=5 then ⟨m.kind,m.client,⟨m.ask.kind,m.ask.token,m.ask.session,v,m.ask.mark,m.ask.ops⟩,m.tell⟩
 else if o=6 then ⟨m.kind,m.client,⟨m.ask.kind,m.ask.token,m.ask.session,m.ask.number,v,m.ask.ops⟩,m.tell⟩
 else if o=9 then ⟨m.kind,m.client,m.ask,⟨m.tell.kind,v,m.tell.session,m.tell.number,m.tell.answer⟩⟩
 else if o=10 then ⟨m.kind,m.client,m.ask,⟨m.tell.kind,m.tell.token,v,m.tell.number,m.tell.answer⟩⟩
 else if o=11 then ⟨m.kind,m.client,m.ask,⟨m.tell.kind,m.tell.token,m.tell.session,v,m.tell.answer⟩⟩
 else m
def isOff (o:Nat):Prop:=o=3\/o=4\/o=5\/o=6\/o=9\/o=10\/o=11
theorem fldA_off (k:Int):∀f ∈ fldA k,isOff f.1/\(f.2=0\/f.2=1):=by
 unfold fldA isOff
 repeat' split
 all_goals simp
theorem fldT_off (k:Int):∀f ∈ fldT k,isOff f.1/\(f.2=0\/f.2=1):=by
 unfold fldT isOff
 repeat' split
 all_goals simp
theorem fld_off (m:PMsg):∀f ∈ fld m,isOff f.1/\(f.2=0\/f.2=1):=by
 unfold fld
 split
 ·exact fldA_off _
 ·split
  ·exact fldT_off _
  ·simp
theorem fldA_len (k:Int):(fldA k).length<=3:=by
 unfold fldA
 repeat' split
 all_goals decide
theorem fldT_len (k:Int):(fldT k).length<=3:=by
 unfold fldT
 repeat' split
 all_goals decide
theorem fld_len (m:PMsg):(fld m).length<=3:=by
 unfold fld
 split
 ·exact fldA_len _
 ·split
  ·exact fldT_len _
  ·decide
theorem setV_kinds (m:PMsg)(o:Nat)(v:Int):(setV m o v).kind=m.kind/\(setV m o v).client=m.client/\(setV m o v).ask.kind=m.ask.kind/\(setV m o v).tell.kind=m.tell.kind/\(setV m o v).ask.ops=m.ask.ops/\(setV m o v).tell.answer=m.tell.answer:=by
 unfold setV
 repeat' split
 all_goals simp
theorem setV_in {m:PMsg}(h:InM m)(o:Nat){v:Int}(h0:-9223372036854775808<=v)(h1:v<=9223372036854775807):InM (setV m o v):=by
 obtain ⟨k0,k1,c0,c1,⟨a1,a2,a3,a4,a5,a6,a7,a8,a9,a10⟩,⟨t1,t2,t3,t4,t5,t6,t7,t8⟩⟩:=h
 unfold setV
 repeat' split
 all_goals exact ⟨by assumption,by assumption,by assumption,by assumption,⟨by assumption,by assumption,by assumption,by assumption,by assumption,by assumption,by assumption,by assumption,by assumption,by assumption⟩,⟨by assumption,by assumption,by assumption,by assumption,by assumption,by assumption,by assumption,by assumption⟩⟩
theorem val_in {m:PMsg}(h:InM m)(o:Nat):-9223372036854775808<=val m o/\val m o<=9223372036854775807:=by
 obtain ⟨k0,k1,c0,c1,⟨a1,a2,a3,a4,a5,a6,a7,a8,a9,a10⟩,⟨t1,t2,t3,t4,t5,t6,t7,t8⟩⟩:=h
 unfold val
 repeat' split
 all_goals first | exact ⟨by assumption,by assumption⟩ | decide
def callsB (m:PMsg):Bool:=decide (m.kind=1) && decide (m.ask.kind=2)
def answersB (m:PMsg):Bool:=decide (m.kind=2) && decide (m.tell.kind=3)
def saidM (m:PMsg):Int:=if m.kind=1 then m.ask.kind else m.tell.kind
def beginM (k c s:Int):PMsg:=⟨k,c,⟨if k=1 then s else 0,0,0,0,0,[]⟩,⟨if k=2 then s else 0,0,0,0,[]⟩⟩
def setOps (m:PMsg)(l:List POp):PMsg:=⟨m.kind,m.client,⟨m.ask.kind,m.ask.token,m.ask.session,m.ask.number,m.ask.mark,l⟩,m.tell⟩
def setAns (m:PMsg)(b:Bs):PMsg:=⟨m.kind,m.client,m.ask,⟨m.tell.kind,m.tell.token,m.tell.session,m.tell.number,b⟩⟩
def endM (m s:PMsg):PMsg:=if callsB m=true then setOps s m.ask.ops else if answersB m=true then setAns s m.tell.answer else s
def numM (m:PMsg):PMsg:=(fld m).foldl (fun s f=>setV s f.1 (val m f.1)) (beginM m.kind m.client (saidM m))
def namedM (m:PMsg):PMsg:=endM m (numM m)
def leastM (m:PMsg):Bool:=(fld m).all fun f=>decide (f.2<=val m f.1)
def fitsM (m:PMsg):Bool:=leastM m && !(callsB m && decide (m.ask.mark ≥ m.ask.number)) && decide (0<(fld m).length) && decide (0<=m.client) && decide (m.client<8) && decide (m=namedM m)
def backM (m:PMsg):Int:=if callsB m=true then chk m.ask.ops else if answersB m=true then (readR m.tell.answer).2 else 0
def lastM (m:PMsg):Bs:=if callsB m=true then callForm m.ask.ops else if answersB m=true then m.tell.answer else []
def numsM (m:PMsg):Bs:=(fld m).flatMap fun f=>Wire.numForm (val m f.1).toNat
def headM (m:PMsg):Bs:=[UInt8.ofNat m.kind.toNat,UInt8.ofNat m.client.toNat,UInt8.ofNat (saidM m).toNat]
def formM (m:PMsg):Bs:=headM m ++ (numsM m ++ lastM m)
theorem begin_fld (m:PMsg):fld (beginM m.kind m.client (saidM m))=fld m:=by
 unfold fld beginM saidM
 by_cases h1:m.kind=1
 ·simp [h1]
 ·by_cases h2:m.kind=2
  ·simp [h2]
  ·simp [h1,h2]
theorem PRep.ext' {a b:PRep}:a=b<->a.kind=b.kind/\a.token=b.token/\a.session=b.session/\a.number=b.number/\a.answer=b.answer:=by
 constructor
 ·rintro rfl;simp
 ·rintro ⟨h1,h2,h3,h4,h5⟩
  cases a;cases b;simp_all
theorem PMsg.ext' {a b:PMsg}:a=b<->a.kind=b.kind/\a.client=b.client/\a.ask=b.ask/\a.tell=b.tell:=by
 constructor
 ·rintro rfl;simp
 ·rintro ⟨h1,h2,h3,h4⟩
  cases a;cases b;simp_all
end Go.Proofs.YtncbdhdfemidlaaGreat
