import Derived.Test.YtadhfejefpildaaGreatHb
import Derived.Test.YtadhfejefpildaaGreatHd
import Derived.Test.YtadhfejefpildaaGreatGc
namespace Go.Proofs.YtadhfejefpildaaGreat
open Go.RowKit Disk Table
open Go.Proofs.YtadhfejefpildaaGreat.Calls
open Go.Proofs.YtadhfejefpildaaGreat.Command
open Go.Proofs.YtadhfejefpildaaGreat.Frame (Frs)
def appX (X:Option St)(n:Int)(cs:List PCmd):Int × Int × Option St:=match X with
 | none=>(0,1,none)
 | some S=>((appS S n cs).1,(appS S n cs).2.1,some (appS S n cs).2.2)
def cutX (X:Option St)(fs:Frs)(n:Int):Int × Int × Option St:=match X with
 | none=>(0,1,none)
 | some S=>((cutS S fs n).1,(cutS S fs n).2.1,some (cutS S fs n).2.2)
theorem oZ {w w':World}{F:Nat->Prop}(hl:∀k,F k->k<w.heap.size)(hg:w.grownBy w' none):DAQ w F w' (.pointer none) none:=⟨F,rfl,aP hg,fun k hk=>Nat.lt_of_lt_of_le (hl k hk) hg.size⟩
theorem o_ {w w':World}{F:Nat->Prop}(hl:∀k,F k->k<w.heap.size)(hg:w.grownBy w' none):RAQ w F w' (.pointer none) none:=⟨F,rfl,aP hg,fun k hk=>Nat.lt_of_lt_of_le (hl k hk) hg.size⟩
theorem ud (F:Nat->Prop)(v u:Value)(X:Option St)(n:Int)(cs:List PCmd)(w:World)(h:DQ w F v X)(hl:∀k,F k->k<w.heap.size)(hm:Few 9223372036854775806 X)(hc:Cmds w u cs):Calls Tryz.prog 23 #[v,.int .i64 n,u] w fun e w'=>e=.returned (.tuple #[.int .i64 (appX X n cs).1,.int .i64 (appX X n cs).2.1])/\DAQ w F w' v (appX X n cs).2.2:=by
 cases X with
 | none =>
  obtain ⟨ao,cap,rfl,_⟩:=hc
  obtain rfl:v=.pointer none:=h
  exact (lm ao _ cap n w).mono fun e w' ⟨h1,h2⟩=>⟨h1,oZ hl h2⟩
 | some S=>exact (jA F v u S n cs w h (Nat.lt_of_le_of_lt (hm S rfl) (by decide)) hc).mono fun e w' hp=>⟨(oY h hp).1,(oY h hp).2.q⟩
theorem ue (F:Nat->Prop)(v u:Value)(X:Option St)(n:Int)(cs:List PCmd)(w:World)(h:RQ w F v X)(hl:∀k,F k->k<w.heap.size)(hm:Few 9223372036854775806 X)(hc:Cmds w u cs):Calls Tryz.prog 24 #[v,.int .i64 n,u] w fun e w'=>e=.returned (.tuple #[.int .i64 (appX X n cs).1,.int .i64 (appX X n cs).2.1])/\RAQ w F w' v (appX X n cs).2.2:=by
 cases X with
 | none =>
  obtain ⟨ao,cap,rfl,_⟩:=hc
  obtain rfl:v=.pointer none:=h
  exact (lo ao _ cap n w).mono fun e w' ⟨h1,h2⟩=>⟨h1,o_ hl h2⟩
 | some S=>exact (sr F v u S n cs w h (Nat.lt_of_le_of_lt (hm S rfl) (by decide)) hc).mono fun e w' hp=>⟨hp.1,hp.2.q⟩
theorem cutD (F:Nat->Prop)(v:Value)(X:Option St)(fs:Frs)(R:Bs)(n:Int)(w:World)(h:DQ w F v X)(hl:∀k,F k->k<w.heap.size)(hm:Few 9223372036854775806 X)(hs:∀S,X=some S->Frame.Sc S.log fs R/\S.log.length<=1048576):Calls Tryz.prog 25 #[v,.int .i64 n] w fun e w'=>e=.returned (.tuple #[.int .i64 (cutX X fs n).1,.int .i64 (cutX X fs n).2.1])/\DAQ w F w' v (cutX X fs n).2.2:=by
 cases X with
 | none =>
  obtain rfl:v=.pointer none:=h
  exact (qg n w).mono fun e w' ⟨h1,h2⟩=>⟨h1,oZ hl h2⟩
 | some S=>exact (ww F v S fs R n w h (Nat.lt_of_le_of_lt (hm S rfl) (by decide)) (hs S rfl).1 (Nat.le_trans (hs S rfl).2 (by decide))).mono fun e w' hp=>⟨hp.1,hp.2.q⟩
theorem cutR (F:Nat->Prop)(v:Value)(X:Option St)(fs:Frs)(R:Bs)(n:Int)(w:World)(h:RQ w F v X)(hl:∀k,F k->k<w.heap.size)(hm:Few 9223372036854775806 X)(hs:∀S,X=some S->Frame.Sc S.log fs R/\S.log.length<=1048576):Calls Tryz.prog 26 #[v,.int .i64 n] w fun e w'=>e=.returned (.tuple #[.int .i64 (cutX X fs n).1,.int .i64 (cutX X fs n).2.1])/\RAQ w F w' v (cutX X fs n).2.2:=by
 cases X with
 | none =>
  obtain rfl:v=.pointer none:=h
  exact (qh n w).mono fun e w' ⟨h1,h2⟩=>⟨h1,o_ hl h2⟩
 | some S=>exact (wA F v S fs R n w h (Nat.lt_of_le_of_lt (hm S rfl) (by decide)) (hs S rfl).1 (hs S rfl).2).mono fun e w' hp=>⟨hp.1,hp.2.q⟩
def newX (c:Int):Option St:=if c<1\/1048576<c then none else some (St.of c.toNat [] [])
theorem newD (c:Int)(w:World):Calls Tryz.prog 21 #[.int .i64 c] w fun e w'=>∃d,e=.returned (.tuple #[d,.int .i64 (if (newX c).isNone then 2 else 0)])/\DNQ w w' d (newX c):=by
 by_cases hb:c<1\/1048576<c
 ·have hX:newX c=none:=by unfold newX;rw [if_pos hb]
  have HX:Hid (newX c=none/\(c<1\/1048576<c)):=⟨hX,hb⟩
  rw [hX]
  show Calls Tryz.prog 21 #[.int .i64 c] w fun e w'=>∃d,e=.returned (.tuple #[d,.int .i64 2])/\DNQ w w' d none
  clear hX hb
  go_enter Tryz.func21,Tryz.ntmps21
  go_wp2_with fail
  refine (tN c _ _ [] [] w (cG _) (fI _) (by have:=HX.out.2;omega)).mono ?_
  rintro e w1 ⟨rfl,g1⟩
  have HG:Hid (w.grownBy w1 none):=g1
  clear g1
  go_wp2_with fail
  go_ret2
  exact ⟨_,rfl,HG.out,fun _=>False,rfl,fun _ h=>h.elim,fun _ h=>h.elim⟩
 ·have hX:newX c=some (St.of c.toNat [] []):=by unfold newX;rw [if_neg hb]
  rw [hX]
  have hc:c=((c.toNat:Nat):Int):=by omega
  have:=uA c.toNat w (by omega) (by omega)
  rw [<-hc] at this
  exact this.mono fun e w' ⟨p,h1,h2⟩=>⟨p,h1,h2.q⟩
theorem newR (c:Int)(w:World):Calls Tryz.prog 22 #[.int .i64 c,.slice none 0 0,.slice none 0 0] w fun e w'=>∃d,e=.returned d/\RNQ w w' d (newX c):=by
 by_cases hb:c<1\/1048576<c
 ·have hX:newX c=none:=by unfold newX;rw [if_pos hb]
  rw [hX]
  exact (rQ c _ _ [] [] w (cG _) (fI _) (by omega)).mono fun e w' ⟨h1,h2⟩=>⟨_,h1,by rw [h2];exact aj _ _,fun _=>False,rfl,fun _ h=>h.elim,fun _ h=>h.elim⟩
 ·have hX:newX c=some (St.of c.toNat [] []):=by unfold newX;rw [if_neg hb]
  rw [hX]
  have hc:c=((c.toNat:Nat):Int):=by omega
  have:=vr c.toNat (.slice none 0 0) (.slice none 0 0) [] w (cG _) (fI _) (by omega) (by omega) (by simp)
  rw [<-hc] at this
  exact this.mono fun e w' ⟨p,h1,h2⟩=>⟨p,h1,h2.q⟩
def QOk (m:Nat)(X:Option St):Prop:=Few m X/\∀S,X=some S->S.log.length<=S.cap
theorem QOk.map {m:Nat}{X:Option St}{f:St->St}(h:QOk m X)(h1:∀S,(f S).steps<=S.steps+1)(h2:∀S,S.log.length<=S.cap->(f S).log.length<=(f S).cap):QOk (m+1) (X.map f):=by
 refine ⟨h.1.map h1,?_⟩
 cases X with
 | none=>intro S hS;cases hS
 | some S=>intro T hT;cases hT;exact h2 S (h.2 S rfl)
theorem QOk.mono {m n:Nat}{X:Option St}(h:QOk m X)(hmn:m<=n):QOk n X:=⟨h.1.mono hmn,h.2⟩
theorem kB (S:St)(M:Bs)(h:S.log.length<=S.cap):(S.write M).log.length<=(S.write M).cap:=by
 unfold St.write
 by_cases hf:S.full M=true
 ·rw [if_pos hf]
  exact h
 ·rw [if_neg hf]
  unfold St.full at hf
  simp at hf
  show (S.log ++ M).length<=S.cap
  rw [List.length_append]
  omega
theorem sw (S:St)(n:Int)(h:S.log.length<=S.cap):(S.drop n).log.length<=(S.drop n).cap:=by
 unfold St.drop
 by_cases hf:S.dropBad n=true
 ·rw [if_pos hf]
  exact h
 ·rw [if_neg hf]
  show (S.log.drop n.toNat).length<=S.cap
  rw [List.length_drop]
  omega
theorem sA (S:St)(n:Int)(h:S.log.length<=S.cap):(S.stop n).log.length<=(S.stop n).cap:=by
 show (S.log.take (S.keeps n)).length<=S.cap
 rw [List.length_take]
 omega
theorem uh {m:Nat}{X:Option St}{n:Int}{cs:List PCmd}(h:QOk m X):QOk (m+1) (appX X n cs).2.2:=by
 cases X with
 | none=>exact ⟨fun S hS=>(by cases hS),fun S hS=>(by cases hS)⟩
 | some S =>
  have h1:=h.1 S rfl
  have h2:=h.2 S rfl
  have key:(appS S n cs).2.2.steps<=m+1/\(appS S n cs).2.2.log.length<=(appS S n cs).2.2.cap:=by
   unfold appS
   split
   ·show (if _ then S else S.write _).steps<=m+1/\(if _ then S else S.write _).log.length<=(if _ then S else S.write _).cap
    split
    ·exact ⟨by omega,h2⟩
    ·exact ⟨Nat.le_trans (iN S _) (by omega),kB S _ h2⟩
   ·exact ⟨by show S.steps<=m+1;omega,h2⟩
  exact ⟨fun T hT=>(by cases hT;exact key.1),fun T hT=>(by cases hT;exact key.2)⟩
theorem ui {m:Nat}{X:Option St}{n:Int}{fs:Frs}(h:QOk m X):QOk (m+1) (cutX X fs n).2.2:=by
 cases X with
 | none=>exact ⟨fun S hS=>(by cases hS),fun S hS=>(by cases hS)⟩
 | some S =>
  have h1:=h.1 S rfl
  have h2:=h.2 S rfl
  have key:(cutS S fs n).2.2.steps<=m+1/\(cutS S fs n).2.2.log.length<=(cutS S fs n).2.2.cap:=by
   unfold cutS
   split
   ·exact ⟨by show S.steps<=m+1;omega,h2⟩
   ·split
    ·exact ⟨by show S.steps<=m+1;omega,h2⟩
    ·show (if _ then S else S.drop _).steps<=m+1/\(if _ then S else S.drop _).log.length<=(if _ then S else S.drop _).cap
     split
     ·exact ⟨by omega,h2⟩
     ·exact ⟨Nat.le_trans (nJ S _) (by omega),sw S _ h2⟩
  exact ⟨fun T hT=>(by cases hT;exact key.1),fun T hT=>(by cases hT;exact key.2)⟩
theorem uj (c:Int):QOk 0 (newX c):=by
 unfold newX
 split
 ·exact ⟨fun S hS=>(by cases hS),fun S hS=>(by cases hS)⟩
 ·exact ⟨fun S hS=>(by cases hS;exact Nat.le_refl _),fun S hS=>(by cases hS;exact Nat.zero_le _)⟩
theorem qi {w:World}{G:Nat->Prop}{v:Value}{X:Option St}(h:RQ w G v X)(x:World):(binOp .eql 64 v (.pointer none)).run Tryz.prog x=.ok (.bool X.isNone) x:=by
 rcases h.isNil with ⟨rfl,rfl⟩ | ⟨S,b,rfl,rfl⟩ <;> kernel_rfl
theorem qj {w:World}{G:Nat->Prop}{v:Value}{X:Option St}(h:DQ w G v X)(x:World):(binOp .eql 61 v (.pointer none)).run Tryz.prog x=.ok (.bool X.isNone) x:=by
 rcases h.isNil with ⟨rfl,rfl⟩ | ⟨S,b,rfl,rfl⟩ <;> kernel_rfl
theorem lq (t:TypeId)(x y:Operand)(v:Value):eqGuard .eql t x y v (.pointer none)=pure ():=by cases v <;> rfl
structure WStep where
 kind:Int
 first:Int
 cs:List PCmd
 n:Int
 data:Bs
def ii (w:World)(b off:Nat)(c1:Option Addr)(c2 c3:Nat)(d1:Option Addr)(d2 d3:Nat)(s:WStep):Prop:=w.cell? ⟨b,off,none⟩=some (.int .i64 s.kind)/\w.cell? ⟨b,off+1,none⟩=some (.int .i64 s.first)/\w.cell? ⟨b,off+2,none⟩=some (.slice c1 c2 c3)/\w.cell? ⟨b,off+3,none⟩=some (.int .i64 s.n)/\w.cell? ⟨b,off+4,none⟩=some (.slice d1 d2 d3)
theorem ii.grown {w w':World}{b off:Nat}{c1:Option Addr}{c2 c3:Nat}{d1:Option Addr}{d2 d3:Nat}{s:WStep}(h:ii w b off c1 c2 c3 d1 d2 d3 s)(hg:w.grownBy w' none):ii w' b off c1 c2 c3 d1 d2 d3 s:=⟨hg.cell h.1 (by simp),hg.cell h.2.1 (by simp),hg.cell h.2.2.1 (by simp),hg.cell h.2.2.2.1 (by simp),hg.cell h.2.2.2.2 (by simp)⟩
def lr (w:World)(v:Value)(L:List WStep):Prop:=∃ao cap,v=.slice ao L.length cap/\L.length<=cap/\cap<=9223372036854775807/\L.length<=2199023255488/\∀j (hj:j<L.length),∃b off c1 c2 c3 d1 d2 d3,ao=some ⟨b,off,none⟩/\ii w b (off+j*5) c1 c2 c3 d1 d2 d3 L[j]/\Cmds w (.slice c1 c2 c3) L[j].cs/\Seg w (.slice d1 d2 d3) L[j].data/\-9223372036854775808<=L[j].n/\L[j].n<=9223372036854775807
theorem qk (L:Bs)(fs:Frs)(R:Bs)(hsc:Frame.Sc L fs R)(hL:L.length<=1048576):∃(E:List PEnt) (g n y er:Int),E.length<=4398046511104/\∀w x w',EntP L fs R w x w'->∃ao k cap,x=.returned (.tuple #[.agg #[.slice ao k cap,.int .i64 g,.int .i64 n,.int .i64 y],.int .i64 er])/\Ents w' (.slice ao k cap) E/\w.grownBy w' none:=by
 have hc:=hsc.count
 have hle:=cP fs 0
 cases h:(az 0 fs).2 with
 | true =>
  refine ⟨(az 0 fs).1,((Frame.flat fs).length:Nat),(L.length:Nat),(Frame.ends R:Nat),0,by omega,fun w x w' hp=>?_⟩
  obtain ⟨hg,⟨_,v,rfl,he⟩ | ⟨h',_⟩⟩:=hp
  ·obtain ⟨ao,cap,e⟩:=LRow.shape he
   exact ⟨ao,_,cap,by rw [e],by rw [<-e];exact he.ents,hg⟩
  ·rw [h] at h';cases h'
 | false =>
  refine ⟨[],0,0,0,8,by simp,fun w x w' hp=>?_⟩
  obtain ⟨hg,⟨h',_⟩ | ⟨_,rfl⟩⟩:=hp
  ·rw [h] at h';cases h'
  ·exact ⟨none,0,0,rfl,(iD w' 0).ents,hg⟩
theorem uk (X:Option St):∃fs R,∀S,X=some S->Frame.Sc S.log fs R:=by
 cases X with
 | none=>exact ⟨[],[],fun S hS=>by cases hS⟩
 | some S =>
  obtain ⟨fs,R,h⟩:=Frame.eU _ S.log (Nat.le_refl _)
  exact ⟨fs,R,fun T hT=>by cases hT;exact h⟩
end Go.Proofs.YtadhfejefpildaaGreat
