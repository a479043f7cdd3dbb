import Derived.Test.YtanoabliahcbeaaGreatCallsSm
set_option maxHeartbeats 4000000
set_option maxRecDepth 100000
namespace Go.Proofs.YtanoabliahcbeaaGreat.Command
open Go.RowKit
open _root_.Go.Proofs.YtanoabliahcbeaaGreat.Calls
theorem chk0 {l:List POp}(h:chk l=0):mayCall l=true/\(callForm l).length<=4096:=by
 unfold chk at h
 split at h
 ·split at h
  ·exact ⟨by assumption,by assumption⟩
  ·omega
 ·omega
structure PCmd where
 kind:Int
 token:Int
 session:Int
 number:Int
 mark:Int
 ops:List POp
deriving DecidableEq
def zeroC:PCmd:=⟨0,0,0,0,0,[]⟩
def namedC (c:PCmd):PCmd :=
 if c.kind=1 then ⟨c.kind,c.token,0,0,0,[]⟩
 else if c.kind=2 then ⟨c.kind,0,c.session,c.number,c.mark,c.ops⟩
 else if c.kind=3\/c.kind=4 then ⟨c.kind,0,c.session,0,0,[]⟩
 else ⟨c.kind,0,0,0,0,[]⟩
def idC (c:PCmd):Option Int:=if c.kind=1 then some c.token else if c.kind=2\/c.kind=3\/c.kind=4 then some c.session else none
def idOk (c:PCmd):Bool:=match idC c with | some n=>decide (1<=n) | none=>false
def markOk (c:PCmd):Bool:=decide (c.kind=2->0<=c.mark/\c.mark<c.number)
def fitC (c:PCmd):Bool:=idOk c && markOk c && decide (c=namedC c)
def okC (c:PCmd):Bool:=fitC c && decide (c.kind=2->chk c.ops=0)
def chkC (c:PCmd):Int:=if okC c=true then 0 else 2
structure InC (c:PCmd):Prop where
 k0:-9223372036854775808<=c.kind
 k1:c.kind<=9223372036854775807
 t0:-9223372036854775808<=c.token
 t1:c.token<=9223372036854775807
 s0:-9223372036854775808<=c.session
 s1:c.session<=9223372036854775807
 n0:-9223372036854775808<=c.number
 n1:c.number<=9223372036854775807
 m0:-9223372036854775808<=c.mark
 m1:c.mark<=9223372036854775807
theorem inC_zero:InC zeroC:=by constructor <;> decide
def sgn (n:Int):Bs:=Wire.numForm (Wire.foldZ n)
def headC (c:PCmd):Bs:=Wire.numForm c.kind.toNat
def numsC (c:PCmd):List Int:=if c.kind=1 then [c.token] else if c.kind=2 then [c.session,c.number,c.mark] else if c.kind=3\/c.kind=4 then [c.session] else []
def frontC (c:PCmd):Bs:=headC c ++ (numsC c).flatMap sgn
def formC (c:PCmd):Bs:=frontC c ++ (if c.kind=2 then bytesForm (callForm c.ops) else [])
theorem okC_fit {c:PCmd}(h:okC c=true):fitC c=true:=by unfold okC at h;simp only [Bool.and_eq_true] at h;exact h.1
theorem okC_chk {c:PCmd}(h:okC c=true)(hk:c.kind=2):chk c.ops=0:=by unfold okC at h;simp only [Bool.and_eq_true,decide_eq_true_eq] at h;exact h.2 hk
theorem fitC_kind {c:PCmd}(h:fitC c=true):1<=c.kind/\c.kind<=4:=by
 unfold fitC idOk idC at h
 simp only [Bool.and_eq_true] at h
 have h1:=h.1.1
 split at h1
 ·rename_i n hn
  split at hn
  ·omega
  ·split at hn
   ·omega
   ·cases hn
 ·cases h1
theorem fitC_named {c:PCmd}(h:fitC c=true):c=namedC c:=by unfold fitC at h;simp only [Bool.and_eq_true,decide_eq_true_eq] at h;exact h.2
def pSgn (L:Bs):Option (Int × Bs):=(pNum 18446744073709551615 L).map fun x=>(Wire.unfoldZ x.1,x.2)
def finC (c:PCmd)(M:Bs):Option PCmd:=if M=[]/\okC c=true then some c else none
def pCmd (L:Bs):Option PCmd:=(pNum 4 L).bind fun k =>
 if k.1=1 then (pSgn k.2).bind fun t=>finC ⟨1,t.1,0,0,0,[]⟩ t.2
 else if k.1=2 then (pSgn k.2).bind fun s=>(pSgn s.2).bind fun n=>(pSgn n.2).bind fun m=>(pBytes 4096 m.2).bind fun b=>(pCall b.1).bind fun l=>finC ⟨2,0,s.1,n.1,m.1,l⟩ b.2
 else if k.1=3\/k.1=4 then (pSgn k.2).bind fun s=>finC ⟨k.1,0,s.1,0,0,[]⟩ s.2
 else none
theorem pSgn_form {n:Int}(h0:-9223372036854775808<=n)(h1:n<=9223372036854775807)(M:Bs):pSgn (sgn n ++ M)=some (n,M):=by
 unfold pSgn sgn
 have:=Wire.foldZ_lt n h0 h1
 rw [pNum_form (by omega) (by decide)]
 simp [Wire.unfold_fold]
theorem pCmd_form {c:PCmd}(h:okC c=true)(hi:InC c):pCmd (formC c)=some c:=by
 have hk:=fitC_kind (okC_fit h)
 have hn:=fitC_named (okC_fit h)
 unfold pCmd formC frontC headC numsC
 by_cases h1:c.kind=1
 ·have e:c=⟨1,c.token,0,0,0,[]⟩:=by rw [hn,namedC,if_pos h1];simp [h1]
  rw [if_pos h1,if_neg (by omega),h1]
  simp only [List.flatMap_cons,List.flatMap_nil,List.append_nil]
  rw [pNum_form (by decide) (by decide)]
  simp only [Option.bind_some]
  rw [if_pos (by decide)]
  have:=pSgn_form hi.t0 hi.t1 []
  rw [List.append_nil] at this
  rw [this]
  simp only [Option.bind_some]
  rw [<-e,finC,if_pos ⟨rfl,h⟩]
 ·rw [if_neg h1]
  by_cases h2:c.kind=2
  ·have e:c=⟨2,0,c.session,c.number,c.mark,c.ops⟩:=by rw [hn,namedC,if_neg h1,if_pos h2];simp [h2]
   rw [if_pos h2,if_pos h2,h2]
   simp only [List.flatMap_cons,List.flatMap_nil,List.append_nil,List.append_assoc]
   rw [pNum_form (by decide) (by decide)]
   simp only [Option.bind_some]
   rw [if_neg (by decide),if_pos (by decide),pSgn_form hi.s0 hi.s1]
   simp only [Option.bind_some]
   rw [pSgn_form hi.n0 hi.n1]
   simp only [Option.bind_some]
   rw [pSgn_form hi.m0 hi.m1]
   simp only [Option.bind_some]
   have hc:=okC_chk h h2
   have hb:=pBytes_form (b:=callForm c.ops) (most:=4096) (chk0 hc).2 (by decide) []
   rw [List.append_nil] at hb
   rw [hb]
   simp only [Option.bind_some]
   rw [pCall_iff.2 ⟨(chk0 hc).1,rfl⟩]
   simp only [Option.bind_some]
   rw [<-e,finC,if_pos ⟨rfl,h⟩]
  ·have h3:c.kind=3\/c.kind=4:=by omega
   have e:c=⟨c.kind,0,c.session,0,0,[]⟩:=by rw [hn,namedC,if_neg h1,if_neg h2,if_pos h3]
   rw [if_neg h2,if_pos h3,if_neg h2]
   simp only [List.flatMap_cons,List.flatMap_nil,List.append_nil]
   rw [pNum_form (by omega) (by decide)]
   simp only [Option.bind_some]
   rw [if_neg (by omega),if_neg (by omega),if_pos (by omega)]
   have:=pSgn_form hi.s0 hi.s1 []
   rw [List.append_nil] at this
   rw [this]
   simp only [Option.bind_some]
   rw [show ((c.kind.toNat:Nat):Int)=c.kind by omega,<-e,finC,if_pos ⟨rfl,h⟩]
def readM (b:Bs):PCmd × Int:=match pCmd b with | some c=>(c,0) | none=>(zeroC,4)
theorem readM_form {c:PCmd}(h:okC c=true)(hi:InC c):readM (formC c)=(c,0):=by unfold readM;rw [pCmd_form h hi]
end Go.Proofs.YtanoabliahcbeaaGreat.Command
namespace Go.Proofs.YtanoabliahcbeaaGreat.Command
open Go.RowKit Disk
open _root_.Go.Proofs.YtanoabliahcbeaaGreat.Calls
def cmdV (ov:Value)(c:PCmd):Value:=.agg #[.int .i64 c.kind,.int .i64 c.token,.int .i64 c.session,.int .i64 c.number,.int .i64 c.mark,ov]
def cmdA (ov:Value)(c:PCmd):Array Value:=#[.int .i64 c.kind,.int .i64 c.token,.int .i64 c.session,.int .i64 c.number,.int .i64 c.mark,ov]
def CB (w:World)(b:Nat)(ov:Value)(c:PCmd):Prop:=Blk w b 39 (cmdA ov c)
def pt (b i:Nat):Value:=.pointer (some ⟨b,i,none⟩)
theorem CB.cells {w:World}{b:Nat}{ov:Value}{c:PCmd}(h:CB w b ov c):w.cell? ⟨b,0,none⟩=some (.int .i64 c.kind)/\w.cell? ⟨b,1,none⟩=some (.int .i64 c.token)/\w.cell? ⟨b,2,none⟩=some (.int .i64 c.session)/\w.cell? ⟨b,3,none⟩=some (.int .i64 c.number)/\w.cell? ⟨b,4,none⟩=some (.int .i64 c.mark)/\w.cell? ⟨b,5,none⟩=some ov:=by
 have q:=fun j=>Blk.cell h j
 exact ⟨q 0,q 1,q 2,q 3,q 4,q 5⟩
theorem CB.grown {w w':World}{b:Nat}{ov:Value}{c:PCmd}(h:CB w b ov c)(hg:w.grownBy w' none):CB w' b ov c:=Blk.grown h hg (by simp)
theorem CB.lt {w:World}{b:Nat}{ov:Value}{c:PCmd}(h:CB w b ov c):b<w.heap.size:=Blk.lt h
theorem PCmd.ext' {a b:PCmd}:a=b<->a.kind=b.kind/\a.token=b.token/\a.session=b.session/\a.number=b.number/\a.mark=b.mark/\a.ops=b.ops:=by
 constructor
 ·rintro rfl;simp
 ·rintro ⟨h1,h2,h3,h4,h5,h6⟩
  cases a;cases b;simp_all
theorem g2 (w:World)(x y:Obj):w.grownBy ((w.alloc x).alloc y) none:=grown_trans (World.grownBy_alloc _ _ none) (World.grownBy_alloc _ _ none)
theorem same24 (u v:Value)(a b:PCmd)(w:World)(ha:Ops w u a.ops)(hb:Ops w v b.ops) :
  Calls Tryz.prog 156 #[cmdV u a,cmdV v b] w fun e w'=>e=.returned (.bool (decide (a=b)))/\w.grownBy w' none:=by
 unfold cmdV
 obtain ⟨ao,n,ca,rfl,hn,_,HA⟩:=ops_open ha
 obtain ⟨bo,m,cb,rfl,hm,_,HB⟩:=ops_open hb
 clear ha hb hn hm
 have HS:Hid (∀x y,Calls Tryz.prog 182 #[.agg #[.slice ao n ca],.agg #[.slice bo m cb]] ((w.alloc x).alloc y) fun e w'=>e=.returned (.bool (decide (a.ops=b.ops)))/\((w.alloc x).alloc y).grownBy w' none):=fun x y=>same34 _ _ a.ops b.ops _ (HA.out.grown (g2 _ _ _)) (HB.out.grown (g2 _ _ _))
 clear HA HB
 obtain ⟨a0,ha0⟩:∃x,a.kind=x:=⟨_,rfl⟩
 obtain ⟨a1,ha1⟩:∃x,a.token=x:=⟨_,rfl⟩
 obtain ⟨a2,ha2⟩:∃x,a.session=x:=⟨_,rfl⟩
 obtain ⟨a3,ha3⟩:∃x,a.number=x:=⟨_,rfl⟩
 obtain ⟨a4,ha4⟩:∃x,a.mark=x:=⟨_,rfl⟩
 obtain ⟨b0,hb0⟩:∃x,b.kind=x:=⟨_,rfl⟩
 obtain ⟨b1,hb1⟩:∃x,b.token=x:=⟨_,rfl⟩
 obtain ⟨b2,hb2⟩:∃x,b.session=x:=⟨_,rfl⟩
 obtain ⟨b3,hb3⟩:∃x,b.number=x:=⟨_,rfl⟩
 obtain ⟨b4,hb4⟩:∃x,b.mark=x:=⟨_,rfl⟩
 have HE:Hid ((a=b)<->(a0=b0/\a1=b1/\a2=b2/\a3=b3/\a4=b4/\a.ops=b.ops)):=by unfold Hid;rw [PCmd.ext',ha0,ha1,ha2,ha3,ha4,hb0,hb1,hb2,hb3,hb4]
 rw [ha0,ha1,ha2,ha3,ha4,hb0,hb1,hb2,hb3,hb4]
 obtain ⟨so,hso⟩:∃x,decide (a.ops=b.ops)=x:=⟨_,rfl⟩
 rw [hso] at HS
 have HO:Hid (decide (a.ops=b.ops)=so):=hso
 clear hso ha0 ha1 ha2 ha3 ha4 hb0 hb1 hb2 hb3 hb4
 by_cases e0:a0=b0
 rotate_left
 ·have q0:(a0==b0)=false:=by simp [e0]
  have N0:Hid (¬a0=b0):=e0
  clear e0
  go_enter Tryz.func156,Tryz.ntmps156
  go_wp2_with fail
  go_ret
  refine ⟨?_,g2 _ _ _⟩
  have:¬a=b:=fun h=>N0.out (HE.out.1 h).1
  simp [this]
 subst e0
 by_cases e1:a1=b1
 rotate_left
 ·have q1:(a1==b1)=false:=by simp [e1]
  have N1:Hid (¬a1=b1):=e1
  clear e1
  go_enter Tryz.func156,Tryz.ntmps156
  go_wp2_with fail
  go_ret
  refine ⟨?_,g2 _ _ _⟩
  have:¬a=b:=fun h=>N1.out (HE.out.1 h).2.1
  simp [this]
 subst e1
 by_cases e2:a2=b2
 rotate_left
 ·have q2:(a2==b2)=false:=by simp [e2]
  have N2:Hid (¬a2=b2):=e2
  clear e2
  go_enter Tryz.func156,Tryz.ntmps156
  go_wp2_with fail
  go_ret
  refine ⟨?_,g2 _ _ _⟩
  have:¬a=b:=fun h=>N2.out (HE.out.1 h).2.2.1
  simp [this]
 subst e2
 by_cases e3:a3=b3
 rotate_left
 ·have q3:(a3==b3)=false:=by simp [e3]
  have N3:Hid (¬a3=b3):=e3
  clear e3
  go_enter Tryz.func156,Tryz.ntmps156
  go_wp2_with fail
  go_ret
  refine ⟨?_,g2 _ _ _⟩
  have:¬a=b:=fun h=>N3.out (HE.out.1 h).2.2.2.1
  simp [this]
 subst e3
 by_cases e4:a4=b4
 rotate_left
 ·have q4:(a4==b4)=false:=by simp [e4]
  have N4:Hid (¬a4=b4):=e4
  clear e4
  go_enter Tryz.func156,Tryz.ntmps156
  go_wp2_with fail
  go_ret
  refine ⟨?_,g2 _ _ _⟩
  have:¬a=b:=fun h=>N4.out (HE.out.1 h).2.2.2.2.1
  simp [this]
 subst e4
 go_enter Tryz.func156,Tryz.ntmps156
 go_wp2_with (go_at_call 182;refine (HS.out _ _).mono ?_;rintro e w1 ⟨rfl,hg1⟩)
 go_ret
 refine ⟨?_,grown_trans (g2 _ _ _) hg1⟩
 refine congrArg (fun x=>Ending.returned (Value.bool x)) ?_
 rw [<-HO.out]
 by_cases h:a.ops=b.ops
 ·have:a=b:=HE.out.2 (by simp [h])
  simp [this]
 ·have:¬a=b:=fun e=>h (HE.out.1 e).2.2.2.2.2
  simp [this,h]
theorem same16 (u v:Value)(a b:PCmd)(w:World)(ha:Ops w u a.ops)(hb:Ops w v b.ops) :
  Calls Tryz.prog 67 #[cmdV u a,cmdV v b] w fun e w'=>e=.returned (.bool (decide (a=b)))/\w.grownBy w' none:=by
 unfold cmdV
 obtain ⟨ao,n,ca,rfl,hn,_,HA⟩:=ops_open ha
 obtain ⟨bo,m,cb,rfl,hm,_,HB⟩:=ops_open hb
 clear ha hb hn hm
 have HS:Hid (∀x y,Calls Tryz.prog 94 #[.agg #[.slice ao n ca],.agg #[.slice bo m cb]] ((w.alloc x).alloc y) fun e w'=>e=.returned (.bool (decide (a.ops=b.ops)))/\((w.alloc x).alloc y).grownBy w' none):=fun x y=>same19 _ _ a.ops b.ops _ (HA.out.grown (g2 _ _ _)) (HB.out.grown (g2 _ _ _))
 clear HA HB
 obtain ⟨a0,ha0⟩:∃x,a.kind=x:=⟨_,rfl⟩
 obtain ⟨a1,ha1⟩:∃x,a.token=x:=⟨_,rfl⟩
 obtain ⟨a2,ha2⟩:∃x,a.session=x:=⟨_,rfl⟩
 obtain ⟨a3,ha3⟩:∃x,a.number=x:=⟨_,rfl⟩
 obtain ⟨a4,ha4⟩:∃x,a.mark=x:=⟨_,rfl⟩
 obtain ⟨b0,hb0⟩:∃x,b.kind=x:=⟨_,rfl⟩
 obtain ⟨b1,hb1⟩:∃x,b.token=x:=⟨_,rfl⟩
 obtain ⟨b2,hb2⟩:∃x,b.session=x:=⟨_,rfl⟩
 obtain ⟨b3,hb3⟩:∃x,b.number=x:=⟨_,rfl⟩
 obtain ⟨b4,hb4⟩:∃x,b.mark=x:=⟨_,rfl⟩
 have HE:Hid ((a=b)<->(a0=b0/\a1=b1/\a2=b2/\a3=b3/\a4=b4/\a.ops=b.ops)):=by unfold Hid;rw [PCmd.ext',ha0,ha1,ha2,ha3,ha4,hb0,hb1,hb2,hb3,hb4]
 rw [ha0,ha1,ha2,ha3,ha4,hb0,hb1,hb2,hb3,hb4]
 obtain ⟨so,hso⟩:∃x,decide (a.ops=b.ops)=x:=⟨_,rfl⟩
 rw [hso] at HS
 have HO:Hid (decide (a.ops=b.ops)=so):=hso
 clear hso ha0 ha1 ha2 ha3 ha4 hb0 hb1 hb2 hb3 hb4
 by_cases e0:a0=b0
 rotate_left
 ·have q0:(a0==b0)=false:=by simp [e0]
  have N0:Hid (¬a0=b0):=e0
  clear e0
  go_enter Tryz.func67,Tryz.ntmps67
  go_wp2_with fail
  go_ret
  refine ⟨?_,g2 _ _ _⟩
  have:¬a=b:=fun h=>N0.out (HE.out.1 h).1
  simp [this]
 subst e0
 by_cases e1:a1=b1
 rotate_left
 ·have q1:(a1==b1)=false:=by simp [e1]
  have N1:Hid (¬a1=b1):=e1
  clear e1
  go_enter Tryz.func67,Tryz.ntmps67
  go_wp2_with fail
  go_ret
  refine ⟨?_,g2 _ _ _⟩
  have:¬a=b:=fun h=>N1.out (HE.out.1 h).2.1
  simp [this]
 subst e1
 by_cases e2:a2=b2
 rotate_left
 ·have q2:(a2==b2)=false:=by simp [e2]
  have N2:Hid (¬a2=b2):=e2
  clear e2
  go_enter Tryz.func67,Tryz.ntmps67
  go_wp2_with fail
  go_ret
  refine ⟨?_,g2 _ _ _⟩
  have:¬a=b:=fun h=>N2.out (HE.out.1 h).2.2.1
  simp [this]
 subst e2
 by_cases e3:a3=b3
 rotate_left
 ·have q3:(a3==b3)=false:=by simp [e3]
  have N3:Hid (¬a3=b3):=e3
  clear e3
  go_enter Tryz.func67,Tryz.ntmps67
  go_wp2_with fail
  go_ret
  refine ⟨?_,g2 _ _ _⟩
  have:¬a=b:=fun h=>N3.out (HE.out.1 h).2.2.2.1
  simp [this]
 subst e3
 by_cases e4:a4=b4
 rotate_left
 ·have q4:(a4==b4)=false:=by simp [e4]
  have N4:Hid (¬a4=b4):=e4
  clear e4
  go_enter Tryz.func67,Tryz.ntmps67
  go_wp2_with fail
  go_ret
  refine ⟨?_,g2 _ _ _⟩
  have:¬a=b:=fun h=>N4.out (HE.out.1 h).2.2.2.2.1
  simp [this]
 subst e4
 go_enter Tryz.func67,Tryz.ntmps67
 go_wp2_with (go_at_call 94;refine (HS.out _ _).mono ?_;rintro e w1 ⟨rfl,hg1⟩)
 go_ret
 refine ⟨?_,grown_trans (g2 _ _ _) hg1⟩
 refine congrArg (fun x=>Ending.returned (Value.bool x)) ?_
 rw [<-HO.out]
 by_cases h:a.ops=b.ops
 ·have:a=b:=HE.out.2 (by simp [h])
  simp [this]
 ·have:¬a=b:=fun e=>h (HE.out.1 e).2.2.2.2.2
  simp [this,h]
theorem al3 (w:World)(A B D:Array Value)(s t u:Nat):∃W,((w.alloc (.cells A s)).alloc (.cells B t)).alloc (.cells D u)=W/\Hid (Blk W w.heap.size s A/\Blk W (w.heap.size+1) t B/\Blk W (w.heap.size+1+1) u D/\w.grownBy W none/\W.heap.size=w.heap.size+3):=by
 refine ⟨_,rfl,?_,?_,?_,?_,by simp⟩
 ·exact Blk.grown (Blk.grown (heap_alloc_new _ _) (World.grownBy_alloc _ _ none) (by simp)) (World.grownBy_alloc _ _ none) (by simp)
 ·have:=Blk.grown (t:=t) (c:=B) (heap_alloc_new (w.alloc (.cells A s)) (.cells B t)) (World.grownBy_alloc _ (.cells D u) none) (by simp)
  simpa using this
 ·have:=heap_alloc_new ((w.alloc (.cells A s)).alloc (.cells B t)) (.cells D u)
  rw [show ((w.alloc (.cells A s)).alloc (.cells B t)).heap.size=w.heap.size+1+1 by simp] at this
  exact this
 ·exact grown_trans (g2 _ _ _) (World.grownBy_alloc _ _ none)
theorem set6 {x:World}{b:Nat}{c0 c1 c2 c3 c4 c5:Value}(h:Blk x b 39 #[c0,c1,c2,c3,c4,c5])(v0 v1 v2 v3 v4 v5:Value):∃W,(((((x.setCell ⟨b,0,none⟩ v0).setCell ⟨b,1,none⟩ v1).setCell ⟨b,2,none⟩ v2).setCell ⟨b,3,none⟩ v3).setCell ⟨b,4,none⟩ v4).setCell ⟨b,5,none⟩ v5=W/\Hid (Blk W b 39 #[v0,v1,v2,v3,v4,v5]/\x.grownBy W (some b)) :=
 ⟨_,rfl,(((((h.store 0 v0).store 1 v1).store 2 v2).store 3 v3).store 4 v4).store 5 v5,grown_trans (grown_trans (grown_trans (grown_trans (grown_trans (grown_setCell _ _ _ _) (grown_setCell _ _ _ _)) (grown_setCell _ _ _ _)) (grown_setCell _ _ _ _)) (grown_setCell _ _ _ _)) (grown_setCell _ _ _ _)⟩
theorem al1 (w:World)(c:Array Value)(t:Nat):∃w1,w.alloc (.cells c t)=w1/\Hid (Blk w1 w.heap.size t c/\w.grownBy w1 none/\w1.heap.size=w.heap.size+1) :=
 ⟨_,rfl,heap_alloc_new _ _,World.grownBy_alloc _ _ _,by simp⟩
theorem ops_nil (w:World):Ops w (.slice none 0 0) []:=⟨none,0,rfl,by simp,fun j hj=>absurd hj (by simp)⟩
end Go.Proofs.YtanoabliahcbeaaGreat.Command
